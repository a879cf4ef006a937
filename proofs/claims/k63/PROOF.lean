import PyProof.Rows.All
import Wide.All
import OpenK.AllK
import Wide.FinOn
import HandS.ForMost
import HandS.ForExc
import HandS.IsInst
import HandS.TupAny
import HandS.Deep
import HandS.DeepEq
import HandS.Zip
import HandS.Conv
import HandS.Style
import HandS.TupMul
import HandS.Wide
import HandS.StrMore
import HandS.Replace
import HandS.SetKeys
import HandS.Walk
import HandS.Small
import KE.GoesEnum
import HandS.More
import HandS.SetFor
import HandS.Strs
import HandS.DictComp
import HandS.Rev
import HandS.Defaults
import HandS.List
import HandS.Gcd
import HandS.TupSets
import HandS.ReplaceLit
import PyProof.Rows.TupDisplay
import KE.KDictZip
import PySem.Challenge.RW_threescribes_k63_class_pairs_and_steps
set_option Elab.async false
set_option linter.all false
set_option maxRecDepth 100000
/-! The layer of data: Python's values as trees, the store of what may change, and what a text does to them as a function. -/
namespace TS
open PySem PySem.Spec PyProof.Rows L2

/-- a value as data: what never changes as a tree; what may change by its number in the store -/
inductive D where
  | non | bl (b : Bool) | int (i : Int) | str (x : Str) | tup (xs : List D) | ref (i : Nat) | fl (xs : List D) | ty (n : String)
/-- what may change -/
inductive MO where
  | lst (xs : List D)
  | dK (kvs : List (Key × D))
  | dT (kvs : List (List Key × D))
  /-- an instance of the class at C, its attributes -/
  | ins (C : Addr) (fs : List (Str × D))
abbrev Store := List MO
abbrev M (α : Type) := Store → Option (α × Store)
def ret {α : Type} (a : α) : M α := fun S => some (a, S)
def bnd {α β : Type} (x : M α) (f : α → M β) : M β := fun S => match x S with
  | some (a, S') => f a S'
  | none => none
def fail {α : Type} : M α := fun _ => none
theorem bnd_some {α β : Type} {x : M α} {f : α → M β} {S : Store} {r : β × Store} (h : bnd x f S = some r) : ∃ a S1, x S = some (a, S1) ∧ f a S1 = some r := by
  unfold bnd at h
  cases e : x S with
  | none => rw [e] at h; cases h
  | some p => rw [e] at h; exact ⟨p.1, p.2, rfl, h⟩
theorem bnd_eq {α β : Type} {x : M α} {f : α → M β} {S S1 : Store} {a : α} (h : x S = some (a, S1)) : bnd x f S = f a S1 := by
  unfold bnd; rw [h]

section
variable (K : PySem.W.Frag)
/-- a list that is locked: the script, a constant of the module -/
def FzL (H : Hp) (a : Addr) (vs : List V) : Prop :=
  (∃ o, H a = some (.frz o (.lst vs))) ∨ ∃ (o : Obj) (its : Array Value) (n : Nat), K.lookup a = some o ∧ o.cls = .type "list" ∧ o.dict = none ∧ o.data = .seq its n ∧ its.size ≤ sizeLine ∧ Vals vs its.toList
/-- some integers, and nothing else -/
def intsQ : List D → Bool
  | [] => false
  | [.int _] => true
  | .int _ :: r => intsQ r
  | _ => false
mutual
inductive Rep (m : List Addr) (H : Hp) : D → V → Prop
  | non : Rep m H .non .non
  | bl (b : Bool) : Rep m H (.bl b) (.bl b)
  | int (i : Int) : Rep m H (.int i) (.int i)
  | str (x : Str) : Rep m H (.str x) (.str x)
  | ty (n : String) : Rep m H (.ty n) (.ty n)
  | tup {a : Addr} {vs : List V} {ds : List D} : SqT K H a vs → Reps m H ds vs → (intsQ ds = true → H a = some (.tup vs)) → Rep m H (.tup ds) (.ref a)
  | fl {a : Addr} {vs : List V} {ds : List D} : FzL K H a vs → Reps m H ds vs → Rep m H (.fl ds) (.ref a)
  | ref {i : Nat} {a : Addr} : m[i]? = some a → Rep m H (.ref i) (.ref a)
inductive Reps (m : List Addr) (H : Hp) : List D → List V → Prop
  | nil : Reps m H [] []
  | cons {d : D} {v : V} {ds : List D} {vs : List V} : Rep m H d v → Reps m H ds vs → Reps m H (d :: ds) (v :: vs)
end
inductive RepO (m : List Addr) (H : Hp) : MO → HO → Prop
  | lst {ds : List D} {vs : List V} : Reps K m H ds vs → RepO m H (.lst ds) (.lst vs)
  | dK {kvs : List (Key × D)} {us : List (Key × V)} : us.map (·.1) = kvs.map (·.1) → Reps K m H (kvs.map (·.2)) (us.map (·.2)) → RepO m H (.dK kvs) (.dK us)
  | dT {kvs : List (List Key × D)} {us : List (List Key × V)} : us.map (·.1) = kvs.map (·.1) → Reps K m H (kvs.map (·.2)) (us.map (·.2)) → RepO m H (.dT kvs) (.dT us)
  | ins {C dx : Addr} {fs : List (Str × D)} {us : List (Str × V)} : us.map (·.1) = fs.map (·.1) → Reps K m H (fs.map (·.2)) (us.map (·.2)) → RepO m H (.ins C fs) (.ins C dx us)
structure Rel (m : List Addr) (S : Store) (H : Hp) : Prop where
  len : m.length = S.length
  nd : m.Nodup
  ob : ∀ (i : Nat) (a : Addr) (o : MO), m[i]? = some a → S[i]? = some o → ∃ u, H a = some u ∧ RepO K m H o u
end
structure Ext (m : List Addr) (H : Hp) (m' : List Addr) (H' : Hp) : Prop where
  pre : ∃ l, m' = m ++ l
  new : ∀ a, a ∈ m' → a ∉ m → H a = none
  keep : ∀ a o, H a = some o → a ∉ m → H' a = some o

section
variable {K : PySem.W.Frag} {m m' m2 : List Addr} {S S' S2 : Store} {H H' H2 : Hp} {d : D} {v : V} {ds : List D} {vs : List V} {a : Addr}
theorem Ext.refl : Ext m H m H := ⟨⟨[], (List.append_nil m).symm⟩, fun a h n => absurd h n, fun _ _ h _ => h⟩
theorem Ext.at (e : Ext m H m' H') {i : Nat} (h : m[i]? = some a) : m'[i]? = some a := by
  obtain ⟨l, rfl⟩ := e.pre
  rw [List.getElem?_append_left (List.getElem?_eq_some_iff.mp h).1]
  exact h
theorem Ext.trans (e : Ext m H m' H') (f : Ext m' H' m2 H2) : Ext m H m2 H2 where
  pre := by
    obtain ⟨l, rfl⟩ := e.pre
    obtain ⟨l2, rfl⟩ := f.pre
    exact ⟨l ++ l2, List.append_assoc _ _ _⟩
  new := fun b hb hn => by
    by_cases h1 : b ∈ m'
    · exact e.new b h1 hn
    · cases q : H b with
      | none => rfl
      | some o =>
        have := f.new b hb h1
        rw [e.keep b o q hn] at this
        cases this
  keep := fun b o q hn => by
    by_cases h1 : b ∈ m'
    · have := e.new b h1 hn
      rw [q] at this
      cases this
    · exact f.keep b o (e.keep b o q hn) h1
theorem Rel.mem (r : Rel K m S H) (h : a ∈ m) : ∃ u, H a = some u ∧ (∃ (i : Nat) (o : MO), m[i]? = some a ∧ S[i]? = some o ∧ RepO K m H o u) := by
  obtain ⟨i, hi, e⟩ := List.getElem_of_mem h
  have h1 : m[i]? = some a := List.getElem?_eq_some_iff.mpr ⟨hi, e⟩
  have h2 : i < S.length := r.len ▸ hi
  obtain ⟨u, hu, ho⟩ := r.ob i a S[i] h1 (List.getElem?_eq_getElem h2)
  exact ⟨u, hu, i, S[i], h1, List.getElem?_eq_getElem h2, ho⟩
theorem Rel.not_tup (r : Rel K m S H) {xs : List V} (h : H a = some (.tup xs)) : a ∉ m := fun hm => by
  obtain ⟨u, hu, i, o, _, _, ho⟩ := r.mem hm
  rw [h] at hu
  cases hu
  cases ho
theorem Rel.not_frz (r : Rel K m S H) {o : Obj} {u : HO} (h : H a = some (.frz o u)) : a ∉ m := fun hm => by
  obtain ⟨u, hu, i, o, _, _, ho⟩ := r.mem hm
  rw [h] at hu
  cases hu
  cases ho
theorem Rel.sqT (r : Rel K m S H) (e : Ext m H m' H') (h : SqT K H a vs) : SqT K H' a vs := by
  rcases h with (h | ⟨o, h⟩) | h
  · exact .inl (.inl (e.keep _ _ h (r.not_tup h)))
  · exact .inl (.inr ⟨o, e.keep _ _ h (r.not_frz h)⟩)
  · exact .inr h
theorem Rel.fzL (r : Rel K m S H) (e : Ext m H m' H') (h : FzL K H a vs) : FzL K H' a vs := by
  rcases h with ⟨o, h⟩ | h
  · exact .inl ⟨o, e.keep _ _ h (r.not_frz h)⟩
  · exact .inr h
mutual
theorem Rep.mono (r : Rel K m S H) (e : Ext m H m' H') : ∀ {d : D} {v : V}, Rep K m H d v → Rep K m' H' d v
  | _, _, .non => .non
  | _, _, .bl b => .bl b
  | _, _, .int i => .int i
  | _, _, .str x => .str x
  | _, _, .ty n => .ty n
  | _, _, .tup h hs ht => .tup (r.sqT e h) (Reps.mono r e hs) fun q => e.keep _ _ (ht q) (r.not_tup (ht q))
  | _, _, .fl h hs => .fl (r.fzL e h) (Reps.mono r e hs)
  | _, _, .ref h => .ref (e.at h)
theorem Reps.mono (r : Rel K m S H) (e : Ext m H m' H') : ∀ {ds : List D} {vs : List V}, Reps K m H ds vs → Reps K m' H' ds vs
  | _, _, .nil => .nil
  | _, _, .cons h hs => .cons (Rep.mono r e h) (Reps.mono r e hs)
end
theorem RepO.mono (r : Rel K m S H) (e : Ext m H m' H') {o : MO} {u : HO} (h : RepO K m H o u) : RepO K m' H' o u := by
  cases h with
  | lst h => exact .lst (h.mono r e)
  | dK h1 h2 => exact .dK h1 (h2.mono r e)
  | dT h1 h2 => exact .dT h1 (h2.mono r e)
  | ins h1 h2 => exact .ins h1 (h2.mono r e)
/-- a step that leaves the store as it is, with fresh objects only -/
theorem Rel.keep (r : Rel K m S H) (k : ∀ a o, H a = some o → H' a = some o) : Rel K m S H' ∧ Ext m H m H' := by
  have e : Ext m H m H' := ⟨⟨[], (List.append_nil m).symm⟩, fun a h n => absurd h n, fun a o h _ => k a o h⟩
  refine ⟨⟨r.len, r.nd, fun i a o h1 h2 => ?_⟩, e⟩
  obtain ⟨u, hu, ho⟩ := r.ob i a o h1 h2
  exact ⟨u, k a u hu, ho.mono r e⟩
theorem keep_upd {p : Addr} {o : HO} (h : H p = none) : ∀ a u, H a = some u → upd H p o a = some u := fun a u q => by
  rw [upd_ne (ne_of_none q h)]
  exact q
/-- a new tuple -/
theorem Rel.tup (r : Rel K m S H) {p : Addr} (h : H p = none) (hs : Reps K m H ds vs) : Rel K m S (upd H p (.tup vs)) ∧ Ext m H m (upd H p (.tup vs)) ∧ Rep K m (upd H p (.tup vs)) (.tup ds) (.ref p) := by
  obtain ⟨r1, e1⟩ := r.keep (keep_upd (o := .tup vs) h)
  exact ⟨r1, e1, .tup (.inl (.inl upd_same)) (hs.mono r e1) fun _ => upd_same⟩
/-- a new object of the store -/
theorem Rel.new (r : Rel K m S H) {p : Addr} {o : MO} {u : HO} (h : H p = none) (ho : RepO K m H o u) :
    Rel K (m ++ [p]) (S ++ [o]) (upd H p u) ∧ Ext m H (m ++ [p]) (upd H p u) ∧ Rep K (m ++ [p]) (upd H p u) (.ref S.length) (.ref p) := by
  have hp : p ∉ m := fun hm => by
    obtain ⟨u, hu, _⟩ := r.mem hm
    rw [h] at hu
    cases hu
  have e : Ext m H (m ++ [p]) (upd H p u) := ⟨⟨[p], rfl⟩, fun b hb hn => by
    rcases List.mem_append.mp hb with q | q
    · exact absurd q hn
    · rw [List.mem_singleton.mp q]
      exact h, fun b w q _ => keep_upd h b w q⟩
  refine ⟨⟨by simp [r.len], ?_, fun i b w h1 h2 => ?_⟩, e, .ref ?_⟩
  · exact List.nodup_append.mpr ⟨r.nd, List.nodup_cons.mpr ⟨List.not_mem_nil, List.nodup_nil⟩, fun b hb c hc => fun z => hp (by
      rw [List.mem_singleton.mp hc] at z
      rw [← z]
      exact hb)⟩
  · by_cases hi : i < m.length
    · rw [List.getElem?_append_left hi] at h1
      rw [List.getElem?_append_left (r.len ▸ hi)] at h2
      obtain ⟨u2, hu, ho2⟩ := r.ob i b w h1 h2
      exact ⟨u2, keep_upd h b u2 hu, ho2.mono r e⟩
    · have hl : i < (m ++ [p]).length := (List.getElem?_eq_some_iff.mp h1).1
      rw [List.length_append, List.length_singleton] at hl
      have hi2 : i = m.length := by omega
      subst hi2
      rw [List.getElem?_append_right (Nat.le_refl _), Nat.sub_self] at h1
      rw [r.len, List.getElem?_append_right (Nat.le_refl _), Nat.sub_self] at h2
      cases h1
      cases h2
      exact ⟨u, upd_same, ho.mono r e⟩
  · rw [← r.len, List.getElem?_append_right (Nat.le_refl _), Nat.sub_self]
    rfl
theorem nodup_get {α : Type} {l : List α} (h : l.Nodup) {i j : Nat} (hi : i < l.length) (hj : j < l.length) (e : l[i] = l[j]) : i = j := by
  have p := List.pairwise_iff_getElem.mp h
  rcases Nat.lt_trichotomy i j with q | q | q
  · exact absurd e (p i j hi hj q)
  · exact q
  · exact absurd e.symm (p j i hj hi q)
/-- an object of the store is changed -/
theorem Rel.set (r : Rel K m S H) {i : Nat} {p : Addr} {o : MO} {u : HO} (h : m[i]? = some p) (ho : RepO K m H o u) :
    Rel K m (S.set i o) (upd H p u) ∧ Ext m H m (upd H p u) := by
  have hm : p ∈ m := List.mem_of_getElem? h
  have e : Ext m H m (upd H p u) := ⟨⟨[], (List.append_nil m).symm⟩, fun a q n => absurd q n, fun b w q n => by
    rw [upd_ne (fun z => n (by rw [z]; exact hm))]
    exact q⟩
  refine ⟨⟨by rw [List.length_set]; exact r.len, r.nd, fun j b w h1 h2 => ?_⟩, e⟩
  by_cases hj : j = i
  · subst hj
    rw [h] at h1
    cases h1
    have hl : j < S.length := r.len ▸ (List.getElem?_eq_some_iff.mp h).1
    rw [List.getElem?_set_self hl] at h2
    cases h2
    exact ⟨u, upd_same, ho.mono r e⟩
  · rw [List.getElem?_set_ne (fun z => hj z.symm)] at h2
    obtain ⟨u2, hu, ho2⟩ := r.ob j b w h1 h2
    have hne : b ≠ p := fun z => by
      subst z
      have l1 := (List.getElem?_eq_some_iff.mp h1)
      have l2 := (List.getElem?_eq_some_iff.mp h)
      obtain ⟨l1, q1⟩ := l1
      obtain ⟨l2, q2⟩ := l2
      exact hj (nodup_get r.nd l1 l2 (q1.trans q2.symm))
    exact ⟨u2, by rw [upd_ne hne]; exact hu, ho2.mono r e⟩
theorem Rel.at (r : Rel K m S H) {i : Nat} {o : MO} (h : S[i]? = some o) : ∃ a u, m[i]? = some a ∧ H a = some u ∧ RepO K m H o u := by
  have hi : i < m.length := r.len ▸ (List.getElem?_eq_some_iff.mp h).1
  obtain ⟨u, hu, ho⟩ := r.ob i m[i] o (List.getElem?_eq_getElem hi) h
  exact ⟨m[i], u, List.getElem?_eq_getElem hi, hu, ho⟩
theorem Reps.length : ∀ {ds : List D} {vs : List V}, Reps K m H ds vs → ds.length = vs.length
  | _, _, .nil => rfl
  | _, _, .cons _ hs => by rw [List.length_cons, List.length_cons, Reps.length hs]
theorem Reps.get : ∀ {ds : List D} {vs : List V} {i : Nat} {d : D}, Reps K m H ds vs → ds[i]? = some d → ∃ v, vs[i]? = some v ∧ Rep K m H d v
  | _, _, _, _, .nil, e => by simp at e
  | _, _, 0, _, .cons h _, e => by
    rw [List.getElem?_cons_zero] at e
    cases e
    exact ⟨_, rfl, h⟩
  | _, _, i + 1, _, .cons _ hs, e => by
    rw [List.getElem?_cons_succ] at e ⊢
    exact Reps.get hs e
theorem Reps.append : ∀ {ds es : List D} {vs us : List V}, Reps K m H ds vs → Reps K m H es us → Reps K m H (ds ++ es) (vs ++ us)
  | _, _, _, _, .nil, s => s
  | _, _, _, _, .cons h hs, s => .cons h (Reps.append hs s)
theorem Reps.take : ∀ {ds : List D} {vs : List V} (n : Nat), Reps K m H ds vs → Reps K m H (ds.take n) (vs.take n)
  | _, _, 0, _ => .nil
  | _, _, _ + 1, .nil => .nil
  | _, _, n + 1, .cons h hs => .cons h (Reps.take n hs)
theorem Reps.drop : ∀ {ds : List D} {vs : List V} (n : Nat), Reps K m H ds vs → Reps K m H (ds.drop n) (vs.drop n)
  | _, _, 0, r => r
  | _, _, _ + 1, .nil => .nil
  | _, _, n + 1, .cons _ hs => Reps.drop n hs
theorem Reps.set {d : D} {v : V} (h0 : Rep K m H d v) : ∀ {ds : List D} {vs : List V} (i : Nat), Reps K m H ds vs → Reps K m H (ds.set i d) (vs.set i v)
  | _, _, _, .nil => .nil
  | _, _, 0, .cons _ t => .cons h0 t
  | _, _, i + 1, .cons q t => .cons q (Reps.set h0 i t)
theorem Reps.snoc (h : Reps K m H ds vs) (h1 : Rep K m H d v) : Reps K m H (ds ++ [d]) (vs ++ [v]) := h.append (.cons h1 .nil)
end
end TS
set_option Elab.async false
set_option linter.all false
set_option maxRecDepth 100000
namespace TS
open PySem PySem.Spec PyProof.Rows L2

abbrev SEnv := List (Option D)
structure RelE (K : PySem.W.Frag) (m : List Addr) (H : Hp) (env : SEnv) (σ : L2.St) : Prop where
  len : env.length = σ.length
  get : ∀ (i : Nat) (d : D), env[i]? = some (some d) → ∃ v, σ[i]? = some (some v) ∧ Rep K m H d v
abbrev Out (K : PySem.W.Frag) (m : List Addr) (H : Hp) (S' : Store) (d : D) (Q : VK) : Prop := ∀ m' H' v, Rel K m' S' H' → Ext m H m' H' → Rep K m' H' d v → Q v H'
abbrev OutB (K : PySem.W.Frag) (m : List Addr) (H : Hp) (S' : Store) (Q : Hp → Prop) : Prop := ∀ m' H', Rel K m' S' H' → Ext m H m' H' → Q H'
abbrev OutA (K : PySem.W.Frag) (m : List Addr) (H : Hp) (S' : Store) (ds : List D) (Q : List V → Hp → Prop) : Prop := ∀ m' H' vs, Rel K m' S' H' → Ext m H m' H' → Reps K m' H' ds vs → Q vs H'

def SE (K : PySem.W.Frag) (t : TE) (f : SEnv → M D) : Prop := ∀ ⦃m : List Addr⦄ ⦃S : Store⦄ ⦃H : Hp⦄ ⦃env : SEnv⦄ ⦃σ : L2.St⦄, Rel K m S H → RelE K m H env σ → ∀ d S', f env S = some (d, S') → ∀ Q : VK, Out K m H S' d Q → t σ H Q
def ST (K : PySem.W.Frag) (t : TT) (f : SEnv → M Bool) : Prop := ∀ ⦃m : List Addr⦄ ⦃S : Store⦄ ⦃H : Hp⦄ ⦃env : SEnv⦄ ⦃σ : L2.St⦄, Rel K m S H → RelE K m H env σ → ∀ b S', f env S = some (b, S') → ∀ Q : Bool → Hp → Prop, OutB K m H S' (Q b) → t σ H Q
def SA (K : PySem.W.Frag) (t : TA) (f : SEnv → M (List D)) : Prop := ∀ ⦃m : List Addr⦄ ⦃S : Store⦄ ⦃H : Hp⦄ ⦃env : SEnv⦄ ⦃σ : L2.St⦄, Rel K m S H → RelE K m H env σ → ∀ ds S', f env S = some (ds, S') → ∀ Q : List V → Hp → Prop, OutA K m H S' ds Q → t σ H Q
/-- operations on values -/
def SR2 (K : PySem.W.Frag) (r : R2) (g : D → D → M D) : Prop := ∀ ⦃m : List Addr⦄ ⦃S : Store⦄ ⦃H : Hp⦄ ⦃x y : V⦄ ⦃a b : D⦄, Rel K m S H → Rep K m H a x → Rep K m H b y → ∀ d S', g a b S = some (d, S') → ∀ Q : VK, Out K m H S' d Q → r x y H Q
def SR1 (K : PySem.W.Frag) (r : V → Hp → VK → Prop) (g : D → M D) : Prop := ∀ ⦃m : List Addr⦄ ⦃S : Store⦄ ⦃H : Hp⦄ ⦃x : V⦄ ⦃a : D⦄, Rel K m S H → Rep K m H a x → ∀ d S', g a S = some (d, S') → ∀ Q : VK, Out K m H S' d Q → r x H Q
def SRn (K : PySem.W.Frag) (r : List V → Hp → VK → Prop) (g : List D → M D) : Prop := ∀ ⦃m : List Addr⦄ ⦃S : Store⦄ ⦃H : Hp⦄ ⦃xs : List V⦄ ⦃as : List D⦄, Rel K m S H → Reps K m H as xs → ∀ d S', g as S = some (d, S') → ∀ Q : VK, Out K m H S' d Q → r xs H Q
structure DE (X : Cx) (e : Expr) (t : TE) (f : SEnv → M D) : Prop where
  pe : PE X e t
  se : SE X.K t f
structure DT (X : Cx) (e : Expr) (t : TT) (f : SEnv → M Bool) : Prop where
  pt : PT X e t
  st : ST X.K t f
structure DW (X : Cx) (e : Expr) (t : TT) (f : SEnv → M Bool) : Prop where
  pw : PW X e t
  st : ST X.K t f
structure DA (X : Cx) (es : List Expr) (t : TA) (f : SEnv → M (List D)) : Prop where
  pa : PA X es t
  sa : SA X.K t f

section
variable {X : Cx} {K : PySem.W.Frag} {m m' m2 : List Addr} {S S' S2 : Store} {H H' H2 : Hp} {env : SEnv} {σ : L2.St}
theorem RelE.mono (r : Rel K m S H) (e : Ext m H m' H') (h : RelE K m H env σ) : RelE K m' H' env σ := ⟨h.len, fun i d q => by
  obtain ⟨v, h1, h2⟩ := h.get i d q
  exact ⟨v, h1, h2.mono r e⟩⟩
theorem RelE.set {i : Nat} {d : D} {v : V} (h : RelE K m H env σ) (r : Rep K m H d v) : RelE K m H (env.set i (some d)) (σ.set i (some v)) := ⟨by rw [List.length_set, List.length_set]; exact h.len, fun j e q => by
  by_cases hj : i = j
  · subst hj
    by_cases hl : i < env.length
    · rw [List.getElem?_set_self hl] at q
      cases q
      exact ⟨v, List.getElem?_set_self (h.len ▸ hl), r⟩
    · rw [List.getElem?_eq_none (by rw [List.length_set]; omega)] at q
      cases q
  · rw [List.getElem?_set_ne hj] at q ⊢
    exact h.get j e q⟩

/-! ### names, constants -/
def eVar (i : Nat) : SEnv → M D := fun env S => match env[i]? with
  | some (some d) => some (d, S)
  | _ => none
theorem se_var {i : Nat} : SE K (tVar i) (eVar i) := fun m S H env σ r re d S' h Q q => by
  unfold eVar at h
  cases e : env[i]? with
  | none => rw [e] at h; cases h
  | some o =>
    cases o with
    | none => rw [e] at h; cases h
    | some d' =>
      rw [e] at h
      cases h
      obtain ⟨v, h1, h2⟩ := re.get i _ e
      exact ⟨v, h1, q m H v r .refl h2⟩
def eC (d : D) : SEnv → M D := fun _ => ret d
theorem se_c {v : V} {d : D} (h : ∀ m H, Rep K m H d v) : SE K (tC v) (eC d) := fun m S H env σ r re d' S' h' Q q => by
  cases h'
  exact q m H v r .refl (h m H)
theorem de_int {i j pos} : DE X (.Constant (.int i) j pos) (tC (.int i)) (eC (.int i)) := ⟨pe_int, se_c fun _ _ => .int i⟩
theorem de_bl {b j pos} : DE X (.Constant (.bool b) j pos) (tC (.bl b)) (eC (.bl b)) := ⟨pe_bl, se_c fun _ _ => .bl b⟩
theorem de_non {j pos} : DE X (.Constant .none j pos) (tC .non) (eC .non) := ⟨pe_non, se_c fun _ _ => .non⟩
theorem de_str {x j pos} : DE X (.Constant (.str x) j pos) (tC (.str x)) (eC (.str x)) := ⟨pe_str, se_c fun _ _ => .str x⟩
theorem de_var (i : Nat) {x : Str} {pos : Pos} (hN : X.N[i]? = some x := by rfl) (hv : Vis X.env.scope x := by first | exact Or.inl rfl | exact Or.inr (Or.inl rfl) | exact Or.inr (Or.inr rfl)) (hd : (x == ("__debug__" : Str)) = false := by decide)
    (hcd : (x == ("__classdict__" : Str)) = false := by decide) : DE X (.Name x pos) (tVar i) (eVar i) := ⟨pe_var hN hv hd hcd, se_var⟩
/-- a constant of the module -/
theorem de_glob {x : Str} {v : V} {d : D} {u : Value} {pos : Pos} (hg : Gl X x) (hm : X.mg x = some u) (r : RelV v u) (hr : ∀ m H, Rep X.K m H d v) (hd : (x == ("__debug__" : Str)) = false := by decide) : DE X (.Name x pos) (tC v) (eC d) :=
  ⟨pe_glob hg hm r hd, se_c hr⟩
theorem de_ty {x : Str} {n : String} {pos : Pos} (hg : Gl X x) (hm : X.mg x = none) (hv : bootBuiltins x = some (.type n)) (hn : x ≠ "__name__" := by decide) (hd : (x == ("__debug__" : Str)) = false := by decide) : DE X (.Name x pos) (tC (.ty n)) (eC (.ty n)) :=
  ⟨pe_bltn (v := .ty n) hg hm hv rfl hn hd, se_c fun _ _ => .ty n⟩

/-! ### operations -/
def eOp (g : D → D → M D) (fa fb : SEnv → M D) : SEnv → M D := fun env => bnd (fa env) fun a => bnd (fb env) fun b => g a b
def eUn (g : D → M D) (fa : SEnv → M D) : SEnv → M D := fun env => bnd (fa env) g
theorem se_op {r : R2} {g : D → D → M D} {ta tb : TE} {fa fb : SEnv → M D} (hr : SR2 K r g) (ha : SE K ta fa) (hb : SE K tb fb) : SE K (tOp r ta tb) (eOp g fa fb) := fun m S H env σ rl re d S' h Q q => by
  obtain ⟨a, S1, h1, h⟩ := bnd_some h
  obtain ⟨b, S2, h2, h⟩ := bnd_some h
  refine ha rl re a S1 h1 _ fun m1 H1 x rl1 e1 ra => ?_
  refine hb rl1 (re.mono rl e1) b S2 h2 _ fun m2 H2 y rl2 e2 rb => ?_
  exact hr rl2 (ra.mono rl1 e2) rb d S' h Q fun m3 H3 v rl3 e3 rv => q m3 H3 v rl3 ((e1.trans e2).trans e3) rv
theorem se_un {r : V → Hp → VK → Prop} {g : D → M D} {ta : TE} {fa : SEnv → M D} (hr : SR1 K r g) (ha : SE K ta fa) : SE K (tUn r ta) (eUn g fa) := fun m S H env σ rl re d S' h Q q => by
  obtain ⟨a, S1, h1, h⟩ := bnd_some h
  refine ha rl re a S1 h1 _ fun m1 H1 x rl1 e1 ra => ?_
  exact hr rl1 ra d S' h Q fun m3 H3 v rl3 e3 rv => q m3 H3 v rl3 (e1.trans e3) rv
structure DO2 (X : Cx) (f : Value → Value → Sem Value) (r : R2) (g : D → D → M D) : Prop where
  op : OpR X f r
  sr : SR2 X.K r g
structure DO1 (X : Cx) (f : Value → Sem Value) (r : V → Hp → VK → Prop) (g : D → M D) : Prop where
  op : UnR X f r
  sr : SR1 X.K r g
theorem de_op {op : Operator} {a b : Expr} {pos : Pos} {g : D → D → M D} {fa fb : SEnv → M D} (ho : DO2 X (binaryOp op) r g) (ha : DE X a ta fa) (hb : DE X b tb fb) : DE X (.BinOp a op b pos) (tOp r ta tb) (eOp g fa fb) := by
  obtain ⟨h1, h2⟩ := ho
  obtain ⟨h3, h4⟩ := ha
  obtain ⟨h5, h6⟩ := hb
  exact ⟨pe_op h1 h3 h5, se_op h2 h4 h6⟩
theorem de_un {op : UnaryOp} {a : Expr} {pos : Pos} {g : D → M D} {fa : SEnv → M D} (ho : DO1 X (unaryOp op) r g) (ha : DE X a ta fa) : DE X (.UnaryOp op a pos) (tUn r ta) (eUn g fa) := by
  obtain ⟨h1, h2⟩ := ho
  obtain ⟨h3, h4⟩ := ha
  exact ⟨pe_un h1 h3, se_un h2 h4⟩
theorem de_cmp {op : CmpOp} {a b : Expr} {pos : Pos} {g : D → D → M D} {fa fb : SEnv → M D} (ho : DO2 X (compareOp op) r g) (ha : DE X a ta fa) (hb : DE X b tb fb) (hm : behindInMarks op b = false := by first | exact nobehind _ (by decide) (by decide) | rfl) : DE X (.Compare a [op] [b] pos) (tOp r ta tb) (eOp g fa fb) := by
  obtain ⟨h1, h2⟩ := ho
  obtain ⟨h3, h4⟩ := ha
  obtain ⟨h5, h6⟩ := hb
  exact ⟨pe_cmpR h1 h3 h5 hm, se_op h2 h4 h6⟩
/-- a value that is a bool, as a test -/
def asB (f : SEnv → M D) : SEnv → M Bool := fun env => bnd (f env) fun d => match d with
  | .bl b => ret b
  | _ => fail
theorem st_B {t : TE} {f : SEnv → M D} (h : SE K t f) : ST K (tB t) (asB f) := fun m S H env σ rl re b S' hb Q q => by
  obtain ⟨d, S1, h1, h2⟩ := bnd_some hb
  refine h rl re d S1 h1 _ fun m1 H1 v rl1 e1 rv => ?_
  cases d with
  | bl b' =>
    cases rv
    cases h2
    exact ⟨b, rfl, q m1 H1 rl1 e1⟩
  | _ => cases h2
theorem dt_cmp {op : CmpOp} {a b : Expr} {pos : Pos} {g : D → D → M D} {fa fb : SEnv → M D} (ho : DO2 X (compareOp op) r g) (ha : DE X a ta fa) (hb : DE X b tb fb) (hm : behindInMarks op b = false := by first | exact nobehind _ (by decide) (by decide) | rfl) : DT X (.Compare a [op] [b] pos) (tTest (tOp r ta tb)) (asB (eOp g fa fb)) := by
  obtain ⟨h1, h2⟩ := ho
  obtain ⟨h3, h4⟩ := ha
  obtain ⟨h5, h6⟩ := hb
  exact ⟨pt_cmpR h1 h3 h5 hm, st_B (se_op h2 h4 h6)⟩
/-- truth of a value -/
def tru (d : D) : M Bool := fun S => match d with
  | .non => some (false, S)
  | .bl b => some (b, S)
  | .int i => some (i != 0, S)
  | .str y => if y.length ≤ sizeLine then some ((y.length : Int) != 0, S) else none
  | .tup xs => some (!xs.isEmpty, S)
  | .fl xs => some (!xs.isEmpty, S)
  | .ref i => match S[i]? with
    | some (.lst xs) => some (!xs.isEmpty, S)
    | some (.dK kvs) => some (!kvs.isEmpty, S)
    | _ => none
  | .ty _ => none
theorem FzL.sq {a : Addr} {vs : List V} (h : FzL K H a vs) : SqL K H a vs := by
  rcases h with ⟨o, h⟩ | h
  · exact .inl (.inr ⟨o, h⟩)
  · exact .inr h
theorem Reps.isEmpty {ds : List D} {vs : List V} (h : Reps K m H ds vs) : vs.isEmpty = ds.isEmpty := by
  cases h <;> rfl
theorem Rel.sqL (r : Rel K m S H) {i : Nat} {xs : List D} {v : V} (h : S[i]? = some (.lst xs)) (q : Rep K m H (.ref i) v) : ∃ a vs, v = .ref a ∧ m[i]? = some a ∧ H a = some (.lst vs) ∧ Reps K m H xs vs := by
  obtain ⟨a, u, h1, h2, h3⟩ := r.at h
  cases q with
  | ref h4 =>
    rw [h1] at h4
    cases h4
    cases h3 with
    | lst h3 => exact ⟨a, _, rfl, h1, h2, h3⟩
theorem Rel.dK (r : Rel K m S H) {i : Nat} {kvs : List (Key × D)} {v : V} (h : S[i]? = some (.dK kvs)) (q : Rep K m H (.ref i) v) : ∃ a us, v = .ref a ∧ m[i]? = some a ∧ H a = some (.dK us) ∧ us.map (·.1) = kvs.map (·.1) ∧ Reps K m H (kvs.map (·.2)) (us.map (·.2)) := by
  obtain ⟨a, u, h1, h2, h3⟩ := r.at h
  cases q with
  | ref h4 =>
    rw [h1] at h4
    cases h4
    cases h3 with
    | dK h3 h4 => exact ⟨a, _, rfl, h1, h2, h3, h4⟩
theorem tru_sound (r : Rel K m S H) {d : D} {v : V} (q : Rep K m H d v) {b : Bool} (h : tru d S = some (b, S')) : S' = S ∧ TruV K v H b := by
  cases q with
  | non => cases h; exact ⟨rfl, rfl⟩
  | bl b => cases h; exact ⟨rfl, rfl⟩
  | int i => cases h; exact ⟨rfl, rfl⟩
  | str y =>
    unfold tru at h
    by_cases hy : y.length ≤ sizeLine
    · simp only [hy, if_true] at h
      cases h
      exact ⟨rfl, hy, rfl⟩
    · simp only [hy, if_false] at h
      cases h
  | tup h1 h2 => cases h; exact ⟨rfl, .inr (.inl ⟨_, h1, by rw [h2.isEmpty]⟩)⟩
  | fl h1 h2 => cases h; exact ⟨rfl, .inl ⟨_, h1.sq, by rw [h2.isEmpty]⟩⟩
  | ty n => cases h
  | @ref i a hi =>
    unfold tru at h
    simp only at h
    cases e : S[i]? with
    | none => rw [e] at h; cases h
    | some o =>
      rw [e] at h
      cases o with
      | lst xs =>
        cases h
        obtain ⟨a', vs, e1, _, e2, e3⟩ := r.sqL e (.ref hi)
        cases e1
        exact ⟨rfl, .inl ⟨vs, .inl (.inl e2), by rw [e3.isEmpty]⟩⟩
      | dK kvs =>
        cases h
        obtain ⟨a', us, e1, _, e2, e3, e4⟩ := r.dK e (.ref hi)
        cases e1
        refine ⟨rfl, .inr (.inr ⟨us, e2, ?_⟩)⟩
        have := congrArg List.length e3
        rw [List.length_map, List.length_map] at this
        cases us <;> cases kvs <;> first | rfl | (simp at this)
      | dT kvs => cases h
      | ins C fs => cases h
def asT (f : SEnv → M D) : SEnv → M Bool := fun env => bnd (f env) tru
theorem dt_truth {a : Expr} {f : SEnv → M D} (h : DE X a ta f) (he : ∀ whole, isTrue a X.env whole = (do let v ← whole; standAt a.pos; holding [v] (truthy v)) := by intro _; rfl) : DT X a (fun σ H Q => ta σ H fun x H' => ∃ k, TruV X.K x H' k ∧ Q k H') (asT f) := by
  obtain ⟨h1, h2⟩ := h
  refine ⟨pt_truth h1 he, fun m S H env σ rl re b S' hb Q q => ?_⟩
  obtain ⟨d, S1, h3, h4⟩ := bnd_some hb
  refine h2 rl re d S1 h3 _ fun m1 H1 v rl1 e1 rv => ?_
  obtain ⟨rfl, ht⟩ := tru_sound rl1 rv h4
  exact ⟨b, ht, q m1 H1 rl1 e1⟩
/-! ### and, or, not, if -/
def bAnd (f g : SEnv → M Bool) : SEnv → M Bool := fun env => bnd (f env) fun b => if b then g env else ret false
def bOr (f g : SEnv → M Bool) : SEnv → M Bool := fun env => bnd (f env) fun b => if b then ret true else g env
def bNot (f : SEnv → M Bool) : SEnv → M Bool := fun env => bnd (f env) fun b => ret (!b)
def eIf (f : SEnv → M Bool) (g h : SEnv → M D) : SEnv → M D := fun env => bnd (f env) fun b => if b then g env else h env
theorem st_and {t u : TT} {f g : SEnv → M Bool} (h1 : ST K t f) (h2 : ST K u g) : ST K (tAnd t u) (bAnd f g) := fun m S H env σ rl re b S' hb Q q => by
  obtain ⟨c, S1, h3, h4⟩ := bnd_some hb
  refine h1 rl re c S1 h3 _ fun m1 H1 rl1 e1 => ?_
  cases c with
  | true => exact iteT (h2 rl1 (re.mono rl e1) b S' h4 Q fun m2 H2 rl2 e2 => q m2 H2 rl2 (e1.trans e2))
  | false =>
    cases h4
    exact iteF (q m1 H1 rl1 e1)
theorem st_or {t u : TT} {f g : SEnv → M Bool} (h1 : ST K t f) (h2 : ST K u g) : ST K (tOr t u) (bOr f g) := fun m S H env σ rl re b S' hb Q q => by
  obtain ⟨c, S1, h3, h4⟩ := bnd_some hb
  refine h1 rl re c S1 h3 _ fun m1 H1 rl1 e1 => ?_
  cases c with
  | false => exact iteF (h2 rl1 (re.mono rl e1) b S' h4 Q fun m2 H2 rl2 e2 => q m2 H2 rl2 (e1.trans e2))
  | true =>
    cases h4
    exact iteT (q m1 H1 rl1 e1)
theorem st_not {t : TT} {f : SEnv → M Bool} (h1 : ST K t f) : ST K (tNot t) (bNot f) := fun m S H env σ rl re b S' hb Q q => by
  obtain ⟨c, S1, h3, h4⟩ := bnd_some hb
  cases h4
  exact h1 rl re c _ h3 _ fun m1 H1 rl1 e1 => q m1 H1 rl1 e1
section
variable {a b c : Expr} {rest : List Expr} {pos : Pos} {f g h : SEnv → M Bool}
theorem dw_and1 (ha : DT X a t f) : DW X (.BoolOp .And [a] pos) t f := ⟨pw_and1 ha.pt, ha.st⟩
theorem dw_or1 (ha : DT X a t f) : DW X (.BoolOp .Or [a] pos) t f := ⟨pw_or1 ha.pt, ha.st⟩
theorem dw_and (ha : DT X a t f) (hb : DW X (.BoolOp .And (b :: rest) pos) u g) : DW X (.BoolOp .And (a :: b :: rest) pos) (tAnd t u) (bAnd f g) := ⟨pw_and ha.pt hb.pw, st_and ha.st hb.st⟩
theorem dw_or (ha : DT X a t f) (hb : DW X (.BoolOp .Or (b :: rest) pos) u g) : DW X (.BoolOp .Or (a :: b :: rest) pos) (tOr t u) (bOr f g) := ⟨pw_or ha.pt hb.pw, st_or ha.st hb.st⟩
theorem dt_w (ha : DW X a t f) : DT X a t f := ⟨ha.pw.pt, ha.st⟩
theorem dt_not (ha : DT X a t f) : DT X (.UnaryOp .Not a pos) (tNot t) (bNot f) := ⟨pt_not ha.pt, st_not ha.st⟩
/-- values: a bool ahead -/
def eAnd (f g : SEnv → M D) : SEnv → M D := fun env => bnd (asB f env) fun b => if b then g env else ret (.bl false)
def eOr (f g : SEnv → M D) : SEnv → M D := fun env => bnd (asB f env) fun b => if b then ret (.bl true) else g env
def eNot (f : SEnv → M D) : SEnv → M D := fun env => bnd (asB f env) fun b => ret (.bl (!b))
variable {fe ge he : SEnv → M D}
theorem de_one {op} (h : DE X a te fe) : DE X (.BoolOp op [a] pos) te fe := ⟨pe_one h.pe, h.se⟩
theorem de_and {t u : TE} (ha : DE X a t fe) (hb : DE X (.BoolOp .And (b :: rest) pos) u ge) : DE X (.BoolOp .And (a :: b :: rest) pos) (tAndV t u) (eAnd fe ge) := by
  obtain ⟨h1, h2⟩ := ha
  obtain ⟨h3, h4⟩ := hb
  refine ⟨pe_and h1 h3, fun m S H env σ rl re d S' hd Q q => ?_⟩
  obtain ⟨c, S1, h5, h6⟩ := bnd_some hd
  refine st_B h2 rl re c S1 h5 (fun k H1 => if k = true then u σ H1 Q else Q (.bl false) H1) fun m1 H1 rl1 e1 => ?_
  cases c with
  | true => exact iteT (h4 rl1 (re.mono rl e1) d S' h6 Q fun m2 H2 v rl2 e2 rv => q m2 H2 v rl2 (e1.trans e2) rv)
  | false =>
    cases h6
    exact iteF (q m1 H1 _ rl1 e1 (.bl false))
theorem de_or {t u : TE} (ha : DE X a t fe) (hb : DE X (.BoolOp .Or (b :: rest) pos) u ge) : DE X (.BoolOp .Or (a :: b :: rest) pos) (tOrV t u) (eOr fe ge) := by
  obtain ⟨h1, h2⟩ := ha
  obtain ⟨h3, h4⟩ := hb
  refine ⟨pe_or h1 h3, fun m S H env σ rl re d S' hd Q q => ?_⟩
  obtain ⟨c, S1, h5, h6⟩ := bnd_some hd
  refine st_B h2 rl re c S1 h5 (fun k H1 => if k = true then Q (.bl true) H1 else u σ H1 Q) fun m1 H1 rl1 e1 => ?_
  cases c with
  | false => exact iteF (h4 rl1 (re.mono rl e1) d S' h6 Q fun m2 H2 v rl2 e2 rv => q m2 H2 v rl2 (e1.trans e2) rv)
  | true =>
    cases h6
    exact iteT (q m1 H1 _ rl1 e1 (.bl true))
theorem de_not {t : TE} (ha : DE X a t fe) : DE X (.UnaryOp .Not a pos) (tNotV t) (eNot fe) := by
  obtain ⟨h1, h2⟩ := ha
  refine ⟨pe_not h1, fun m S H env σ rl re d S' hd Q q => ?_⟩
  obtain ⟨c, S1, h5, h6⟩ := bnd_some hd
  cases h6
  exact st_B h2 rl re c _ h5 (fun k H1 => Q (.bl (!k)) H1) fun m1 H1 rl1 e1 => q m1 H1 _ rl1 e1 (.bl _)
theorem de_if {t : TT} {u w : TE} (hc : DT X c t f) (ha : DE X a u fe) (hb : DE X b w ge) : DE X (.IfExp c a b pos) (tIf t u w) (eIf f fe ge) := by
  obtain ⟨h1, h2⟩ := hc
  obtain ⟨h3, h4⟩ := ha
  obtain ⟨h5, h6⟩ := hb
  refine ⟨pe_ifExp h1 h3 h5, fun m S H env σ rl re d S' hd Q q => ?_⟩
  obtain ⟨c, S1, h7, h8⟩ := bnd_some hd
  refine h2 rl re c S1 h7 _ fun m1 H1 rl1 e1 => ?_
  cases c with
  | true => exact iteT (h4 rl1 (re.mono rl e1) d S' h8 Q fun m2 H2 v rl2 e2 rv => q m2 H2 v rl2 (e1.trans e2) rv)
  | false => exact iteF (h6 rl1 (re.mono rl e1) d S' h8 Q fun m2 H2 v rl2 e2 rv => q m2 H2 v rl2 (e1.trans e2) rv)
end
/-! ### arguments, displays -/
def aNil : SEnv → M (List D) := fun _ => ret []
def aCons (f : SEnv → M D) (g : SEnv → M (List D)) : SEnv → M (List D) := fun env => bnd (f env) fun d => bnd (g env) fun ds => ret (d :: ds)
theorem da_nil : DA X [] tNil aNil := ⟨pa_nil, fun m S H env σ rl re ds S' h Q q => by
  cases h
  exact q m H [] rl .refl .nil⟩
theorem da_cons {e : Expr} {es : List Expr} {f : SEnv → M D} {g : SEnv → M (List D)} (h1 : DE X e t f) (h2 : DA X es u g) (hs : starEach (e :: es) X.env = (false, eval e X.env) :: starEach es X.env := by rfl) : DA X (e :: es) (tCons t u) (aCons f g) := by
  obtain ⟨h1, h3⟩ := h1
  obtain ⟨h2, h4⟩ := h2
  refine ⟨pa_cons h1 h2 hs, fun m S H env σ rl re ds S' h Q q => ?_⟩
  obtain ⟨d, S1, e1, h⟩ := bnd_some h
  obtain ⟨ds', S2, e2, h⟩ := bnd_some h
  cases h
  refine h3 rl re d S1 e1 _ fun m1 H1 v rl1 x1 rv => ?_
  refine h4 rl1 (re.mono rl x1) ds' _ e2 _ fun m2 H2 vs rl2 x2 rvs => ?_
  exact q m2 H2 (v :: vs) rl2 (x1.trans x2) (.cons (rv.mono rl1 x2) rvs)
def mkTup (ds : List D) : M D := fun S => if ds.length ≤ sizeLine then some (.tup ds, S) else none
def mkLst (ds : List D) : M D := fun S => if ds.length ≤ sizeLine then some (.ref S.length, S ++ [.lst ds]) else none
def eTup (f : SEnv → M (List D)) : SEnv → M D := fun env => bnd (f env) mkTup
def eLst (f : SEnv → M (List D)) : SEnv → M D := fun env => bnd (f env) mkLst
theorem de_tup {es : List Expr} {x1 pos} {f : SEnv → M (List D)} (h : DA X es t f) : DE X (.Tuple es x1 pos) (tTup t) (eTup f) := by
  obtain ⟨h1, h2⟩ := h
  refine ⟨pe_tup h1, fun m S H env σ rl re d S' h Q q => ?_⟩
  obtain ⟨ds, S1, e1, h⟩ := bnd_some h
  unfold mkTup at h
  by_cases hl : ds.length ≤ sizeLine
  · rw [if_pos hl] at h
    cases h
    refine h2 rl re ds _ e1 _ fun m1 H1 vs rl1 x1 rvs => ⟨by rw [← rvs.length]; exact hl, fun p hp => ?_⟩
    obtain ⟨a1, a2, a3⟩ := rl1.tup hp rvs
    exact q m1 _ _ a1 (x1.trans a2) a3
  · rw [if_neg hl] at h
    cases h
theorem de_lst {es : List Expr} {x1} {f : SEnv → M (List D)} (h : DA X es t f) : DE X (.List es x1) (tLst t) (eLst f) := by
  obtain ⟨h1, h2⟩ := h
  refine ⟨pe_lst h1, fun m S H env σ rl re d S' h Q q => ?_⟩
  obtain ⟨ds, S1, e1, h⟩ := bnd_some h
  unfold mkLst at h
  by_cases hl : ds.length ≤ sizeLine
  · rw [if_pos hl] at h
    cases h
    refine h2 rl re ds _ e1 _ fun m1 H1 vs rl1 x1 rvs => ⟨by rw [← rvs.length]; exact hl, fun p hp => ?_⟩
    obtain ⟨a1, a2, a3⟩ := rl1.new hp (.lst rvs)
    exact q _ _ _ a1 (x1.trans a2) a3
  · rw [if_neg hl] at h
    cases h
end
end TS
set_option Elab.async false
set_option linter.all false
set_option maxRecDepth 100000
namespace TS
open PySem PySem.Spec PyProof.Rows L2
section
variable {X : Cx} {K : PySem.W.Frag} {m m' m2 : List Addr} {S S' S2 : Store} {H H' H2 : Hp} {env : SEnv} {σ : L2.St}
/-! ### as PyData -/
mutual
def py : D → Option PyData
  | .non => some .none
  | .bl b => some (.bool b)
  | .int i => some (.int i)
  | .str x => some (.str x)
  | .tup xs => (pys xs).map .tuple
  | .fl xs => (pys xs).map .list
  | .ref _ => none
  | .ty _ => none
def pys : List D → Option (List PyData)
  | [] => some []
  | x :: xs => match py x, pys xs with
    | some p, some ps => some (p :: ps)
    | _, _ => none
end
def pyS (S : Store) : D → Option PyData
  | .ref i => match S[i]? with
    | some (.lst xs) => (pys xs).map .list
    | _ => none
  | d => py d
mutual
theorem Rep.py : ∀ {d : D} {v : V} {p : PyData}, Rep K m H d v → py d = some p → Dp K H v p
  | _, _, _, .non, h => by cases h; exact .non
  | _, _, _, .bl b, h => by cases h; exact .bl b
  | _, _, _, .int i, h => by cases h; exact .int i
  | _, _, _, .str x, h => by cases h; exact .str x
  | _, _, _, .ty n, h => by cases h
  | _, _, _, .ref _, h => by cases h
  | _, _, _, .tup (ds := ds) h1 h2 _, h => by
    have h' : (pys ds).map PyData.tuple = some _ := h
    obtain ⟨ps, e, rfl⟩ := Option.map_eq_some_iff.mp h'
    exact .tup h1 (Reps.py h2 e)
  | _, _, _, .fl (ds := ds) h1 h2, h => by
    have h' : (pys ds).map PyData.list = some _ := h
    obtain ⟨ps, e, rfl⟩ := Option.map_eq_some_iff.mp h'
    exact .lst h1.sq (Reps.py h2 e)
theorem Reps.py : ∀ {ds : List D} {vs : List V} {ps : List PyData}, Reps K m H ds vs → pys ds = some ps → DpAll K H vs ps
  | _, _, _, .nil, h => by cases h; exact .nil
  | _, _, _, .cons (d := d) (ds := ds) h1 h2, h => by
    unfold pys at h
    cases e1 : TS.py d with
    | none => rw [e1] at h; simp at h
    | some p =>
      cases e2 : pys ds with
      | none => rw [e1, e2] at h; simp at h
      | some ps =>
        rw [e1, e2] at h
        cases h
        exact .cons (Rep.py h1 e1) (Reps.py h2 e2)
end
theorem Rep.pyS (r : Rel K m S H) {d : D} {v : V} {p : PyData} (h : Rep K m H d v) (e : pyS S d = some p) : Dp K H v p := by
  cases h with
  | @ref i a hi =>
    unfold TS.pyS at e
    simp only at e
    cases e1 : S[i]? with
    | none => rw [e1] at e; cases e
    | some o =>
      rw [e1] at e
      cases o with
      | lst xs =>
        simp only at e
        obtain ⟨ps, e2, rfl⟩ := Option.map_eq_some_iff.mp e
        obtain ⟨a', vs, q1, _, q2, q3⟩ := r.sqL e1 (.ref hi)
        cases q1
        exact .lst (.inl (.inl q2)) (q3.py e2)
      | dK _ => cases e
      | dT _ => cases e
      | ins _ _ => cases e
  | non => cases e; exact .non
  | bl b => cases e; exact .bl b
  | int i => cases e; exact .int i
  | str x => cases e; exact .str x
  | ty n => cases e
  | tup h1 h2 h3 => exact Rep.py (.tup h1 h2 h3) e
  | fl h1 h2 => exact Rep.py (.fl h1 h2) e
/-! ### == and != -/
def eqB (a b : D) : M Bool := fun S => match pyS S a, pyS S b with
  | some p, some q => if SeqAt.shaped p = true ∧ SeqAt.shaped q = true then some (PyData.eqv p q, S) else none
  | _, _ => none
def eqD (a b : D) : M D := bnd (eqB a b) fun k => ret (.bl k)
def neD (a b : D) : M D := bnd (eqB a b) fun k => ret (.bl (!k))
theorem eqB_some {a b : D} {k : Bool} (h : eqB a b S = some (k, S')) : S' = S ∧ ∃ p q, pyS S a = some p ∧ pyS S b = some q ∧ SeqAt.shaped p = true ∧ SeqAt.shaped q = true ∧ k = PyData.eqv p q := by
  unfold eqB at h
  cases e1 : pyS S a with
  | none => rw [e1] at h; cases h
  | some p =>
    cases e2 : pyS S b with
    | none => rw [e1, e2] at h; cases h
    | some q =>
      rw [e1, e2] at h
      simp only at h
      by_cases c : SeqAt.shaped p = true ∧ SeqAt.shaped q = true
      · rw [if_pos c] at h
        cases h
        exact ⟨rfl, p, q, rfl, rfl, c.1, c.2, rfl⟩
      · rw [if_neg c] at h
        cases h
theorem o_eq (hu : X.A.units + 64 < cLine) : DO2 X (compareOp .Eq) (rEqD X.K) eqD := ⟨op_eqD hu, fun m S H x y a b rl ra rb d S' h Q q => by
  obtain ⟨k, S1, h1, h2⟩ := bnd_some h
  cases h2
  obtain ⟨rfl, p, p', e1, e2, s1, s2, rfl⟩ := eqB_some h1
  exact ⟨p, p', ra.pyS rl e1, rb.pyS rl e2, s1, s2, q m H _ rl .refl (.bl _)⟩⟩
theorem o_ne (hu : X.A.units + 64 < cLine) : DO2 X (compareOp .NotEq) (rNeD X.K) neD := ⟨op_neD hu, fun m S H x y a b rl ra rb d S' h Q q => by
  obtain ⟨k, S1, h1, h2⟩ := bnd_some h
  cases h2
  obtain ⟨rfl, p, p', e1, e2, s1, s2, rfl⟩ := eqB_some h1
  exact ⟨p, p', ra.pyS rl e1, rb.pyS rl e2, s1, s2, q m H _ rl .refl (.bl _)⟩⟩
/-! ### order -/
def ordD (p : Int → Int → Bool) (s : List Nat → List Nat → Bool) (a b : D) : M D := fun S => match a, b with
  | .int i, .int j => some (.bl (p i j), S)
  | .str x, .str y => some (.bl (s x.cps.toList y.cps.toList), S)
  | _, _ => none
def ltD : D → D → M D := ordD (fun i j => decide (i < j)) (fun x y => decide (x < y))
def leD : D → D → M D := ordD (fun i j => decide (i ≤ j)) (fun x y => !decide (y < x))
def gtD : D → D → M D := ordD (fun i j => decide (j < i)) (fun x y => decide (y < x))
def geD : D → D → M D := ordD (fun i j => decide (j ≤ i)) (fun x y => !decide (x < y))
def rOrd (p : Int → Int → Bool) (s : List Nat → List Nat → Bool) : R2 := fun x y H Q => rI0 (fun i j => .bl (p i j)) x y H Q ∨ (∃ i j, x = .str i ∧ y = .str j ∧ Q (.bl (s i.cps.toList j.cps.toList)) H)
def rIsA : R2 := fun x y H Q => rIsB x y H Q ∨ (y = .non ∧ Q (.bl (decide (x = .non))) H)
def rNotA : R2 := fun x y H Q => rNotB x y H Q ∨ (y = .non ∧ Q (.bl (!decide (x = .non))) H)
def rInA (K : PySem.W.Frag) : R2 := fun x y H Q => (∃ (c : Nat) (z : Str), x = .str ⟨#[c]⟩ ∧ y = .str z ∧ Q (.bl (decide (c ∈ z.cps.toList))) H) ∨ rIn K false x y H Q
def rNotInA (K : PySem.W.Frag) : R2 := fun x y H Q => (∃ (c : Nat) (z : Str), x = .str ⟨#[c]⟩ ∧ y = .str z ∧ Q (.bl (!decide (c ∈ z.cps.toList))) H) ∨ rIn K true x y H Q
def rAddA (K : PySem.W.Frag) : R2 := fun x y H Q => rI0 (fun i j => .int (i + j)) x y H Q ∨ ((∃ i j, x = .str i ∧ y = .str j ∧ i.length + j.length ≤ sizeLine ∧ Q (.str (i ++ j)) H) ∨ (rCatA K x y H Q ∨ rCat x y H Q))
def rMulA (K : PySem.W.Frag) : R2 := fun x y H Q => rI CMul (fun i j => .int (i * j)) x y H Q ∨ rRepT K x y H Q
theorem sr_ord {p : Int → Int → Bool} {s : List Nat → List Nat → Bool} : SR2 K (rOrd p s) (ordD p s) := fun m S H x y a b rl ra rb d S' h Q q => by
  unfold ordD at h
  split at h
  · cases h; cases ra; cases rb
    exact .inl ⟨_, _, rfl, rfl, q m H _ rl .refl (.bl _)⟩
  · cases h; cases ra; cases rb
    exact .inr ⟨_, _, rfl, rfl, q m H _ rl .refl (.bl _)⟩
  · cases h
theorem o_lt : DO2 X (compareOp .Lt) (rOrd (fun i j => decide (i < j)) (fun x y => decide (x < y))) ltD := ⟨op_lt.or op_lt_str, sr_ord⟩
theorem o_le : DO2 X (compareOp .LtE) (rOrd (fun i j => decide (i ≤ j)) (fun x y => !decide (y < x))) leD := ⟨op_le.or op_le_str, sr_ord (s := fun x y => !decide (y < x))⟩
theorem o_gt : DO2 X (compareOp .Gt) (rOrd (fun i j => decide (j < i)) (fun x y => decide (y < x))) gtD := ⟨op_gt.or op_gt_str, sr_ord (s := fun x y => decide (y < x))⟩
theorem o_ge : DO2 X (compareOp .GtE) (rOrd (fun i j => decide (j ≤ i)) (fun x y => !decide (x < y))) geD := ⟨op_ge.or op_ge_str, sr_ord (s := fun x y => !decide (x < y))⟩
/-! ### is -/
def isB (a b : D) : M Bool := fun S => match a, b with
  | .bl x, .bl y => some (decide (x = y), S)
  | .non, .non => some (true, S)
  | .bl _, .non => some (false, S)
  | .int _, .non => some (false, S)
  | .str _, .non => some (false, S)
  | .tup _, .non => some (false, S)
  | .fl _, .non => some (false, S)
  | .ref _, .non => some (false, S)
  | _, _ => none
def isD (a b : D) : M D := bnd (isB a b) fun k => ret (.bl k)
def notD (a b : D) : M D := bnd (isB a b) fun k => ret (.bl (!k))
theorem isB_some {a b : D} {x y : V} {k : Bool} (ra : Rep K m H a x) (rb : Rep K m H b y) (h : isB a b S = some (k, S')) : S' = S ∧ ((∃ u v, x = .bl u ∧ y = .bl v ∧ k = decide (u = v)) ∨ (y = .non ∧ k = decide (x = .non))) := by
  unfold isB at h
  split at h <;> first
    | (cases h; cases ra; cases rb; exact ⟨rfl, .inl ⟨_, _, rfl, rfl, rfl⟩⟩)
    | (cases h; cases ra; cases rb; exact ⟨rfl, .inr ⟨rfl, rfl⟩⟩)
    | (cases h)
theorem o_is : DO2 X (compareOp .Is) rIsA isD := ⟨op_isBl.or op_isN, fun m S H x y a b rl ra rb d S' h Q q => by
  obtain ⟨k, S1, h1, h2⟩ := bnd_some h
  cases h2
  obtain ⟨rfl, h | h⟩ := isB_some ra rb h1
  · obtain ⟨u, v, rfl, rfl, rfl⟩ := h
    exact .inl ⟨u, v, rfl, rfl, q m H _ rl .refl (.bl _)⟩
  · obtain ⟨rfl, rfl⟩ := h
    exact .inr ⟨rfl, q m H _ rl .refl (.bl _)⟩⟩
theorem o_isnot : DO2 X (compareOp .IsNot) rNotA notD := ⟨op_notBl.or op_notN, fun m S H x y a b rl ra rb d S' h Q q => by
  obtain ⟨k, S1, h1, h2⟩ := bnd_some h
  cases h2
  obtain ⟨rfl, h | h⟩ := isB_some ra rb h1
  · obtain ⟨u, v, rfl, rfl, rfl⟩ := h
    exact .inl ⟨u, v, rfl, rfl, q m H _ rl .refl (.bl _)⟩
  · obtain ⟨rfl, rfl⟩ := h
    exact .inr ⟨rfl, q m H _ rl .refl (.bl _)⟩⟩
/-! ### in -/
def flatD : D → Bool
  | .non => true | .bl _ => true | .int _ => true | .str _ => true | _ => false
def eqF : D → D → Bool
  | .non, .non => true
  | .bl a, .bl b => a == b
  | .bl a, .int b => (if a then 1 else 0) == b
  | .int a, .bl b => a == (if b then 1 else 0)
  | .int a, .int b => a == b
  | .str a, .str b => a == b
  | _, _ => false
def inF (a : D) (xs : List D) : Bool := xs.any fun y => eqF y a
theorem flat_rep {d : D} {v : V} (r : Rep K m H d v) (h : flatD d = true) : flatV v = true := by
  cases r <;> first | rfl | cases h
theorem flat_reps : ∀ {ds : List D} {vs : List V}, Reps K m H ds vs → ds.all flatD = true → vs.all flatV = true
  | _, _, .nil, _ => rfl
  | _, _, .cons h hs, e => by
    rw [List.all_cons, Bool.and_eq_true] at e
    rw [List.all_cons, flat_rep h e.1, flat_reps hs e.2]
    rfl
theorem eqF_rep {a b : D} {x y : V} (ra : Rep K m H a x) (rb : Rep K m H b y) (ha : flatD a = true) (hb : flatD b = true) : eqV x y = eqF a b := by
  cases ra <;> cases rb <;> first | rfl | cases ha | cases hb
theorem inF_rep {a : D} {x : V} (ra : Rep K m H a x) (ha : flatD a = true) : ∀ {ds : List D} {vs : List V}, Reps K m H ds vs → ds.all flatD = true → inV x vs = inF a ds
  | _, _, .nil, _ => rfl
  | _, _, .cons (d := d) (v := v) h hs, e => by
    rw [List.all_cons, Bool.and_eq_true] at e
    have ih := inF_rep ra ha hs e.2
    unfold inV inF at ih ⊢
    rw [List.any_cons, List.any_cons, ih, eqF_rep h ra e.1 ha]
def seqOf (S : Store) : D → Option (List D)
  | .tup xs => some xs
  | .fl xs => some xs
  | .ref i => match S[i]? with
    | some (.lst xs) => some xs
    | _ => none
  | _ => none
theorem seqOf_rep (r : Rel K m S H) {d : D} {v : V} {xs : List D} (q : Rep K m H d v) (e : seqOf S d = some xs) : ∃ a vs, v = .ref a ∧ (SqL K H a vs ∨ SqT K H a vs) ∧ Reps K m H xs vs := by
  cases q with
  | tup h1 h2 => cases e; exact ⟨_, _, rfl, .inr h1, h2⟩
  | fl h1 h2 => cases e; exact ⟨_, _, rfl, .inl h1.sq, h2⟩
  | @ref i a hi =>
    unfold seqOf at e
    simp only at e
    cases e1 : S[i]? with
    | none => rw [e1] at e; cases e
    | some o =>
      rw [e1] at e
      cases o with
      | lst ys =>
        cases e
        obtain ⟨a', vs, q1, _, q2, q3⟩ := r.sqL e1 (.ref hi)
        cases q1
        exact ⟨_, vs, rfl, .inl (.inl (.inl q2)), q3⟩
      | dK _ => cases e
      | dT _ => cases e
      | ins _ _ => cases e
  | _ => cases e
/-- x in y: flat items of a list or tuple; one sign in a text -/
def inB (a b : D) : M Bool := fun S => match b with
  | .str z => match a with
    | .str x => match x.cps.toList with
      | [c] => some (decide (c ∈ z.cps.toList), S)
      | _ => none
    | _ => none
  | _ => match seqOf S b with
    | some xs => if flatD a = true ∧ xs.all flatD = true then some (inF a xs, S) else none
    | none => none
def inD (a b : D) : M D := bnd (inB a b) fun k => ret (.bl k)
def ninD (a b : D) : M D := bnd (inB a b) fun k => ret (.bl (!k))
theorem inB_some {a b : D} {x y : V} {k : Bool} (rl : Rel K m S H) (ra : Rep K m H a x) (rb : Rep K m H b y) (h : inB a b S = some (k, S')) : S' = S ∧ ((∃ (c : Nat) (z : Str), x = .str ⟨#[c]⟩ ∧ y = .str z ∧ k = decide (c ∈ z.cps.toList)) ∨
    ∃ p xs, y = .ref p ∧ (SqL K H p xs ∨ SqT K H p xs) ∧ flatV x = true ∧ xs.all flatV = true ∧ k = inV x xs) := by
  have other : (match seqOf S b with
    | some xs => if flatD a = true ∧ xs.all flatD = true then some (inF a xs, S) else none
    | none => none) = some (k, S') → S' = S ∧ ((∃ (c : Nat) (z : Str), x = .str ⟨#[c]⟩ ∧ y = .str z ∧ k = decide (c ∈ z.cps.toList)) ∨
    ∃ p xs, y = .ref p ∧ (SqL K H p xs ∨ SqT K H p xs) ∧ flatV x = true ∧ xs.all flatV = true ∧ k = inV x xs) := fun h => by
    cases e : seqOf S b with
    | none => rw [e] at h; cases h
    | some xs =>
      rw [e] at h
      simp only at h
      by_cases c : flatD a = true ∧ xs.all flatD = true
      · rw [if_pos c] at h
        cases h
        obtain ⟨p, vs, rfl, h1, h2⟩ := seqOf_rep rl rb e
        exact ⟨rfl, .inr ⟨p, vs, rfl, h1, flat_rep ra c.1, flat_reps h2 c.2, (inF_rep ra c.1 h2 c.2).symm⟩⟩
      · rw [if_neg c] at h
        cases h
  unfold inB at h
  split at h
  · split at h
    · split at h
      · cases h
        cases ra
        cases rb
        rename_i z x l c e
        refine ⟨rfl, .inl ⟨c, _, ?_, rfl, rfl⟩⟩
        have : x.cps = #[c] := by
          apply Array.toList_inj.mp
          rw [e]
        rw [← this]
      · cases h
    · cases h
  · exact other h
theorem o_in : DO2 X (compareOp .In) (rInA X.K) inD := ⟨op_in_sign.or op_in_seq, fun m S H x y a b rl ra rb d S' h Q q => by
  obtain ⟨k, S1, h1, h2⟩ := bnd_some h
  cases h2
  obtain ⟨rfl, h | h⟩ := inB_some rl ra rb h1
  · obtain ⟨c, z, rfl, rfl, rfl⟩ := h
    exact .inl ⟨c, z, rfl, rfl, q m H _ rl .refl (.bl _)⟩
  · obtain ⟨p, xs, rfl, w1, w2, w3, rfl⟩ := h
    exact .inr ⟨p, xs, rfl, w1, w2, w3, q m H _ rl .refl (.bl _)⟩⟩
theorem o_notin : DO2 X (compareOp .NotIn) (rNotInA X.K) ninD := ⟨op_notIn_sign.or op_notIn_seq, fun m S H x y a b rl ra rb d S' h Q q => by
  obtain ⟨k, S1, h1, h2⟩ := bnd_some h
  cases h2
  obtain ⟨rfl, h | h⟩ := inB_some rl ra rb h1
  · obtain ⟨c, z, rfl, rfl, rfl⟩ := h
    exact .inl ⟨c, z, rfl, rfl, q m H _ rl .refl (.bl _)⟩
  · obtain ⟨p, xs, rfl, w1, w2, w3, rfl⟩ := h
    exact .inr ⟨p, xs, rfl, w1, w2, w3, q m H _ rl .refl (.bl _)⟩⟩
/-! ### + - * // % -/
def addD (a b : D) : M D := fun S => match a, b with
  | .int i, .int j => some (.int (i + j), S)
  | .str x, .str y => if x.length + y.length ≤ sizeLine then some (.str (x ++ y), S) else none
  | .tup xs, .tup ys => if xs.length + ys.length ≤ sizeLine then some (.tup (xs ++ ys), S) else none
  | .ref i, .ref j => match S[i]?, S[j]? with
    | some (.lst xs), some (.lst ys) => if xs.length + ys.length ≤ sizeLine then some (.ref S.length, S ++ [.lst (xs ++ ys)]) else none
    | _, _ => none
  | _, _ => none
theorem o_add : DO2 X (binaryOp .Add) (rAddA X.K) addD := ⟨op_add.or (op_add_str.or (op_catA.or op_cat)), fun m S H x y a b rl ra rb d S' h Q q => by
  unfold addD at h
  split at h
  · cases h; cases ra; cases rb
    exact .inl ⟨_, _, rfl, rfl, q m H _ rl .refl (.int _)⟩
  · split at h
    · cases h; cases ra; cases rb
      rename_i c
      exact .inr (.inl ⟨_, _, rfl, rfl, c, q m H _ rl .refl (.str _)⟩)
    · cases h
  · split at h
    · cases h
      rename_i xs ys c
      cases ra with
      | tup h1 h2 h5 =>
        cases rb with
        | tup h3 h4 h6 =>
          refine .inr (.inr (.inl ⟨_, _, _, _, rfl, rfl, h1, h3, by rw [← h2.length, ← h4.length]; exact c, fun e => ?_, fun _ e => ?_, fun _ _ p hp => ?_⟩))
          · subst e
            cases h2
            exact q m H _ rl .refl (.tup h3 h4 h6)
          · subst e
            cases h4
            rw [List.append_nil] at q
            exact q m H _ rl .refl (.tup h1 h2 h5)
          · obtain ⟨a1, a2, a3⟩ := rl.tup hp (h2.append h4)
            exact q m _ _ a1 a2 a3
    · cases h
  · split at h
    · split at h
      · cases h
        rename_i i j xs ys e1 e2 c
        obtain ⟨p1, vs, rfl, _, q2, q3⟩ := rl.sqL e1 ra
        obtain ⟨p2, us, rfl, _, q5, q6⟩ := rl.sqL e2 rb
        refine .inr (.inr (.inr ⟨p1, p2, vs, us, rfl, rfl, q2, q5, by rw [← q3.length, ← q6.length]; exact c, fun p hp => ?_⟩))
        obtain ⟨a1, a2, a3⟩ := rl.new hp (.lst (q3.append q6))
        exact q _ _ _ a1 a2 a3
      · cases h
    · cases h
  · cases h⟩
def subD (a b : D) : M D := fun S => match a, b with
  | .int i, .int j => some (.int (i - j), S)
  | _, _ => none
theorem o_sub : DO2 X (binaryOp .Sub) (rI0 fun i j => .int (i - j)) subD := ⟨op_sub, fun m S H x y a b rl ra rb d S' h Q q => by
  unfold subD at h
  split at h
  · cases h; cases ra; cases rb
    exact ⟨_, _, rfl, rfl, q m H _ rl .refl (.int _)⟩
  · cases h⟩
def smallI (i : Int) : Bool := decide (-(2 ^ 64) < i ∧ i < 2 ^ 64)
def mulD (a b : D) : M D := fun S => match a, b with
  | .int i, .int j => if smallI i = true ∨ smallI j = true then some (.int (i * j), S) else none
  | .tup xs, .int k => if xs ≠ [] ∧ 2 ≤ k ∧ k ≤ 1000 ∧ xs.length ≤ 1000 then some (.tup (List.replicate k.toNat xs).flatten, S) else none
  | _, _ => none
theorem Reps.rep {ds : List D} {vs : List V} (h : Reps K m H ds vs) : ∀ n : Nat, Reps K m H (List.replicate n ds).flatten (List.replicate n vs).flatten
  | 0 => .nil
  | n + 1 => by
    rw [List.replicate_succ, List.replicate_succ, List.flatten_cons, List.flatten_cons]
    exact h.append (Reps.rep h n)
theorem o_mul : DO2 X (binaryOp .Mult) (rMulA X.K) mulD := ⟨op_mul.or op_repT, fun m S H x y a b rl ra rb d S' h Q q => by
  unfold mulD at h
  split at h
  · split at h
    · cases h; cases ra; cases rb
      rename_i c
      refine .inl ⟨_, _, rfl, rfl, ?_, q m H _ rl .refl (.int _)⟩
      unfold smallI at c
      rw [decide_eq_true_iff, decide_eq_true_iff] at c
      exact c
    · cases h
  · split at h
    · cases h
      rename_i c
      cases rb
      cases ra with
      | tup h1 h2 =>
        refine .inr ⟨_, _, _, rfl, rfl, h1, fun z => ?_, c.2.1, c.2.2.1, by rw [← h2.length]; exact c.2.2.2, fun p hp => ?_⟩
        · subst z
          cases h2
          exact c.1 rfl
        · obtain ⟨a1, a2, a3⟩ := rl.tup hp (h2.rep _)
          exact q m _ _ a1 a2 a3
    · cases h
  · cases h⟩
def modD (a b : D) : M D := fun S => match a, b with
  | .int i, .int j => if 0 < j then some (.int (i % j), S) else none
  | _, _ => none
theorem o_mod : DO2 X (binaryOp .Mod) (rI (fun _ j => 0 < j) fun i j => .int (i % j)) modD := ⟨op_mod, fun m S H x y a b rl ra rb d S' h Q q => by
  unfold modD at h
  split at h
  · split at h
    · cases h; cases ra; cases rb
      rename_i c
      exact ⟨_, _, rfl, rfl, c, q m H _ rl .refl (.int _)⟩
    · cases h
  · cases h⟩
def fdivD (a b : D) : M D := fun S => match a, b with
  | .int i, .int j => if 0 < j ∧ j < 1073741824 then some (.int (i / j), S) else none
  | _, _ => none
theorem o_fdiv : DO2 X (binaryOp .FloorDiv) (rI CDiv fun i j => .int (i / j)) fdivD := ⟨op_fdiv, fun m S H x y a b rl ra rb d S' h Q q => by
  unfold fdivD at h
  split at h
  · split at h
    · cases h; cases ra; cases rb
      rename_i c
      exact ⟨_, _, rfl, rfl, c, q m H _ rl .refl (.int _)⟩
    · cases h
  · cases h⟩
def negD (a : D) : M D := fun S => match a with
  | .int i => some (.int (-i), S)
  | _ => none
theorem o_neg : DO1 X (unaryOp .USub) (rU fun i => .int (-i)) negD := ⟨un_neg, fun m S H x a rl ra d S' h Q q => by
  unfold negD at h
  split at h
  · cases h; cases ra
    exact ⟨_, rfl, q m H _ rl .refl (.int _)⟩
  · cases h⟩
/-! ### two comparisons in a row -/
def eChain (g g' : D → D → M D) (fa fb fc : SEnv → M D) : SEnv → M D := fun env => bnd (fa env) fun a => bnd (fb env) fun b => bnd (g a b) fun k => match k with
  | .bl true => bnd (fc env) fun c => g' b c
  | .bl false => ret (.bl false)
  | _ => fail
theorem se_chain {r r' : R2} {g g' : D → D → M D} {ta tb tc : TE} {fa fb fc : SEnv → M D} (hr : SR2 K r g) (hr' : SR2 K r' g') (ha : SE K ta fa) (hb : SE K tb fb) (hc : SE K tc fc) : SE K (tChain r r' ta tb tc) (eChain g g' fa fb fc) := fun m S H env σ rl re d S' h Q q => by
  obtain ⟨a, S1, h1, h⟩ := bnd_some h
  obtain ⟨b, S2, h2, h⟩ := bnd_some h
  obtain ⟨k, S3, h3, h⟩ := bnd_some h
  refine ha rl re a S1 h1 _ fun m1 H1 x rl1 e1 ra => ?_
  refine hb rl1 (re.mono rl e1) b S2 h2 _ fun m2 H2 y rl2 e2 rb => ?_
  refine hr rl2 (ra.mono rl1 e2) rb k S3 h3 _ fun m3 H3 z rl3 e3 rz => ?_
  have e123 := (e1.trans e2).trans e3
  cases k with
  | bl k =>
    cases rz
    refine ⟨k, rfl, ?_⟩
    cases k with
    | true =>
      obtain ⟨c, S4, h4, h⟩ := bnd_some h
      exact iteT (hc rl3 (re.mono rl e123) c S4 h4 _ fun m4 H4 w rl4 e4 rw' => hr' rl4 (rb.mono rl2 (e3.trans e4)) rw' d S' h Q fun m5 H5 v rl5 e5 rv => q m5 H5 v rl5 ((e123.trans e4).trans e5) rv)
    | false =>
      cases h
      exact iteF (q m3 H3 _ rl3 e123 (.bl false))
  | _ => cases h
theorem de_chain {op op' : CmpOp} {a b c : Expr} {pos : Pos} {g g' : D → D → M D} {fa fb fc : SEnv → M D} (ho : DO2 X (compareOp op) r g) (ho' : DO2 X (compareOp op') r' g') (ha : DE X a ta fa) (hb : DE X b tb fb) (hc : DE X c tc fc)
    (hm : lastMarks [op, op'] [b, c] = false := by with_unfolding_all rfl) : DE X (.Compare a [op, op'] [b, c] pos) (tChain r r' ta tb tc) (eChain g g' fa fb fc) := by
  obtain ⟨h1, h2⟩ := ho
  obtain ⟨h1', h2'⟩ := ho'
  obtain ⟨h3, h4⟩ := ha
  obtain ⟨h5, h6⟩ := hb
  obtain ⟨h7, h8⟩ := hc
  exact ⟨pe_chain h1 h1' h3 h5 h7 hm, se_chain h2 h2' h4 h6 h8⟩
theorem dt_chain {op op' : CmpOp} {a b c : Expr} {pos : Pos} {g g' : D → D → M D} {fa fb fc : SEnv → M D} (ho : DO2 X (compareOp op) r g) (ho' : DO2 X (compareOp op') r' g') (ha : DE X a ta fa) (hb : DE X b tb fb) (hc : DE X c tc fc)
    (hm : lastMarks [op, op'] [b, c] = false := by with_unfolding_all rfl) : DT X (.Compare a [op, op'] [b, c] pos) (tTest (tChain r r' ta tb tc)) (asB (eChain g g' fa fb fc)) := by
  obtain ⟨h1, h2⟩ := ho
  obtain ⟨h1', h2'⟩ := ho'
  obtain ⟨h3, h4⟩ := ha
  obtain ⟨h5, h6⟩ := hb
  obtain ⟨h7, h8⟩ := hc
  exact ⟨pt_chain h1 h1' h3 h5 h7 hm, st_B (se_chain h2 h2' h4 h6 h8)⟩
end
end TS
set_option Elab.async false
set_option linter.all false
set_option maxRecDepth 100000
namespace TS
open PySem PySem.Spec PyProof.Rows L2
section
variable {X : Cx} {K : PySem.W.Frag} {m m' m2 : List Addr} {S S' S2 : Store} {H H' H2 : Hp} {env : SEnv} {σ : L2.St}
/-! ### calls of what is built in -/
abbrev Rn := List V → Hp → VK → Prop
structure DC (X : Cx) (f : Value) (r : Rn) (g : List D → M D) : Prop where
  cr : CallR X f r
  sr : SRn X.K r g
def eCall (g : List D → M D) (fa : SEnv → M (List D)) : SEnv → M D := fun env => bnd (fa env) g
theorem se_call {r : List V → Hp → VK → Prop} {g : List D → M D} {ta : TA} {fa : SEnv → M (List D)} (hr : SRn K r g) (ha : SA K ta fa) : SE K (tCB r ta) (eCall g fa) := fun m S H env σ rl re d S' h Q q => by
  obtain ⟨ds, S1, h1, h⟩ := bnd_some h
  exact ha rl re ds S1 h1 _ fun m1 H1 vs rl1 e1 rv => hr rl1 rv d S' h Q fun m3 H3 v rl3 e3 rv3 => q m3 H3 v rl3 (e1.trans e3) rv3
section
variable {x : Str} {p pos : Pos} {e : Expr} {es : List Expr} {id T : String} {g : List D → M D} {fa : SEnv → M (List D)}
theorem de_callB (hc : DC X (.builtin id) r g) (hm : X.mg x = none) (ha : DA X (e :: es) ta fa) (hg : Gl X x := by rfl) (hv : bootBuiltins x = some (.builtin id) := by decide +kernel) (hn : x ≠ "__name__" := by decide) (hdb : (x == ("__debug__" : Str)) = false := by decide)
    (he : starEach (e :: es) X.env = (false, eval e X.env) :: starEach es X.env := by rfl) (hpl : (backTo pos (starEach es X.env)).any (·.1) = false := by rfl) : DE X (.Call (.Name x p) (e :: es) [] pos) (tCB r ta) (eCall g fa) := by
  obtain ⟨h1, h2⟩ := hc
  obtain ⟨h3, h4⟩ := ha
  exact ⟨pe_callB h1 hg hm hv h3 hn hdb he hpl, se_call h2 h4⟩
theorem de_callTy (hc : DC X (.type T) r g) (hm : X.mg x = none) (ha : DA X (e :: es) ta fa) (hg : Gl X x := by rfl) (hv : bootBuiltins x = some (.type T) := by decide +kernel) (hn : x ≠ "__name__" := by decide) (hdb : (x == ("__debug__" : Str)) = false := by decide)
    (he : starEach (e :: es) X.env = (false, eval e X.env) :: starEach es X.env := by rfl) (hpl : (backTo pos (starEach es X.env)).any (·.1) = false := by rfl) : DE X (.Call (.Name x p) (e :: es) [] pos) (tCB r ta) (eCall g fa) := by
  obtain ⟨h1, h2⟩ := hc
  obtain ⟨h3, h4⟩ := ha
  exact ⟨pe_callTy h1 hg hm hv h3 hn hdb he hpl, se_call h2 h4⟩
end
def nLen : List D → M D
  | [.str y] => fun S => if y.length ≤ sizeLine then some (.int y.length, S) else none
  | [.ref i] => fun S => match S[i]? with
    | some (.lst xs) => some (.int xs.length, S)
    | some (.dK kvs) => some (.int kvs.length, S)
    | _ => none
  | [.tup xs] => ret (.int xs.length)
  | [.fl xs] => ret (.int xs.length)
  | _ => fail
theorem call_lenD {X : Cx} : CallR X (.builtin "len") (fun xs H Q => ∃ a kvs, xs = [.ref a] ∧ H a = some (.dK kvs) ∧ Q (.int kvs.length) H) := fun pins s σ H xs us Q I r h => by
  obtain ⟨a, kvs, rfl, e, q⟩ := h
  obtain ⟨u, rfl, ru⟩ := vals1 r
  cases ru
  exact d_len I (.inl e) fun t s' I' => ⟨.int _, H, I', ⟨t, rfl⟩, q⟩
theorem CallR.or {X : Cx} {f : Value} {r r' : List V → Hp → VK → Prop} (h : CallR X f r) (h' : CallR X f r') : CallR X f (fun xs H Q => r xs H Q ∨ r' xs H Q) := fun pins s σ H xs us Q I rv q => by
  rcases q with q | q
  · exact h pins s σ H xs us Q I rv q
  · exact h' pins s σ H xs us Q I rv q
theorem Reps.one {d : D} {vs : List V} (h : Reps K m H [d] vs) : ∃ v, vs = [v] ∧ Rep K m H d v := by
  cases h with
  | cons h hs =>
    cases hs
    exact ⟨_, rfl, h⟩
theorem Reps.two {d e : D} {vs : List V} (h : Reps K m H [d, e] vs) : ∃ v u, vs = [v, u] ∧ Rep K m H d v ∧ Rep K m H e u := by
  cases h with
  | cons h hs =>
    obtain ⟨u, rfl, hu⟩ := hs.one
    exact ⟨_, _, rfl, h, hu⟩
def rLenA (K : PySem.W.Frag) : Rn := fun xs H Q => (∃ x n, xs = [x] ∧ LenV K x H n ∧ Q (.int n) H) ∨ (∃ a kvs, xs = [.ref a] ∧ H a = some (.dK kvs) ∧ Q (.int kvs.length) H)
theorem c_len : DC X (.builtin "len") (rLenA X.K) nLen := ⟨call_len.or call_lenD, fun m S H xs as rl ra d S' h Q q => by
  unfold nLen at h
  split at h
  · obtain ⟨v, rfl, rv⟩ := ra.one
    cases rv
    split at h
    · cases h
      rename_i y c
      exact .inl ⟨_, _, rfl, ⟨c, rfl⟩, q m H _ rl .refl (.int _)⟩
    · cases h
  · obtain ⟨v, rfl, rv⟩ := ra.one
    split at h
    · cases h
      rename_i i _ xs e
      obtain ⟨a, vs, rfl, _, h2, h3⟩ := rl.sqL e rv
      exact .inl ⟨_, _, rfl, .inl ⟨vs, .inl (.inl h2), h3.length⟩, q m H _ rl .refl (.int _)⟩
    · cases h
      rename_i i _ kvs e
      obtain ⟨a, us, rfl, _, h2, h3, _⟩ := rl.dK e rv
      have := congrArg List.length h3
      rw [List.length_map, List.length_map] at this
      exact .inr ⟨a, us, rfl, h2, by rw [this]; exact q m H _ rl .refl (.int _)⟩
    · cases h
  · obtain ⟨v, rfl, rv⟩ := ra.one
    cases h
    cases rv with
    | tup h1 h2 => exact .inl ⟨_, _, rfl, .inr ⟨_, h1, h2.length⟩, q m H _ rl .refl (.int _)⟩
  · obtain ⟨v, rfl, rv⟩ := ra.one
    cases h
    cases rv with
    | fl h1 h2 => exact .inl ⟨_, _, rfl, .inl ⟨_, h1.sq, h2.length⟩, q m H _ rl .refl (.int _)⟩
  · cases h⟩
/-- isinstance -/
def tyOf (S : Store) : D → Option String
  | .non => some "NoneType" | .bl _ => some "bool" | .int _ => some "int" | .str _ => some "str" | .tup _ => some "tuple" | .fl _ => some "list"
  | .ref i => match S[i]? with
    | some (.lst _) => some "list"
    | some (.dK _) => some "dict"
    | some (.dT _) => some "dict"
    | some (.ins _ _) => none
    | none => none
  | .ty _ => none
def nIsi : List D → M D
  | [a, .ty n] => fun S => match tyOf S a with
    | some t => match kitB t n with
      | some b => some (.bl b, S)
      | none => none
    | none => none
  | _ => fail
theorem tyOf_rep (rl : Rel K m S H) {d : D} {v : V} {t : String} (r : Rep K m H d v) (e : tyOf S d = some t) : TyX K H v (.type t) := by
  cases r with
  | non => cases e; exact .base .non
  | bl b => cases e; exact .base (.bl b)
  | int i => cases e; exact .base (.int i)
  | str x => cases e; exact .base (.str x)
  | ty n => cases e
  | tup h _ =>
    cases e
    rcases h with (h | ⟨o, h⟩) | ⟨o, its, n, h1, h2, _⟩
    · exact .base (.tup h)
    · exact .fTuple h
    · exact .kTuple h1 h2
  | fl h _ =>
    cases e
    rcases h with ⟨o, h⟩ | ⟨o, its, n, h1, h2, _⟩
    · exact .base (.frz h)
    · exact .kList h1 h2
  | @ref i a hi =>
    unfold tyOf at e
    simp only at e
    cases e1 : S[i]? with
    | none => rw [e1] at e; cases e
    | some o =>
      rw [e1] at e
      obtain ⟨a', u, q1, q2, q3⟩ := rl.at e1
      rw [hi] at q1
      cases q1
      cases q3 with
      | lst _ => cases e; exact .base (.lst q2)
      | dK _ _ => cases e; exact .base (.dK q2)
      | dT _ _ => cases e; exact .base (.dT q2)
      | ins _ _ => cases e
theorem c_isi : DC X (.builtin "isinstance") (rIsi X.K) nIsi := ⟨call_isi, fun m S H xs as rl ra d S' h Q q => by
  unfold nIsi at h
  split at h
  · obtain ⟨v, u, rfl, rv, ru⟩ := ra.two
    cases ru
    split at h
    · split at h
      · cases h
        rename_i t e1 _ b e2
        exact ⟨v, _, _, _, _, rfl, .ty _, tyOf_rep rl rv e1, kit_ty e2, q m H _ rl .refl (.bl _)⟩
      · cases h
    · cases h
  · cases h⟩
/-- min, max of two ints -/
def nMin2 : List D → M D
  | [.int i, .int j] => ret (.int (if j < i then j else i))
  | _ => fail
def nMax2 : List D → M D
  | [.int i, .int j] => ret (.int (if j > i then j else i))
  | _ => fail
theorem c_min2 (hc : X.calm = true) : DC X (.builtin "min") (fun xs H Q => ∃ i j, xs = [.int i, .int j] ∧ Q (.int (if j < i then j else i)) H) nMin2 := ⟨call_min2 hc, fun m S H xs as rl ra d S' h Q q => by
  unfold nMin2 at h
  split at h
  · obtain ⟨v, u, rfl, rv, ru⟩ := ra.two
    cases rv; cases ru; cases h
    exact ⟨_, _, rfl, q m H _ rl .refl (.int _)⟩
  · cases h⟩
theorem c_max2 (hc : X.calm = true) : DC X (.builtin "max") (fun xs H Q => ∃ i j, xs = [.int i, .int j] ∧ Q (.int (if j > i then j else i)) H) nMax2 := ⟨call_max2 hc, fun m S H xs as rl ra d S' h Q q => by
  unfold nMax2 at h
  split at h
  · obtain ⟨v, u, rfl, rv, ru⟩ := ra.two
    cases rv; cases ru; cases h
    exact ⟨_, _, rfl, q m H _ rl .refl (.int _)⟩
  · cases h⟩
def nInt : List D → M D
  | [.int i] => ret (.int i)
  | [.bl k] => ret (.int (if k then 1 else 0))
  | _ => fail
theorem c_int : DC X (.type "int") (fun xs H Q => (∃ i, xs = [.int i] ∧ Q (.int i) H) ∨ ∃ k, xs = [.bl k] ∧ Q (.int (if k then 1 else 0)) H) nInt := ⟨call_int1, fun m S H xs as rl ra d S' h Q q => by
  unfold nInt at h
  split at h
  · obtain ⟨v, rfl, rv⟩ := ra.one
    cases rv; cases h
    exact .inl ⟨_, rfl, q m H _ rl .refl (.int _)⟩
  · obtain ⟨v, rfl, rv⟩ := ra.one
    cases rv; cases h
    exact .inr ⟨_, rfl, q m H _ rl .refl (.int _)⟩
  · cases h⟩
/-- sum of ints, all and any of bools: lists -/
def intsU : List D → Option (List Int)
  | [] => some []
  | .int i :: r => (intsU r).map (i :: ·)
  | _ => none
def blsOf : List D → Option (List Bool)
  | [] => some []
  | .bl i :: r => (blsOf r).map (i :: ·)
  | _ => none
def strsOf : List D → Option (List Str)
  | [] => some []
  | .str i :: r => (strsOf r).map (i :: ·)
  | _ => none
theorem intsU_rep : ∀ {ds : List D} {vs : List V} {ns : List Int}, Reps K m H ds vs → intsU ds = some ns → vs = ns.map V.int
  | [], _, _, .nil, e => by cases e; rfl
  | .int i :: r, _, _, .cons h hs, e => by
    have e' : (intsU r).map (i :: ·) = some _ := e
    obtain ⟨ns, e1, rfl⟩ := Option.map_eq_some_iff.mp e'
    cases h
    rw [intsU_rep hs e1]
    rfl
  | .non :: _, _, _, _, e => by cases e
  | .bl _ :: _, _, _, _, e => by cases e
  | .str _ :: _, _, _, _, e => by cases e
  | .tup _ :: _, _, _, _, e => by cases e
  | .fl _ :: _, _, _, _, e => by cases e
  | .ref _ :: _, _, _, _, e => by cases e
  | .ty _ :: _, _, _, _, e => by cases e
theorem blsOf_rep : ∀ {ds : List D} {vs : List V} {ns : List Bool}, Reps K m H ds vs → blsOf ds = some ns → vs = ns.map V.bl
  | [], _, _, .nil, e => by cases e; rfl
  | .bl i :: r, _, _, .cons h hs, e => by
    have e' : (blsOf r).map (i :: ·) = some _ := e
    obtain ⟨ns, e1, rfl⟩ := Option.map_eq_some_iff.mp e'
    cases h
    rw [blsOf_rep hs e1]
    rfl
  | .non :: _, _, _, _, e => by cases e
  | .int _ :: _, _, _, _, e => by cases e
  | .str _ :: _, _, _, _, e => by cases e
  | .tup _ :: _, _, _, _, e => by cases e
  | .fl _ :: _, _, _, _, e => by cases e
  | .ref _ :: _, _, _, _, e => by cases e
  | .ty _ :: _, _, _, _, e => by cases e
theorem strsOf_rep : ∀ {ds : List D} {vs : List V} {ns : List Str}, Reps K m H ds vs → strsOf ds = some ns → vs = ns.map V.str
  | [], _, _, .nil, e => by cases e; rfl
  | .str i :: r, _, _, .cons h hs, e => by
    have e' : (strsOf r).map (i :: ·) = some _ := e
    obtain ⟨ns, e1, rfl⟩ := Option.map_eq_some_iff.mp e'
    cases h
    rw [strsOf_rep hs e1]
    rfl
  | .non :: _, _, _, _, e => by cases e
  | .int _ :: _, _, _, _, e => by cases e
  | .bl _ :: _, _, _, _, e => by cases e
  | .tup _ :: _, _, _, _, e => by cases e
  | .fl _ :: _, _, _, _, e => by cases e
  | .ref _ :: _, _, _, _, e => by cases e
  | .ty _ :: _, _, _, _, e => by cases e
/-- the items of a list (of the store, or locked) -/
def lstOf (S : Store) : D → Option (List D)
  | .fl xs => some xs
  | .ref i => match S[i]? with
    | some (.lst xs) => some xs
    | _ => none
  | _ => none
theorem lstOf_rep (r : Rel K m S H) {d : D} {v : V} {xs : List D} (q : Rep K m H d v) (e : lstOf S d = some xs) : ∃ a vs, v = .ref a ∧ SqL K H a vs ∧ Reps K m H xs vs := by
  cases q with
  | fl h1 h2 => cases e; exact ⟨_, _, rfl, h1.sq, h2⟩
  | @ref i a hi =>
    unfold lstOf at e
    simp only at e
    cases e1 : S[i]? with
    | none => rw [e1] at e; cases e
    | some o =>
      rw [e1] at e
      cases o with
      | lst ys =>
        cases e
        obtain ⟨a', vs, q1, _, q2, q3⟩ := r.sqL e1 (.ref hi)
        cases q1
        exact ⟨_, vs, rfl, .inl (.inl q2), q3⟩
      | dK _ => cases e
      | dT _ => cases e
      | ins _ _ => cases e
  | _ => cases e
def nSum : List D → M D
  | [d] => fun S => match lstOf S d with
    | some xs => match intsU xs with
      | some ns => some (.int ns.sum, S)
      | none => none
    | none => none
  | _ => fail
def nAll : List D → M D
  | [d] => fun S => match lstOf S d with
    | some xs => match blsOf xs with
      | some ns => some (.bl (ns.all id), S)
      | none => none
    | none => none
  | _ => fail
def nAny : List D → M D
  | [d] => fun S => match lstOf S d with
    | some xs => match blsOf xs with
      | some ns => some (.bl (ns.any id), S)
      | none => none
    | none => none
  | _ => fail
theorem c_sum (hc : X.calm = true) : DC X (.builtin "sum") (rSum X.K) nSum := ⟨cr_sum hc, fun m S H xs as rl ra d S' h Q q => by
  unfold nSum at h
  split at h
  · obtain ⟨v, rfl, rv⟩ := ra.one
    split at h
    · split at h
      · cases h
        rename_i ys e1 _ ns e2
        obtain ⟨a, vs, rfl, h1, h2⟩ := lstOf_rep rl rv e1
        have := intsU_rep h2 e2
        subst this
        exact ⟨a, ns, rfl, h1, q m H _ rl .refl (.int _)⟩
      · cases h
    · cases h
  · cases h⟩
theorem c_all (hc : X.calm = true) : DC X (.builtin "all") (rAll X.K) nAll := ⟨cr_all hc, fun m S H xs as rl ra d S' h Q q => by
  unfold nAll at h
  split at h
  · obtain ⟨v, rfl, rv⟩ := ra.one
    split at h
    · split at h
      · cases h
        rename_i ys e1 _ ns e2
        obtain ⟨a, vs, rfl, h1, h2⟩ := lstOf_rep rl rv e1
        have := blsOf_rep h2 e2
        subst this
        exact ⟨a, ns, rfl, h1, q m H _ rl .refl (.bl _)⟩
      · cases h
    · cases h
  · cases h⟩
theorem c_any (hc : X.calm = true) : DC X (.builtin "any") (rAny X.K) nAny := ⟨cr_any hc, fun m S H xs as rl ra d S' h Q q => by
  unfold nAny at h
  split at h
  · obtain ⟨v, rfl, rv⟩ := ra.one
    split at h
    · split at h
      · cases h
        rename_i ys e1 _ ns e2
        obtain ⟨a, vs, rfl, h1, h2⟩ := lstOf_rep rl rv e1
        have := blsOf_rep h2 e2
        subst this
        exact ⟨a, ns, rfl, h1, q m H _ rl .refl (.bl _)⟩
      · cases h
    · cases h
  · cases h⟩
/-- tuple(..), list(..) of a list or a tuple -/
def nTuple : List D → M D
  | [.tup xs] => ret (.tup xs)
  | [d] => fun S => match lstOf S d with
    | some xs => some (.tup xs, S)
    | none => none
  | _ => fail
theorem c_tuple : DC X (.type "tuple") (fun xs H Q => ∃ p ys, xs = [.ref p] ∧ ((SqL X.K H p ys ∧ ∀ l, H l = none → Q (.ref l) (upd H l (.tup ys))) ∨ (SqT X.K H p ys ∧ Q (.ref p) H))) nTuple := ⟨call_tuple_of, fun m S H xs as rl ra d S' h Q q => by
  unfold nTuple at h
  split at h
  · obtain ⟨v, rfl, rv⟩ := ra.one
    cases h
    cases rv with
    | tup h1 h2 h3 => exact ⟨_, _, rfl, .inr ⟨h1, q m H _ rl .refl (.tup h1 h2 h3)⟩⟩
  · obtain ⟨v, rfl, rv⟩ := ra.one
    simp only at h
    split at h
    · cases h
      rename_i ys e1
      obtain ⟨a, vs, rfl, h1, h2⟩ := lstOf_rep rl rv e1
      refine ⟨_, _, rfl, .inl ⟨h1, fun p hp => ?_⟩⟩
      obtain ⟨a1, a2, a3⟩ := rl.tup hp h2
      exact q m _ _ a1 a2 a3
    · cases h
  · cases h⟩
def nList : List D → M D
  | [d] => fun S => match seqOf S d with
    | some xs => some (.ref S.length, S ++ [.lst xs])
    | none => none
  | _ => fail
theorem c_list : DC X (.type "list") (fun xs H Q => ∃ p ys, xs = [.ref p] ∧ (SqL X.K H p ys ∨ SqT X.K H p ys) ∧ ∀ l, H l = none → Q (.ref l) (upd H l (.lst ys))) nList := ⟨call_list_of, fun m S H xs as rl ra d S' h Q q => by
  unfold nList at h
  split at h
  · obtain ⟨v, rfl, rv⟩ := ra.one
    split at h
    · cases h
      rename_i ys e1
      obtain ⟨a, vs, rfl, h1, h2⟩ := seqOf_rep rl rv e1
      refine ⟨_, _, rfl, h1, fun p hp => ?_⟩
      obtain ⟨a1, a2, a3⟩ := rl.new hp (.lst h2)
      exact q _ _ _ a1 a2 a3
    · cases h
  · cases h⟩
/-! ### subscripts -/
structure DIx (X : Cx) (r : R2) (g : D → D → M D) : Prop where
  ix : IxR X r
  sr : SR2 X.K r g
/-- a list, a tuple, a text at an int -/
def ixD (a b : D) : M D := fun S => match b with
  | .int i => match a with
    | .str z => if z.length ≤ sizeLine then match atI z.cps.toList i with
        | some c => some (.str ⟨#[c]⟩, S)
        | none => none
      else none
    | _ => match seqOf S a with
      | some xs => match atI xs i with
        | some d => some (d, S)
        | none => none
      | none => none
  | _ => none
theorem Reps.atI {ds : List D} {vs : List V} {i : Int} {d : D} (h : Reps K m H ds vs) (e : L2.atI ds i = some d) : ∃ v, L2.atI vs i = some v ∧ Rep K m H d v := by
  unfold L2.atI at e ⊢
  rw [← h.length]
  cases e1 : ixN ds.length i with
  | none => rw [e1] at e; cases e
  | some j =>
    rw [e1] at e
    exact h.get e
theorem ix_sr : SR2 K (rIx K) ixD := fun m S H x y a b rl ra rb d S' h Q q => by
  have other : ∀ i, (match seqOf S a with
      | some xs => match atI xs i with
        | some d => some (d, S)
        | none => none
      | none => none) = some (d, S') → y = .int i → rIx K x y H Q := fun i h hy => by
    cases e : seqOf S a with
    | none => rw [e] at h; cases h
    | some xs =>
      rw [e] at h
      simp only at h
      cases e2 : atI xs i with
      | none => rw [e2] at h; cases h
      | some d' =>
        rw [e2] at h
        cases h
        obtain ⟨p, vs, rfl, h1, h2⟩ := seqOf_rep rl ra e
        obtain ⟨v, h3, h4⟩ := h2.atI e2
        rcases h1 with h1 | h1
        · exact .inl ⟨p, vs, i, v, rfl, hy, h1, h3, q m H v rl .refl h4⟩
        · exact .inr (.inl ⟨p, vs, i, v, rfl, hy, h1, h3, q m H v rl .refl h4⟩)
  unfold ixD at h
  split at h
  · cases rb
    split at h
    · split at h
      · split at h
        · cases h
          cases ra
          rename_i hz _ c e
          exact .inr (.inr ⟨_, _, c, rfl, rfl, hz, e, q m H _ rl .refl (.str _)⟩)
        · cases h
      · cases h
    · exact other _ h rfl
  · cases h
theorem ix_any : DIx X (rIx X.K) ixD := ⟨ix_seq, ix_sr⟩
theorem de_ix {a b : Expr} {pos : Pos} {g : D → D → M D} {fa fb : SEnv → M D} (hr : DIx X r g) (ha : DE X a ta fa) (hb : DE X b tb fb) (hs : PlainIx b := by exact fun _ _ => rfl) : DE X (.Subscript a b pos) (tOp r ta tb) (eOp g fa fb) := by
  obtain ⟨h1, h2⟩ := hr
  obtain ⟨h3, h4⟩ := ha
  obtain ⟨h5, h6⟩ := hb
  exact ⟨pe_ix h1 h3 h5 hs, se_op h2 h4 h6⟩
/-! ### slices -/
abbrev Rs := V → Option Int → Option Int → Hp → VK → Prop
structure DSl (X : Cx) (r : Rs) (g : D → Option Int → Option Int → M D) : Prop where
  sl : SlR X r
  sr : ∀ ⦃m : List Addr⦄ ⦃S : Store⦄ ⦃H : Hp⦄ ⦃x : V⦄ ⦃a : D⦄ ⦃lo hi : Option Int⦄, Rel X.K m S H → Rep X.K m H a x → ∀ d S', g a lo hi S = some (d, S') → ∀ Q : VK, Out X.K m H S' d Q → r x lo hi H Q
def cutD (xs : List D) (lo hi : Option Int) : List D := (xs.drop (HT.sIx xs.length 0 lo)).take (HT.sIx xs.length xs.length hi - HT.sIx xs.length 0 lo)
def slD (a : D) (lo hi : Option Int) : M D := fun S => match a with
  | .str z => if z.length ≤ sizeLine then some (.str (cutS z lo hi), S) else none
  | .tup xs => some (.tup (cutD xs lo hi), S)
  | .fl xs => some (.ref S.length, S ++ [.lst (cutD xs lo hi)])
  | .ref i => match S[i]? with
    | some (.lst xs) => some (.ref S.length, S ++ [.lst (cutD xs lo hi)])
    | _ => none
  | _ => none
theorem Reps.cut {ds : List D} {vs : List V} (h : Reps K m H ds vs) (lo hi : Option Int) : Reps K m H (cutD ds lo hi) (cutV vs lo hi) := by
  unfold cutD cutV
  rw [← h.length]
  exact (h.drop _).take _
theorem cut_whole {xs : List D} {lo hi : Option Int} (h : HT.sIx xs.length 0 lo = 0 ∧ HT.sIx xs.length xs.length hi = xs.length) : cutD xs lo hi = xs := by
  unfold cutD
  rw [h.1, h.2]
  exact List.take_length
def rSlX (K : PySem.W.Frag) : Rs := fun x lo hi H Q => rSlS x lo hi H Q ∨ (rSlA K x lo hi H Q ∨ rSlL K x lo hi H Q)
theorem sl_any : DSl X (rSlX X.K) slD := ⟨sl_str.or (sl_tupA.or sl_list), fun m S H x a lo hi rl ra d S' h Q q => by
  unfold slD at h
  split at h
  · split at h
    · cases h; cases ra
      rename_i c
      exact .inl ⟨_, rfl, c, q m H _ rl .refl (.str _)⟩
    · cases h
  · cases h
    cases ra with
    | tup h1 h2 h3 =>
      refine .inr (.inl ⟨_, _, rfl, h1, fun w => ?_, fun w p hp => ?_⟩)
      · rw [← h2.length] at w
        rw [cut_whole w] at q
        exact q m H _ rl .refl (.tup h1 h2 h3)
      · obtain ⟨a1, a2, a3⟩ := rl.tup hp (h2.cut lo hi)
        exact q m _ _ a1 a2 a3
  · cases h
    cases ra with
    | fl h1 h2 =>
      refine .inr (.inr ⟨_, _, rfl, h1.sq, fun p hp => ?_⟩)
      obtain ⟨a1, a2, a3⟩ := rl.new hp (.lst (h2.cut lo hi))
      exact q _ _ _ a1 a2 a3
  · split at h
    · cases h
      rename_i i _ xs e
      obtain ⟨p, vs, rfl, _, h2, h3⟩ := rl.sqL e ra
      refine .inr (.inr ⟨_, _, rfl, .inl (.inl h2), fun p hp => ?_⟩)
      obtain ⟨a1, a2, a3⟩ := rl.new hp (.lst (h3.cut lo hi))
      exact q _ _ _ a1 a2 a3
    · cases h
  · cases h⟩
/-- a slice's part -/
abbrev OutO (K : PySem.W.Frag) (m : List Addr) (H : Hp) (S' : Store) (o : Option Int) (Q : Option Int → Hp → Prop) : Prop := ∀ m' H', Rel K m' S' H' → Ext m H m' H' → Q o H'
structure DP (X : Cx) (e : Option Expr) (t : TO) (f : SEnv → M (Option Int)) : Prop where
  po : PO X e t
  so : ∀ ⦃m : List Addr⦄ ⦃S : Store⦄ ⦃H : Hp⦄ ⦃env : SEnv⦄ ⦃σ : L2.St⦄, Rel X.K m S H → RelE X.K m H env σ → ∀ o S', f env S = some (o, S') → ∀ Q : Option Int → Hp → Prop, OutO X.K m H S' o Q → t σ H Q
def pNo : SEnv → M (Option Int) := fun _ => ret none
def pSome (f : SEnv → M D) : SEnv → M (Option Int) := fun env => bnd (f env) fun d => match d with
  | .int i => ret (some i)
  | _ => fail
theorem dp_no : DP X none tNoPart pNo := ⟨po_none, fun m S H env σ rl re o S' h Q q => by
  cases h
  exact q m H rl .refl⟩
theorem dp_some {e : Expr} {f : SEnv → M D} (h : DE X e t f) : DP X (some e) (tPart t) (pSome f) := by
  obtain ⟨h1, h2⟩ := h
  refine ⟨po_some h1, fun m S H env σ rl re o S' h Q q => ?_⟩
  obtain ⟨d, S1, h3, h4⟩ := bnd_some h
  refine h2 rl re d S1 h3 _ fun m1 H1 v rl1 e1 rv => ?_
  cases d with
  | int i =>
    cases h4
    cases rv
    exact ⟨i, rfl, q m1 H1 rl1 e1⟩
  | _ => cases h4
def eSl (g : D → Option Int → Option Int → M D) (fa : SEnv → M D) (fl fh : SEnv → M (Option Int)) : SEnv → M D := fun env => bnd (fa env) fun a => bnd (fl env) fun lo => bnd (fh env) fun hi => g a lo hi
theorem de_slice {e : Expr} {lo hi : Option Expr} {pos p2 : Pos} {g : D → Option Int → Option Int → M D} {fa : SEnv → M D} {fl fh : SEnv → M (Option Int)} (hr : DSl X r g) (he : DE X e t fa) (hl : DP X lo tl fl) (hu : DP X hi th fh) :
    DE X (.Subscript e (.Slice lo hi none p2) pos) (tSl r t tl th) (eSl g fa fl fh) := by
  obtain ⟨h1, h2⟩ := hr
  obtain ⟨h3, h4⟩ := he
  obtain ⟨h5, h6⟩ := hl
  obtain ⟨h7, h8⟩ := hu
  refine ⟨pe_slice h1 h3 h5 h7, fun m S H env σ rl re d S' h Q q => ?_⟩
  obtain ⟨a, S1, k1, h⟩ := bnd_some h
  obtain ⟨l, S2, k2, h⟩ := bnd_some h
  obtain ⟨u, S3, k3, h⟩ := bnd_some h
  refine h4 rl re a S1 k1 _ fun m1 H1 v rl1 e1 rv => ?_
  refine h6 rl1 (re.mono rl e1) l S2 k2 _ fun m2 H2 rl2 e2 => ?_
  refine h8 rl2 (re.mono rl (e1.trans e2)) u S3 k3 _ fun m3 H3 rl3 e3 => ?_
  exact h2 rl3 (rv.mono rl1 (e2.trans e3)) d S' h Q fun m4 H4 w rl4 e4 rw' => q m4 H4 w rl4 (((e1.trans e2).trans e3).trans e4) rw'
/-! ### methods of what is built in -/
abbrev Rm := V → List V → Hp → VK → Prop
structure DM (X : Cx) (T id : String) (r : Rm) (g : D → List D → M D) : Prop where
  mt : MtR X id r
  sr : ∀ ⦃m : List Addr⦄ ⦃S : Store⦄ ⦃H : Hp⦄ ⦃x : V⦄ ⦃a : D⦄ ⦃xs : List V⦄ ⦃as : List D⦄, Rel X.K m S H → Rep X.K m H a x → Reps X.K m H as xs → ∀ d S', g a as S = some (d, S') → ∀ Q : VK, Out X.K m H S' d Q → r x xs H Q
/-- the receiver's type, ahead of the arguments -/
def tyM (T : String) (a : D) : M Unit := fun S => match a with
  | .str _ => if T = "str" then some ((), S) else none
  | .fl _ => if T = "list" then some ((), S) else none
  | .ref i => match S[i]? with
    | some (.lst _) => if T = "list" then some ((), S) else none
    | some (.dK _) => if T = "dict" then some ((), S) else none
    | some (.dT _) => if T = "dict" then some ((), S) else none
    | some (.ins _ _) => none
    | none => none
  | _ => none
theorem tyM_rep (rl : Rel K m S H) {T : String} {d : D} {v : V} (r : Rep K m H d v) (h : tyM T d S = some ((), S')) : S' = S ∧ tyV K T v H := by
  cases r with
  | str x =>
    unfold tyM at h
    simp only at h
    split at h
    · cases h; rename_i c; exact ⟨rfl, c⟩
    · cases h
  | fl h1 h2 =>
    unfold tyM at h
    simp only at h
    split at h
    · cases h; rename_i c; exact ⟨rfl, .inl ⟨c, _, h1.sq⟩⟩
    · cases h
  | @ref i a hi =>
    unfold tyM at h
    simp only at h
    cases e1 : S[i]? with
    | none => rw [e1] at h; cases h
    | some o =>
      rw [e1] at h
      obtain ⟨a', u, q1, q2, q3⟩ := rl.at e1
      rw [hi] at q1
      cases q1
      cases q3 with
      | lst _ =>
        simp only at h
        split at h
        · cases h; rename_i c; exact ⟨rfl, .inl ⟨c, _, .inl (.inl q2)⟩⟩
        · cases h
      | dK _ _ =>
        simp only at h
        split at h
        · cases h; rename_i c; exact ⟨rfl, .inr (.inr (.inl ⟨c, .inl ⟨_, q2⟩⟩))⟩
        · cases h
      | dT _ _ =>
        simp only at h
        split at h
        · cases h; rename_i c; exact ⟨rfl, .inr (.inr (.inl ⟨c, .inr ⟨_, q2⟩⟩))⟩
        · cases h
      | ins _ _ => cases h
  | _ => cases h
def eMt (T : String) (g : D → List D → M D) (fo : SEnv → M D) (fa : SEnv → M (List D)) : SEnv → M D := fun env => bnd (fo env) fun a => bnd (tyM T a) fun _ => bnd (fa env) fun as => g a as
section
variable {o e : Expr} {es : List Expr} {name : Str} {apos cpos : Pos} {T id : String} {g : D → List D → M D} {fo : SEnv → M D} {fa : SEnv → M (List D)}
theorem de_mt0 (hm : DM X T id r g) (pa : PlainAttrs T) (slot : Slot T name id) (hty : typeOf (.builtin id) = pure (.type "method_descriptor")) (ho : DE X o t fo)
    (hbase : attributeBase o name X.env (eval o X.env) = eval o X.env := by rfl) (hline : (apos.endLine == cpos.line) = true := by rfl) : DE X (.Call (.Attribute o name apos) [] [] cpos) (tBM0 X.K T r t) (eMt T g fo aNil) := by
  obtain ⟨h1, h2⟩ := hm
  obtain ⟨h3, h4⟩ := ho
  refine ⟨pe_bm0 pa slot hty h1 h3 hbase hline, fun m S H env σ rl re d S' h Q q => ?_⟩
  obtain ⟨a, S1, k1, h'⟩ := bnd_some h
  obtain ⟨_, S2, k2, h''⟩ := bnd_some h'
  obtain ⟨as, S3, k3, h'''⟩ := bnd_some h''
  cases k3
  refine h4 rl re a S1 k1 _ fun m1 H1 v rl1 e1 rv => ?_
  obtain ⟨rfl, ty⟩ := tyM_rep rl1 rv k2
  exact ⟨ty, h2 rl1 rv .nil d S' h''' Q fun m4 H4 w rl4 e4 rw' => q m4 H4 w rl4 (e1.trans e4) rw'⟩
theorem de_mt (hm : DM X T id r g) (pa : PlainAttrs T) (slot : Slot T name id) (hty : typeOf (.builtin id) = pure (.type "method_descriptor")) (ho : DE X o t fo) (ha : DA X (e :: es) u fa)
    (hbase : attributeBase o name X.env (eval o X.env) = eval o X.env := by rfl)
    (hfew : ((backTo cpos (starEach (e :: es) X.env)).all (fun x => !x.1) && (backToKw cpos (keywordEach [] X.env)).all (fun x => x.1.isSome)
      && decide ((e :: es).length + ([] : List Keyword).length + (if ([] : List Keyword).isEmpty then 0 else 1) < 30)) = true := by rfl)
    (hline : (apos.endLine == cpos.line) = true := by rfl) (hs : starEach (e :: es) X.env = (false, eval e X.env) :: starEach es X.env := by rfl) (hplain : (backTo cpos (starEach es X.env)).any (·.1) = false := by rfl) :
    DE X (.Call (.Attribute o name apos) (e :: es) [] cpos) (tBM X.K T r t u) (eMt T g fo fa) := by
  obtain ⟨h1, h2⟩ := hm
  obtain ⟨h3, h4⟩ := ho
  obtain ⟨h5, h6⟩ := ha
  refine ⟨pe_bm pa slot hty h1 h3 h5 hbase hfew hline hs hplain, fun m S H env σ rl re d S' h Q q => ?_⟩
  obtain ⟨a, S1, k1, h'⟩ := bnd_some h
  obtain ⟨_, S2, k2, h''⟩ := bnd_some h'
  obtain ⟨as, S3, k3, h'''⟩ := bnd_some h''
  refine h4 rl re a S1 k1 _ fun m1 H1 v rl1 e1 rv => ?_
  obtain ⟨rfl, ty⟩ := tyM_rep rl1 rv k2
  refine ⟨ty, h6 rl1 (re.mono rl e1) as S3 k3 _ fun m2 H2 vs rl2 e2 rvs => ?_⟩
  exact h2 rl2 (rv.mono rl1 e2) rvs d S' h''' Q fun m4 H4 w rl4 e4 rw' => q m4 H4 w rl4 ((e1.trans e2).trans e4) rw'
end
def mAppend (a : D) (as : List D) : M D := fun S => match a, as with
  | .ref i, [d] => match S[i]? with
    | some (.lst xs) => if xs.length < sizeLine then some (.non, S.set i (.lst (xs ++ [d]))) else none
    | _ => none
  | _, _ => none
theorem m_append : DM X "list" "list.append" rAppend mAppend := ⟨mt_append, fun m S H x a xs as rl ra ras d S' h Q q => by
  unfold mAppend at h
  split at h
  · split at h
    · split at h
      · cases h
        rename_i i d' _ ys e c
        obtain ⟨v, rfl, rv⟩ := ras.one
        obtain ⟨p, vs, rfl, hp, h2, h3⟩ := rl.sqL e ra
        obtain ⟨a1, a2⟩ := rl.set hp (.lst (h3.snoc rv))
        exact ⟨p, vs, v, rfl, rfl, h2, by rw [← h3.length]; exact c, q m _ _ a1 a2 .non⟩
      · cases h
    · cases h
  · cases h⟩
def mIndexS (a : D) (as : List D) : M D := fun S => match a, as with
  | .str x, [.str y] => match Builtin.Str.occurrences x y 0 x.length 1 with
    | i :: _ => some (.int (i : Nat), S)
    | [] => none
  | _, _ => none
theorem m_indexS : DM X "str" "str.index" (fun x xs H Q => ∃ a b i rest, x = .str a ∧ xs = [.str b] ∧ Builtin.Str.occurrences a b 0 a.length 1 = i :: rest ∧ Q (.int (i : Nat)) H) mIndexS := ⟨mt_sindex, fun m S H x a xs as rl ra ras d S' h Q q => by
  unfold mIndexS at h
  split at h
  · split at h
    · cases h
      rename_i x' y' _ i r e
      obtain ⟨v, rfl, rv⟩ := ras.one
      cases ra
      cases rv
      exact ⟨_, _, i, r, rfl, rfl, e, q m H _ rl .refl (.int _)⟩
    · cases h
  · cases h⟩
end
end TS
set_option Elab.async false
set_option linter.all false
set_option maxRecDepth 100000
namespace TS
open PySem PySem.Spec PyProof.Rows L2
inductive Fl where
  | nx | rt (d : D) | bk | ct
def Fin (K : PySem.W.Frag) (m : List Addr) (H : Hp) (S' : Store) (fl : Fl) (env' : SEnv) (D : Ends) : Prop := match fl with
  | .nx => ∀ m' H' σ', Rel K m' S' H' → Ext m H m' H' → RelE K m' H' env' σ' → D.nx σ' H'
  | .bk => ∀ m' H' σ', Rel K m' S' H' → Ext m H m' H' → RelE K m' H' env' σ' → D.bk σ' H'
  | .ct => ∀ m' H' σ', Rel K m' S' H' → Ext m H m' H' → RelE K m' H' env' σ' → D.ct σ' H'
  | .rt d => ∀ m' H' v, Rel K m' S' H' → Ext m H m' H' → Rep K m' H' d v → D.rt v H'
def SS (K : PySem.W.Frag) (t : TS) (f : SEnv → M (Fl × SEnv)) : Prop := ∀ ⦃m : List Addr⦄ ⦃S : Store⦄ ⦃H : Hp⦄ ⦃env : SEnv⦄ ⦃σ : L2.St⦄, Rel K m S H → RelE K m H env σ → ∀ fl env' S', f env S = some ((fl, env'), S') → ∀ D : Ends, Fin K m H S' fl env' D → t D σ H
structure DS (X : Cx) (st : Stmt) (t : TS) (f : SEnv → M (Fl × SEnv)) : Prop where
  ps : PS X st t
  ss : SS X.K t f
structure DSs (X : Cx) (sts : List Stmt) (t : TS) (f : SEnv → M (Fl × SEnv)) : Prop where
  ps : PSs X sts t
  ss : SS X.K t f
/-- which slots may have changed -/
def Off (ws : List Nat) (σ σ' : L2.St) : Prop := σ'.length = σ.length ∧ ∀ i, i ∉ ws → σ'[i]? = σ[i]?
theorem Off.refl {ws : List Nat} {σ : L2.St} : Off ws σ σ := ⟨rfl, fun _ _ => rfl⟩
theorem wipe_at : ∀ (σ : L2.St) (vs : List Nat) (i : Nat), (wipe σ vs)[i]? = if i ∈ vs ∧ i < σ.length then some none else σ[i]?
  | σ, [], i => by simp [wipe]
  | σ, v :: vs, i => by
    show ((wipe σ vs).set v none)[i]? = _
    rw [List.getElem?_set, wipe_length, wipe_at σ vs i]
    by_cases h : v = i
    · subst h
      by_cases hl : v < σ.length
      · simp [hl]
      · simp [hl]
    · have h' : ¬ i = v := fun z => h z.symm
      simp [h, h', List.mem_cons]
theorem Off.wipe {ws : List Nat} {σ σ' : L2.St} (h : Off ws σ σ') : L2.wipe σ' ws = L2.wipe σ ws := by
  apply List.ext_getElem?
  intro i
  rw [wipe_at, wipe_at, h.1]
  by_cases hi : i ∈ ws
  · by_cases hl : i < σ.length
    · simp [hi, hl]
    · rw [if_neg (by simp [hl]), if_neg (by simp [hl]), List.getElem?_eq_none (by rw [h.1]; omega), List.getElem?_eq_none (by omega)]
  · rw [if_neg (by simp [hi]), if_neg (by simp [hi]), h.2 i hi]
theorem wipe_wipe (σ : L2.St) (ws : List Nat) : L2.wipe (L2.wipe σ ws) ws = L2.wipe σ ws := by
  apply List.ext_getElem?
  intro i
  rw [wipe_at, wipe_at, wipe_length]
  by_cases hi : i ∈ ws ∧ i < σ.length
  · simp [hi]
  · simp [hi]
structure DG (X : Cx) (tg : Expr) (ws : List Nat) (t : TG) (f : D → SEnv → M SEnv) : Prop where
  pg : PG X tg t
  sg : ∀ ⦃m : List Addr⦄ ⦃S : Store⦄ ⦃H : Hp⦄ ⦃env : SEnv⦄ ⦃σ : L2.St⦄ ⦃d : D⦄ ⦃v : V⦄, Rel X.K m S H → RelE X.K m H env σ → Rep X.K m H d v → ∀ env' S', f d env S = some (env', S') →
    ∀ Q : L2.St → Hp → Prop, (∀ m' H' σ', Rel X.K m' S' H' → Ext m H m' H' → RelE X.K m' H' env' σ' → Off ws σ σ' → Q σ' H') → t v σ H Q
structure DGs (X : Cx) (tgs : List Expr) (ws : List Nat) (t : TGs) (f : List D → SEnv → M SEnv) : Prop where
  pg : PGs X tgs t
  sg : ∀ ⦃m : List Addr⦄ ⦃S : Store⦄ ⦃H : Hp⦄ ⦃env : SEnv⦄ ⦃σ : L2.St⦄ ⦃ds : List D⦄ ⦃vs : List V⦄, Rel X.K m S H → RelE X.K m H env σ → Reps X.K m H ds vs → ∀ env' S', f ds env S = some (env', S') →
    ∀ Q : L2.St → Hp → Prop, (∀ m' H' σ', Rel X.K m' S' H' → Ext m H m' H' → RelE X.K m' H' env' σ' → Off ws σ σ' → Q σ' H') → t vs σ H Q
section
variable {X : Cx} {K : PySem.W.Frag} {m m' m2 m1 : List Addr} {S S' S2 : Store} {H H' H2 H1 : Hp} {env env' : SEnv} {σ : L2.St} {pos : Pos} {fl : Fl}
theorem Fin.mono {En : Ends} (e : Ext m H m1 H1) (h : Fin K m H S' fl env' En) : Fin K m1 H1 S' fl env' En := by
  cases fl <;> exact fun m' H' x r f q => h m' H' x r (e.trans f) q
/-! ### blocks -/
def sNx : SEnv → M (Fl × SEnv) := fun env => ret (.nx, env)
def sSeq (f g : SEnv → M (Fl × SEnv)) : SEnv → M (Fl × SEnv) := fun env => bnd (f env) fun r => match r.1 with
  | .nx => g r.2
  | _ => ret r
theorem dss_nil : DSs X [] tNext sNx := ⟨pss_nil, fun m S H env σ rl re fl env' S' h D q => by
  cases h
  exact q m H σ rl .refl re⟩
theorem dss_cons {st : Stmt} {rest : List Stmt} {t u : TS} {f g : SEnv → M (Fl × SEnv)} (h1 : DS X st t f) (h2 : DSs X rest u g) : DSs X (st :: rest) (tSeq t u) (sSeq f g) := ⟨pss_cons h1.ps h2.ps, fun m S H env σ rl re fl env' S' h D q => by
  obtain ⟨⟨fl1, env1⟩, S1, e1, h'⟩ := bnd_some h
  refine h1.ss rl re fl1 env1 S1 e1 _ ?_
  cases fl1 with
  | nx => exact fun m1 H1 σ1 rl1 x1 re1 => h2.ss rl1 re1 fl env' S' h' D (q.mono x1)
  | rt d => cases h'; exact q
  | bk => cases h'; exact q
  | ct => cases h'; exact q⟩
theorem dss_one {st : Stmt} {t : TS} {f : SEnv → M (Fl × SEnv)} (h1 : DS X st t f) : DSs X [st] t f := ⟨pss_one h1.ps, h1.ss⟩
/-! ### plain statements -/
def sDrop (f : SEnv → M D) : SEnv → M (Fl × SEnv) := fun env => bnd (f env) fun _ => ret (.nx, env)
def sRet (f : SEnv → M D) : SEnv → M (Fl × SEnv) := fun env => bnd (f env) fun d => ret (.rt d, env)
def sRetN : SEnv → M (Fl × SEnv) := fun env => ret (.rt .non, env)
def sBrk : SEnv → M (Fl × SEnv) := fun env => ret (.bk, env)
def sCnt : SEnv → M (Fl × SEnv) := fun env => ret (.ct, env)
def sIf (c : SEnv → M Bool) (f g : SEnv → M (Fl × SEnv)) : SEnv → M (Fl × SEnv) := fun env => bnd (c env) fun b => if b then f env else g env
def sFail : SEnv → M (Fl × SEnv) := fun _ => fail
theorem ds_expr {e : Expr} {te : TE} {f : SEnv → M D} (h : DE X e te f) (hs : swapsWith e none pos.line X.env = pure false := by rfl) : DS X (.Expr e pos) (tDrop te) (sDrop f) := ⟨ps_expr h.pe hs, fun m S H env σ rl re fl env' S' hh D q => by
  obtain ⟨d, S1, e1, h'⟩ := bnd_some hh
  cases h'
  exact h.se rl re d _ e1 _ fun m1 H1 v rl1 x1 _ => q m1 H1 σ rl1 x1 (re.mono rl x1)⟩
theorem ds_ret {e : Expr} {te : TE} {f : SEnv → M D} (h : DE X e te f) : DS X (.Return (some e) pos) (tRet te) (sRet f) := ⟨ps_ret h.pe, fun m S H env σ rl re fl env' S' hh D q => by
  obtain ⟨d, S1, e1, h'⟩ := bnd_some hh
  cases h'
  exact h.se rl re d _ e1 _ fun m1 H1 v rl1 x1 rv => q m1 H1 v rl1 x1 rv⟩
theorem ds_retN : DS X (.Return none pos) tRetN sRetN := ⟨ps_retN, fun m S H env σ rl re fl env' S' hh D q => by
  cases hh
  exact q m H _ rl .refl .non⟩
theorem ds_pass : DS X (.Pass pos) tNext sNx := ⟨ps_pass, dss_nil.ss⟩
theorem ds_doc {x j pos'} : DS X (.Expr (.Constant (.str x) j pos) pos') tNext sNx := ⟨ps_doc, dss_nil.ss⟩
theorem ds_break : DS X (.Break pos) tBreak sBrk := ⟨ps_break, fun m S H env σ rl re fl env' S' hh D q => by
  cases hh
  exact q m H σ rl .refl re⟩
theorem ds_continue : DS X (.Continue pos) tCont sCnt := ⟨ps_continue, fun m S H env σ rl re fl env' S' hh D q => by
  cases hh
  exact q m H σ rl .refl re⟩
theorem ds_if {c : Expr} {a b : List Stmt} {tc : TT} {t u : TS} {fc : SEnv → M Bool} {f g : SEnv → M (Fl × SEnv)} (hc : DT X c tc fc) (ha : DSs X a t f) (hb : DSs X b u g) : DS X (.If c a b pos) (tIfS tc t u) (sIf fc f g) := ⟨ps_if hc.pt ha.ps hb.ps, fun m S H env σ rl re fl env' S' h D q => by
  obtain ⟨b, S1, e1, h'⟩ := bnd_some h
  refine hc.st rl re b S1 e1 _ fun m1 H1 rl1 x1 => ?_
  cases b with
  | true => exact iteT (ha.ss rl1 (re.mono rl x1) fl env' S' h' D (q.mono x1))
  | false => exact iteF (hb.ss rl1 (re.mono rl x1) fl env' S' h' D (q.mono x1))⟩
theorem ds_never {st : Stmt} : DS X st tNever sFail := ⟨ps_never, fun m S H env σ rl re fl env' S' h D q => by cases h⟩
/-! ### targets -/
def gN (i : Nat) : D → SEnv → M SEnv := fun d env => ret (env.set i (some d))
theorem dg_name (i : Nat) {x : Str} (hN : X.N.Nodup) (hi : X.N[i]? = some x := by rfl) (hx : Loc X.env.scope x := by first | exact Or.inl rfl | exact Or.inr rfl) (hf : X.fn x = true ∨ X.env.scope.names.lookup x = some .local := by first | exact .inl rfl | exact .inr rfl | assumption) : DG X (.Name x pos) [i] (gName i) (gN i) :=
  ⟨pg_name hN hi hx hf, fun m S H env σ d v rl re rv env' S' h Q q => by
    cases h
    exact q m H _ rl .refl (re.set rv) ⟨by rw [List.length_set], fun j hj => List.getElem?_set_ne (fun z => hj (by rw [z]; exact List.mem_singleton.mpr rfl))⟩⟩
def gsNil : List D → SEnv → M SEnv := fun ds env => match ds with
  | [] => ret env
  | _ => fail
def gsCons (f : D → SEnv → M SEnv) (g : List D → SEnv → M SEnv) : List D → SEnv → M SEnv := fun ds env => match ds with
  | d :: r => bnd (f d env) (g r)
  | [] => fail
theorem dgs_nil : DGs X [] [] gNil gsNil := ⟨pgs_nil, fun m S H env σ ds vs rl re rv env' S' h Q q => by
  cases rv with
  | nil =>
    cases h
    exact ⟨rfl, q m H σ rl .refl re .refl⟩
  | cons _ _ => cases h⟩
theorem Off.trans {ws us : List Nat} {σ σ1 σ2 : L2.St} (a : Off ws σ σ1) (b : Off us σ1 σ2) : Off (ws ++ us) σ σ2 := ⟨b.1.trans a.1, fun i hi => (b.2 i (fun z => hi (List.mem_append_right _ z))).trans (a.2 i (fun z => hi (List.mem_append_left _ z)))⟩
theorem dgs_cons {e : Expr} {es : List Expr} {ws us : List Nat} {t : TG} {u : TGs} {f : D → SEnv → M SEnv} {g : List D → SEnv → M SEnv} (h1 : DG X e ws t f) (h2 : DGs X es us u g)
    (hs : (assignEach (e :: es) X.env).map (·.2) = assign e X.env :: (assignEach es X.env).map (·.2) := by rfl) : DGs X (e :: es) (ws ++ us) (gCons t u) (gsCons f g) := ⟨pgs_cons h1.pg h2.pg hs, fun m S H env σ ds vs rl re rv env' S' h Q q => by
  cases rv with
  | nil => cases h
  | cons r rs =>
    obtain ⟨env1, S1, e1, h'⟩ := bnd_some h
    refine ⟨_, _, rfl, h1.sg rl re r env1 S1 e1 _ fun m1 H1 σ1 rl1 x1 re1 o1 => ?_⟩
    exact h2.sg rl1 re1 (rs.mono rl x1) env' S' h' Q fun m2 H2 σ2 rl2 x2 re2 o2 => q m2 H2 σ2 rl2 (x1.trans x2) re2 (o1.trans o2)⟩
/-- a, b = a tuple -/
def gTupM (n : Nat) (f : List D → SEnv → M SEnv) : TS.D → SEnv → M SEnv := fun d env => match d with
  | .tup ds => if ds.length = n then f ds env else fail
  | _ => fail
theorem dg_tup {es : List Expr} {k : Nat} {ws : List Nat} {t : TGs} {n : Nat} {f : List TS.D → SEnv → M SEnv} (hc : X.calm = true) (h : DGs X es ws t f)
    (hn : (assignEach es X.env).length = n := by rfl) (hst : (assignEach es X.env).findIdx? (·.1) = none := by rfl) : DG X (.Tuple es k pos) ws (gTup X.K n t) (gTupM n f) := ⟨pg_tup hc h.pg hn hst, fun m S H env σ d v rl re rv env' S' hh Q q => by
  cases rv with
  | tup h1 h2 =>
    unfold gTupM at hh
    simp only at hh
    split at hh
    · rename_i c
      exact ⟨_, _, rfl, h1, by rw [← h2.length]; exact c, h.sg rl re h2 env' S' hh Q q⟩
    · cases hh
  | _ => cases hh⟩
/-- xs[i] = v -/
def gSubM (g : TS.D → TS.D → TS.D → M Unit) (fo fi : SEnv → M TS.D) : TS.D → SEnv → M SEnv := fun d env => bnd (fo env) fun o => bnd (fi env) fun i => bnd (g o i d) fun _ => ret env
structure DSet (X : Cx) (t : TSet) (g : TS.D → TS.D → TS.D → M Unit) : Prop where
  ps : PSet X t
  sr : ∀ ⦃m : List Addr⦄ ⦃S : Store⦄ ⦃H : Hp⦄ ⦃o i v : V⦄ ⦃a b d : TS.D⦄, Rel X.K m S H → Rep X.K m H a o → Rep X.K m H b i → Rep X.K m H d v → ∀ S', g a b d S = some ((), S') → ∀ Q : Hp → Prop, (∀ m' H', Rel X.K m' S' H' → Ext m H m' H' → Q H') → t o i v H Q
theorem dg_sub {o i : Expr} {to ti : TE} {t : TSet} {g : TS.D → TS.D → TS.D → M Unit} {fo fi : SEnv → M TS.D} (ho : DE X o to fo) (hi : DE X i ti fi) (hs : DSet X t g)
    (ha : ∀ v, assign (.Subscript o i pos) X.env v = (do
      let ov ← holding [v] (eval o X.env)
      let iv ← holding [v, ov] (eval i X.env)
      standAt pos
      holding [v, ov, iv] (setItem ov iv v)
      release [v, ov, iv] []) := by intro _; rfl) : DG X (.Subscript o i pos) [] (gSub to ti t) (gSubM g fo fi) := ⟨pg_sub ho.pe hi.pe hs.ps ha, fun m S H env σ d v rl re rv env' S' h Q q => by
  obtain ⟨a, S1, e1, h1⟩ := bnd_some h
  obtain ⟨b, S2, e2, h2⟩ := bnd_some h1
  obtain ⟨_, S3, e3, h3⟩ := bnd_some h2
  cases h3
  refine ho.se rl re a S1 e1 _ fun m1 H1 x rl1 x1 ra => ?_
  refine hi.se rl1 (re.mono rl x1) b S2 e2 _ fun m2 H2 y rl2 x2 rb => ?_
  refine hs.sr rl2 (ra.mono rl1 x2) rb (rv.mono rl (x1.trans x2)) _ e3 _ fun m3 H3 rl3 x3 => ?_
  exact q m3 H3 σ rl3 ((x1.trans x2).trans x3) (re.mono rl ((x1.trans x2).trans x3)) .refl⟩
def setLM (a b d : TS.D) : M Unit := fun S => match a, b with
  | .ref r, .int k => match S[r]? with
    | some (.lst xs) => match ixN xs.length k with
      | some j => some ((), S.set r (.lst (xs.set j d)))
      | none => none
    | _ => none
  | _, _ => none
theorem set_l : DSet X rSetL setLM := ⟨set_list, fun m S H o i v a b d rl ra rb rd S' h Q q => by
  unfold setLM at h
  split at h
  · split at h
    · split at h
      · cases h
        rename_i r k _ xs e _ j e2
        obtain ⟨p, vs, rfl, hp, h2, h3⟩ := rl.sqL e ra
        cases rb
        obtain ⟨a1, a2⟩ := rl.set hp (.lst (h3.set rd j))
        exact ⟨p, vs, k, j, rfl, rfl, h2, by rw [← h3.length]; exact e2, q _ _ a1 a2⟩
      · cases h
    · cases h
  · cases h⟩
/-! ### assignments -/
def sAsg (f : SEnv → M TS.D) (g : TS.D → SEnv → M SEnv) : SEnv → M (Fl × SEnv) := fun env => bnd (f env) fun d => bnd (g d env) fun env' => ret (.nx, env')
theorem ss_asg {te : TE} {f : SEnv → M TS.D} {tg : Expr} {ws : List Nat} {t : TG} {g : TS.D → SEnv → M SEnv} (h : SE X.K te f) (hg : DG X tg ws t g) : SS X.K (tAsg te t) (sAsg f g) := fun m S H env σ rl re fl env' S' hh D q => by
  obtain ⟨d, S1, e1, h1⟩ := bnd_some hh
  obtain ⟨env1, S2, e2, h2⟩ := bnd_some h1
  cases h2
  refine h rl re d S1 e1 _ fun m1 H1 v rl1 x1 rv => ?_
  exact hg.sg rl1 (re.mono rl x1) rv _ _ e2 _ fun m2 H2 σ2 rl2 x2 re2 _ => q m2 H2 σ2 rl2 (x1.trans x2) re2
theorem ds_set (i : Nat) {x : Str} {e : Expr} {te : TE} {f : SEnv → M TS.D} {pos' : Pos} (hN : X.N.Nodup) (he : DE X e te f) (hi : X.N[i]? = some x := by rfl) (hx : Loc X.env.scope x := by first | exact Or.inl rfl | exact Or.inr rfl) (hs : swapsWith e (some (.Name x pos')) pos.line X.env = pure false := by rfl) (hf : X.fn x = true ∨ X.env.scope.names.lookup x = some .local := by first | exact .inl rfl | exact .inr rfl | assumption) :
    DS X (.Assign [.Name x pos'] e pos) (tAsg te (gName i)) (sAsg f (gN i)) := ⟨ps_set hN hi hx he.pe hs hf, ss_asg he.se (dg_name (pos := pos') i hN hi hx hf)⟩
theorem ds_asg {tg e : Expr} {te : TE} {f : SEnv → M TS.D} {ws : List Nat} {g : TG} {fg : TS.D → SEnv → M SEnv} (he : DE X e te f) (hg : DG X tg ws g fg) (hs : swapsWithSole [tg] e pos.line X.env = pure false := by rfl) (hw : swappedStores [tg] e X.env = pure none := by rfl)
    (h1 : (assignEach [tg] X.env).map (·.2) = [assign tg X.env] := by rfl) : DS X (.Assign [tg] e pos) (tAsg te g) (sAsg f fg) := ⟨ps_asg he.pe hg.pg hs hw h1, ss_asg he.se hg⟩
/-- name op= e -/
def sAug (i : Nat) (f : SEnv → M TS.D) (g : TS.D → TS.D → M TS.D) : SEnv → M (Fl × SEnv) := fun env => bnd (eVar i env) fun a => bnd (f env) fun b => bnd (g a b) fun d => ret (.nx, env.set i (some d))
theorem ds_aug (i : Nat) {x : Str} {e : Expr} {te : TE} {f : SEnv → M TS.D} {op : Operator} {r : R2} {g : TS.D → TS.D → M TS.D} {pos' : Pos} (hN : X.N.Nodup) (he : DE X e te f) (ho : DO2 X (inplaceOp op) r g) (hi : X.N[i]? = some x := by rfl) (hx : Loc X.env.scope x := by first | exact Or.inl rfl | exact Or.inr rfl) (hf : X.fn x = true ∨ X.env.scope.names.lookup x = some .local := by first | exact .inl rfl | exact .inr rfl | assumption) :
    DS X (.AugAssign (.Name x pos') op e pos) (tAug i te r) (sAug i f g) := ⟨ps_aug hN hi hx he.pe ho.op hf, fun m S H env σ rl re fl env' S' hh D q => by
  obtain ⟨a, S1, e1, h1⟩ := bnd_some hh
  obtain ⟨b, S2, e2, h2⟩ := bnd_some h1
  obtain ⟨d, S3, e3, h3⟩ := bnd_some h2
  cases h3
  unfold eVar at e1
  cases e : env[i]? with
  | none => rw [e] at e1; cases e1
  | some o =>
    cases o with
    | none => rw [e] at e1; cases e1
    | some d' =>
      rw [e] at e1
      cases e1
      obtain ⟨v, q1, q2⟩ := re.get i _ e
      refine ⟨v, q1, he.se rl re b S2 e2 _ fun m1 H1 y rl1 x1 rb => ?_⟩
      refine ho.sr rl1 (q2.mono rl x1) rb d _ e3 _ fun m2 H2 z rl2 x2 rd => ?_
      exact q m2 H2 _ rl2 (x1.trans x2) ((re.mono rl (x1.trans x2)).set rd)⟩
/-! ### what is walked -/
abbrev Gd := List (Nat × List TS.D)
def gdOk (S : Store) (g : Gd) : Prop := ∀ p ∈ g, S[p.1]? = some (.lst p.2)
theorem gdOk_nil (S : Store) : gdOk S [] := fun _ h => nomatch h
def WalkD (K : PySem.W.Frag) (m : List Addr) (H : Hp) (J : It) (xs : List TS.D) (g : Gd) : Prop :=
  Walk J xs.length (fun H2 => ∃ m2 S2, Rel K m2 S2 H2 ∧ Ext m H m2 H2 ∧ gdOk S2 g)
    (fun i H2 x H3 => ∀ m2 S2, Rel K m2 S2 H2 → Ext m H m2 H2 → gdOk S2 g → ∃ d, xs[i]? = some d ∧ Rel K m2 S2 H3 ∧ Ext m2 H2 m2 H3 ∧ Rep K m2 H3 d x)
structure DI (X : Cx) (tg e : Expr) (t : TI) (f : SEnv → M (List TS.D × Gd)) : Prop where
  pi : PI X tg e t
  si : ∀ ⦃m : List Addr⦄ ⦃S : Store⦄ ⦃H : Hp⦄ ⦃env : SEnv⦄ ⦃σ : L2.St⦄, Rel X.K m S H → RelE X.K m H env σ → ∀ xs g S', f env S = some ((xs, g), S') → ∀ R : It → Hp → Prop, (∀ m' H' J, Rel X.K m' S' H' → Ext m H m' H' → WalkD X.K m' H' J xs g → R J H') → t σ H R
open Classical in
noncomputable def gdM {α : Type} (g : Gd) (k : M α) : M α := fun S => if gdOk S g then k S else none
theorem gdM_some {α : Type} {g : Gd} {k : M α} {r : α × Store} (h : gdM g k S = some r) : gdOk S g ∧ k S = some r := by
  unfold gdM at h
  split at h
  · exact ⟨by assumption, h⟩
  · cases h
theorem gdM_nil {α : Type} {k : M α} : gdM [] k = k := by
  funext S
  unfold gdM
  rw [if_pos (gdOk_nil S)]
noncomputable def loopM (g : Gd) (tgt : TS.D → SEnv → M SEnv) (body : SEnv → M (Fl × SEnv)) : List TS.D → SEnv → M (Fl × SEnv)
  | [], env => gdM g (ret (.nx, env))
  | x :: xs, env => gdM g (bnd (tgt x env) fun env1 => bnd (body env1) fun r => match r.1 with
    | .nx => loopM g tgt body xs r.2
    | .ct => loopM g tgt body xs r.2
    | .bk => ret (.nx, r.2)
    | .rt d => ret (.rt d, r.2))
noncomputable def sFor (fi : SEnv → M (List TS.D × Gd)) (tgt : TS.D → SEnv → M SEnv) (body : SEnv → M (Fl × SEnv)) : SEnv → M (Fl × SEnv) := fun env => bnd (fi env) fun p => loopM p.2 tgt body p.1 env
theorem drop_at {α : Type} {xs : List α} {i : Nat} {d : α} (h : xs[i]? = some d) : xs.drop i = d :: xs.drop (i + 1) := by
  obtain ⟨hl, e⟩ := List.getElem?_eq_some_iff.mp h
  rw [List.drop_eq_getElem_cons hl, e]
theorem ds_for {tg iter : Expr} {body : List Stmt} {wi : TI} {ws : List Nat} {g : TG} {tb : TS} {fi : SEnv → M (List TS.D × Gd)} {fg : TS.D → SEnv → M SEnv} {fb : SEnv → M (Fl × SEnv)} (hp : PassesOwn (model X.prog X.w) X.A X.env X.xe) (hc : X.calm = true) (hi : DI X tg iter wi fi) (hg : DG X tg ws g fg) (hb : DSs X body tb fb)
    (hs : ∀ x, foldedSetIterable iter X.env x = pure x := by intro _; rfl) : DS X (.For tg iter body [] pos) (tFor wi g tb) (sFor fi fg fb) := ⟨ps_for hp hc hi.pi hg.pg hb.ps hs, fun m S H env σ rl re fl env' S' hh D q => by
  obtain ⟨⟨xs, gd⟩, S1, e1, h1⟩ := bnd_some hh
  refine hi.si rl re xs gd S1 e1 _ fun m1 H1 J rl1 x1 w => ?_
  refine for_it w (fun i σ2 H2 => ∃ m2 S2 env2, Rel X.K m2 S2 H2 ∧ Ext m1 H1 m2 H2 ∧ RelE X.K m2 H2 env2 σ2 ∧ loopM gd fg fb (xs.drop i) env2 S2 = some ((fl, env'), S')) ⟨m1, S1, env, rl1, .refl, re.mono rl x1, h1⟩ ?_ ?_ ?_
  · rintro i σ2 H2 hl ⟨m2, S2, env2, rl2, x2, re2, h2⟩
    refine ⟨m2, S2, rl2, x2, ?_⟩
    cases e : xs.drop i with
    | nil => rw [e] at h2; exact (gdM_some h2).1
    | cons y ys => rw [e] at h2; exact (gdM_some h2).1
  · rintro i x σ2 H2 H3 hl ⟨m2, S2, env2, rl2, x2, re2, h2⟩ hy
    have hgd : gdOk S2 gd := by
      cases e : xs.drop i with
      | nil => rw [e] at h2; exact (gdM_some h2).1
      | cons y ys => rw [e] at h2; exact (gdM_some h2).1
    obtain ⟨d, hd, rl3, x3, rd⟩ := hy m2 S2 rl2 x2 hgd
    rw [drop_at hd] at h2
    have h3 := (gdM_some h2).2
    obtain ⟨env3, S4, e4, h4⟩ := bnd_some h3
    obtain ⟨⟨fl5, env5⟩, S5, e5, h5⟩ := bnd_some h4
    refine hg.sg rl3 (re2.mono rl2 x3) rd env3 S4 e4 _ fun m4 H4 σ4 rl4 x4 re4 _ => ?_
    have x24 := x3.trans x4
    refine hb.ss rl4 re4 fl5 env5 S5 e5 _ ?_
    cases fl5 with
    | nx => exact fun m6 H6 σ6 rl6 x6 re6 => ⟨m6, S5, env5, rl6, (x2.trans x24).trans x6, re6, h5⟩
    | ct => exact fun m6 H6 σ6 rl6 x6 re6 => ⟨m6, S5, env5, rl6, (x2.trans x24).trans x6, re6, h5⟩
    | bk =>
      cases h5
      exact fun m6 H6 σ6 rl6 x6 re6 => q m6 H6 σ6 rl6 (x1.trans ((x2.trans x24).trans x6)) re6
    | rt d =>
      cases h5
      exact fun m6 H6 v rl6 x6 rv => q m6 H6 v rl6 (x1.trans ((x2.trans x24).trans x6)) rv
  · rintro σ2 H2 ⟨m2, S2, env2, rl2, x2, re2, h2⟩
    rw [List.drop_length] at h2
    cases (gdM_some h2).2
    exact q m2 H2 σ2 rl2 (x1.trans x2) re2⟩
/-! ### while -/
def whileM (c : SEnv → M Bool) (b : SEnv → M (Fl × SEnv)) : Nat → SEnv → M (Fl × SEnv)
  | 0, _ => fail
  | n + 1, env => bnd (c env) fun k => if k then bnd (b env) fun r => match r.1 with
      | .nx => whileM c b n r.2
      | .ct => whileM c b n r.2
      | .bk => ret (.nx, r.2)
      | .rt d => ret (.rt d, r.2)
    else ret (.nx, env)
def sWhile (n : SEnv → Store → Nat) (c : SEnv → M Bool) (b : SEnv → M (Fl × SEnv)) : SEnv → M (Fl × SEnv) := fun env S => whileM c b (n env S) env S
theorem ds_while (n : SEnv → Store → Nat) {c : Expr} {body : List Stmt} {tc : TT} {tb : TS} {fc : SEnv → M Bool} {fb : SEnv → M (Fl × SEnv)} (hp : PassesOwn (model X.prog X.w) X.A X.env X.xe) (hc : DT X c tc fc) (hb : DSs X body tb fb) : DS X (.While c body [] pos) (tWhile tc tb) (sWhile n fc fb) := ⟨ps_while hp hc.pt hb.ps, fun m S H env σ rl re fl env' S' hh D q => by
  refine ⟨fun k σ2 H2 => ∃ m2 S2 env2, Rel X.K m2 S2 H2 ∧ Ext m H m2 H2 ∧ RelE X.K m2 H2 env2 σ2 ∧ whileM fc fb k env2 S2 = some ((fl, env'), S'), ⟨n env S, m, S, env, rl, .refl, re, hh⟩, ?_⟩
  rintro k σ2 H2 ⟨m2, S2, env2, rl2, x2, re2, h2⟩
  cases k with
  | zero => cases h2
  | succ k =>
    obtain ⟨b, S3, e3, h3⟩ := bnd_some h2
    refine hc.st rl2 re2 b S3 e3 _ fun m3 H3 rl3 x3 => ?_
    cases b with
    | true =>
      refine iteT ⟨fun σ4 H4 => ∃ m4 S4 env4, Rel X.K m4 S4 H4 ∧ Ext m H m4 H4 ∧ RelE X.K m4 H4 env4 σ4 ∧ whileM fc fb k env4 S4 = some ((fl, env'), S'), fun σ4 H4 h4 => ⟨k, Nat.lt_succ_self k, h4⟩, ?_⟩
      have h3' : bnd (fb env2) (fun r => match r.1 with
        | .nx => whileM fc fb k r.2
        | .ct => whileM fc fb k r.2
        | .bk => ret (.nx, r.2)
        | .rt d => ret (.rt d, r.2)) S3 = some ((fl, env'), S') := h3
      obtain ⟨⟨fl5, env5⟩, S5, e5, h5⟩ := bnd_some h3'
      refine hb.ss rl3 (re2.mono rl2 x3) fl5 env5 S5 e5 _ ?_
      cases fl5 with
      | nx => exact fun m6 H6 σ6 rl6 x6 re6 => ⟨m6, S5, env5, rl6, (x2.trans x3).trans x6, re6, h5⟩
      | ct => exact fun m6 H6 σ6 rl6 x6 re6 => ⟨m6, S5, env5, rl6, (x2.trans x3).trans x6, re6, h5⟩
      | bk =>
        cases h5
        exact fun m6 H6 σ6 rl6 x6 re6 => q m6 H6 σ6 rl6 ((x2.trans x3).trans x6) re6
      | rt d =>
        cases h5
        exact fun m6 H6 v rl6 x6 rv => q m6 H6 v rl6 ((x2.trans x3).trans x6) rv
    | false =>
      have h3' : ret (Fl.nx, env2) S3 = some ((fl, env'), S') := h3
      cases h3'
      exact iteF (q m3 H3 σ2 rl3 (x2.trans x3) (re2.mono rl2 x3))⟩
end
end TS
set_option Elab.async false
set_option linter.all false
set_option maxRecDepth 100000
namespace TS
open PySem PySem.Spec PyProof.Rows L2
section
variable {X : Cx} {K : PySem.W.Frag} {m m' m2 m1 : List Addr} {S S' S2 : Store} {H H' H2 H1 : Hp} {env env' : SEnv} {σ : L2.St} {pos : Pos} {fl : Fl}
/-! ### lists, tuples, texts, ranges walked -/
/-- for x in a list or a tuple -/
def iLstM (f : SEnv → M D) : SEnv → M (List D × Gd) := fun env => bnd (f env) fun d S => match d with
  | .fl xs => some ((xs, []), S)
  | .ref r => match S[r]? with
    | some (.lst xs) => some ((xs, [(r, xs)]), S)
    | _ => none
  | _ => none
theorem fzL_unique_len {a : Addr} {vs : List V} (h : FzL K H a vs) : SqL K H a vs := h.sq
theorem walk_fl {a : Addr} {vs : List V} {xs : List D} (rl : Rel K m S H) (h1 : FzL K H a vs) (h2 : Reps K m H xs vs) : WalkD K m H (Itl K a) xs [] := by
  refine ⟨fun i H2 hi ⟨m2, S2, rl2, x2, _⟩ => ?_, fun H2 ⟨m2, S2, rl2, x2, _⟩ => ?_, fun i H2 x H3 hi _ y m2 S2 rl2 x2 _ => ?_⟩
  · have hs := (rl.fzL x2 h1).sq
    have hv : i < vs.length := by rw [← h2.length]; exact hi
    exact ⟨vs, vs[i], hs, by rw [List.getElem?_eq_getElem hv]⟩
  · have hs := (rl.fzL x2 h1).sq
    exact ⟨vs, hs, by rw [h2.length]; exact Nat.le_refl _⟩
  · have hs := (rl.fzL x2 h1).sq
    obtain ⟨rfl, e⟩ := y
    have e2 := e vs hs
    obtain ⟨v, h3, h4⟩ := h2.get (List.getElem?_eq_getElem hi)
    rw [e2] at h3
    cases h3
    exact ⟨_, List.getElem?_eq_getElem hi, rl2, .refl, h4.mono rl x2⟩
theorem walk_ref {r : Nat} {a : Addr} {xs : List D} (ha : m[r]? = some a) : WalkD K m H (Itl K a) xs [(r, xs)] := by
  have key : ∀ {m2 : List Addr} {S2 : Store} {H2 : Hp}, Rel K m2 S2 H2 → Ext m H m2 H2 → gdOk S2 [(r, xs)] → ∃ vs, SqL K H2 a vs ∧ Reps K m2 H2 xs vs := fun rl2 x2 g => by
    have e := g (r, xs) (List.mem_singleton.mpr rfl)
    obtain ⟨p, u, q1, q2, q3⟩ := rl2.at e
    rw [x2.at ha] at q1
    cases q1
    cases q3 with
    | lst q3 => exact ⟨_, .inl (.inl q2), q3⟩
  refine ⟨fun i H2 hi ⟨m2, S2, rl2, x2, g⟩ => ?_, fun H2 ⟨m2, S2, rl2, x2, g⟩ => ?_, fun i H2 x H3 hi _ y m2 S2 rl2 x2 g => ?_⟩
  · obtain ⟨vs, hs, h2⟩ := key rl2 x2 g
    have hv : i < vs.length := by rw [← h2.length]; exact hi
    exact ⟨vs, vs[i], hs, by rw [List.getElem?_eq_getElem hv]⟩
  · obtain ⟨vs, hs, h2⟩ := key rl2 x2 g
    exact ⟨vs, hs, by rw [h2.length]; exact Nat.le_refl _⟩
  · obtain ⟨vs, hs, h2⟩ := key rl2 x2 g
    obtain ⟨rfl, e⟩ := y
    have e2 := e vs hs
    obtain ⟨v, h3, h4⟩ := h2.get (List.getElem?_eq_getElem hi)
    rw [e2] at h3
    cases h3
    exact ⟨_, List.getElem?_eq_getElem hi, rl2, .refl, h4⟩
theorem di_lst {tg l : Expr} {tl : TE} {f : SEnv → M D} (h : DE X l tl f) : DI X tg l (iList X.K tl) (iLstM f) := ⟨pi_list h.pe, fun m S H env σ rl re xs g S' hh R q => by
  obtain ⟨d, S1, e1, h1⟩ := bnd_some hh
  refine h.se rl re d S1 e1 _ fun m1 H1 v rl1 x1 rv => ?_
  cases rv with
  | fl h2 h3 =>
    cases h1
    exact ⟨_, rfl, ⟨_, h2.sq⟩, q m1 H1 _ rl1 x1 (walk_fl rl1 h2 h3)⟩
  | @ref r a ha =>
    simp only at h1
    cases e : S1[r]? with
    | none => rw [e] at h1; cases h1
    | some o =>
      rw [e] at h1
      cases o with
      | lst ys =>
        cases h1
        obtain ⟨p, vs, q1, q2, q3, q4⟩ := rl1.sqL e (.ref ha)
        cases q1
        exact ⟨_, rfl, ⟨_, .inl (.inl q3)⟩, q m1 H1 _ rl1 x1 (walk_ref ha)⟩
      | _ => cases h1
  | _ => cases h1⟩
def iTupM (f : SEnv → M D) : SEnv → M (List D × Gd) := fun env => bnd (f env) fun d => match d with
  | .tup xs => ret (xs, [])
  | _ => fail
theorem walk_tupD {a : Addr} {vs : List V} {xs : List D} (rl : Rel K m S H) (h1 : SqT K H a vs) (h2 : Reps K m H xs vs) : WalkD K m H (Itt K a) xs [] := by
  refine ⟨fun i H2 hi ⟨m2, S2, rl2, x2, _⟩ => ?_, fun H2 ⟨m2, S2, rl2, x2, _⟩ => ?_, fun i H2 x H3 hi _ y m2 S2 rl2 x2 _ => ?_⟩
  · have hs := rl.sqT x2 h1
    have hv : i < vs.length := by rw [← h2.length]; exact hi
    exact ⟨vs, vs[i], hs, by rw [List.getElem?_eq_getElem hv]⟩
  · have hs := rl.sqT x2 h1
    exact ⟨vs, hs, by rw [h2.length]; exact Nat.le_refl _⟩
  · have hs := rl.sqT x2 h1
    obtain ⟨rfl, e⟩ := y
    have e2 := e vs hs
    obtain ⟨v, h3, h4⟩ := h2.get (List.getElem?_eq_getElem hi)
    rw [e2] at h3
    cases h3
    exact ⟨_, List.getElem?_eq_getElem hi, rl2, .refl, h4.mono rl x2⟩
theorem di_tup {tg l : Expr} {tl : TE} {f : SEnv → M D} (h : DE X l tl f) : DI X tg l (iTup X.K tl) (iTupM f) := ⟨pi_tup h.pe, fun m S H env σ rl re xs g S' hh R q => by
  obtain ⟨d, S1, e1, h1⟩ := bnd_some hh
  refine h.se rl re d S1 e1 _ fun m1 H1 v rl1 x1 rv => ?_
  cases rv with
  | tup h2 h3 =>
    cases h1
    exact ⟨_, rfl, ⟨_, h2⟩, q m1 H1 _ rl1 x1 (walk_tupD rl1 h2 h3)⟩
  | _ => cases h1⟩
def signs (x : Str) : List D := x.cps.toList.map fun c => .str ⟨#[c]⟩
def iStrM (f : SEnv → M D) : SEnv → M (List D × Gd) := fun env => bnd (f env) fun d => match d with
  | .str x => ret (signs x, [])
  | _ => fail
theorem walk_strD {x : Str} : WalkD K m H (Its x) (signs x) [] := by
  have hl : (signs x).length = x.cps.size := by unfold signs; rw [List.length_map, Array.length_toList]
  refine ⟨fun i H2 hi _ => by rw [hl] at hi; exact hi, fun H2 _ => by rw [hl]; exact Nat.le_refl _, fun i H2 v H3 hi _ y m2 S2 rl2 x2 _ => ?_⟩
  obtain ⟨rfl, c, hc, rfl⟩ := y
  refine ⟨.str ⟨#[c]⟩, ?_, rl2, .refl, .str _⟩
  unfold signs
  rw [List.getElem?_map, Array.getElem?_toList, hc]
  rfl
theorem di_str {tg l : Expr} {tl : TE} {f : SEnv → M D} (h : DE X l tl f) : DI X tg l (iStr tl) (iStrM f) := ⟨pi_str h.pe, fun m S H env σ rl re xs g S' hh R q => by
  obtain ⟨d, S1, e1, h1⟩ := bnd_some hh
  refine h.se rl re d S1 e1 _ fun m1 H1 v rl1 x1 rv => ?_
  cases rv with
  | str x =>
    cases h1
    exact ⟨x, rfl, q m1 H1 _ rl1 x1 walk_strD⟩
  | _ => cases h1⟩
def rng (lo : Int) (n : Nat) : List D := (List.range n).map fun i => .int (lo + (i : Nat))
theorem walk_rngD {lo : Int} {n : Nat} : WalkD K m H (Itr lo n) (rng lo n) [] := by
  have hl : (rng lo n).length = n := by unfold rng; rw [List.length_map, List.length_range]
  refine ⟨fun i H2 hi _ => by rw [hl] at hi; exact hi, fun H2 _ => by rw [hl]; exact Nat.le_refl _, fun i H2 v H3 hi _ y m2 S2 rl2 x2 _ => ?_⟩
  obtain ⟨rfl, rfl⟩ := y
  rw [hl] at hi
  refine ⟨.int (lo + (i : Nat)), ?_, rl2, .refl, .int _⟩
  unfold rng
  rw [List.getElem?_map, List.getElem?_range hi]
  rfl
def iRg1M (f : SEnv → M (List D)) : SEnv → M (List D × Gd) := fun env => bnd (f env) fun d => match d with
  | [.int j] => if -(2 ^ 62) ≤ j ∧ j < 2 ^ 62 then ret (rng 0 j.toNat, []) else fail
  | _ => fail
def iRg2M (f : SEnv → M (List D)) : SEnv → M (List D × Gd) := fun env => bnd (f env) fun d => match d with
  | [.int i, .int j] => if -(2 ^ 62) ≤ i ∧ i < 2 ^ 62 ∧ -(2 ^ 62) ≤ j ∧ j < 2 ^ 62 then ret (rng i (j - i).toNat, []) else fail
  | _ => fail
theorem di_rg1 {tg a : Expr} {ta : TA} {f : SEnv → M (List D)} {p : Pos} (hm : X.mg "range" = none) (ha : DA X [a] ta f) (hg : Gl X "range" := by rfl) (hs : starEach [a] X.env = [(false, eval a X.env)] := by rfl) : DI X tg (.Call (.Name "range" p) [a] [] pos) (iRng1 ta) (iRg1M f) := ⟨pi_range1 hg hm ha.pa hs, fun m S H env σ rl re xs g S' hh R q => by
  obtain ⟨ds, S1, e1, h1⟩ := bnd_some hh
  refine ha.sa rl re ds S1 e1 _ fun m1 H1 vs rl1 x1 rv => ?_
  split at h1
  · split at h1
    · cases h1
      rename_i c
      obtain ⟨v, rfl, rw1⟩ := rv.one
      cases rw1
      exact ⟨_, rfl, c.1, c.2, q m1 H1 _ rl1 x1 walk_rngD⟩
    · cases h1
  · cases h1⟩
theorem di_rg2 {tg a b : Expr} {ta : TA} {f : SEnv → M (List D)} {p : Pos} (hm : X.mg "range" = none) (ha : DA X [a, b] ta f) (hg : Gl X "range" := by rfl) (hs : starEach [a, b] X.env = [(false, eval a X.env), (false, eval b X.env)] := by rfl) (hs2 : starEach [b] X.env = [(false, eval b X.env)] := by rfl) :
    DI X tg (.Call (.Name "range" p) [a, b] [] pos) (iRng2 ta) (iRg2M f) := ⟨pi_range2 hg hm ha.pa hs hs2, fun m S H env σ rl re xs g S' hh R q => by
  obtain ⟨ds, S1, e1, h1⟩ := bnd_some hh
  refine ha.sa rl re ds S1 e1 _ fun m1 H1 vs rl1 x1 rv => ?_
  split at h1
  · split at h1
    · cases h1
      rename_i c
      obtain ⟨v, u, rfl, rw1, ru⟩ := rv.two
      cases rw1
      cases ru
      exact ⟨_, _, rfl, c, q m1 H1 _ rl1 x1 walk_rngD⟩
    · cases h1
  · cases h1⟩
/-! ### list comprehensions -/
def wipeE (env : SEnv) : List Nat → SEnv
  | [] => env
  | v :: vs => (wipeE env vs).set v none
theorem RelE.wipe (h : RelE K m H env σ) : ∀ vs : List Nat, RelE K m H (wipeE env vs) (L2.wipe σ vs)
  | [] => h
  | v :: vs => by
    have ih := RelE.wipe h vs
    refine ⟨by show ((wipeE env vs).set v none).length = ((L2.wipe σ vs).set v none).length; rw [List.length_set, List.length_set]; exact ih.len, fun i d q => ?_⟩
    have q' : ((wipeE env vs).set v none)[i]? = some (some d) := q
    rw [List.getElem?_set] at q'
    show ∃ x, ((L2.wipe σ vs).set v none)[i]? = some (some x) ∧ _
    by_cases hv : v = i
    · rw [if_pos hv] at q'
      split at q' <;> cases q'
    · rw [if_neg hv] at q'
      rw [List.getElem?_set_ne hv]
      exact ih.get i d q'
structure DTs (X : Cx) (ifs : List Expr) (t : TT) (f : SEnv → M Bool) : Prop where
  pts : PTs X ifs t
  st : ST X.K t f
def bYes : SEnv → M Bool := fun _ => ret true
theorem dts_nil : DTs X [] tYes bYes := ⟨pts_nil, fun m S H env σ rl re b S' h Q q => by
  cases h
  exact q m H rl .refl⟩
theorem dts_one {c : Expr} {t : TT} {f : SEnv → M Bool} (h : DT X c t f) : DTs X [c] t f := ⟨pts_one h.pt, h.st⟩
def pushM (k : Nat) (d : D) : M Unit := fun S => match S[k]? with
  | some (.lst acc) => if acc.length < sizeLine then some ((), S.set k (.lst (acc ++ [d]))) else none
  | _ => none
def newLst : M Nat := fun S => some (S.length, S ++ [.lst []])
noncomputable def lcM (g : Gd) (k : Nat) (tgt : D → SEnv → M SEnv) (tt : SEnv → M Bool) (te : SEnv → M D) (env : SEnv) : List D → M D
  | [] => gdM g (ret (.ref k))
  | x :: xs => gdM g (bnd (tgt x env) fun env1 => bnd (tt env1) fun b => if b then bnd (te env1) fun d => bnd (pushM k d) fun _ => lcM g k tgt tt te env xs else lcM g k tgt tt te env xs)
noncomputable def eLc (fi : SEnv → M (List D × Gd)) (tgt : D → SEnv → M SEnv) (tt : SEnv → M Bool) (te : SEnv → M D) (vs : List Nat) : SEnv → M D := fun env => bnd (fi env) fun p => bnd newLst fun k => lcM p.2 k tgt tt te (wipeE env vs) p.1
theorem se_lc {K : PySem.W.Frag} {wi : TI} {g : TG} {ws : List Nat} {tt : TT} {te : TE} {fi : SEnv → M (List D × Gd)} {fg : D → SEnv → M SEnv} {ft : SEnv → M Bool} {fe : SEnv → M D}
    (hi : ∀ ⦃m : List Addr⦄ ⦃S : Store⦄ ⦃H : Hp⦄ ⦃env : SEnv⦄ ⦃σ : L2.St⦄, Rel K m S H → RelE K m H env σ → ∀ xs g S', fi env S = some ((xs, g), S') → ∀ R : It → Hp → Prop, (∀ m' H' J, Rel K m' S' H' → Ext m H m' H' → WalkD K m' H' J xs g → R J H') → wi σ H R)
    (hg : ∀ ⦃m : List Addr⦄ ⦃S : Store⦄ ⦃H : Hp⦄ ⦃env : SEnv⦄ ⦃σ : L2.St⦄ ⦃d : D⦄ ⦃v : V⦄, Rel K m S H → RelE K m H env σ → Rep K m H d v → ∀ env' S', fg d env S = some (env', S') →
      ∀ Q : L2.St → Hp → Prop, (∀ m' H' σ', Rel K m' S' H' → Ext m H m' H' → RelE K m' H' env' σ' → Off ws σ σ' → Q σ' H') → g v σ H Q)
    (ht : ST K tt ft) (he : SE K te fe) : SE K (tLc wi g tt te ws) (eLc fi fg ft fe ws) := fun m S H env σ rl re d S' hh Q q => by
  obtain ⟨⟨xs, gd⟩, S1, e1, h1⟩ := bnd_some hh
  refine hi rl re xs gd S1 e1 _ fun m1 H1 J rl1 x1 w => ?_
  intro D hD
  have h1' : lcM gd S1.length fg ft fe (wipeE env ws) xs (S1 ++ [.lst []]) = some (d, S') := h1
  obtain ⟨rl1', x1', rD⟩ := rl1.new (o := .lst []) (u := .lst []) hD (.lst .nil)
  have hk0 : (m1 ++ [D])[S1.length]? = some D := by
    rw [← rl1.len, List.getElem?_append_right (Nat.le_refl _), Nat.sub_self]
    rfl
  have hw1 := re.mono rl x1
  refine lc_it w (fun i H2 => ∃ m2 S2, Rel K m2 S2 H2 ∧ Ext (m1 ++ [D]) (upd H1 D (.lst [])) m2 H2 ∧ lcM gd S1.length fg ft fe (wipeE env ws) (xs.drop i) S2 = some (d, S')) ⟨_, _, rl1', .refl, h1'⟩ ?_ ?_ ?_
  · rintro i H2 hl ⟨m2, S2, rl2, x2, h2⟩
    refine ⟨m2, S2, rl2, x1'.trans x2, ?_⟩
    cases e : xs.drop i with
    | nil => rw [e] at h2; exact (gdM_some h2).1
    | cons y ys => rw [e] at h2; exact (gdM_some h2).1
  · rintro i x H2 H3 hl ⟨m2, S2, rl2, x2, h2⟩ hy
    have hgd : gdOk S2 gd := by
      cases e : xs.drop i with
      | nil => rw [e] at h2; exact (gdM_some h2).1
      | cons y ys => rw [e] at h2; exact (gdM_some h2).1
    obtain ⟨d1, hd, rl3, x3, rd⟩ := hy m2 S2 rl2 (x1'.trans x2) hgd
    rw [drop_at hd] at h2
    have h3 := (gdM_some h2).2
    obtain ⟨env3, S4, e4, h4⟩ := bnd_some h3
    obtain ⟨b, S5, e5, h5⟩ := bnd_some h4
    have rew : RelE K m2 H3 (wipeE env ws) (L2.wipe σ ws) := (hw1.mono rl1 (x1'.trans (x2.trans x3))).wipe ws
    refine hg rl3 rew rd env3 S4 e4 _ fun m4 H4 σ4 rl4 x4 re4 o4 => ⟨by rw [o4.wipe, wipe_wipe], ?_⟩
    refine ht rl4 re4 b S5 e5 _ fun m5 H5 rl5 x5 => ?_
    cases b with
    | true =>
      have h5' : bnd (fe env3) (fun d => bnd (pushM S1.length d) fun _ => lcM gd S1.length fg ft fe (wipeE env ws) (xs.drop (i + 1))) S5 = some (d, S') := h5
      obtain ⟨y, S6, e6, h6⟩ := bnd_some h5'
      obtain ⟨_, S7, e7, h7⟩ := bnd_some h6
      refine iteT (he rl5 (re4.mono rl4 x5) y S6 e6 _ fun m6 H6 v rl6 x6 rv => ?_)
      have x26 : Ext (m1 ++ [D]) (upd H1 D (.lst [])) m6 H6 := x2.trans (x3.trans (x4.trans (x5.trans x6)))
      unfold pushM at e7
      cases ek : S6[S1.length]? with
      | none => rw [ek] at e7; cases e7
      | some o =>
        rw [ek] at e7
        cases o with
        | lst acc =>
          simp only at e7
          split at e7
          · cases e7
            rename_i c
            have hk6 := x26.at hk0
            obtain ⟨p, u, q1, q2, q3⟩ := rl6.at ek
            rw [hk6] at q1
            cases q1
            cases q3 with
            | lst q3 =>
              obtain ⟨a1, a2⟩ := rl6.set hk6 (.lst (q3.snoc rv))
              exact ⟨_, q2, by rw [← q3.length]; exact c, m6, _, a1, x26.trans a2, h7⟩
          · cases e7
        | _ => cases e7
    | false => exact iteF ⟨m5, S5, rl5, x2.trans (x3.trans (x4.trans x5)), h5⟩
  · rintro H2 ⟨m2, S2, rl2, x2, h2⟩
    rw [List.drop_length] at h2
    cases (gdM_some h2).2
    exact q m2 H2 _ rl2 (x1.trans (x1'.trans x2)) (.ref (x2.at hk0))
theorem de_lc {elt tg iter : Expr} {ifs : List Expr} {scope : Scope} (own : List (Str × Nat)) {wi : TI} {g : TG} {tt : TT} {te : TE} {fi : SEnv → M (List D × Gd)} {fg : D → SEnv → M SEnv} {ft : SEnv → M Bool} {fe : SEnv → M D} (hc : X.calm = true) (hN : X.N.Nodup) (hi : DI X tg iter wi fi) (ok : BlkOk X.N X.env.scope scope own)
    (hg : ∀ (s : Shared) (H : Hp) (C : Addr) (cl : List (Str × Addr)) (fp : List Addr), DG (X.blk s H scope (compEnvC scope cl C X.env) fp) tg (own.map (·.2)) g fg) (ht : ∀ (s : Shared) (H : Hp) (C : Addr) (cl : List (Str × Addr)) (fp : List Addr), DTs (X.blk s H scope (compEnvC scope cl C X.env) fp) ifs tt ft)
    (he : ∀ (s : Shared) (H : Hp) (C : Addr) (cl : List (Str × Addr)) (fp : List Addr), DE (X.blk s H scope (compEnvC scope cl C X.env) fp) elt te fe) (hs : ∀ x, foldedSetIterable iter X.env x = pure x := by intro _; rfl) :
    DE X (.ListComp elt [⟨tg, iter, ifs, 0⟩] scope pos) (tLc wi g tt te (own.map (·.2))) (eLc fi fg ft fe (own.map (·.2))) :=
  ⟨pe_lc hc hN hi.pi ok (fun s H C cl fp => (hg s H C cl fp).pg) (fun s H C cl fp => (ht s H C cl fp).pts) (fun s H C cl fp => (he s H C cl fp).pe) hs,
   se_lc hi.si (hg X.s_0 X.H_0 0 [] []).sg (ht X.s_0 X.H_0 0 [] []).st (he X.s_0 X.H_0 0 [] []).se⟩
theorem ds_setLc (i : Nat) {y : Str} {py spos : Pos} {elt tg iter : Expr} {ifs : List Expr} {scope : Scope} (own : List (Str × Nat)) {wi : TI} {g : TG} {tt : TT} {te : TE} {fi : SEnv → M (List D × Gd)} {fg : D → SEnv → M SEnv} {ft : SEnv → M Bool} {fe : SEnv → M D} (hc : X.calm = true) (hN : X.N.Nodup) (hi : DI X tg iter wi fi) (ok : BlkOk X.N X.env.scope scope own)
    (hg : ∀ (s : Shared) (H : Hp) (C : Addr) (cl : List (Str × Addr)) (fp : List Addr), DG (X.blk s H scope (compEnvC scope cl C X.env) fp) tg (own.map (·.2)) g fg) (ht : ∀ (s : Shared) (H : Hp) (C : Addr) (cl : List (Str × Addr)) (fp : List Addr), DTs (X.blk s H scope (compEnvC scope cl C X.env) fp) ifs tt ft)
    (he : ∀ (s : Shared) (H : Hp) (C : Addr) (cl : List (Str × Addr)) (fp : List Addr), DE (X.blk s H scope (compEnvC scope cl C X.env) fp) elt te fe) (hsw : swapsWith (.ListComp elt [⟨tg, iter, ifs, 0⟩] scope pos) (some (.Name y py)) spos.line X.env = pure true)
    (hy : X.N[i]? = some y := by rfl) (hyl : X.env.scope.names.lookup y = some .local := by rfl) (hs : ∀ x, foldedSetIterable iter X.env x = pure x := by intro _; rfl) :
    DS X (.Assign [.Name y py] (.ListComp elt [⟨tg, iter, ifs, 0⟩] scope pos) spos) (tAsg (tLc wi g tt te (own.map (·.2))) (gName i)) (sAsg (eLc fi fg ft fe (own.map (·.2))) (gN i)) :=
  ⟨ps_setLc hc hN hy hyl hsw hi.pi ok (fun s H C cl fp => (hg s H C cl fp).pg) (fun s H C cl fp => (ht s H C cl fp).pts) (fun s H C cl fp => (he s H C cl fp).pe) hs,
   ss_asg (se_lc hi.si (hg X.s_0 X.H_0 0 [] []).sg (ht X.s_0 X.H_0 0 [] []).st (he X.s_0 X.H_0 0 [] []).se) (dg_name (pos := py) i hN hy (.inl hyl) (.inr hyl))⟩
/-! ### defs -/
def spOf (K : PySem.W.Frag) (n : Nat) (F : List D → M D) : Sp := fun vs H Q _ => ∃ (m : List Addr) (S : Store) (ds : List D) (d : D) (S' : Store), Rel K m S H ∧ Reps K m H ds vs ∧ ds.length = n ∧ F ds S = some (d, S') ∧ Out K m H S' d Q
/-- a call: the whole store is handed on -/
theorem se_callF {n : Nat} {F : List D → M D} {ta : TA} {f : SEnv → M (List D)} (hn : ∀ env S ds S', f env S = some (ds, S') → ds.length = n) (ha : SA K ta f) : SE K (tCall (spOf K n F) [] E0 ta) (eCall F f) := fun m S H env σ rl re d S' h Q q => by
  obtain ⟨ds, S1, e1, h1⟩ := bnd_some h
  refine ha rl re ds S1 e1 _ fun m1 H1 vs rl1 x1 rvs => ?_
  rw [List.append_nil]
  exact ⟨m1, S1, ds, d, S', rl1, rvs, hn env S ds S1 e1, h1, fun m2 H2 v rl2 x2 rv => q m2 H2 v rl2 (x1.trans x2) rv⟩
theorem aNil_len : ∀ env S ds S', aNil env S = some (ds, S') → ds.length = 0 := fun env S ds S' h => by
  cases h
  rfl
theorem aCons_len {n : Nat} {f : SEnv → M D} {g : SEnv → M (List D)} (h : ∀ env S ds S', g env S = some (ds, S') → ds.length = n) : ∀ env S ds S', aCons f g env S = some (ds, S') → ds.length = n + 1 := fun env S ds S' hh => by
  obtain ⟨d, S1, e1, h1⟩ := bnd_some hh
  obtain ⟨r, S2, e2, h2⟩ := bnd_some h1
  cases h2
  rw [List.length_cons, h env S1 r _ e2]
section
variable {k n : Nat} {f : Addr} {fd : FuncData} {ps : List Str} {F : List D → M D} {x : Str} {p : Pos} {e : Expr} {es : List Expr} {ta : TA} {fa : SEnv → M (List D)}
theorem de_callF (G : FnOk X.prog X.w X.K X.mg X.base CX0 k f fd ps (spOf X.K n F)) (hr : Room k X.A) (hm : X.mg x = some (.ref f)) (hk : PySem.W.keepIn X.K (.ref f) = true) (hb : Binds X.K fd ps []) (ha : DA X (e :: es) ta fa)
    (hn : ∀ env S ds S', fa env S = some (ds, S') → ds.length = n := by first | exact aCons_len aNil_len | exact aCons_len (aCons_len aNil_len) | exact aCons_len (aCons_len (aCons_len aNil_len)) | exact aCons_len (aCons_len (aCons_len (aCons_len aNil_len))) | exact aCons_len (aCons_len (aCons_len (aCons_len (aCons_len aNil_len)))))
    (hg : Gl X x := by rfl) (hdb : (x == ("__debug__" : Str)) = false := by decide) (he : starEach (e :: es) X.env = (false, eval e X.env) :: starEach es X.env := by rfl) (hpl : (backTo pos (starEach es X.env)).any (·.1) = false := by rfl) :
    DE X (.Call (.Name x p) (e :: es) [] pos) (tCall (spOf X.K n F) [] E0 ta) (eCall F fa) := ⟨pe_call G hr hg hm hk hb .nil pass0 ha.pa hdb he hpl, se_callF hn ha.sa⟩
end
/-! a call that neither takes nor hands back what may change: its own objects do not matter -/
mutual
def pureD : D → Bool
  | .ref _ => false
  | .tup xs => pureDs xs
  | .fl xs => pureDs xs
  | _ => true
def pureDs : List D → Bool
  | [] => true
  | x :: xs => pureD x && pureDs xs
end
mutual
theorem Rep.pure : ∀ {d : D} {v : V}, Rep K m H d v → pureD d = true → Rep K m' H d v
  | _, _, .non, _ => .non
  | _, _, .bl b, _ => .bl b
  | _, _, .int i, _ => .int i
  | _, _, .str x, _ => .str x
  | _, _, .ty n, _ => .ty n
  | _, _, .tup h1 h2 h3, h => .tup h1 (Reps.pure h2 h) h3
  | _, _, .fl h1 h2, h => .fl h1 (Reps.pure h2 h)
  | _, _, .ref _, h => by cases h
theorem Reps.pure : ∀ {ds : List D} {vs : List V}, Reps K m H ds vs → pureDs ds = true → Reps K m' H ds vs
  | _, _, .nil, _ => .nil
  | _, _, .cons h1 h2, h => by
    have h' := (Bool.and_eq_true _ _).mp h
    exact .cons (Rep.pure h1 h'.1) (Reps.pure h2 h'.2)
end
def pureF (F : List D → M D) : List D → M D := fun ds S => if pureDs ds = true then match F ds [] with
    | some (d, _) => if pureD d = true then some (d, S) else none
    | none => none
  else none
theorem pureF_eq {F : List D → M D} {ds : List D} {d : D} {S S1 : Store} (h1 : pureDs ds = true) (h2 : F ds [] = some (d, S1)) (h3 : pureD d = true) : pureF F ds S = some (d, S) := by
  unfold pureF
  rw [if_pos h1, h2]
  exact if_pos h3
theorem FnOk.pure {P : Program} {w : World} {mg : Str → Option Value} {base : Heap} {CX : CXT} {k n : Nat} {f : Addr} {fd : FuncData} {ps : List Str} {F : List D → M D} (G : FnOk P w K mg base CX k f fd ps (spOf K n F)) : FnOk P w K mg base CX k f fd ps (spOf K n (pureF F)) := G.imp fun vs H Q E h => by
  obtain ⟨m, S, ds, d, S', rl, rvs, hn, hF, q⟩ := h
  unfold pureF at hF
  split at hF
  · rename_i hp
    split at hF
    · rename_i d' S1 e
      split at hF
      · cases hF
        rename_i hd
        refine ⟨[], [], ds, d, S1, ⟨rfl, List.nodup_nil, fun i a o h => by simp at h⟩, rvs.pure hp, hn, e, fun m' H' v rl' x' rv => ?_⟩
        obtain ⟨r2, x2⟩ := rl.keep (H' := H') fun a o ha => x'.keep a o ha List.not_mem_nil
        exact q m H' v r2 x2 (rv.pure hd)
      · cases hF
    · cases hF
  · cases hF
/-- a weaker mirror -/
theorem FnOk.weak {P : Program} {w : World} {mg : Str → Option Value} {base : Heap} {CX : CXT} {k n : Nat} {f : Addr} {fd : FuncData} {ps : List Str} {F F' : List D → M D} (G : FnOk P w K mg base CX k f fd ps (spOf K n F)) (h : ∀ ds S r, F' ds S = some r → F ds S = some r) : FnOk P w K mg base CX k f fd ps (spOf K n F') := G.imp fun vs H Q E hh => by
  obtain ⟨m, S, ds, d, S', rl, rvs, hn, hF, q⟩ := hh
  exact ⟨m, S, ds, d, S', rl, rvs, hn, h _ _ _ hF, q⟩
def env0 (n : Nat) (ds : List D) : SEnv := ds.map some ++ List.replicate (n - ds.length) none
def bodyM (n : Nat) (f : SEnv → M (Fl × SEnv)) : List D → M D := fun ds => bnd (f (env0 n ds)) fun r => match r.1 with
  | .nx => ret .non
  | .rt d => ret d
  | _ => fail
theorem rel0 {N : List Str} {ds : List D} {vs : List V} (h : Reps K m H ds vs) : RelE K m H (env0 N.length ds) (L2.start N vs) := by
  refine ⟨by unfold env0 L2.start; simp [h.length], fun i d q => ?_⟩
  unfold env0 at q
  unfold L2.start
  by_cases hi : i < ds.length
  · rw [List.getElem?_append_left (by simpa using hi), List.getElem?_map] at q
    obtain ⟨d', e1, e2⟩ := Option.map_eq_some_iff.mp q
    cases e2
    obtain ⟨v, e3, r⟩ := h.get e1
    exact ⟨v, by rw [List.getElem?_append_left (by rw [List.length_map, ← h.length]; exact hi), List.getElem?_map, e3]; rfl, r⟩
  · rw [List.getElem?_append_right (by simpa using hi), List.getElem?_replicate] at q
    split at q <;> cases q
theorem fn_ok {P : Program} {w : World} {mg : Str → Option Value} {base : Heap} {x qual : Str} {st : Stmt} {f : Addr} {fd : FuncData} {N ps : List Str} {k : Nat} {fb : SEnv → M (Fl × SEnv)} (F : Fun K x qual st f fd) (S : FnScope N ps (defScope st))
    (hbody : ∀ (cdv : Value) (A : Around) (outer : List PySem.Env) (s : Shared) (H : Hp) (E : XK), Room k (A.deeper (envOfC qual (defScope st) s.heap.objs.size f cdv)) → ∃ t, DSs (cxOf CX0 P w K mg base N qual (defScope st) f cdv A outer s H E).nox (defBody st) t fb) : FnOk P w K mg base CX0 (k + 1) f fd ps (spOf K ps.length (bodyM N.length fb)) := by
  refine F.ok S (fun vs H Q E h => ?_) (fun cdv A outer s H vs Q E hr h => ?_)
  · obtain ⟨m, S, ds, d, S', rl, rvs, hn, _⟩ := h
    rw [← rvs.length]
    exact hn
  · obtain ⟨m, S0, ds, d, S', rl, rvs, hn, hF, q⟩ := h
    obtain ⟨t, hb⟩ := hbody cdv A outer s H E hr
    obtain ⟨⟨fl, env'⟩, S1, e1, h1⟩ := bnd_some hF
    refine ⟨t, hb.ps, hb.ss rl (rel0 rvs) fl env' S1 e1 _ ?_⟩
    cases fl with
    | nx =>
      cases h1
      exact fun m' H' σ' rl' x' _ => q m' H' _ rl' x' .non
    | rt d' =>
      cases h1
      exact fun m' H' v rl' x' rv => q m' H' v rl' x' rv
    | bk => cases h1
    | ct => cases h1
end
end TS
set_option Elab.async false
set_option linter.all false
set_option maxRecDepth 100000
namespace TS
open PySem PySem.Spec PyProof.Rows L2
section
variable {X : Cx} {K : PySem.W.Frag} {m m' m2 m1 : List Addr} {S S' S2 : Store} {H H' H2 H1 : Hp} {env env' : SEnv} {σ : L2.St} {pos : Pos}
/-! ### dicts with keys ints and texts -/
def keyOf : D → Option Key
  | .int i => some (.inl i)
  | .str x => some (.inr x)
  | _ => none
theorem keyOf_rep {d : D} {v : V} {k : Key} (r : Rep K m H d v) (e : keyOf d = some k) : v = kV k := by
  cases r <;> first | (cases e; rfl) | (cases e)
def lookD (kvs : List (Key × D)) (k : Key) : Option D := match kvs with
  | [] => none
  | (k', d) :: r => if k' = k then some d else lookD r k
def hasD (kvs : List (Key × D)) (k : Key) : Bool := (lookD kvs k).isSome
def replD (kvs : List (Key × D)) (k : Key) (d : D) : List (Key × D) := kvs.map fun kv => if kv.1 = k then (kv.1, d) else kv
def putD (kvs : List (Key × D)) (k : Key) (d : D) : List (Key × D) := if hasD kvs k = true then replD kvs k d else kvs ++ [(k, d)]
/-- dicts side by side -/
inductive RepK (K : PySem.W.Frag) (m : List Addr) (H : Hp) : List (Key × D) → List (Key × V) → Prop
  | nil : RepK K m H [] []
  | cons {k : Key} {d : D} {v : V} {r : List (Key × D)} {u : List (Key × V)} : Rep K m H d v → RepK K m H r u → RepK K m H ((k, d) :: r) ((k, v) :: u)
theorem RepK.of : ∀ {kvs : List (Key × D)} {us : List (Key × V)}, us.map (·.1) = kvs.map (·.1) → Reps K m H (kvs.map (·.2)) (us.map (·.2)) → RepK K m H kvs us
  | [], [], _, _ => .nil
  | [], _ :: _, h, _ => by cases h
  | _ :: _, [], h, _ => by cases h
  | (k, d) :: r, (k', v) :: u, h, hs => by
    rw [List.map_cons, List.map_cons] at h
    injection h with h1 h2
    have h1' : k' = k := h1
    subst h1'
    cases hs with
    | cons a b => exact .cons a (RepK.of h2 b)
theorem RepK.to : ∀ {kvs : List (Key × D)} {us : List (Key × V)}, RepK K m H kvs us → us.map (·.1) = kvs.map (·.1) ∧ Reps K m H (kvs.map (·.2)) (us.map (·.2))
  | _, _, .nil => ⟨rfl, .nil⟩
  | _, _, .cons a b => by
    obtain ⟨h1, h2⟩ := RepK.to b
    exact ⟨by rw [List.map_cons, List.map_cons, h1], .cons a h2⟩
theorem RepK.length : ∀ {kvs : List (Key × D)} {us : List (Key × V)}, RepK K m H kvs us → kvs.length = us.length
  | _, _, .nil => rfl
  | _, _, .cons _ b => by rw [List.length_cons, List.length_cons, RepK.length b]
theorem RepK.look {k : Key} : ∀ {kvs : List (Key × D)} {us : List (Key × V)}, RepK K m H kvs us → (∃ d v, lookD kvs k = some d ∧ valV us k = some v ∧ Rep K m H d v) ∨ (lookD kvs k = none ∧ valV us k = none)
  | _, _, .nil => .inr ⟨rfl, rfl⟩
  | _, _, .cons (k := k') (d := d) (v := v) (r := r') (u := u') a b => by
    by_cases h : k' = k
    · exact .inl ⟨d, v, by unfold lookD; rw [if_pos h], valV_pos h, a⟩
    · have e1 : lookD ((k', d) :: r') k = lookD r' k := by
        rw [lookD, if_neg h]
      rcases RepK.look (k := k) b with ⟨d', v', h1, h2, h3⟩ | ⟨h1, h2⟩
      · exact .inl ⟨d', v', by rw [e1]; exact h1, by rw [valV_neg h]; exact h2, h3⟩
      · exact .inr ⟨by rw [e1]; exact h1, by rw [valV_neg h]; exact h2⟩
theorem RepK.repl {k : Key} {d : D} {v : V} (r : Rep K m H d v) : ∀ {kvs : List (Key × D)} {us : List (Key × V)}, RepK K m H kvs us → RepK K m H (replD kvs k d) (us.map fun kv => if kv.1 = k then (kv.1, v) else kv)
  | _, _, .nil => .nil
  | _, _, .cons (k := k') (d := d') (v := v') (r := r') (u := u') a b => by
    have ih := RepK.repl (k := k) r b
    unfold replD at ih ⊢
    rw [List.map_cons, List.map_cons]
    by_cases h : k' = k
    · rw [if_pos h, if_pos h]
      exact .cons r ih
    · rw [if_neg h, if_neg h]
      exact .cons a ih
theorem RepK.snoc {k : Key} {d : D} {v : V} (r : Rep K m H d v) : ∀ {kvs : List (Key × D)} {us : List (Key × V)}, RepK K m H kvs us → RepK K m H (kvs ++ [(k, d)]) (us ++ [(k, v)])
  | _, _, .nil => .cons r .nil
  | _, _, .cons a b => .cons a (RepK.snoc r b)
theorem RepK.put {k : Key} {d : D} {v : V} (r : Rep K m H d v) {kvs : List (Key × D)} {us : List (Key × V)} (h : RepK K m H kvs us) : RepK K m H (putD kvs k d) (putK us k v) := by
  unfold putD putK hasD
  rw [valV_any]
  rcases h.look (k := k) with ⟨d', v', h1, h2, _⟩ | ⟨h1, h2⟩
  · rw [h1, h2]
    exact h.repl r
  · rw [h1, h2]
    exact h.snoc r
theorem Rel.dict (rl : Rel K m S H) {i : Nat} {kvs : List (Key × D)} {v : V} (h : S[i]? = some (.dK kvs)) (q : Rep K m H (.ref i) v) : ∃ a us, v = .ref a ∧ m[i]? = some a ∧ H a = some (.dK us) ∧ RepK K m H kvs us := by
  obtain ⟨a, us, h1, h2, h3, h4, h5⟩ := rl.dK h q
  exact ⟨a, us, h1, h2, h3, .of h4 h5⟩
theorem RepK.o {kvs : List (Key × D)} {us : List (Key × V)} (h : RepK K m H kvs us) : RepO K m H (.dK kvs) (.dK us) := .dK h.to.1 h.to.2
def dgetM (a b : D) : M D := fun S => match a, keyOf b with
  | .ref i, some k => match S[i]? with
    | some (.dK kvs) => match lookD kvs k with
      | some d => some (d, S)
      | none => none
    | _ => none
  | _, _ => none
theorem de_dget {o i : Expr} {td ty : TE} {fo fi : SEnv → M D} (hu : X.A.units + 1 < cLine) (ho : DE X o td fo) (hi : DE X i ty fi) (hs : NoSl i := by exact fun _ _ => rfl) : DE X (.Subscript o i pos) (tDGet td ty) (eOp dgetM fo fi) := ⟨pe_dget hu ho.pe hi.pe hs, fun m S H env σ rl re d S' h Q q => by
  obtain ⟨a, S1, e1, h1⟩ := bnd_some h
  obtain ⟨b, S2, e2, h2⟩ := bnd_some h1
  refine ho.se rl re a S1 e1 _ fun m1 H1 x rl1 x1 ra => ?_
  refine hi.se rl1 (re.mono rl x1) b S2 e2 _ fun m2 H2 y rl2 x2 rb => ?_
  unfold dgetM at h2
  split at h2
  · split at h2
    · split at h2
      · cases h2
        rename_i i k hk _ kvs _ e4 e3
        obtain ⟨p, us, rfl, _, q3, q4⟩ := rl2.dict e3 (ra.mono rl1 x2)
        rcases q4.look (k := k) with ⟨d1, v1, w1, w2, w3⟩ | ⟨w1, w2⟩
        · rw [w1] at e4
          cases e4
          refine ⟨p, v1, rfl, ?_, q m2 H2 v1 rl2 (x1.trans x2) w3⟩
          rw [keyOf_rep rb hk, ← w2]
          exact DGet.k q3
        · rw [w1] at e4
          cases e4
      · cases h2
    · cases h2
  · cases h2⟩
def dsetM (a b d : D) : M Unit := fun S => match a, keyOf b with
  | .ref i, some k => match S[i]? with
    | some (.dK kvs) => if kvs.length < sizeLine then some ((), S.set i (.dK (putD kvs k d))) else none
    | _ => none
  | _, _ => none
theorem set_d (hu : X.A.units + 1 < cLine) : DSet X rSetD dsetM := ⟨set_dict hu, fun m S H o i v a b d rl ra rb rd S' h Q q => by
  unfold dsetM at h
  split at h
  · split at h
    · split at h
      · cases h
        rename_i k hk _ kvs e3 c
        obtain ⟨p, us, rfl, hp, q3, q4⟩ := rl.dict e3 ra
        obtain ⟨a1, a2⟩ := rl.set hp (q4.put (k := k) rd).o
        refine ⟨p, _, rfl, ?_, q _ _ a1 a2⟩
        rw [keyOf_rep rb hk]
        exact DPut.k q3 (by rw [← q4.length]; exact c)
      · cases h
    · cases h
  · cases h⟩
/-- {k: v, ..} -/
structure DPs (X : Cx) (pos : Pos) (keys : List (Option Expr)) (values : List Expr) (trs : List (TE × TE)) (f : SEnv → M (List (Key × D))) : Prop where
  pps : PPs X pos keys values trs
  sp : ∀ ⦃m : List Addr⦄ ⦃S : Store⦄ ⦃H : Hp⦄ ⦃env : SEnv⦄ ⦃σ : L2.St⦄, Rel X.K m S H → RelE X.K m H env σ → ∀ kvs S', f env S = some (kvs, S') → ∀ Q : List (V × V) → Hp → Prop, (∀ m' H' us, Rel X.K m' S' H' → Ext m H m' H' → RepK X.K m' H' kvs us → Q (us.map fun kv => (kV kv.1, kv.2)) H') → tPairs trs σ H Q
def kNil : SEnv → M (List (Key × D)) := fun _ => ret []
def kCons (fk fv : SEnv → M D) (g : SEnv → M (List (Key × D))) : SEnv → M (List (Key × D)) := fun env => bnd (fk env) fun a => bnd (fv env) fun d => bnd (g env) fun r => match keyOf a with
  | some k => ret ((k, d) :: r)
  | none => fail
theorem RepK.mono (rl : Rel K m S H) (e : Ext m H m' H') {kvs : List (Key × D)} {us : List (Key × V)} (h : RepK K m H kvs us) : RepK K m' H' kvs us := by
  induction h with
  | nil => exact .nil
  | cons a _ ih => exact .cons (a.mono rl e) ih
theorem dps_nil : DPs X pos [] [] [] kNil := ⟨pps_nil, fun m S H env σ rl re kvs S' h Q q => by
  cases h
  exact q m H [] rl .refl .nil⟩
theorem dps_cons {k v : Expr} {ks : List (Option Expr)} {vs : List Expr} {tk tv : TE} {trs : List (TE × TE)} {fk fv : SEnv → M D} {g : SEnv → M (List (Key × D))} (hk : DE X k tk fk) (hv : DE X v tv fv) (hr : DPs X pos ks vs trs g) : DPs X pos (some k :: ks) (v :: vs) ((tk, tv) :: trs) (kCons fk fv g) := ⟨pps_cons hk.pe hv.pe hr.pps, fun m S H env σ rl re kvs S' h Q q => by
  obtain ⟨a, S1, e1, h1⟩ := bnd_some h
  obtain ⟨d, S2, e2, h2⟩ := bnd_some h1
  obtain ⟨r, S3, e3, h3⟩ := bnd_some h2
  cases ek : keyOf a with
  | none => rw [ek] at h3; cases h3
  | some kk =>
    rw [ek] at h3
    cases h3
    refine hk.se rl re a S1 e1 _ fun m1 H1 x rl1 x1 ra => ?_
    refine hv.se rl1 (re.mono rl x1) d S2 e2 _ fun m2 H2 y rl2 x2 rd => ?_
    refine hr.sp rl2 (re.mono rl (x1.trans x2)) r _ e3 _ fun m3 H3 us rl3 x3 rk => ?_
    have z := q m3 H3 ((kk, y) :: us) rl3 ((x1.trans x2).trans x3) (.cons (rd.mono rl2 x3) rk)
    rw [keyOf_rep ra ek]
    exact z⟩
def mergeD (kvs more : List (Key × D)) : List (Key × D) := more.foldl (fun acc kv => putD acc kv.1 kv.2) kvs
theorem RepK.merge : ∀ {more : List (Key × D)} {mv : List (Key × V)} {kvs : List (Key × D)} {us : List (Key × V)}, RepK K m H more mv → RepK K m H kvs us → RepK K m H (mergeD kvs more) (mergeK us mv)
  | _, _, _, _, .nil, h => h
  | _, _, _, _, .cons (k := k) a b, h => by
    have z := RepK.merge b (h.put (k := k) a)
    exact z
def newDct : M Nat := fun S => some (S.length, S ++ [.dK []])
def fillD (k : Nat) (kvs : List (Key × D)) : M D := fun S => match S[k]? with
  | some (.dK []) => if kvs.length ≤ 15 then some (.ref k, S.set k (.dK (mergeD [] kvs))) else none
  | _ => none
def eDisp (g : SEnv → M (List (Key × D))) : SEnv → M D := fun env => bnd newDct fun k => bnd (g env) (fillD k)
theorem de_disp {keys : List (Option Expr)} {values : List Expr} {trs : List (TE × TE)} {g : SEnv → M (List (Key × D))} (h : DPs X pos keys values trs g) (hall : keys.all (·.isSome) = true := by rfl) (hl : keys.length = values.length := by rfl) (h0 : keys ≠ [] := by exact fun z => nomatch z)
    (h15 : keys.length ≤ 15 := by decide) : DE X (.Dict keys values pos) (tDisp trs) (eDisp g) := ⟨pe_disp h.pps hall hl h0 h15, fun m S H env σ rl re d S' hh Q q => by
  have hh' : bnd (g env) (fillD S.length) (S ++ [.dK []]) = some (d, S') := hh
  obtain ⟨kvs, S1, e1, h1⟩ := bnd_some hh'
  intro p hp
  obtain ⟨rl1, x1, rp⟩ := rl.new (o := .dK []) (u := .dK []) hp (RepK.nil).o
  have hk0 : (m ++ [p])[S.length]? = some p := by
    rw [← rl.len, List.getElem?_append_right (Nat.le_refl _), Nat.sub_self]
    rfl
  refine h.sp rl1 (re.mono rl x1) kvs S1 e1 _ fun m2 H2 us rl2 x2 rk => ?_
  unfold fillD at h1
  split at h1
  · split at h1
    · cases h1
      rename_i ek c
      obtain ⟨p', u, q1, q2, q3⟩ := rl2.at ek
      rw [x2.at hk0] at q1
      cases q1
      cases q3 with
      | @dK _ us0 q3 q4 =>
        have hu0 : us0 = [] := by cases us0 with | nil => rfl | cons _ _ => cases q3
        subst hu0
        obtain ⟨a1, a2⟩ := rl2.set (x2.at hk0) (rk.merge (RepK.nil)).o
        exact ⟨q2, us, rfl, by rw [← rk.length]; exact c, q _ _ _ a1 ((x1.trans x2).trans a2) (.ref (x2.at hk0))⟩
    · cases h1
  · cases h1⟩
def eDict0 : SEnv → M D := fun _ S => some (.ref S.length, S ++ [.dK []])
theorem de_dict0 : DE X (.Dict [] [] pos) tDNewK eDict0 := ⟨pe_dnewK, fun m S H env σ rl re d S' hh Q q => by
  cases hh
  intro p hp
  obtain ⟨rl1, x1, rp⟩ := rl.new (o := .dK []) (u := .dK []) hp (RepK.nil).o
  exact q _ _ _ rl1 x1 rp⟩
/-- k in d -/
def dinB (a b : D) : M Bool := fun S => match b, keyOf a with
  | .ref i, some k => match S[i]? with
    | some (.dK kvs) => some (hasD kvs k, S)
    | _ => none
  | _, _ => none
def eDin (fa fb : SEnv → M D) : SEnv → M D := fun env => bnd (fa env) fun a => bnd (fb env) fun b => bnd (dinB a b) fun k => ret (.bl k)
def eDnin (fa fb : SEnv → M D) : SEnv → M D := fun env => bnd (fa env) fun a => bnd (fb env) fun b => bnd (dinB a b) fun k => ret (.bl (!k))
theorem dinB_rep (rl : Rel K m S H) {a b : D} {y x : V} {k : Bool} (ra : Rep K m H a y) (rb : Rep K m H b x) (h : dinB a b S = some (k, S')) : S' = S ∧ ∃ p o, x = .ref p ∧ DGet H p y o ∧ o.isSome = k := by
  unfold dinB at h
  split at h
  · split at h
    · cases h
      rename_i kk hk _ kvs e
      obtain ⟨p, us, rfl, _, q3, q4⟩ := rl.dict e rb
      refine ⟨rfl, p, valV us kk, rfl, ?_, ?_⟩
      · rw [keyOf_rep ra hk]
        exact DGet.k q3
      · unfold hasD
        rcases q4.look (k := kk) with ⟨d1, v1, w1, w2, w3⟩ | ⟨w1, w2⟩
        · rw [w1, w2]
          rfl
        · rw [w1, w2]
          rfl
    · cases h
  · cases h
theorem se_din {ty td : TE} {fa fb : SEnv → M D} (ha : SE K ty fa) (hb : SE K td fb) : SE K (tDIn ty td) (eDin fa fb) := fun m S H env σ rl re d S' h Q q => by
  obtain ⟨a, S1, e1, h1⟩ := bnd_some h
  obtain ⟨b, S2, e2, h2⟩ := bnd_some h1
  obtain ⟨k, S3, e3, h3⟩ := bnd_some h2
  cases h3
  refine ha rl re a S1 e1 _ fun m1 H1 x rl1 x1 ra => ?_
  refine hb rl1 (re.mono rl x1) b S2 e2 _ fun m2 H2 y rl2 x2 rb => ?_
  obtain ⟨rfl, p, o, rfl, g, rfl⟩ := dinB_rep rl2 (ra.mono rl1 x2) rb e3
  exact ⟨p, o, rfl, g, q m2 H2 _ rl2 (x1.trans x2) (.bl _)⟩
theorem se_dnin {ty td : TE} {fa fb : SEnv → M D} (ha : SE K ty fa) (hb : SE K td fb) : SE K (tDNotIn ty td) (eDnin fa fb) := fun m S H env σ rl re d S' h Q q => by
  obtain ⟨a, S1, e1, h1⟩ := bnd_some h
  obtain ⟨b, S2, e2, h2⟩ := bnd_some h1
  obtain ⟨k, S3, e3, h3⟩ := bnd_some h2
  cases h3
  refine ha rl re a S1 e1 _ fun m1 H1 x rl1 x1 ra => ?_
  refine hb rl1 (re.mono rl x1) b S2 e2 _ fun m2 H2 y rl2 x2 rb => ?_
  obtain ⟨rfl, p, o, rfl, g, rfl⟩ := dinB_rep rl2 (ra.mono rl1 x2) rb e3
  exact ⟨p, o, rfl, g, q m2 H2 _ rl2 (x1.trans x2) (.bl _)⟩
section
variable {o i : Expr} {td ty : TE} {fo fi : SEnv → M D}
theorem de_din (hu : X.A.units + 1 < cLine) (hi : DE X i ty fi) (ho : DE X o td fo) (h1 : behindInMarks .In o = false := by rfl) : DE X (.Compare i [.In] [o] pos) (tDIn ty td) (eDin fi fo) := ⟨pe_cmp (pc_din hu hi.pe ho.pe) h1, se_din hi.se ho.se⟩
theorem de_dnin (hu : X.A.units + 1 < cLine) (hi : DE X i ty fi) (ho : DE X o td fo) (h1 : behindInMarks .NotIn o = false := by rfl) : DE X (.Compare i [.NotIn] [o] pos) (tDNotIn ty td) (eDnin fi fo) := ⟨pe_cmp (pc_dnotin hu hi.pe ho.pe) h1, se_dnin hi.se ho.se⟩
theorem dt_din (hu : X.A.units + 1 < cLine) (hi : DE X i ty fi) (ho : DE X o td fo) (h1 : behindInMarks .In o = false := by rfl) : DT X (.Compare i [.In] [o] pos) (tB (tDIn ty td)) (asB (eDin fi fo)) := ⟨pt_cmp (pc_din hu hi.pe ho.pe) h1, st_B (se_din hi.se ho.se)⟩
theorem dt_dnin (hu : X.A.units + 1 < cLine) (hi : DE X i ty fi) (ho : DE X o td fo) (h1 : behindInMarks .NotIn o = false := by rfl) : DT X (.Compare i [.NotIn] [o] pos) (tB (tDNotIn ty td)) (asB (eDnin fi fo)) := ⟨pt_cmp (pc_dnotin hu hi.pe ho.pe) h1, st_B (se_dnin hi.se ho.se)⟩
end
end
end TS
set_option Elab.async false
set_option linter.all false
set_option maxRecDepth 100000
namespace TS
open PySem PySem.Spec PyProof.Rows L2
/-! ### zip and enumerate over lists, tuples and texts -/
/-- what is walked: a list, a tuple, a text -/
inductive Kd where
  | l (a : Addr) | t (a : Addr) | s (x : Str) (tk : Tok)
def Kd.its (K : PySem.W.Frag) (H : Hp) : Kd → List V → Prop
  | .l a, vs => SqL K H a vs
  | .t a, vs => SqT K H a vs
  | .s x _, vs => vs = x.cps.toList.map fun c => V.str ⟨#[c]⟩
def Kd.at : Kd → Addr → Nat → Heap → Prop
  | .l a, it, i, h => h.IsListIter it a i
  | .t a, it, i, h => h.IsTupleIter it a i
  | .s x tk, it, i, h => h.IsStrIter it (strIterType x) x tk i
def Kd.fp : Kd → Addr → List Addr
  | .l a, it => [it, a]
  | .t a, it => [it, a]
  | .s _ _, it => [it]
def Kd.off : Kd → Addr → Prop
  | .l a, b => a ≠ b
  | .t a, b => a ≠ b
  | .s _ _, _ => True
theorem Kd.mem (k : Kd) (it : Addr) : it ∈ k.fp it := by
  cases k <;> exact List.mem_cons_self ..
theorem Kd.not_fp {k : Kd} {it b : Addr} (h : it ≠ b) (o : k.off b) : b ∉ k.fp it := by
  cases k with
  | l a => exact fun q => (List.mem_cons.mp q).elim (fun z => h z.symm) fun z => o (List.mem_singleton.mp z).symm
  | t a => exact fun q => (List.mem_cons.mp q).elim (fun z => h z.symm) fun z => o (List.mem_singleton.mp z).symm
  | s x tk => exact fun q => h (List.mem_singleton.mp q).symm
theorem Kd.live {k : Kd} {it : Addr} {i : Nat} {h : Heap} (q : k.at it i h) : ∃ o, h.get? it = some o ∧ ∀ v, o.data ≠ .cell v := by
  cases k with
  | l a => obtain ⟨o, e, _, d⟩ := q; exact ⟨o, e, fun v z => by rw [d] at z; cases z⟩
  | t a => obtain ⟨o, e, _, d⟩ := q; exact ⟨o, e, fun v z => by rw [d] at z; cases z⟩
  | s x tk => obtain ⟨o, e, _, d⟩ := q; exact ⟨o, e, fun v z => by rw [d] at z; cases z⟩
theorem Kd.keep {k : Kd} {it : Addr} {i : Nat} {h h' : Heap} (q : k.at it i h) (e : ∀ o, h.get? it = some o → h'.get? it = some o) : k.at it i h' := by
  cases k with
  | l a => exact q.at e
  | t a => exact q.at e
  | s x tk => obtain ⟨o, e1, r⟩ := q; exact ⟨o, e o e1, r⟩
section
variable {X : Cx} {pins : List (Addr × Obj)} {σ : L2.St} {H : Hp} {s : Shared}
/-- at a turn: the iterator's step, by what it draws -/
theorem Kd.draws (I : Inv X pins σ H s) (hc : X.calm = true) {k : Kd} {vs : List V} (hv : k.its X.K H vs) {it : Addr} (ho : k.off it) {i : Nat} (hi : k.at it i s.heap) :
    ∃ (P : Nat → Value → Prop) (St : Nat → Heap → Prop), Draws X.prog X.w X.A.in1 it (k.fp it) vs.length P St ∧ St i s.heap ∧ (∀ j u, P j u → ∃ y, vs[j]? = some y ∧ RelV y u) ∧ ∀ j h, St j h → k.at it j h := by
  have hh : X.A.in1.handled = none := I.ok.hd hc
  cases k with
  | l a =>
    obtain ⟨us, rv, pl, _⟩ := I.list hv
    have hs : us.toArray.size = vs.length := by rw [List.size_toArray, rv.length]
    refine ⟨_, _, hs ▸ Draws.list hh it a ho us.toArray, ⟨hi, pl.isList⟩, fun j u hu => ?_, fun j h q => q.1⟩
    have hu' : us[j]? = some u := by simpa using hu
    have hj : j < vs.length := by rw [rv.length]; exact (List.getElem?_eq_some_iff.mp hu').1
    obtain ⟨u2, h2, r2⟩ := rv.get (List.getElem?_eq_getElem hj)
    rw [hu'] at h2
    cases h2
    exact ⟨_, List.getElem?_eq_getElem hj, r2⟩
  | t a =>
    obtain ⟨us, rv, pt, _⟩ := I.tuple hv
    have hs : us.toArray.size = vs.length := by rw [List.size_toArray, rv.length]
    refine ⟨_, _, hs ▸ Draws.tuple hh it a ho us.toArray, ⟨hi, pt⟩, fun j u hu => ?_, fun j h q => q.1⟩
    have hu' : us[j]? = some u := by simpa using hu
    have hj : j < vs.length := by rw [rv.length]; exact (List.getElem?_eq_some_iff.mp hu').1
    obtain ⟨u2, h2, r2⟩ := rv.get (List.getElem?_eq_getElem hj)
    rw [hu'] at h2
    cases h2
    exact ⟨_, List.getElem?_eq_getElem hj, r2⟩
  | s x tk =>
    have hv' : vs = x.cps.toList.map fun c => V.str ⟨#[c]⟩ := hv
    have hs : x.cps.size = vs.length := by rw [hv', List.length_map, Array.length_toList]
    refine ⟨_, _, hs ▸ Draws.text hh it x tk, hi, fun j u hu => ?_, fun j h q => q⟩
    obtain ⟨c, t, e1, rfl⟩ := hu
    refine ⟨.str ⟨#[c]⟩, ?_, ⟨t, rfl⟩⟩
    rw [hv', List.getElem?_map, Array.getElem?_toList, e1]
    rfl
theorem Kd.its_inj (I : Inv X pins σ H s) {k : Kd} {vs us : List V} (h1 : k.its X.K H vs) (h2 : k.its X.K H us) : vs = us := by
  cases k with
  | l a => exact I.list_inj h1 h2
  | t a => exact I.tuple_inj h1 h2
  | s x tk => exact Eq.trans h1 (Eq.symm h2)
end
/-- zip at each turn -/
def ItG (K : PySem.W.Frag) (k1 k2 : Kd) : It :=
  ⟨fun i H => ∃ vs us : List V, k1.its K H vs ∧ k2.its K H us ∧ i < vs.length ∧ i < us.length,
   fun i H v H' => ∃ T x y, v = .ref T ∧ H T = none ∧ H' = upd H T (.tup [x, y]) ∧ (∀ vs, k1.its K H vs → vs[i]? = some x) ∧ ∀ us, k2.its K H us → us[i]? = some y,
   fun i H => ∃ vs us : List V, k1.its K H vs ∧ k2.its K H us ∧ i ≤ vs.length ∧ i ≤ us.length ∧ (i = vs.length ∨ i = us.length)⟩
structure ApG (z TI TO i1 i2 : Addr) (k1 k2 : Kd) : Prop where
  a1 : TI ≠ z
  a2 : TO ≠ z
  a3 : TI ≠ TO
  a4 : TI ≠ i1
  a5 : TI ≠ i2
  a6 : i1 ≠ z
  a7 : i2 ≠ z
  a8 : i1 ≠ TO
  a9 : i2 ≠ TO
  aa : i1 ≠ i2
  o1 : ∀ b ∈ [z, TO, i1, i2], k1.off b
  o2 : ∀ b ∈ [z, TO, i1, i2], k2.off b
theorem ApG.sep {z TI TO i1 i2 : Addr} {k1 k2 : Kd} (A : ApG z TI TO i1 i2 k1 k2) : ZipSep2 z TI TO i1 i2 (k1.fp i1) (k2.fp i2) where
  TIz := A.a1
  TOz := A.a2
  TITO := A.a3
  TIi1 := A.a4
  mem1 := k1.mem i1
  zf1 := Kd.not_fp A.a6 (A.o1 z (by simp))
  Tf1 := Kd.not_fp A.a8 (A.o1 TO (by simp))
  TIi2 := A.a5
  mem2 := k2.mem i2
  zf2 := Kd.not_fp A.a7 (A.o2 z (by simp))
  Tf2 := Kd.not_fp A.a9 (A.o2 TO (by simp))
  sep1_2 := Kd.not_fp (Ne.symm A.aa) (A.o2 i1 (by simp))
  sep2_1 := Kd.not_fp A.aa (A.o1 i2 (by simp))
theorem five {P : Addr → Prop} {z TI TO i1 i2 c : Addr} (h : c ∈ [z, TI, TO, i1, i2]) (q1 : P z) (q2 : P TI) (q3 : P TO) (q4 : P i1) (q5 : P i2) : P c := by
  rcases List.mem_cons.mp h with rfl | h
  · exact q1
  rcases List.mem_cons.mp h with rfl | h
  · exact q2
  rcases List.mem_cons.mp h with rfl | h
  · exact q3
  rcases List.mem_cons.mp h with rfl | h
  · exact q4
  · rw [List.mem_singleton.mp h]
    exact q5
theorem turn_zipG {P : Program} {w : World} {K : PySem.W.Frag} {elts : List Expr} {kk : Nat} {tpos : Pos} {z TI TO i1 i2 : Addr} {k1 k2 : Kd} (A : ApG z TI TO i1 i2 k1 k2) :
    Turn P w K (.Tuple elts kk tpos) (ItG K k1 k2) [z, TI, TO, i1, i2] z (fun i h => IsZip h z TI TO .none ∧ IsTupOf2 h TI (.ref i1) (.ref i2) ∧ (∃ x y, IsTupOf2 h TO x y) ∧ k1.at i1 i h ∧ k2.at i2 i h) where
  mem := List.mem_cons_self ..
  obj := fun i h st c hc => by
    obtain ⟨s1, s2, ⟨x, y, s3⟩, s4, s5⟩ := st
    exact five (P := fun c => ∃ o, h.get? c = some o ∧ ∀ v, o.data ≠ .cell v) hc ⟨_, s1, fun v q => nomatch q⟩ ⟨_, s2, fun v q => nomatch q⟩ ⟨_, s3, fun v q => nomatch q⟩ (Kd.live s4) (Kd.live s5)
  keep := fun i h h' st kp => by
    obtain ⟨s1, s2, ⟨x, y, s3⟩, s4, s5⟩ := st
    exact ⟨kp z (by simp) _ s1, kp TI (by simp) _ s2, ⟨x, y, kp TO (by simp) _ s3⟩, Kd.keep s4 (kp i1 (by simp)), Kd.keep s5 (kp i2 (by simp))⟩
  item := by
    intro X e1 e2 e3 hc i pins s σ H E I hf st hg
    subst e1 e2 e3
    obtain ⟨s1, s2, ⟨x0, y0, s3⟩, s4, s5⟩ := st
    obtain ⟨vs, us, hvs, hus, l1, l2⟩ := hg
    obtain ⟨P1, St1, D1, t1, r1, b1⟩ := Kd.draws I hc hvs (A.o1 i1 (by simp)) s4
    obtain ⟨P2, St2, D2, t2, r2, b2⟩ := Kd.draws I hc hus (A.o2 i2 (by simp)) s5
    refine wpAny_pyNext_zipD2_item A.sep D1 D2 s1 s2 s3 t1 t2 l1 l2 fun u1 u2 h1 tk p1 p2 c1 c2 c3 c4 c5 _ kp => ?_
    obtain ⟨x, hx, rx⟩ := r1 i u1 p1
    obtain ⟨y, hy, ry⟩ := r2 i u2 p2
    have lz : z < s.heap.objs.size := Heap.lt_size s1
    have lTI : TI < s.heap.objs.size := Heap.lt_size s2
    have lTO : TO < s.heap.objs.size := Heap.lt_size s3
    have li1 : i1 < s.heap.objs.size := let ⟨_, q, _⟩ := Kd.live s4; Heap.lt_size q
    have li2 : i2 < s.heap.objs.size := let ⟨_, q, _⟩ := Kd.live s5; Heap.lt_size q
    refine ⟨_, rfl, wpAny_letOwnedTupleGo_zip (s := { s with heap := h1, toks := tk }) c1 fun h2 c1' sb => ?_⟩
    have five5 : ∀ c o, c ∉ [z, TI, TO, i1, i2] → s.heap.get? c = some o → h2.get? c = some o := fun c o hn q =>
      (sb.2 c fun w => hn (by simp [w])).trans (kp c o (fun w => hn (by simp [w])) (fun w => hn (by simp [w])) (fun w => hn (by simp [w])) (fun w => hn (by simp [w])) q)
    have hT : IsTupOf2 h2 s.heap.objs.size u1 u2 := (sb.2 _ (Nat.ne_of_gt lz)).trans c5
    have new : ObjOk X.prog X.w (upd H s.heap.objs.size (.tup [x, y])) h2 s.heap.objs.size (.tup [x, y]) := ⟨by show 2 ≤ sizeLine; decide, [u1, u2], .cons rx (.cons ry .nil), _, hT, rfl, _, rfl⟩
    have I2 : Inv X pins σ (upd H s.heap.objs.size (.tup [x, y])) { s with heap := h2, toks := tk } := I.turnedNew (ch := [z, TI, TO, i1, i2]) five5 hf (Nat.le_refl _) new
    refine ⟨.ref s.heap.objs.size, _, I2, rfl, ⟨_, x, y, rfl, I.hok.fresh (Nat.le_refl _), rfl, fun ws hw => by rw [Kd.its_inj I hw hvs]; exact hx, fun ws hw => by rw [Kd.its_inj I hw hus]; exact hy⟩, ⟨c1', ?_, ⟨u1, u2, ?_⟩, ?_, ?_⟩, fun c hcm => ?_⟩
    · exact (sb.2 _ A.a1).trans (kp _ _ A.a1 A.a3 A.a4 A.a5 s2)
    · exact (sb.2 _ A.a2).trans c2
    · exact Kd.keep (b1 _ _ c3) fun o q => (sb.2 _ A.a6).trans q
    · exact Kd.keep (b2 _ _ c4) fun o q => (sb.2 _ A.a7).trans q
    · have hlt : c < s.heap.objs.size := five (P := fun c => c < s.heap.objs.size) hcm lz lTI lTO li1 li2
      rw [upd_ne (Nat.ne_of_lt hlt)]
      exact (hf c hcm).1
  done := by
    intro X e1 e2 e3 hc i pins s σ H E I hf st hg
    subst e1 e2 e3
    obtain ⟨s1, s2, ⟨x0, y0, s3⟩, s4, s5⟩ := st
    obtain ⟨vs, us, hvs, hus, l1, l2, l3⟩ := hg
    obtain ⟨P1, St1, D1, t1, r1, b1⟩ := Kd.draws I hc hvs (A.o1 i1 (by simp)) s4
    obtain ⟨P2, St2, D2, t2, r2, b2⟩ := Kd.draws I hc hus (A.o2 i2 (by simp)) s5
    refine wpAny_pyNext_zipD2_end A.sep D1 D2 s1 s2 s3 t1 t2 l1 l2 l3 fun h1 tk kp => ⟨rfl, ?_⟩
    exact I.turnedL (ch := [z, TI, TO, i1, i2]) (fun c o hn q => kp c o (fun w => hn (by simp [w])) (fun w => hn (by simp [w])) (fun w => hn (by simp [w])) (fun w => hn (by simp [w])) q) hf
  self := fun A' i s Q E st h => wpAny_pyIter_zip st.1 h
/-- what the walk of a value begins with -/
def Kd.obj : Kd → Obj
  | .l a => { cls := .type "list_iterator", data := .fields #[.ref a, .int 0 0] }
  | .t a => { cls := .type "tuple_iterator", data := .fields #[.ref a, .int 0 0] }
  | .s x tk => { cls := .type (strIterType x), data := .fields #[.str x tk, .int 0 0] }
def Kd.val : Kd → Value
  | .l a => .ref a
  | .t a => .ref a
  | .s x tk => .str x tk
theorem Kd.at0 (k : Kd) {h : Heap} {it : Addr} (e : h.get? it = some k.obj) : k.at it 0 h := by
  cases k with
  | l a => exact ⟨_, e, rfl, rfl⟩
  | t a => exact ⟨_, e, rfl, rfl⟩
  | s x tk => exact ⟨_, e, rfl, rfl⟩
section
variable {X : Cx} {pins : List (Addr × Obj)} {σ : L2.St} {H : Hp} {s : Shared}
theorem Kd.begins (I : Inv X pins σ H s) {k : Kd} {vs : List V} (hv : k.its X.K H vs) : ∃ G : Heap → Prop, Begins k.val k.obj G ∧ G s.heap ∧ ∀ b, s.heap.objs.size ≤ b → k.off b := by
  cases k with
  | l a =>
    obtain ⟨us, rv, pl, _⟩ := I.list hv
    exact ⟨_, begins_list a us.toArray, pl.isList, fun b hb w => Nat.lt_irrefl _ (Nat.lt_of_lt_of_le (w ▸ pl.lt) hb)⟩
  | t a =>
    obtain ⟨us, rv, pt, _⟩ := I.tuple hv
    obtain ⟨o, ho, _⟩ := id pt
    exact ⟨_, begins_tuple a us.toArray, pt, fun b hb w => Nat.lt_irrefl _ (Nat.lt_of_lt_of_le (w ▸ Heap.lt_size ho) hb)⟩
  | s x tk => exact ⟨_, begins_text x tk, trivial, fun _ _ => trivial⟩
end
/-- a value is of a kind -/
inductive OfK : V → Value → Kd → Prop where
  | l (a : Addr) : OfK (.ref a) (.ref a) (.l a)
  | t (a : Addr) : OfK (.ref a) (.ref a) (.t a)
  | s (x : Str) (tk : Tok) : OfK (.str x) (.str x tk) (.s x tk)
theorem OfK.val {v : V} {u : Value} {k : Kd} (h : OfK v u k) : u = k.val := by
  cases h <;> rfl
theorem apG_new {k1 k2 : Kd} (n : Nat) (f1 : ∀ b, n ≤ b → k1.off b) (f2 : ∀ b, n ≤ b → k2.off b) : ApG (n + 4) (n + 2) (n + 3) n (n + 1) k1 k2 := by
  have ne : ∀ i j : Nat, i ≠ j → (n + i : Nat) ≠ n + j := fun i j h => by omega
  have le : ∀ b : Nat, b ∈ [n + 4, n + 3, n, n + 1] → n ≤ b := fun b hb => by
    simp only [List.mem_cons, List.not_mem_nil, or_false] at hb
    omega
  exact ⟨ne 2 4 (by decide), ne 3 4 (by decide), ne 2 3 (by decide), ne 2 0 (by decide), ne 2 1 (by decide), ne 0 4 (by decide), ne 1 4 (by decide), ne 0 3 (by decide), ne 1 3 (by decide), ne 0 1 (by decide), fun b hb => f1 b (le b hb), fun b hb => f2 b (le b hb)⟩
def iZipG (K : PySem.W.Frag) (ta : TA) : TI := fun σ H R => ta σ H fun vs H1 => ∃ x y, vs = [x, y] ∧ ∀ u1 u2, RelV x u1 → RelV y u2 → ∃ k1 k2 ws us, OfK x u1 k1 ∧ OfK y u2 k2 ∧ k1.its K H1 ws ∧ k2.its K H1 us ∧ R (ItG K k1 k2) H1
theorem pi_zipG {X : Cx} {e e2 : Expr} {ta : TA} {p pos tpos : Pos} {elts : List Expr} {kk : Nat} (hm : X.mg "zip" = none) (ha : PA X [e, e2] ta) (hg : Gl X "zip" := by rfl)
    (hs : starEach [e, e2] X.env = (false, eval e X.env) :: starEach [e2] X.env := by rfl) (hpl : (backTo pos (starEach [e2] X.env)).any (·.1) = false := by rfl) :
    PI X (.Tuple elts kk tpos) (.Call (.Name "zip" p) [e, e2] [] pos) (iZipG X.K ta) := by
  refine ⟨fun pins s σ H R I h => Call_ (ld_blt I hg hm PyProof.Rows.boot_zip (PyProof.Rows.callWith_type1 (thn (ha.run pos pins s σ H _ I h) fun us s1 ⟨vs, H1, I1, rv, q⟩ => ?_) hs hpl))⟩
  obtain ⟨x, y, rfl, q⟩ := q
  obtain ⟨u1, u2, rfl, rx, ry⟩ := vals2 rv
  obtain ⟨k1, k2, ws, us, o1, o2, i1, i2, q⟩ := q u1 u2 rx ry
  obtain ⟨G1, B1, g1, f1⟩ := Kd.begins I1 i1
  obtain ⟨G2, B2, g2, f2⟩ := Kd.begins I1 i2
  rw [o1.val, o2.val]
  refine zip_begins2 B1 B2 g1 g2 fun h' z1 z2 z3 z4 z5 z6 kp => wpAny_pyIter_zip z1 ?_
  have I2 : Inv X pins σ H1 { s1 with heap := h' } := I1.kept (t' := s1.toks) kp
  have ap := apG_new s1.heap.objs.size f1 f2
  refine ⟨s1.heap.objs.size + 4, [s1.heap.objs.size + 4, s1.heap.objs.size + 2, s1.heap.objs.size + 3, s1.heap.objs.size, s1.heap.objs.size + 1], _, _, H1, rfl, I2, turn_zipG ap, ⟨z1, z2, ⟨_, _, z3⟩, k1.at0 z4, k2.at0 z5⟩, fun c hc => ?_, q⟩
  have hle : s1.heap.objs.size ≤ c := five (P := fun c => s1.heap.objs.size ≤ c) hc (Nat.le_add_right _ _) (Nat.le_add_right _ _) (Nat.le_add_right _ _) (Nat.le_refl _) (Nat.le_add_right _ _)
  exact I1.fpOk hle (I1.hok.fresh hle)
/-! data -/
section
variable {X : Cx} {K : PySem.W.Frag} {m m' m2 m1 : List Addr} {S S' S2 : Store} {H H' H2 H1 : Hp} {env env' : SEnv} {σ : L2.St} {pos : Pos}
def srcOf (S : Store) : D → Option (List D × Gd)
  | .tup xs => some (xs, [])
  | .fl xs => some (xs, [])
  | .str x => some (signs x, [])
  | .ref r => match S[r]? with
    | some (.lst xs) => some (xs, [(r, xs)])
    | _ => none
  | _ => none
def KW (K : PySem.W.Frag) (m : List Addr) (H : Hp) (k : Kd) (xs : List D) (g : Gd) : Prop := ∀ m2 S2 H2, Rel K m2 S2 H2 → Ext m H m2 H2 → gdOk S2 g → ∃ vs, k.its K H2 vs ∧ Reps K m2 H2 xs vs
theorem signs_rep {x : Str} : Reps K m H (signs x) (x.cps.toList.map fun c => V.str ⟨#[c]⟩) := by
  unfold signs
  induction x.cps.toList with
  | nil => exact .nil
  | cons c r ih => exact .cons (.str _) ih
theorem srcOf_rep (rl : Rel K m S H) {d : D} {v : V} {xs : List D} {g : Gd} (r : Rep K m H d v) (e : srcOf S d = some (xs, g)) : gdOk S g ∧ ∀ u, RelV v u → ∃ k, OfK v u k ∧ KW K m H k xs g := by
  cases r with
  | tup h1 h2 =>
    cases e
    refine ⟨gdOk_nil S, fun u hu => ?_⟩
    cases hu
    exact ⟨_, .t _, fun m2 S2 H2 rl2 x2 _ => ⟨_, rl.sqT x2 h1, h2.mono rl x2⟩⟩
  | fl h1 h2 =>
    cases e
    refine ⟨gdOk_nil S, fun u hu => ?_⟩
    cases hu
    exact ⟨_, .l _, fun m2 S2 H2 rl2 x2 _ => ⟨_, (rl.fzL x2 h1).sq, h2.mono rl x2⟩⟩
  | str x =>
    cases e
    refine ⟨gdOk_nil S, fun u hu => ?_⟩
    obtain ⟨t, rfl⟩ := hu
    exact ⟨_, .s x t, fun m2 S2 H2 rl2 x2 _ => ⟨_, rfl, signs_rep⟩⟩
  | @ref i a hi =>
    unfold srcOf at e
    simp only at e
    cases e1 : S[i]? with
    | none => rw [e1] at e; cases e
    | some o =>
      rw [e1] at e
      cases o with
      | lst ys =>
        cases e
        refine ⟨fun p hp => by rw [List.mem_singleton.mp hp]; exact e1, fun u hu => ?_⟩
        cases hu
        refine ⟨_, .l _, fun m2 S2 H2 rl2 x2 g2 => ?_⟩
        obtain ⟨p, w, q1, q2, q3⟩ := rl2.at (g2 (i, xs) (List.mem_singleton.mpr rfl))
        rw [x2.at hi] at q1
        cases q1
        cases q3 with
        | lst q3 => exact ⟨_, .inl (.inl q2), q3⟩
      | _ => cases e
  | _ => cases e
theorem KW.mono {k : Kd} {xs : List D} {g : Gd} (e : Ext m H m1 H1) (h : KW K m H k xs g) : KW K m1 H1 k xs g := fun m2 S2 H2 rl x q => h m2 S2 H2 rl (e.trans x) q
def zipD (xs ys : List D) : List D := (xs.zip ys).map fun p => .tup [p.1, p.2]
theorem walk_zipG {k1 k2 : Kd} {xs ys : List D} {g1 g2 : Gd} (w1 : KW K m H k1 xs g1) (w2 : KW K m H k2 ys g2) : WalkD K m H (ItG K k1 k2) (zipD xs ys) (g1 ++ g2) := by
  have hl : (zipD xs ys).length = min xs.length ys.length := by unfold zipD; rw [List.length_map, List.length_zip]
  have sp : ∀ {S2 : Store}, gdOk S2 (g1 ++ g2) → gdOk S2 g1 ∧ gdOk S2 g2 := fun q => ⟨fun p hp => q p (List.mem_append_left _ hp), fun p hp => q p (List.mem_append_right _ hp)⟩
  refine ⟨fun i H2 hi ⟨m2, S2, rl2, x2, g⟩ => ?_, fun H2 ⟨m2, S2, rl2, x2, g⟩ => ?_, fun i H2 x H3 hi _ y m2 S2 rl2 x2 g => ?_⟩
  · obtain ⟨vs, a1, a2⟩ := w1 m2 S2 H2 rl2 x2 (sp g).1
    obtain ⟨us, b1, b2⟩ := w2 m2 S2 H2 rl2 x2 (sp g).2
    rw [hl] at hi
    exact ⟨vs, us, a1, b1, by rw [← a2.length]; omega, by rw [← b2.length]; omega⟩
  · obtain ⟨vs, a1, a2⟩ := w1 m2 S2 H2 rl2 x2 (sp g).1
    obtain ⟨us, b1, b2⟩ := w2 m2 S2 H2 rl2 x2 (sp g).2
    rw [hl]
    exact ⟨vs, us, a1, b1, by rw [← a2.length]; omega, by rw [← b2.length]; omega, by rw [← a2.length, ← b2.length]; omega⟩
  · obtain ⟨vs, a1, a2⟩ := w1 m2 S2 H2 rl2 x2 (sp g).1
    obtain ⟨us, b1, b2⟩ := w2 m2 S2 H2 rl2 x2 (sp g).2
    rw [hl] at hi
    obtain ⟨T, u, v, rfl, hT, rfl, c1, c2⟩ := y
    have hi1 : i < xs.length := by omega
    have hi2 : i < ys.length := by omega
    obtain ⟨u', d1, d2⟩ := a2.get (List.getElem?_eq_getElem hi1)
    obtain ⟨v', d3, d4⟩ := b2.get (List.getElem?_eq_getElem hi2)
    rw [c1 vs a1] at d1
    rw [c2 us b1] at d3
    cases d1
    cases d3
    obtain ⟨z1, z2, z3⟩ := rl2.tup hT (.cons d2 (.cons d4 .nil))
    refine ⟨_, ?_, z1, z2, z3⟩
    unfold zipD
    rw [List.getElem?_map, List.getElem?_eq_getElem (by rw [List.length_zip]; omega), List.getElem_zip]
    rfl
def iZipM (f : SEnv → M (List D)) : SEnv → M (List D × Gd) := fun env => bnd (f env) fun ds S => match ds with
  | [a, b] => match srcOf S a, srcOf S b with
    | some (xs, g1), some (ys, g2) => some ((zipD xs ys, g1 ++ g2), S)
    | _, _ => none
  | _ => none
theorem di_zip {e e2 : Expr} {ta : TA} {f : SEnv → M (List D)} {p tpos : Pos} {elts : List Expr} {kk : Nat} (hm : X.mg "zip" = none) (ha : DA X [e, e2] ta f) (hg : Gl X "zip" := by rfl)
    (hs : starEach [e, e2] X.env = (false, eval e X.env) :: starEach [e2] X.env := by rfl) (hpl : (backTo pos (starEach [e2] X.env)).any (·.1) = false := by rfl) :
    DI X (.Tuple elts kk tpos) (.Call (.Name "zip" p) [e, e2] [] pos) (iZipG X.K ta) (iZipM f) := ⟨pi_zipG hm ha.pa hg hs hpl, fun m S H env σ rl re xs g S' hh R q => by
  obtain ⟨ds, S1, e1, h1⟩ := bnd_some hh
  refine ha.sa rl re ds S1 e1 _ fun m1 H1 vs rl1 x1 rv => ?_
  split at h1
  · rename_i a b
    obtain ⟨v, u, rfl, r1, r2⟩ := rv.two
    cases ea : srcOf S1 a with
    | none => rw [ea] at h1; cases h1
    | some pa =>
      cases eb : srcOf S1 b with
      | none => rw [ea, eb] at h1; cases h1
      | some pb =>
        obtain ⟨xs1, g1⟩ := pa
        obtain ⟨ys1, g2⟩ := pb
        rw [ea, eb] at h1
        cases h1
        refine ⟨v, u, rfl, fun u1 u2 hu1 hu2 => ?_⟩
        obtain ⟨gk1, w1⟩ := srcOf_rep rl1 r1 ea
        obtain ⟨gk2, w2⟩ := srcOf_rep rl1 r2 eb
        obtain ⟨k1, o1, w1⟩ := w1 u1 hu1
        obtain ⟨k2, o2, w2⟩ := w2 u2 hu2
        obtain ⟨ws, a1, _⟩ := w1 m1 _ H1 rl1 .refl gk1
        obtain ⟨us, b1, _⟩ := w2 m1 _ H1 rl1 .refl gk2
        exact ⟨k1, k2, ws, us, o1, o2, a1, b1, q m1 H1 _ rl1 x1 (walk_zipG w1 w2)⟩
  · cases h1⟩
end
end TS
set_option Elab.async false
set_option linter.all false
set_option maxRecDepth 100000
namespace TS
open PySem PySem.Spec PyProof.Rows L2
section
variable {X : Cx} {K : PySem.W.Frag} {m m' m2 m1 : List Addr} {S S' S2 : Store} {H H' H2 H1 : Hp} {env env' : SEnv} {σ : L2.St} {pos : Pos}
/-! ### one rule for all kinds -/
theorem ix_dct (hu : X.A.units + 1 < cLine) : IxR X (fun x y H Q => ∃ a v, x = .ref a ∧ DGet H a y (some v) ∧ Q v H) := by
  intro value slice pins s σ H x y v u Q I rx ry h hs
  obtain ⟨a, w, rfl, g, q⟩ := h
  cases rx
  exact tail_any (dict_typeIs I g) PySem.F.slot_dict_getitem.lookup (d_getItem hu I g ry fun w' s3 I3 rw' => ⟨w, H, I3, rw', q⟩) hs
def isDct (S : Store) (a : D) : Bool := match a with
  | .ref i => match S[i]? with
    | some (.dK _) => true
    | _ => false
  | _ => false
def ixU (a b : D) : M D := fun S => if isDct S a = true then dgetM a b S else ixD a b S
def rIxU (K : PySem.W.Frag) : R2 := fun x y H Q => (∃ a v, x = .ref a ∧ DGet H a y (some v) ∧ Q v H) ∨ rIx K x y H Q
theorem ix_u (hu : X.A.units + 1 < cLine) : DIx X (rIxU X.K) ixU := ⟨(ix_dct hu).or ix_seq, fun m S H x y a b rl ra rb d S' h Q q => by
  unfold ixU at h
  split at h
  · refine .inl ?_
    unfold dgetM at h
    split at h
    · split at h
      · split at h
        · cases h
          rename_i k hk _ _ kvs e3 _ e4
          obtain ⟨p, us, rfl, _, q3, q4⟩ := rl.dict e3 ra
          rcases q4.look (k := k) with ⟨d1, v1, w1, w2, w3⟩ | ⟨w1, w2⟩
          · rw [w1] at e4
            cases e4
            refine ⟨p, v1, rfl, ?_, q m H v1 rl .refl w3⟩
            rw [keyOf_rep rb hk, ← w2]
            exact DGet.k q3
          · rw [w1] at e4
            cases e4
        · cases h
      · cases h
    · cases h
  · exact .inr (ix_sr rl ra rb d S' h Q q)⟩
theorem op_inDct (hu : X.A.units + 1 < cLine) : OpR X (compareOp .In) (fun x y H Q => ∃ a o, y = .ref a ∧ DGet H a x o ∧ Q (.bl o.isSome) H) := by
  intro pins s σ H x y v u Q I rx ry h
  obtain ⟨a, o, rfl, g, q⟩ := h
  cases ry
  exact d_in hu I g rx fun s3 I3 => ⟨.bl o.isSome, H, I3, rfl, q⟩
theorem op_ninDct (hu : X.A.units + 1 < cLine) : OpR X (compareOp .NotIn) (fun x y H Q => ∃ a o, y = .ref a ∧ DGet H a x o ∧ Q (.bl (!o.isSome)) H) := by
  intro pins s σ H x y v u Q I rx ry h
  obtain ⟨a, o, rfl, g, q⟩ := h
  cases ry
  exact d_notIn hu I g rx fun s3 I3 => ⟨.bl (!o.isSome), H, I3, rfl, q⟩
def inUB (a b : D) : M Bool := fun S => if isDct S b = true then dinB a b S else inB a b S
def inU (a b : D) : M D := bnd (inUB a b) fun k => ret (.bl k)
def ninU (a b : D) : M D := bnd (inUB a b) fun k => ret (.bl (!k))
def rInU (K : PySem.W.Frag) : R2 := fun x y H Q => (∃ a o, y = .ref a ∧ DGet H a x o ∧ Q (.bl o.isSome) H) ∨ rInA K x y H Q
def rNinU (K : PySem.W.Frag) : R2 := fun x y H Q => (∃ a o, y = .ref a ∧ DGet H a x o ∧ Q (.bl (!o.isSome)) H) ∨ rNotInA K x y H Q
theorem o_inU (hu : X.A.units + 1 < cLine) : DO2 X (compareOp .In) (rInU X.K) inU := ⟨(op_inDct hu).or (op_in_sign.or op_in_seq), fun m S H x y a b rl ra rb d S' h Q q => by
  obtain ⟨k, S1, h1, h2⟩ := bnd_some h
  cases h2
  unfold inUB at h1
  split at h1
  · obtain ⟨rfl, p, o, rfl, g, rfl⟩ := dinB_rep rl ra rb h1
    exact .inl ⟨p, o, rfl, g, q m H _ rl .refl (.bl _)⟩
  · exact .inr (o_in (X := X).sr rl ra rb _ _ (bnd_eq h1) Q q)⟩
theorem o_ninU (hu : X.A.units + 1 < cLine) : DO2 X (compareOp .NotIn) (rNinU X.K) ninU := ⟨(op_ninDct hu).or (op_notIn_sign.or op_notIn_seq), fun m S H x y a b rl ra rb d S' h Q q => by
  obtain ⟨k, S1, h1, h2⟩ := bnd_some h
  cases h2
  unfold inUB at h1
  split at h1
  · obtain ⟨rfl, p, o, rfl, g, rfl⟩ := dinB_rep rl ra rb h1
    exact .inl ⟨p, o, rfl, g, q m H _ rl .refl (.bl _)⟩
  · exact .inr (o_notin (X := X).sr rl ra rb _ _ (bnd_eq h1) Q q)⟩
def setU (a b d : D) : M Unit := fun S => if isDct S a = true then dsetM a b d S else setLM a b d S
def rSetU : TSet := fun o i v H Q => rSetD o i v H Q ∨ rSetL o i v H Q
theorem set_u (hu : X.A.units + 1 < cLine) : DSet X rSetU setU := ⟨fun pins s σ H o i v ov iv u Q I ro ri rv h => by
  rcases h with h | h
  · exact set_dict hu pins s σ H o i v ov iv u Q I ro ri rv h
  · exact set_list pins s σ H o i v ov iv u Q I ro ri rv h, fun m S H o i v a b d rl ra rb rd S' h Q q => by
  unfold setU at h
  split at h
  · exact .inl ((set_d hu).sr rl ra rb rd S' h Q q)
  · exact .inr ((set_l (X := X)).sr rl ra rb rd S' h Q q)⟩
/-- name += e -/
def iaddD (a b : D) : M D := fun S => match a, b with
  | .int i, .int j => some (.int (i + j), S)
  | .str x, .str y => if x.length + y.length ≤ sizeLine then some (.str (x ++ y), S) else none
  | _, _ => none
def rIadd : R2 := fun x y H Q => rI0 (fun i j => .int (i + j)) x y H Q ∨ (∃ i j, x = .str i ∧ y = .str j ∧ i.length + j.length ≤ sizeLine ∧ Q (.str (i ++ j)) H)
theorem o_iadd : DO2 X (inplaceOp .Add) rIadd iaddD := ⟨iop_add.or iop_add_str, fun m S H x y a b rl ra rb d S' h Q q => by
  unfold iaddD at h
  split at h
  · cases h; cases ra; cases rb
    exact .inl ⟨_, _, rfl, rfl, q m H _ rl .refl (.int _)⟩
  · split at h
    · cases h; cases ra; cases rb
      rename_i c
      exact .inr ⟨_, _, rfl, rfl, c, q m H _ rl .refl (.str _)⟩
    · cases h
  · cases h⟩
theorem o_isub : DO2 X (inplaceOp .Sub) (rI0 fun i j => .int (i - j)) subD := ⟨iop_sub, fun m S H x y a b rl ra rb d S' h Q q => by
  unfold subD at h
  split at h
  · cases h; cases ra; cases rb
    exact ⟨_, _, rfl, rfl, q m H _ rl .refl (.int _)⟩
  · cases h⟩
/-! a for or a comprehension over a list, a tuple or a text -/
def It1 (K : PySem.W.Frag) : Kd → It
  | .l a => Itl K a
  | .t a => Itt K a
  | .s x _ => Its x
theorem turn_one {P : Program} {w : World} {tg : Expr} (k : Kd) (it : Addr) : Turn P w K tg (It1 K k) [it] it (fun i h => k.at it i h) := by
  cases k with
  | l a => exact turn_list a it
  | t a => exact turn_tuple a it
  | s x tk => exact turn_str it x tk (strIterType x) (by
      unfold strIterType
      split
      · exact .inl rfl
      · exact .inr rfl)
def iAny (K : PySem.W.Frag) (te : TE) : TI := fun σ H R => te σ H fun x H1 => ∀ u, RelV x u → ∃ k vs, OfK x u k ∧ k.its K H1 vs ∧ R (It1 K k) H1
theorem pi_any {tg e : Expr} {te : TE} (he : PE X e te) : PI X tg e (iAny X.K te) := by
  refine ⟨fun pins s σ H R I h => thn (he.run pins s σ H _ I h) fun u s1 ⟨x, H1, I1, rx, q⟩ => ?_⟩
  obtain ⟨k, vs, o, iv, q⟩ := q u rx
  obtain ⟨G, B, g, f⟩ := Kd.begins I1 iv
  rw [o.val]
  refine B.iter _ _ _ _ _ _ g ?_
  refine ⟨s1.heap.objs.size, [s1.heap.objs.size], _, _, H1, rfl, I1.kept (t' := s1.toks) fun b ob e1 => Heap.get?_push_of_some _ e1, turn_one k _, k.at0 (Heap.get?_push_size _ B.free), fun b hb => ?_, q⟩
  rw [List.mem_singleton.mp hb]
  exact I1.fpOk (Nat.le_refl _) (I1.hok.fresh (Nat.le_refl _))
theorem walk_one {k : Kd} {xs : List D} {g : Gd} (w : KW K m H k xs g) : WalkD K m H (It1 K k) xs g := by
  refine ⟨fun i H2 hi ⟨m2, S2, rl2, x2, g2⟩ => ?_, fun H2 ⟨m2, S2, rl2, x2, g2⟩ => ?_, fun i H2 x H3 hi _ y m2 S2 rl2 x2 g2 => ?_⟩
  · obtain ⟨vs, a1, a2⟩ := w m2 S2 H2 rl2 x2 g2
    have hv : i < vs.length := by rw [← a2.length]; exact hi
    cases k with
    | l a => exact ⟨vs, vs[i], a1, List.getElem?_eq_getElem hv⟩
    | t a => exact ⟨vs, vs[i], a1, List.getElem?_eq_getElem hv⟩
    | s z tk =>
      have a1' : vs = z.cps.toList.map fun c => V.str ⟨#[c]⟩ := a1
      rw [a1', List.length_map, Array.length_toList] at hv
      exact hv
  · obtain ⟨vs, a1, a2⟩ := w m2 S2 H2 rl2 x2 g2
    cases k with
    | l a => exact ⟨vs, a1, by rw [a2.length]; exact Nat.le_refl _⟩
    | t a => exact ⟨vs, a1, by rw [a2.length]; exact Nat.le_refl _⟩
    | s z tk =>
      have a1' : vs = z.cps.toList.map fun c => V.str ⟨#[c]⟩ := a1
      show z.cps.size ≤ xs.length
      rw [a2.length, a1', List.length_map, Array.length_toList]
      exact Nat.le_refl _
  · obtain ⟨vs, a1, a2⟩ := w m2 S2 H2 rl2 x2 g2
    obtain ⟨v, h3, h4⟩ := a2.get (List.getElem?_eq_getElem hi)
    cases k with
    | l a =>
      obtain ⟨rfl, e⟩ := y
      rw [e vs a1] at h3
      cases h3
      exact ⟨_, List.getElem?_eq_getElem hi, rl2, .refl, h4⟩
    | t a =>
      obtain ⟨rfl, e⟩ := y
      rw [e vs a1] at h3
      cases h3
      exact ⟨_, List.getElem?_eq_getElem hi, rl2, .refl, h4⟩
    | s z tk =>
      obtain ⟨rfl, c, hc, rfl⟩ := y
      have a1' : vs = z.cps.toList.map fun c => V.str ⟨#[c]⟩ := a1
      rw [a1', List.getElem?_map, Array.getElem?_toList, hc] at h3
      cases h3
      exact ⟨_, List.getElem?_eq_getElem hi, rl2, .refl, h4⟩
def iAnyM (f : SEnv → M D) : SEnv → M (List D × Gd) := fun env => bnd (f env) fun d S => match srcOf S d with
  | some p => some (p, S)
  | none => none
theorem di_any {tg l : Expr} {tl : TE} {f : SEnv → M D} (h : DE X l tl f) : DI X tg l (iAny X.K tl) (iAnyM f) := ⟨pi_any h.pe, fun m S H env σ rl re xs g S' hh R q => by
  obtain ⟨d, S1, e1, h1⟩ := bnd_some hh
  refine h.se rl re d S1 e1 _ fun m1 H1 v rl1 x1 rv => ?_
  cases e : srcOf S1 d with
  | none => rw [e] at h1; cases h1
  | some p =>
    rw [e] at h1
    cases h1
    obtain ⟨gk, w⟩ := srcOf_rep rl1 rv e
    intro u hu
    obtain ⟨k, o, w⟩ := w u hu
    obtain ⟨vs, iv, _⟩ := w m1 _ H1 rl1 .refl gk
    exact ⟨k, vs, o, iv, q m1 H1 _ rl1 x1 (walk_one w)⟩⟩
end
end TS
set_option Elab.async false
set_option linter.all false
set_option maxRecDepth 100000
set_option maxHeartbeats 2000000
namespace TS
open PySem PySem.Spec PyProof.Rows L2
section
variable {prog : Program} {w : World} {A : Around} {E : Value → Shared → Prop} {s : Shared}
/-! ### list of a text -/
theorem hint_txt {z : Str} {u : Tok} {Q : Bool → Shared → Prop} (h : Q false s) : wpAny (model prog w) A (Builtin.List.listLengthHint (.str z u)) Q E s := by
  have ty : s.TypeIs (.str z u) "str" := typeIs_str s z u
  unfold Builtin.List.listLengthHint
  refine wpAny_bind (wpAny_specialOf ty F.slot_str_len.lookup ?_)
  generalize hq : ("str.__len__" : String) = nm
  wp_delta
  rw [show splitId nm = some ("str", "__len__") from by subst hq; decide +kernel]
  subst hq
  refine wpAny_bind (wpAny_isInstance (T := "str") (b := true) ty (by rw [isSubtype_type]; kernel_rfl) ?_)
  refine wpAny_ite_split (fun c => absurd c (by decide)) (fun _ => ?_)
  refine wpAny_ite_split (fun _ => ?_) (fun c => absurd (by decide +kernel) c)
  exact wpAny_bind (wpAny_typeOf ty (wpAny_pure h))
/-- one sign of a text -/
def SgAt (z : Str) (i : Nat) (v : Value) : Prop := ∃ c u, z.cps[i]? = some c ∧ v = .str ⟨#[c]⟩ u
theorem walks_txt (hh : A.handled = none) (z : Str) (u : Tok) (J : Addr) : Walks prog w A J [J] [J] z.cps.size (SgAt z) (fun i h => h.IsStrIter J (strIterType z) z u i) := by
  unfold strIterType
  cases q : z.cps.all (· < 128)
  · exact Walks.strWide hh J z u
  · exact Walks.strAscii hh J z u
theorem ext_txt {R : Result → Shared → Prop} (hh : A.handled = none) (z : Str) (u : Tok) (L : Addr) (out : Value) (c0 : Nat) (hL : s.heap.get? L = some { cls := .type "list", data := .seq #[] c0 }) (hz : z.cps.size ≤ sizeLine)
    (hR : ∀ g tk acc c1, (∀ b o, b ≠ L → s.heap.get? b = some o → g.get? b = some o) → g.get? L = some { cls := .type "list", dict := none, data := .seq acc c1, slots := #[] } →
      ItemsOf (SgAt z) acc z.cps.size → R (.ok (.ret out)) { s with heap := g, toks := tk }) :
    wpAny (model prog w) A.in1 (Builtin.List.listExtendWith (.ref L) (.str z u) out)
      (fun r s' => match r with | .done f => R (.ok f) s' | .again c => c.quiet = true ∧ codeAny (model prog w) A c R s') (fun e s' => R (.error e) s') s := by
  have nLI : L ≠ s.heap.objs.size := Nat.ne_of_lt (Heap.lt_size hL)
  have nLf : L ∉ [s.heap.objs.size] := fun q => nLI (List.mem_singleton.mp q)
  unfold Builtin.List.listExtendWith
  refine wpAny_bind (wpAny_typeOf (T := "str") (v := .str z u) (typeIs_str s z u) ?_)
  have t1 : Builtin.List.listSameRef (.ref L) (.str z u) = false := rfl
  have t2 : (Value.type "str" == Value.type "list") = false := by decide
  have t3 : (Value.type "str" == Value.type "tuple") = false := by decide
  simp only [t1, t2, t3, Bool.or_false, Bool.false_eq_true, if_false]
  refine wpAny_bind (wpAny_pyIter_strU ?_)
  refine wpAny_bind (wpAny_holding (hint_txt ?_))
  rw [if_neg (by first | decide | decide +kernel)]
  have W := walks_txt (prog := prog) (w := w) (A := A.in1) hh z u s.heap.objs.size
  have st0 : (s.heap.push { cls := .type (strIterType z), data := .fields #[.str z u, .int 0 0] }).IsStrIter s.heap.objs.size (strIterType z) z u 0 := ⟨_, Heap.get?_push_size _ rfl, rfl, rfl⟩
  refine wpAny_pure ⟨plainId_quiet PySem.F.plain_extend_loop _, codeAny_extend_loopS W.toS hz _ nLf _ z.cps.size 0 _ _ _ rfl (Nat.zero_le _) st0 (Heap.get?_push_of_some _ hL) (ItemsOf.nil _) fun s2 acc c1 mv hL2 ha => ?_⟩
  rw [Moved.eq_with mv]
  refine hR s2.heap s2.toks acc c1 (fun b o hb e => mv.heap b o (fun q => ?_) (Heap.get?_push_of_some _ e)) hL2 ha
  rcases List.mem_cons.mp q with e1 | q
  · exact hb e1
  · rw [List.mem_singleton.mp q] at e
    exact Nat.lt_irrefl _ (Heap.lt_size e)
theorem init_txt {R : Result → Shared → Prop} (hh : A.handled = none) (z : Str) (u : Tok) (L : Addr) (hL : s.heap.get? L = some { cls := .type "list", data := .seq #[] }) (hz : z.cps.size ≤ sizeLine)
    (hR : ∀ g tk acc c1, (∀ b o, b ≠ L → s.heap.get? b = some o → g.get? b = some o) → g.get? L = some { cls := .type "list", dict := none, data := .seq acc c1, slots := #[] } →
      ItemsOf (SgAt z) acc z.cps.size → R (.ok (.ret .none)) { s with heap := g, toks := tk }) :
    wpAny (model prog w) A.in1 (Builtin.«list.__init__» ⟨[.ref L, .str z u], []⟩)
      (fun r s' => match r with | .done f => R (.ok f) s' | .again c => c.quiet = true ∧ codeAny (model prog w) A c R s') (fun e s' => R (.error e) s') s := by
  show wpAny _ _ (Builtin.List.listItems (.ref L) >>= fun old => Builtin.List.listUpdate (.ref L) (fun _ => #[]) >>= fun _ => letGo old.toList.reverse >>= fun _ => Builtin.List.listExtendWith (.ref L) (.str z u) .none) _ _ s
  refine wpAny_bind ?_
  unfold Builtin.List.listItems
  refine wpAny_bind (wpAny_seqItems hL rfl (wpAny_pure ?_))
  show wpAny _ _ (updateSeq L (fun _ => #[]) >>= fun _ => letGo (#[] : Array Value).toList.reverse >>= fun _ => Builtin.List.listExtendWith (.ref L) (.str z u) .none) _ _ s
  refine wpAny_bind (wpAny_updateSeq hL rfl ?_)
  have hL2 := Heap.get?_update_self (Obj.mapSeq (fun _ => (#[] : Array Value))) hL rfl
  have other : ∀ b o, b ≠ L → s.heap.get? b = some o → (s.heap.update L (Obj.mapSeq (fun _ => (#[] : Array Value)))).get? b = some o := fun b o hb e => (Heap.get?_update_other _ _ (Ne.symm hb)).trans e
  refine wpAny_bind (wpAny_letGo ?_)
  exact ext_txt hh z u L .none _ hL2 hz fun g tk acc c1 kp a1 a2 => hR g tk acc c1 (fun b o hb e => kp b o hb (other b o hb e)) a1 a2
theorem call_list_txt {z : Str} {u : Tok} {Q : Value → Shared → Prop} (hh : A.handled = none) (hz : z.cps.size ≤ sizeLine)
    (hQ : ∀ g tk acc c1, (∀ b o, s.heap.get? b = some o → g.get? b = some o) → g.get? s.heap.objs.size = some { cls := .type "list", dict := none, data := .seq acc c1, slots := #[] } → ItemsOf (SgAt z) acc z.cps.size → Q (.ref s.heap.objs.size) { s with heap := g, toks := tk }) :
    wpAny (model prog w) A (call (.type "list") [.str z u]) Q E s := by
  refine callType_codes (Q₁ := fun ob s1 => ob = .ref s.heap.objs.size ∧ s1 = { s with heap := s.heap.push { cls := .type "list", data := .seq #[] } }) PySem.F.called_list (PySem.F.typeCall_list_1 _) PySem.F.entry_list_init
    (code_list_new _ ⟨rfl, rfl⟩) fun ob s1 q => ?_
  obtain ⟨rfl, rfl⟩ := q
  have hL : (s.heap.push { cls := .type "list", data := .seq #[] }).get? s.heap.objs.size = some { cls := .type "list", data := .seq #[] } := Heap.get?_push_size _ rfl
  refine ⟨⟨_, hL, rfl⟩, PySem.F.args_list_init_2 _ _, init_txt (A := A.in1) hh z u _ hL hz fun g tk acc c1 kp a1 a2 => ?_⟩
  exact ⟨rfl, hQ g tk acc c1 (fun b o e => kp b o (Nat.ne_of_lt (Heap.lt_size e)) (Heap.get?_push_of_some _ e)) a1 a2⟩
/-! ### a tuple once -/
theorem tuple_once (l : Addr) (items : Array Value) (n : Nat) (dd : Option Addr) (sl : Array (Option Value)) (u : Tok) :
    Meets (Builtin.«tuple.__mul__» ⟨[.ref l, .int 1 u], []⟩) (fun _ R s => s.heap.get? l = some { cls := .type "tuple", dict := dd, data := .seq items n, slots := sl } ∧ R (.ok (.ret (Value.ref l))) s) :=
  .of_wp fun prog w A R s h => by
    obtain ⟨hp, g, d, tk, os⟩ := s
    obtain ⟨hl, h⟩ := h
    have ix := AutoSeq1.idx_int
    have big : (decide ((1 : Int) < -(2 ^ 63)) || decide ((1 : Int) ≥ 2 ^ 63)) = false := by decide
    have one : (items.isEmpty || (1 : Int) == 1) = true := by simp
    wp_walk using wpAny_loadPart' hl
    repeat (first
      | (refine wpAny_ite_false (decide_eq_false (by rw [big]; exact Bool.false_ne_true)) ?_; wp_walk using wpAny_loadPart' hl)
      | (refine wpAny_ite_true (decide_eq_true one) ?_; wp_walk using wpAny_loadPart' hl))
    exact ⟨_, rfl, h⟩
end
section
variable {X : Cx} {K : PySem.W.Frag}
def rOnce (K : PySem.W.Frag) : R2 := fun x y H Q => ∃ l xs, x = .ref l ∧ y = .int 1 ∧ SqT K H l xs ∧ Q (.ref l) H
theorem op_once : OpR X (binaryOp .Mult) (rOnce X.K) := by
  intro pins s σ H x y v u Q I rx ry h
  obtain ⟨l, xs, rfl, rfl, ht, q⟩ := h
  cases rx
  obtain ⟨tk, rfl⟩ := ry
  obtain ⟨us, rv, ⟨⟨c, dd, dt, sl⟩, ho, hc, n, hd⟩, hs⟩ := I.tuple ht
  simp only at hc hd
  subst hc hd
  exact wpAny_binaryOp_repeat_ref (T := "tuple") (U := "int") (by decide) ⟨_, ho, rfl⟩ (fun s' => typeIs_int s' 1 tk) noFill_tuple_mul F.fills_int_mul F.slot_int_rmul repeat_tuple F.slot_int_index.lookup
    (call_meets F.slot_int_rmul (typeIs_int s 1 tk) F.entry_int_rmul (F.args_int_rmul_2 _ _) (int_rmul_tuple 1 tk l us.toArray n dd sl)
      ⟨ho, rfl, ⟨_, ho, rfl⟩, call_meets F.slot_tuple_mul ⟨_, ho, rfl⟩ F.entry_tuple_mul (F.args_tuple_mul_2 _ _) (tuple_once l us.toArray n dd sl tk) ⟨ho, .ref l, H, I, rfl, q⟩⟩)
def mulU (a b : D) : M D := fun S => match a, b with
  | .tup xs, .int 1 => some (.tup xs, S)
  | _, _ => mulD a b S
def rMulU (K : PySem.W.Frag) : R2 := fun x y H Q => rOnce K x y H Q ∨ rMulA K x y H Q
theorem o_mulU : DO2 X (binaryOp .Mult) (rMulU X.K) mulU := ⟨op_once.or (op_mul.or op_repT), fun m S H x y a b rl ra rb d S' h Q q => by
  unfold mulU at h
  split at h
  · cases h
    cases rb
    cases ra with
    | tup h1 h2 h3 => exact .inl ⟨_, _, rfl, rfl, h1, q m H _ rl .refl (.tup h1 h2 h3)⟩
  · exact .inr ((o_mul (X := X)).sr rl ra rb d S' h Q q)⟩
def powD (a b : D) : M D := fun S => match a, b with
  | .int i, .int j => if 0 ≤ j ∧ j ≤ 1000000 ∧ i.natAbs < 2 ^ 64 then some (.int (i ^ j.toNat), S) else none
  | _, _ => none
theorem o_pow : DO2 X (binaryOp .Pow) (rI CPow fun i j => .int (i ^ j.toNat)) powD := ⟨op_pow, fun m S H x y a b rl ra rb d S' h Q q => by
  unfold powD at h
  split at h
  · split at h
    · cases h; cases ra; cases rb
      rename_i c
      exact ⟨_, _, rfl, rfl, c, q m H _ rl .refl (.int _)⟩
    · cases h
  · cases h⟩
def mFind (a : D) (as : List D) : M D := fun S => match a, as with
  | .str x, [.str y] => some (.int (Txt.find x y), S)
  | _, _ => none
theorem m_find : DM X "str" "str.find" (fun x xs H Q => ∃ a b, x = .str a ∧ xs = [.str b] ∧ Q (.int (Txt.find a b)) H) mFind := ⟨mt_find, fun m S H x a xs as rl ra ras d S' h Q q => by
  unfold mFind at h
  split at h
  · cases h
    obtain ⟨v, rfl, rv⟩ := ras.one
    cases ra
    cases rv
    exact ⟨_, _, rfl, rfl, q m H _ rl .refl (.int _)⟩
  · cases h⟩
def rListU (K : PySem.W.Frag) : Rn := fun xs H Q => (∃ z : Str, xs = [.str z] ∧ z.cps.size ≤ sizeLine ∧ ∀ l, H l = none → Q (.ref l) (upd H l (.lst (z.cps.toList.map fun c => V.str ⟨#[c]⟩)))) ∨
  (∃ p ys, xs = [.ref p] ∧ (SqL K H p ys ∨ SqT K H p ys) ∧ ∀ l, H l = none → Q (.ref l) (upd H l (.lst ys)))
theorem call_list_z (hc : X.calm = true) : CallR X (.type "list") (fun xs H Q => ∃ z : Str, xs = [.str z] ∧ z.cps.size ≤ sizeLine ∧ ∀ l, H l = none → Q (.ref l) (upd H l (.lst (z.cps.toList.map fun c => V.str ⟨#[c]⟩)))) := by
  intro pins s σ H xs us Q I r h
  obtain ⟨z, rfl, hz, q⟩ := h
  obtain ⟨u, rfl, t, rfl⟩ := vals1 r
  refine call_list_txt (I.ok.hd hc) hz fun g tk acc c1 kp a1 a2 => ?_
  have vs : Vals (z.cps.toList.map fun c => V.str ⟨#[c]⟩) acc.toList := by
    refine vals_of_idx _ _ (by rw [Array.length_toList, a2.1, List.length_map, Array.length_toList]) fun j u hu => ?_
    have hu' : acc[j]? = some u := by rw [← hu, Array.getElem?_toList]
    obtain ⟨c, t', e1, rfl⟩ := a2.2 j u hu'
    exact ⟨.str ⟨#[c]⟩, by rw [List.getElem?_map, Array.getElem?_toList, e1]; rfl, t', rfl⟩
  refine ⟨.ref s.heap.objs.size, _, I.laid (t' := tk) kp (Nat.le_refl _) (show ObjOk X.prog X.w _ g _ (.lst _) from ⟨by rw [List.length_map, Array.length_toList]; exact hz, acc.toList, c1, vs, a1⟩), rfl, q _ (I.hok.fresh (Nat.le_refl _))⟩
def nListU : List D → M D
  | [.str z] => fun S => if z.cps.size ≤ sizeLine then some (.ref S.length, S ++ [.lst (signs z)]) else none
  | ds => nList ds
theorem c_listU (hc : X.calm = true) : DC X (.type "list") (rListU X.K) nListU := ⟨(call_list_z hc).or call_list_of, fun m S H xs as rl ra d S' h Q q => by
  unfold nListU at h
  split at h
  · split at h
    · cases h
      rename_i z c
      obtain ⟨v, rfl, rv⟩ := ra.one
      cases rv
      refine .inl ⟨z, rfl, c, fun l hl => ?_⟩
      obtain ⟨a1, a2, a3⟩ := rl.new hl (.lst (signs_rep (x := z)))
      exact q _ _ _ a1 a2 a3
    · cases h
  · exact .inr ((c_list (X := X)).sr rl ra d S' h Q q)⟩
end
end TS
set_option Elab.async false
set_option linter.all false
set_option maxRecDepth 100000
namespace TS
open PySem PySem.Spec PyProof.Rows L2
/-- a def of the text that may be called -/
structure Callee (P : Program) (w : World) (K : PySem.W.Frag) (mg : Str → Option Value) (base : Heap) (x : Str) (lv n : Nat) (ps : List Str) (F : List D → M D) : Prop where
  ex : ∃ (f : Addr) (fd : FuncData), FnOk P w K mg base CX0 lv f fd ps (spOf K n F) ∧ mg x = some (.ref f) ∧ PySem.W.keepIn K (.ref f) = true ∧ Binds K fd ps []
section
variable {P : Program} {w : World} {K : PySem.W.Frag} {mg : Str → Option Value} {base : Heap} {x : Str} {lv n : Nat} {ps : List Str} {F F' : List D → M D}
theorem Callee.pure (C : Callee P w K mg base x lv n ps F) : Callee P w K mg base x lv n ps (pureF F) := let ⟨f, fd, a, b, c, d⟩ := C.ex; ⟨f, fd, FnOk.pure a, b, c, d⟩
theorem Callee.weak (C : Callee P w K mg base x lv n ps F) (h : ∀ ds S r, F' ds S = some r → F ds S = some r) : Callee P w K mg base x lv n ps F' := let ⟨f, fd, a, b, c, d⟩ := C.ex; ⟨f, fd, FnOk.weak a h, b, c, d⟩
end
section
variable {X : Cx} {x : Str} {lv n : Nat} {ps : List Str} {F : List D → M D} {p pos : Pos} {e : Expr} {es : List Expr} {ta : TA} {fa : SEnv → M (List D)}
theorem de_fn (C : Callee X.prog X.w X.K X.mg X.base x lv n ps F) (hr : Room lv X.A) (ha : DA X (e :: es) ta fa)
    (hn : ∀ env S ds S', fa env S = some (ds, S') → ds.length = n := by first | exact aCons_len aNil_len | exact aCons_len (aCons_len aNil_len) | exact aCons_len (aCons_len (aCons_len aNil_len)) | exact aCons_len (aCons_len (aCons_len (aCons_len aNil_len))) | exact aCons_len (aCons_len (aCons_len (aCons_len (aCons_len aNil_len)))))
    (hg : Gl X x := by rfl) (hdb : (x == ("__debug__" : Str)) = false := by decide) (he : starEach (e :: es) X.env = (false, eval e X.env) :: starEach es X.env := by rfl) (hpl : (backTo pos (starEach es X.env)).any (·.1) = false := by rfl) :
    DE X (.Call (.Name x p) (e :: es) [] pos) (tCall (spOf X.K n F) [] E0 ta) (eCall F fa) := let ⟨f, fd, a, b, c, d⟩ := C.ex; de_callF a hr b c d ha hn hg hdb he hpl
end

/-! the same with the written part named -/
section
variable {X : Cx} {pos : Pos} (K : PySem.W.Frag) (hK : X.K = K)
include hK
theorem k_eq (hu : X.A.units + 64 < cLine) : DO2 X (compareOp .Eq) (rEqD K) eqD := by subst hK; exact o_eq hu
theorem k_ne (hu : X.A.units + 64 < cLine) : DO2 X (compareOp .NotEq) (rNeD K) neD := by subst hK; exact o_ne hu
theorem k_in (hu : X.A.units + 1 < cLine) : DO2 X (compareOp .In) (rInU K) inU := by subst hK; exact o_inU hu
theorem k_nin (hu : X.A.units + 1 < cLine) : DO2 X (compareOp .NotIn) (rNinU K) ninU := by subst hK; exact o_ninU hu
theorem k_add : DO2 X (binaryOp .Add) (rAddA K) addD := by subst hK; exact o_add
theorem k_mul : DO2 X (binaryOp .Mult) (rMulU K) mulU := by subst hK; exact o_mulU
theorem k_ix (hu : X.A.units + 1 < cLine) : DIx X (rIxU K) ixU := by subst hK; exact ix_u hu
theorem k_len : DC X (.builtin "len") (rLenA K) nLen := by subst hK; exact c_len
theorem k_isi : DC X (.builtin "isinstance") (rIsi K) nIsi := by subst hK; exact c_isi
theorem k_sum (hc : X.calm = true) : DC X (.builtin "sum") (rSum K) nSum := by subst hK; exact c_sum hc
theorem k_all (hc : X.calm = true) : DC X (.builtin "all") (rAll K) nAll := by subst hK; exact c_all hc
theorem k_any (hc : X.calm = true) : DC X (.builtin "any") (rAny K) nAny := by subst hK; exact c_any hc
theorem k_tuple : DC X (.type "tuple") (fun xs H Q => ∃ p ys, xs = [.ref p] ∧ ((SqL K H p ys ∧ ∀ l, H l = none → Q (.ref l) (upd H l (.tup ys))) ∨ (SqT K H p ys ∧ Q (.ref p) H))) nTuple := by subst hK; exact c_tuple
theorem k_list (hc : X.calm = true) : DC X (.type "list") (rListU K) nListU := by subst hK; exact c_listU hc
theorem k_sl : DSl X (rSlX K) slD := by subst hK; exact sl_any
theorem dk_truth {a : Expr} {ta : TE} {f : SEnv → M D} (h : DE X a ta f) (he : ∀ whole, isTrue a X.env whole = (do let v ← whole; standAt a.pos; holding [v] (truthy v)) := by intro _; rfl) : DT X a (fun σ H Q => ta σ H fun x H' => ∃ k, TruV K x H' k ∧ Q k H') (asT f) := by subst hK; exact dt_truth h he
theorem dk_any {tg l : Expr} {tl : TE} {f : SEnv → M D} (h : DE X l tl f) : DI X tg l (iAny K tl) (iAnyM f) := by subst hK; exact di_any h
theorem dk_zip {e e2 : Expr} {ta : TA} {f : SEnv → M (List D)} {p tpos : Pos} {elts : List Expr} {kk : Nat} (hm : X.mg "zip" = none) (ha : DA X [e, e2] ta f) (hg : Gl X "zip" := by rfl)
    (hs : starEach [e, e2] X.env = (false, eval e X.env) :: starEach [e2] X.env := by rfl) (hpl : (backTo pos (starEach [e2] X.env)).any (·.1) = false := by rfl) :
    DI X (.Tuple elts kk tpos) (.Call (.Name "zip" p) [e, e2] [] pos) (iZipG K ta) (iZipM f) := by subst hK; exact di_zip hm ha hg hs hpl
theorem dk_tup {es : List Expr} {k : Nat} {ws : List Nat} {t : TGs} {n : Nat} {f : List D → SEnv → M SEnv} (hc : X.calm = true) (h : DGs X es ws t f)
    (hn : (assignEach es X.env).length = n := by rfl) (hst : (assignEach es X.env).findIdx? (·.1) = none := by rfl) : DG X (.Tuple es k pos) ws (gTup K n t) (gTupM n f) := by subst hK; exact dg_tup hc h hn hst
variable {o e : Expr} {es : List Expr} {name : Str} {apos cpos : Pos} {T id : String} {r : Rm} {g : D → List D → M D} {t : TE} {u : TA} {fo : SEnv → M D} {fa : SEnv → M (List D)}
theorem dk_mt0 (hm : DM X T id r g) (pa : PlainAttrs T) (slot : Slot T name id) (hty : typeOf (.builtin id) = pure (.type "method_descriptor")) (ho : DE X o t fo)
    (hbase : attributeBase o name X.env (eval o X.env) = eval o X.env := by rfl) (hline : (apos.endLine == cpos.line) = true := by rfl) : DE X (.Call (.Attribute o name apos) [] [] cpos) (tBM0 K T r t) (eMt T g fo aNil) := by subst hK; exact de_mt0 hm pa slot hty ho hbase hline
theorem dk_mt (hm : DM X T id r g) (pa : PlainAttrs T) (slot : Slot T name id) (hty : typeOf (.builtin id) = pure (.type "method_descriptor")) (ho : DE X o t fo) (ha : DA X (e :: es) u fa)
    (hbase : attributeBase o name X.env (eval o X.env) = eval o X.env := by rfl)
    (hfew : ((backTo cpos (starEach (e :: es) X.env)).all (fun x => !x.1) && (backToKw cpos (keywordEach [] X.env)).all (fun x => x.1.isSome)
      && decide ((e :: es).length + ([] : List Keyword).length + (if ([] : List Keyword).isEmpty then 0 else 1) < 30)) = true := by rfl)
    (hline : (apos.endLine == cpos.line) = true := by rfl) (hs : starEach (e :: es) X.env = (false, eval e X.env) :: starEach es X.env := by rfl) (hplain : (backTo cpos (starEach es X.env)).any (·.1) = false := by rfl) :
    DE X (.Call (.Attribute o name apos) (e :: es) [] cpos) (tBM K T r t u) (eMt T g fo fa) := by subst hK; exact de_mt hm pa slot hty ho ha hbase hfew hline hs hplain
end
section
variable {X : Cx} {x : Str} {lv n : Nat} {ps : List Str} {F : List D → M D} {p pos : Pos} {e : Expr} {es : List Expr} {ta : TA} {fa : SEnv → M (List D)}
theorem dk_fn (K : PySem.W.Frag) (hK : X.K = K) (C : Callee X.prog X.w X.K X.mg X.base x lv n ps F) (hr : Room lv X.A) (ha : DA X (e :: es) ta fa)
    (hn : ∀ env S ds S', fa env S = some (ds, S') → ds.length = n := by first | exact aCons_len aNil_len | exact aCons_len (aCons_len aNil_len) | exact aCons_len (aCons_len (aCons_len aNil_len)) | exact aCons_len (aCons_len (aCons_len (aCons_len aNil_len))) | exact aCons_len (aCons_len (aCons_len (aCons_len (aCons_len aNil_len)))))
    (hg : Gl X x := by rfl) (hdb : (x == ("__debug__" : Str)) = false := by decide) (he : starEach (e :: es) X.env = (false, eval e X.env) :: starEach es X.env := by rfl) (hpl : (backTo pos (starEach es X.env)).any (·.1) = false := by rfl) :
    DE X (.Call (.Name x p) (e :: es) [] pos) (tCall (spOf K n F) [] E0 ta) (eCall F fa) := by subst hK; exact de_fn C hr ha hn hg hdb he hpl
end

/-! ### the law's own end -/
theorem law_end {K : PySem.W.Frag} {H : Hp} {a : Addr} {ns : List Int} {F : List D → M D} (hl : ns.length ≤ 63) (hO : Only H) (hS : SqL K H a (ns.map V.int))
    (h : ∀ ns : List Int, ns.length ≤ 63 → ∃ S, F [.fl (ns.map D.int)] [] = some (.bl true, S)) : spOf K 1 F [.ref a] H (fun v _ => v = .bl true) fun _ _ _ => False := by
  obtain ⟨S, e⟩ := h ns hl
  have hf : FzL K H a (ns.map V.int) := by
    rcases hS with (q | ⟨o, q⟩) | q
    · rcases hO a with z | ⟨o, xs, z⟩
      · rw [z] at q; cases q
      · rw [z] at q; cases q
    · exact .inl ⟨o, q⟩
    · exact .inr q
  have hr : ∀ ns : List Int, Reps K [] H (ns.map D.int) (ns.map V.int) := fun ns => by
    induction ns with
    | nil => exact .nil
    | cons n r ih => exact .cons (.int n) ih
  refine ⟨[], [], [.fl (ns.map D.int)], .bl true, S, ⟨rfl, List.nodup_nil, fun i a o h => by simp at h⟩, .cons (.fl hf (hr ns)) .nil, rfl, e, fun m' H' v _ _ rv => ?_⟩
  cases rv
  rfl
end TS
set_option Elab.async false
set_option linter.all false
set_option maxRecDepth 100000
namespace TS
open PySem PySem.Spec PyProof.Rows L2 Builtin.Str PySem.StrLaws
/-! ### what holds behind a run -/
def wp {α : Type} (x : M α) (S : Store) (Q : α → Store → Prop) : Prop := ∃ a S', x S = some (a, S') ∧ Q a S'
theorem wp_bnd {α β : Type} {x : M α} {f : α → M β} {S : Store} {Q : β → Store → Prop} : wp (bnd x f) S Q ↔ wp x S fun a S' => wp (f a) S' Q := by
  constructor
  · rintro ⟨b, S2, h, q⟩
    obtain ⟨a, S1, h1, h2⟩ := bnd_some h
    exact ⟨a, S1, h1, b, S2, h2, q⟩
  · rintro ⟨a, S1, h1, b, S2, h2, q⟩
    exact ⟨b, S2, by rw [bnd_eq h1]; exact h2, q⟩
theorem wp_ret {α : Type} {a : α} {S : Store} {Q : α → Store → Prop} : wp (ret a) S Q ↔ Q a S :=
  ⟨fun ⟨b, S2, h, q⟩ => by cases h; exact q, fun q => ⟨a, S, rfl, q⟩⟩
theorem wp_some {α : Type} {x : M α} {a : α} {S S' : Store} {Q : α → Store → Prop} (h : x S = some (a, S')) : wp x S Q ↔ Q a S' :=
  ⟨fun ⟨b, S2, h2, q⟩ => by rw [h] at h2; cases h2; exact q, fun q => ⟨a, S', h, q⟩⟩
theorem wp.mono {α : Type} {x : M α} {S : Store} {Q Q' : α → Store → Prop} (h : wp x S Q) (q : ∀ a S', Q a S' → Q' a S') : wp x S Q' := let ⟨a, S', e, p⟩ := h; ⟨a, S', e, q a S' p⟩
theorem wp_gd {α : Type} {g : Gd} {k : M α} {S : Store} {Q : α → Store → Prop} (h : gdOk S g) : wp (gdM g k) S Q ↔ wp k S Q := by
  unfold wp gdM
  rw [if_pos h]
theorem wp_gd0 {α : Type} {k : M α} {S : Store} {Q : α → Store → Prop} : wp (gdM [] k) S Q ↔ wp k S Q := wp_gd (gdOk_nil S)
/-- a for, by a word over the turn, the slots and the store -/
theorem wp_loop {g : Gd} {tgt : D → SEnv → M SEnv} {body : SEnv → M (Fl × SEnv)} {Q : Fl × SEnv → Store → Prop} {xs : List D} (I : Nat → SEnv → Store → Prop)
    (hg : ∀ i env S, I i env S → gdOk S g)
    (step : ∀ i x env S, xs[i]? = some x → I i env S → wp (tgt x env) S fun env1 S1 => wp (body env1) S1 fun r S2 => match r.1 with
      | .nx => I (i + 1) r.2 S2
      | .ct => I (i + 1) r.2 S2
      | .bk => Q (.nx, r.2) S2
      | .rt d => Q (.rt d, r.2) S2)
    (fin : ∀ env S, I xs.length env S → Q (.nx, env) S) : ∀ {env : SEnv} {S : Store}, I 0 env S → wp (loopM g tgt body xs env) S Q := by
  have key : ∀ (n i : Nat) env S, i + n = xs.length → I i env S → wp (loopM g tgt body (xs.drop i) env) S Q := by
    intro n
    induction n with
    | zero =>
      intro i env S hn hI
      have e : xs.drop i = [] := List.drop_eq_nil_iff.mpr (by omega)
      rw [e]
      show wp (gdM g (ret (.nx, env))) S Q
      rw [wp_gd (hg i env S hI), wp_ret]
      have : i = xs.length := by omega
      subst this
      exact fin env S hI
    | succ n ih =>
      intro i env S hn hI
      have hi : i < xs.length := by omega
      rw [drop_at (List.getElem?_eq_getElem hi)]
      show wp (gdM g (bnd (tgt xs[i] env) fun env1 => bnd (body env1) fun r => match r.1 with
        | .nx => loopM g tgt body (xs.drop (i + 1)) r.2
        | .ct => loopM g tgt body (xs.drop (i + 1)) r.2
        | .bk => ret (.nx, r.2)
        | .rt d => ret (.rt d, r.2))) S Q
      rw [wp_gd (hg i env S hI), wp_bnd]
      refine (step i xs[i] env S (List.getElem?_eq_getElem hi) hI).mono fun env1 S1 h => ?_
      rw [wp_bnd]
      refine h.mono fun r S2 h => ?_
      obtain ⟨fl, env2⟩ := r
      cases fl with
      | nx => exact ih (i + 1) env2 S2 (by omega) h
      | ct => exact ih (i + 1) env2 S2 (by omega) h
      | bk => exact wp_ret.mpr h
      | rt d => exact wp_ret.mpr h
  intro env S h0
  exact key xs.length 0 env S (by omega) h0
/-- a comprehension, by a word over the turn, what is made so far, the store behind the new list -/
theorem wp_lc {fi : SEnv → M (List D × Gd)} {tgt : D → SEnv → M SEnv} {tt : SEnv → M Bool} {te : SEnv → M D} {vs : List Nat} {env : SEnv} {S S1 : Store} {Q : D → Store → Prop} {xs : List D} {g : Gd}
    (h0 : fi env S = some ((xs, g), S1)) (I : Nat → List D → Store → Prop) (hI : I 0 [] (S1 ++ [.lst []])) (hk : ∀ i acc S, I i acc S → S[S1.length]? = some (.lst acc)) (hg : ∀ i acc S, I i acc S → gdOk S g)
    (hl : ∀ i acc S, I i acc S → acc.length ≤ i) (hz : xs.length < sizeLine)
    (step : ∀ i x acc S, xs[i]? = some x → I i acc S → wp (tgt x (wipeE env vs)) S fun env1 S1' => wp (tt env1) S1' fun b S2 => if b = true then wp (te env1) S2 fun d S3 => S3[S1.length]? = some (.lst acc) ∧ I (i + 1) (acc ++ [d]) (S3.set S1.length (.lst (acc ++ [d]))) else I (i + 1) acc S2)
    (fin : ∀ acc S, I xs.length acc S → Q (.ref S1.length) S) : wp (eLc fi tgt tt te vs env) S Q := by
  unfold eLc
  rw [wp_bnd, wp_some h0, wp_bnd, wp_some (show newLst S1 = some (S1.length, S1 ++ [.lst []]) from rfl)]
  have key : ∀ (n i : Nat) acc S, i + n = xs.length → I i acc S → wp (lcM g S1.length tgt tt te (wipeE env vs) (xs.drop i)) S Q := by
    intro n
    induction n with
    | zero =>
      intro i acc S hn hI
      have e : xs.drop i = [] := List.drop_eq_nil_iff.mpr (by omega)
      rw [e]
      show wp (gdM g (ret (.ref S1.length))) S Q
      rw [wp_gd (hg i acc S hI), wp_ret]
      have : i = xs.length := by omega
      subst this
      exact fin acc S hI
    | succ n ih =>
      intro i acc S hn hI
      have hi : i < xs.length := by omega
      rw [drop_at (List.getElem?_eq_getElem hi)]
      show wp (gdM g (bnd (tgt xs[i] (wipeE env vs)) fun env1 => bnd (tt env1) fun b => if b then bnd (te env1) fun d => bnd (pushM S1.length d) fun _ => lcM g S1.length tgt tt te (wipeE env vs) (xs.drop (i + 1)) else lcM g S1.length tgt tt te (wipeE env vs) (xs.drop (i + 1)))) S Q
      rw [wp_gd (hg i acc S hI), wp_bnd]
      refine (step i xs[i] acc S (List.getElem?_eq_getElem hi) hI).mono fun env1 S1' h => ?_
      rw [wp_bnd]
      refine h.mono fun b S2 h => ?_
      cases b with
      | true =>
        rw [if_pos rfl] at h ⊢
        rw [wp_bnd]
        refine h.mono fun d S3 h => ?_
        rw [wp_bnd]
        have e : pushM S1.length d S3 = some ((), S3.set S1.length (.lst (acc ++ [d]))) := by
          unfold pushM
          rw [h.1]
          have := hl i acc S hI
          exact if_pos (by omega)
        rw [wp_some e]
        exact ih (i + 1) _ _ (by omega) h.2
      | false =>
        rw [if_neg Bool.false_ne_true] at h ⊢
        exact ih (i + 1) _ _ (by omega) h
  exact key xs.length 0 [] _ (by omega) hI
/-! ### places of signs -/
def place (c : Nat) : List Nat → Option Nat
  | [] => none
  | d :: r => if d = c then some 0 else (place c r).map (· + 1)
theorem place_some {c : Nat} : ∀ {l : List Nat} {i : Nat}, place c l = some i → l[i]? = some c ∧ ∀ j, j < i → l[j]? ≠ some c
  | [], _, h => by cases h
  | d :: r, i, h => by
    unfold place at h
    by_cases e : d = c
    · rw [if_pos e] at h
      cases h
      exact ⟨by rw [List.getElem?_cons_zero, e], fun j hj => absurd hj (Nat.not_lt_zero j)⟩
    · rw [if_neg e] at h
      obtain ⟨k, hk, rfl⟩ := Option.map_eq_some_iff.mp h
      obtain ⟨h1, h2⟩ := place_some hk
      refine ⟨by rw [List.getElem?_cons_succ]; exact h1, fun j hj => ?_⟩
      cases j with
      | zero => rw [List.getElem?_cons_zero]; exact fun z => e (Option.some.inj z)
      | succ j => rw [List.getElem?_cons_succ]; exact h2 j (by omega)
theorem place_none {c : Nat} : ∀ {l : List Nat}, place c l = none ↔ c ∉ l
  | [] => by simp [place]
  | d :: r => by
    unfold place
    by_cases e : d = c
    · rw [if_pos e]
      simp [e]
    · rw [if_neg e, Option.map_eq_none_iff, place_none]
      simp [Ne.symm e]
theorem occ_stop (s sub : Str) (hi : Nat) : ∀ (l : List Nat) (st : Array Nat × Nat), 1 ≤ st.fst.size → (forIn l st (occBody s sub hi 1)).run.fst = st.fst
  | [], _, _ => rfl
  | a :: l, st, h => by
    rw [List.forIn_cons]
    unfold occBody
    rw [if_neg (fun z => absurd z.1.1.1 (by omega))]
    exact occ_stop s sub hi l _ h
theorem occ_first (s sub : Str) (hi : Nat) : ∀ (l : List Nat), (forIn l ((#[] : Array Nat), 0) (occBody s sub hi 1)).run.fst = (match l.find? (fun i => decide (i + sub.length ≤ hi ∧ subAt s sub i = true)) with
    | some i => #[i]
    | none => #[])
  | [] => rfl
  | a :: l => by
    rw [List.forIn_cons, List.find?_cons]
    unfold occBody
    by_cases c : a + sub.length ≤ hi ∧ subAt s sub a = true
    · rw [if_pos ⟨⟨⟨by simp, Nat.zero_le _⟩, c.1⟩, c.2⟩, decide_eq_true c]
      exact occ_stop s sub hi l _ (by simp)
    · rw [if_neg (fun z => c ⟨z.1.2, z.2⟩), decide_eq_false c]
      exact occ_first s sub hi l
theorem find_place (c : Nat) (l : List Nat) : ∀ (k n : Nat), k + n = l.length + 1 → (List.range' k n).find? (fun i => decide (l[i]? = some c)) = (place c (l.drop k)).map (· + k)
  | k, 0, h => by
    rw [List.drop_eq_nil_iff.mpr (by omega)]
    rfl
  | k, n + 1, h => by
    rw [List.range'_succ, List.find?_cons]
    by_cases hk : k < l.length
    · rw [drop_at (List.getElem?_eq_getElem hk)]
      unfold place
      by_cases e : l[k] = c
      · rw [List.getElem?_eq_getElem hk, decide_eq_true (by rw [e]), if_pos e]
        simp
      · rw [List.getElem?_eq_getElem hk, decide_eq_false (fun z => e (Option.some.inj z)), if_neg e]
        show (List.range' (k + 1) n).find? _ = _
        rw [find_place c l (k + 1) n (by omega), Option.map_map]
        congr 1
        funext i
        show i + (k + 1) = i + 1 + k
        omega
    · have hd : l.drop k = [] := List.drop_eq_nil_iff.mpr (by omega)
      have hn : n = 0 := by omega
      subst hn
      rw [hd, List.getElem?_eq_none (by omega), decide_eq_false (by simp)]
      rfl
theorem occ_sign (x : Str) (c : Nat) : occurrences x ⟨#[c]⟩ 0 x.length 1 = (match place c x.cps.toList with
    | some i => [i]
    | none => []) := by
  rw [occ_eq, occ_first]
  have e : (fun i => decide (i + (⟨#[c]⟩ : Str).length ≤ x.length ∧ subAt x ⟨#[c]⟩ i = true)) = fun i => decide (x.cps.toList[i]? = some c) := by
    funext i
    rw [decide_eq_decide]
    exact subAt_one x c i
  rw [e, find_place c x.cps.toList 0 _ (by simp [Str.length]), List.drop_zero]
  cases place c x.cps.toList <;> rfl
end TS
set_option Elab.async false
set_option linter.all false
set_option maxRecDepth 100000
namespace TS
open PySem PySem.Spec PyProof.Rows L2
section
variable {S S' : Store} {env : SEnv} {Q : D → Store → Prop} {QB : Bool → Store → Prop} {QA : List D → Store → Prop} {QF : Fl × SEnv → Store → Prop} {QE : SEnv → Store → Prop} {QU : Unit → Store → Prop} {QO : Option Int → Store → Prop} {QI : List D × Gd → Store → Prop}
theorem wp_fn {α : Type} {x : M α} {R : α → Store → Prop} : wp (fun S => x S) S R ↔ wp x S R := Iff.rfl
theorem w_fail {α : Type} {R : α → Store → Prop} : wp (fail : M α) S R ↔ False := by
  constructor
  · intro h
    obtain ⟨a, S2, e, _⟩ := h
    cases e
  · exact False.elim
theorem w_ite {α : Type} {c : Prop} [Decidable c] {x y : M α} {R : α → Store → Prop} : wp (if c then x else y) S R ↔ if c then wp x S R else wp y S R := by
  split <;> rfl
theorem w_opt {α : Type} {o : Option (α × Store)} {x : M α} {R : α → Store → Prop} (h : x S = o) : wp x S R ↔ ∃ a S', o = some (a, S') ∧ R a S' := by rw [← h]; rfl
theorem w_var {i : Nat} : wp (eVar i env) S Q ↔ ∃ d, env[i]? = some (some d) ∧ Q d S := by
  unfold wp eVar
  constructor
  · rintro ⟨a, S', h, q⟩
    cases e : env[i]? with
    | none => rw [e] at h; cases h
    | some o =>
      cases o with
      | none => rw [e] at h; cases h
      | some d => rw [e] at h; cases h; exact ⟨_, rfl, q⟩
  · rintro ⟨d, h, q⟩
    exact ⟨d, S, by rw [h], q⟩
theorem w_op {g : D → D → M D} {fa fb : SEnv → M D} : wp (eOp g fa fb env) S Q ↔ wp (fa env) S fun a S1 => wp (fb env) S1 fun b S2 => wp (g a b) S2 Q := by
  unfold eOp; rw [wp_bnd]; simp only [wp_bnd]
theorem w_un {g : D → M D} {fa : SEnv → M D} : wp (eUn g fa env) S Q ↔ wp (fa env) S fun a S1 => wp (g a) S1 Q := wp_bnd
theorem w_c {d : D} : wp (eC d env) S Q ↔ Q d S := wp_ret
theorem w_call {g : List D → M D} {fa : SEnv → M (List D)} : wp (eCall g fa env) S Q ↔ wp (fa env) S fun a S1 => wp (g a) S1 Q := wp_bnd
theorem w_aNil : wp (aNil env) S QA ↔ QA [] S := wp_ret
theorem w_aCons {f : SEnv → M D} {g : SEnv → M (List D)} : wp (aCons f g env) S QA ↔ wp (f env) S fun d S1 => wp (g env) S1 fun ds S2 => QA (d :: ds) S2 := by
  unfold aCons; rw [wp_bnd]; simp only [wp_bnd, wp_ret]
theorem w_tup {f : SEnv → M (List D)} : wp (eTup f env) S Q ↔ wp (f env) S fun ds S1 => ds.length ≤ sizeLine ∧ Q (.tup ds) S1 := by
  unfold eTup
  rw [wp_bnd]
  constructor
  · exact fun h => h.mono fun ds S1 ⟨a, S2, e, q⟩ => by
      unfold mkTup at e
      split at e
      · cases e; exact ⟨by assumption, q⟩
      · cases e
  · exact fun h => h.mono fun ds S1 ⟨e, q⟩ => ⟨_, S1, if_pos e, q⟩
theorem w_lst {f : SEnv → M (List D)} : wp (eLst f env) S Q ↔ wp (f env) S fun ds S1 => ds.length ≤ sizeLine ∧ Q (.ref S1.length) (S1 ++ [.lst ds]) := by
  unfold eLst
  rw [wp_bnd]
  constructor
  · exact fun h => h.mono fun ds S1 ⟨a, S2, e, q⟩ => by
      unfold mkLst at e
      split at e
      · cases e; exact ⟨by assumption, q⟩
      · cases e
  · exact fun h => h.mono fun ds S1 ⟨e, q⟩ => ⟨_, _, if_pos e, q⟩
theorem w_asB {f : SEnv → M D} : wp (asB f env) S QB ↔ wp (f env) S fun d S1 => ∃ b, d = .bl b ∧ QB b S1 := by
  unfold asB
  rw [wp_bnd]
  constructor
  · exact fun h => h.mono fun d S1 h => by
      cases d with
      | bl b => exact ⟨b, rfl, wp_ret.mp h⟩
      | _ => exact (w_fail.mp h).elim
  · exact fun h => h.mono fun d S1 ⟨b, e, q⟩ => by subst e; exact wp_ret.mpr q
theorem w_asT {f : SEnv → M D} : wp (asT f env) S QB ↔ wp (f env) S fun d S1 => wp (tru d) S1 QB := wp_bnd
theorem w_bAnd {f g : SEnv → M Bool} : wp (bAnd f g env) S QB ↔ wp (f env) S fun b S1 => if b = true then wp (g env) S1 QB else QB false S1 := by
  unfold bAnd; rw [wp_bnd]; simp only [w_ite, wp_ret]
theorem w_bOr {f g : SEnv → M Bool} : wp (bOr f g env) S QB ↔ wp (f env) S fun b S1 => if b = true then QB true S1 else wp (g env) S1 QB := by
  unfold bOr; rw [wp_bnd]; simp only [w_ite, wp_ret]
theorem w_bNot {f : SEnv → M Bool} : wp (bNot f env) S QB ↔ wp (f env) S fun b S1 => QB (!b) S1 := by
  unfold bNot; rw [wp_bnd]; simp only [wp_ret]
theorem w_eAnd {f g : SEnv → M D} : wp (eAnd f g env) S Q ↔ wp (f env) S fun d S1 => ∃ b, d = .bl b ∧ if b = true then wp (g env) S1 Q else Q (.bl false) S1 := by
  unfold eAnd; rw [wp_bnd, w_asB]; simp only [w_ite, wp_ret]
theorem w_eOr {f g : SEnv → M D} : wp (eOr f g env) S Q ↔ wp (f env) S fun d S1 => ∃ b, d = .bl b ∧ if b = true then Q (.bl true) S1 else wp (g env) S1 Q := by
  unfold eOr; rw [wp_bnd, w_asB]; simp only [w_ite, wp_ret]
theorem w_eNot {f : SEnv → M D} : wp (eNot f env) S Q ↔ wp (f env) S fun d S1 => ∃ b, d = .bl b ∧ Q (.bl (!b)) S1 := by
  unfold eNot; rw [wp_bnd, w_asB]; simp only [wp_ret]
theorem w_eIf {c : SEnv → M Bool} {f g : SEnv → M D} : wp (eIf c f g env) S Q ↔ wp (c env) S fun b S1 => if b = true then wp (f env) S1 Q else wp (g env) S1 Q := by
  unfold eIf; rw [wp_bnd]; simp only [w_ite]
theorem w_eSl {g : D → Option Int → Option Int → M D} {fa : SEnv → M D} {fl fh : SEnv → M (Option Int)} : wp (eSl g fa fl fh env) S Q ↔ wp (fa env) S fun a S1 => wp (fl env) S1 fun lo S2 => wp (fh env) S2 fun hi S3 => wp (g a lo hi) S3 Q := by
  unfold eSl; simp only [wp_bnd]
theorem w_pNo : wp (pNo env) S QO ↔ QO none S := wp_ret
theorem w_pSome {f : SEnv → M D} : wp (pSome f env) S QO ↔ wp (f env) S fun d S1 => ∃ i, d = .int i ∧ QO (some i) S1 := by
  unfold pSome
  rw [wp_bnd]
  constructor
  · exact fun h => h.mono fun d S1 h => by
      cases d with
      | int b => exact ⟨b, rfl, wp_ret.mp h⟩
      | _ => exact (w_fail.mp h).elim
  · exact fun h => h.mono fun d S1 ⟨b, e, q⟩ => by subst e; exact wp_ret.mpr q
theorem w_eMt {T : String} {g : D → List D → M D} {fo : SEnv → M D} {fa : SEnv → M (List D)} : wp (eMt T g fo fa env) S Q ↔ wp (fo env) S fun a S1 => wp (tyM T a) S1 fun _ S2 => wp (fa env) S2 fun as S3 => wp (g a as) S3 Q := by
  unfold eMt; simp only [wp_bnd]
theorem w_chain {g g' : D → D → M D} {fa fb fc : SEnv → M D} : wp (eChain g g' fa fb fc env) S Q ↔ wp (fa env) S fun a S1 => wp (fb env) S1 fun b S2 => wp (g a b) S2 fun k S3 => ∃ q, k = .bl q ∧ if q = true then wp (fc env) S3 fun c S4 => wp (g' b c) S4 Q else Q (.bl false) S3 := by
  unfold eChain
  simp only [wp_bnd]
  constructor
  · exact fun h => h.mono fun a S1 h => h.mono fun b S2 h => h.mono fun k S3 h => by
      cases k with
      | bl q =>
        refine ⟨q, rfl, ?_⟩
        cases q with
        | true => rw [if_pos rfl]; exact wp_bnd.mp h
        | false => rw [if_neg Bool.false_ne_true]; exact wp_ret.mp h
      | _ => exact (w_fail.mp h).elim
  · exact fun h => h.mono fun a S1 h => h.mono fun b S2 h => h.mono fun k S3 ⟨q, e, h⟩ => by
      subst e
      cases q with
      | true => rw [if_pos rfl] at h; exact wp_bnd.mpr h
      | false => rw [if_neg Bool.false_ne_true] at h; exact wp_ret.mpr h
/-! statements -/
theorem w_seq {f g : SEnv → M (Fl × SEnv)} : wp (sSeq f g env) S QF ↔ wp (f env) S fun r S1 => match r.1 with
    | .nx => wp (g r.2) S1 QF
    | _ => QF r S1 := by
  unfold sSeq
  rw [wp_bnd]
  constructor
  · exact fun h => h.mono fun r S1 h => by
      obtain ⟨fl, e⟩ := r
      cases fl with
      | nx => exact h
      | rt d => exact wp_ret.mp h
      | bk => exact wp_ret.mp h
      | ct => exact wp_ret.mp h
  · exact fun h => h.mono fun r S1 h => by
      obtain ⟨fl, e⟩ := r
      cases fl with
      | nx => exact h
      | rt d => exact wp_ret.mpr h
      | bk => exact wp_ret.mpr h
      | ct => exact wp_ret.mpr h
theorem w_nx : wp (sNx env) S QF ↔ QF (.nx, env) S := wp_ret
theorem w_brk : wp (sBrk env) S QF ↔ QF (.bk, env) S := wp_ret
theorem w_cnt : wp (sCnt env) S QF ↔ QF (.ct, env) S := wp_ret
theorem w_retN : wp (sRetN env) S QF ↔ QF (.rt .non, env) S := wp_ret
theorem w_drop {f : SEnv → M D} : wp (sDrop f env) S QF ↔ wp (f env) S fun _ S1 => QF (.nx, env) S1 := by
  unfold sDrop; rw [wp_bnd]; simp only [wp_ret]
theorem w_sret {f : SEnv → M D} : wp (sRet f env) S QF ↔ wp (f env) S fun d S1 => QF (.rt d, env) S1 := by
  unfold sRet; rw [wp_bnd]; simp only [wp_ret]
theorem w_sIf {c : SEnv → M Bool} {f g : SEnv → M (Fl × SEnv)} : wp (sIf c f g env) S QF ↔ wp (c env) S fun b S1 => if b = true then wp (f env) S1 QF else wp (g env) S1 QF := by
  unfold sIf; rw [wp_bnd]; simp only [w_ite]
theorem w_asg {f : SEnv → M D} {g : D → SEnv → M SEnv} : wp (sAsg f g env) S QF ↔ wp (f env) S fun d S1 => wp (g d env) S1 fun e S2 => QF (.nx, e) S2 := by
  unfold sAsg; rw [wp_bnd]; simp only [wp_bnd, wp_ret]
theorem w_gN {i : Nat} {d : D} : wp (gN i d env) S QE ↔ QE (env.set i (some d)) S := wp_ret
theorem w_gTup {n : Nat} {f : List D → SEnv → M SEnv} {ds : List D} : wp (gTupM n f (.tup ds) env) S QE ↔ ds.length = n ∧ wp (f ds env) S QE := by
  unfold gTupM
  simp only [w_ite, w_fail]
  constructor
  · intro h
    split at h
    · exact ⟨by assumption, h⟩
    · exact h.elim
  · exact fun h => by rw [if_pos h.1]; exact h.2
theorem w_gsNil : wp (gsNil [] env) S QE ↔ QE env S := wp_ret
theorem w_gsCons {f : D → SEnv → M SEnv} {g : List D → SEnv → M SEnv} {d : D} {r : List D} : wp (gsCons f g (d :: r) env) S QE ↔ wp (f d env) S fun e S1 => wp (g r e) S1 QE := wp_bnd
theorem w_gSub {g : D → D → D → M Unit} {fo fi : SEnv → M D} {d : D} : wp (gSubM g fo fi d env) S QE ↔ wp (fo env) S fun o S1 => wp (fi env) S1 fun i S2 => wp (g o i d) S2 fun _ S3 => QE env S3 := by
  unfold gSubM; simp only [wp_bnd, wp_ret]
theorem w_aug {i : Nat} {f : SEnv → M D} {g : D → D → M D} : wp (sAug i f g env) S QF ↔ wp (eVar i env) S fun a S1 => wp (f env) S1 fun b S2 => wp (g a b) S2 fun d S3 => QF (.nx, env.set i (some d)) S3 := by
  unfold sAug; simp only [wp_bnd, wp_ret]
theorem w_for {fi : SEnv → M (List D × Gd)} {tgt : D → SEnv → M SEnv} {body : SEnv → M (Fl × SEnv)} : wp (sFor fi tgt body env) S QF ↔ wp (fi env) S fun p S1 => wp (loopM p.2 tgt body p.1 env) S1 QF := wp_bnd
theorem w_body {n : Nat} {f : SEnv → M (Fl × SEnv)} {ds : List D} : wp (bodyM n f ds) S Q ↔ wp (f (env0 n ds)) S fun r S1 => match r.1 with
    | .nx => Q .non S1
    | .rt d => Q d S1
    | _ => False := by
  unfold bodyM
  rw [wp_bnd]
  constructor
  · exact fun h => h.mono fun r S1 h => by
      obtain ⟨fl, e⟩ := r
      cases fl with
      | nx => exact wp_ret.mp h
      | rt d => exact wp_ret.mp h
      | bk => exact (w_fail.mp h).elim
      | ct => exact (w_fail.mp h).elim
  · exact fun h => h.mono fun r S1 h => by
      obtain ⟨fl, e⟩ := r
      cases fl with
      | nx => exact wp_ret.mpr h
      | rt d => exact wp_ret.mpr h
      | bk => exact h.elim
      | ct => exact h.elim
/-! values -/
theorem w_add {i j : Int} : wp (addD (.int i) (.int j)) S Q ↔ Q (.int (i + j)) S := wp_some rfl
theorem w_addS {x y : Str} : wp (addD (.str x) (.str y)) S Q ↔ x.length + y.length ≤ sizeLine ∧ Q (.str (x ++ y)) S := by
  constructor
  · rintro ⟨a, S', h, q⟩
    unfold addD at h
    simp only at h
    split at h
    · cases h; exact ⟨by assumption, q⟩
    · cases h
  · exact fun ⟨h, q⟩ => ⟨_, S, if_pos h, q⟩
theorem w_addT {xs ys : List D} : wp (addD (.tup xs) (.tup ys)) S Q ↔ xs.length + ys.length ≤ sizeLine ∧ Q (.tup (xs ++ ys)) S := by
  constructor
  · rintro ⟨a, S', h, q⟩
    unfold addD at h
    simp only at h
    split at h
    · cases h; exact ⟨by assumption, q⟩
    · cases h
  · exact fun ⟨h, q⟩ => ⟨_, S, if_pos h, q⟩
theorem w_sub {i j : Int} : wp (subD (.int i) (.int j)) S Q ↔ Q (.int (i - j)) S := wp_some rfl
theorem w_mul {i j : Int} : wp (mulU (.int i) (.int j)) S Q ↔ (smallI i = true ∨ smallI j = true) ∧ Q (.int (i * j)) S := by
  constructor
  · rintro ⟨a, S', h, q⟩
    unfold mulU mulD at h
    simp only at h
    split at h
    · cases h; exact ⟨by assumption, q⟩
    · cases h
  · exact fun ⟨h, q⟩ => ⟨_, S, if_pos h, q⟩
theorem w_mod {i j : Int} : wp (modD (.int i) (.int j)) S Q ↔ 0 < j ∧ Q (.int (i % j)) S := by
  constructor
  · rintro ⟨a, S', h, q⟩
    unfold modD at h
    simp only at h
    split at h
    · cases h; exact ⟨by assumption, q⟩
    · cases h
  · exact fun ⟨h, q⟩ => ⟨_, S, if_pos h, q⟩
theorem w_fdiv {i j : Int} : wp (fdivD (.int i) (.int j)) S Q ↔ (0 < j ∧ j < 1073741824) ∧ Q (.int (i / j)) S := by
  constructor
  · rintro ⟨a, S', h, q⟩
    unfold fdivD at h
    simp only at h
    split at h
    · cases h; exact ⟨by assumption, q⟩
    · cases h
  · exact fun ⟨h, q⟩ => ⟨_, S, if_pos h, q⟩
theorem w_pow {i j : Int} : wp (powD (.int i) (.int j)) S Q ↔ (0 ≤ j ∧ j ≤ 1000000 ∧ i.natAbs < 2 ^ 64) ∧ Q (.int (i ^ j.toNat)) S := by
  constructor
  · rintro ⟨a, S', h, q⟩
    unfold powD at h
    simp only at h
    split at h
    · cases h; exact ⟨by assumption, q⟩
    · cases h
  · exact fun ⟨h, q⟩ => ⟨_, S, if_pos h, q⟩
theorem w_lt {i j : Int} : wp (ltD (.int i) (.int j)) S Q ↔ Q (.bl (decide (i < j))) S := wp_some rfl
theorem w_le {i j : Int} : wp (leD (.int i) (.int j)) S Q ↔ Q (.bl (decide (i ≤ j))) S := wp_some rfl
theorem w_gt {i j : Int} : wp (gtD (.int i) (.int j)) S Q ↔ Q (.bl (decide (j < i))) S := wp_some rfl
theorem w_ge {i j : Int} : wp (geD (.int i) (.int j)) S Q ↔ Q (.bl (decide (j ≤ i))) S := wp_some rfl
theorem w_int {i : Int} : wp (nInt [.int i]) S Q ↔ Q (.int i) S := wp_ret
theorem w_min {i j : Int} : wp (nMin2 [.int i, .int j]) S Q ↔ Q (.int (if j < i then j else i)) S := wp_ret
theorem w_max {i j : Int} : wp (nMax2 [.int i, .int j]) S Q ↔ Q (.int (if j > i then j else i)) S := wp_ret
theorem w_lenS {x : Str} : wp (nLen [.str x]) S Q ↔ x.length ≤ sizeLine ∧ Q (.int x.length) S := by
  constructor
  · rintro ⟨a, S', h, q⟩
    unfold nLen at h
    simp only at h
    split at h
    · cases h; exact ⟨by assumption, q⟩
    · cases h
  · exact fun ⟨h, q⟩ => ⟨_, S, if_pos h, q⟩
theorem w_lenT {xs : List D} : wp (nLen [.tup xs]) S Q ↔ Q (.int xs.length) S := wp_ret
theorem w_lenF {xs : List D} : wp (nLen [.fl xs]) S Q ↔ Q (.int xs.length) S := wp_ret
theorem w_lenL {r : Nat} {xs : List D} (h : S[r]? = some (.lst xs)) : wp (nLen [.ref r]) S Q ↔ Q (.int xs.length) S := wp_some (by unfold nLen; simp only [h])
theorem w_truB {b : Bool} : wp (tru (.bl b)) S QB ↔ QB b S := wp_some rfl
theorem w_isB {a b : Bool} : wp (isD (.bl a) (.bl b)) S Q ↔ Q (.bl (decide (a = b))) S := wp_some rfl
theorem w_notB {a b : Bool} : wp (notD (.bl a) (.bl b)) S Q ↔ Q (.bl (!decide (a = b))) S := wp_some rfl
theorem w_tyS {x : Str} {QU : Unit → Store → Prop} : wp (tyM "str" (.str x)) S QU ↔ QU () S := wp_some rfl
theorem w_tyL {r : Nat} {xs : List D} (h : S[r]? = some (.lst xs)) {QU : Unit → Store → Prop} : wp (tyM "list" (.ref r)) S QU ↔ QU () S := wp_some (by unfold tyM; simp only [h, if_true])
theorem w_app {r : Nat} {xs : List D} {d : D} (h : S[r]? = some (.lst xs)) (hz : xs.length < sizeLine) : wp (mAppend (.ref r) [d]) S Q ↔ Q .non (S.set r (.lst (xs ++ [d]))) := wp_some (by unfold mAppend; simp only [h, hz, if_true])
def rgOf : List D → Option Int
  | [.int j] => some j
  | _ => none
theorem rgOf_1 {j : Int} : rgOf [.int j] = some j := rfl
theorem w_rg1 {f : SEnv → M (List D)} : wp (iRg1M f env) S QI ↔ wp (f env) S fun ds S1 => ∃ j : Int, rgOf ds = some j ∧ (-(2 ^ 62) ≤ j ∧ j < 2 ^ 62) ∧ QI (rng 0 j.toNat, []) S1 := by
  unfold iRg1M
  rw [wp_bnd]
  constructor
  · exact fun h => h.mono fun ds S1 h => by
      split at h
      · split at h
        · exact ⟨_, rfl, by assumption, wp_ret.mp h⟩
        · exact (w_fail.mp h).elim
      · exact (w_fail.mp h).elim
  · exact fun h => h.mono fun ds S1 ⟨j, e, c, q⟩ => by
      unfold rgOf at e
      split at e
      · cases e
        simp only [c, and_self, if_true]
        exact wp_ret.mpr q
      · cases e
theorem w_anyI {f : SEnv → M D} : wp (iAnyM f env) S QI ↔ wp (f env) S fun d S1 => ∃ p, srcOf S1 d = some p ∧ QI p S1 := by
  unfold iAnyM
  rw [wp_bnd]
  constructor
  · exact fun h => h.mono fun d S1 ⟨a, S2, e, q⟩ => by
      have e' : (match srcOf S1 d with | some p => some (p, S1) | none => none) = some (a, S2) := e
      cases e1 : srcOf S1 d with
      | none => rw [e1] at e'; cases e'
      | some p => rw [e1] at e'; cases e'; exact ⟨_, rfl, q⟩
  · exact fun h => h.mono fun d S1 ⟨p, e, q⟩ => ⟨p, S1, by show (match srcOf S1 d with | some p => some (p, S1) | none => none) = _; rw [e], q⟩
theorem w_ixT {xs : List D} {i : Int} : wp (ixU (.tup xs) (.int i)) S Q ↔ ∃ d, atI xs i = some d ∧ Q d S := by
  have e : ixU (.tup xs) (.int i) S = (match atI xs i with | some d => some (d, S) | none => none) := rfl
  rw [w_opt e]
  constructor
  · rintro ⟨a, S', h, q⟩
    cases e1 : atI xs i with
    | none => rw [e1] at h; cases h
    | some d => rw [e1] at h; cases h; exact ⟨_, rfl, q⟩
  · rintro ⟨d, h, q⟩
    exact ⟨d, S, by rw [h], q⟩
theorem w_ixF {xs : List D} {i : Int} : wp (ixU (.fl xs) (.int i)) S Q ↔ ∃ d, atI xs i = some d ∧ Q d S := by
  have e : ixU (.fl xs) (.int i) S = (match atI xs i with | some d => some (d, S) | none => none) := rfl
  rw [w_opt e]
  constructor
  · rintro ⟨a, S', h, q⟩
    cases e1 : atI xs i with
    | none => rw [e1] at h; cases h
    | some d => rw [e1] at h; cases h; exact ⟨_, rfl, q⟩
  · rintro ⟨d, h, q⟩
    exact ⟨d, S, by rw [h], q⟩
theorem w_ixS {z : Str} {i : Int} : wp (ixU (.str z) (.int i)) S Q ↔ z.length ≤ sizeLine ∧ ∃ c, atI z.cps.toList i = some c ∧ Q (.str ⟨#[c]⟩) S := by
  have e : ixU (.str z) (.int i) S = (if z.length ≤ sizeLine then match atI z.cps.toList i with | some c => some (.str ⟨#[c]⟩, S) | none => none else none) := rfl
  rw [w_opt e]
  constructor
  · rintro ⟨a, S', h, q⟩
    split at h
    · cases e1 : atI z.cps.toList i with
      | none => rw [e1] at h; cases h
      | some d => rw [e1] at h; cases h; exact ⟨by assumption, _, rfl, q⟩
    · cases h
  · rintro ⟨h0, d, h, q⟩
    exact ⟨_, S, by rw [if_pos h0, h], q⟩
theorem w_ixL {r : Nat} {xs : List D} {i : Int} (hr : S[r]? = some (.lst xs)) : wp (ixU (.ref r) (.int i)) S Q ↔ ∃ d, atI xs i = some d ∧ Q d S := by
  have e : ixU (.ref r) (.int i) S = (match atI xs i with | some d => some (d, S) | none => none) := by
    unfold ixU isDct ixD seqOf
    simp only [hr, Bool.false_eq_true, if_false]
    all_goals (cases atI xs i <;> rfl)
  rw [w_opt e]
  constructor
  · rintro ⟨a, S', h, q⟩
    cases e1 : atI xs i with
    | none => rw [e1] at h; cases h
    | some d => rw [e1] at h; cases h; exact ⟨_, rfl, q⟩
  · rintro ⟨d, h, q⟩
    exact ⟨d, S, by rw [h], q⟩
theorem w_ixD {r : Nat} {kvs : List (Key × D)} {b d : D} {k : Key} (hr : S[r]? = some (.dK kvs)) (hk : keyOf b = some k) (hd : lookD kvs k = some d) : wp (ixU (.ref r) b) S Q ↔ Q d S := by
  refine wp_some ?_
  unfold ixU isDct dgetM
  simp only [hr, hk, hd, if_true]
theorem w_setD {r : Nat} {kvs : List (Key × D)} {b d : D} {k : Key} {QU : Unit → Store → Prop} (hr : S[r]? = some (.dK kvs)) (hk : keyOf b = some k) (hz : kvs.length < sizeLine) : wp (setU (.ref r) b d) S QU ↔ QU () (S.set r (.dK (putD kvs k d))) := by
  refine wp_some ?_
  unfold setU isDct dsetM
  simp only [hr, hk, hz, if_true]
theorem w_slS {z : Str} {lo hi : Option Int} : wp (slD (.str z) lo hi) S Q ↔ z.length ≤ sizeLine ∧ Q (.str (cutS z lo hi)) S := by
  constructor
  · rintro ⟨a, S', h, q⟩
    unfold slD at h
    simp only at h
    split at h
    · cases h; exact ⟨by assumption, q⟩
    · cases h
  · exact fun ⟨h, q⟩ => ⟨_, S, if_pos h, q⟩
theorem w_slT {xs : List D} {lo hi : Option Int} : wp (slD (.tup xs) lo hi) S Q ↔ Q (.tup (cutD xs lo hi)) S := wp_some rfl
theorem w_tupT {xs : List D} : wp (nTuple [.tup xs]) S Q ↔ Q (.tup xs) S := wp_ret
theorem w_tupL {r : Nat} {xs : List D} (h : S[r]? = some (.lst xs)) : wp (nTuple [.ref r]) S Q ↔ Q (.tup xs) S := wp_some (by unfold nTuple lstOf; simp only [h])
theorem w_find {x y : Str} : wp (mFind (.str x) [.str y]) S Q ↔ Q (.int (Txt.find x y)) S := wp_some rfl
theorem w_eqB {a b : D} {p q : PyData} (h1 : pyS S a = some p) (h2 : pyS S b = some q) (h3 : SeqAt.shaped p = true) (h4 : SeqAt.shaped q = true) : wp (eqD a b) S Q ↔ Q (.bl (PyData.eqv p q)) S := by
  refine wp_some ?_
  show bnd (eqB a b) _ S = _
  exact bnd_eq (by unfold eqB; rw [h1, h2]; exact if_pos ⟨h3, h4⟩)
theorem w_neB {a b : D} {p q : PyData} (h1 : pyS S a = some p) (h2 : pyS S b = some q) (h3 : SeqAt.shaped p = true) (h4 : SeqAt.shaped q = true) : wp (neD a b) S Q ↔ Q (.bl (!PyData.eqv p q)) S := by
  refine wp_some ?_
  show bnd (eqB a b) _ S = _
  exact bnd_eq (by unfold eqB; rw [h1, h2]; exact if_pos ⟨h3, h4⟩)
theorem w_eqI {i j : Int} : wp (eqD (.int i) (.int j)) S Q ↔ Q (.bl (i == j)) S := w_eqB (p := .int i) (q := .int j) rfl rfl rfl rfl
theorem w_neI {i j : Int} : wp (neD (.int i) (.int j)) S Q ↔ Q (.bl (!(i == j))) S := w_neB (p := .int i) (q := .int j) rfl rfl rfl rfl
theorem w_eqBl {i j : Bool} : wp (eqD (.bl i) (.bl j)) S Q ↔ Q (.bl (i == j)) S := w_eqB (p := .bool i) (q := .bool j) rfl rfl rfl rfl
theorem w_neBl {i j : Bool} : wp (neD (.bl i) (.bl j)) S Q ↔ Q (.bl (!(i == j))) S := w_neB (p := .bool i) (q := .bool j) rfl rfl rfl rfl
end
end TS
set_option Elab.async false
set_option linter.all false
set_option maxRecDepth 100000
namespace TS
open PySem PySem.Spec PyProof.Rows L2
section
variable {S S' : Store} {env : SEnv} {Q : D → Store → Prop}
theorem w_disp {g : SEnv → M (List (Key × D))} : wp (eDisp g env) S Q ↔ wp (g env) (S ++ [.dK []]) fun kvs S1 => wp (fillD S.length kvs) S1 Q := by
  unfold eDisp
  rw [wp_bnd, wp_some (show newDct S = some (S.length, S ++ [.dK []]) from rfl), wp_bnd]
theorem w_kNil {QK : List (Key × D) → Store → Prop} : wp (kNil env) S QK ↔ QK [] S := wp_ret
theorem w_kCons {fk fv : SEnv → M D} {g : SEnv → M (List (Key × D))} {QK : List (Key × D) → Store → Prop} : wp (kCons fk fv g env) S QK ↔ wp (fk env) S fun a S1 => wp (fv env) S1 fun d S2 => wp (g env) S2 fun r S3 => ∃ k, keyOf a = some k ∧ QK ((k, d) :: r) S3 := by
  unfold kCons
  simp only [wp_bnd]
  constructor
  · exact fun h => h.mono fun a S1 h => h.mono fun d S2 h => h.mono fun r S3 h => by
      split at h
      · exact ⟨_, by assumption, wp_ret.mp h⟩
      · exact (w_fail.mp h).elim
  · exact fun h => h.mono fun a S1 h => h.mono fun d S2 h => h.mono fun r S3 ⟨k, e, h⟩ => by
      rw [e]
      exact wp_ret.mpr h
theorem w_fill {k : Nat} {kvs : List (Key × D)} (h : S[k]? = some (.dK [])) (hl : kvs.length ≤ 15) : wp (fillD k kvs) S Q ↔ Q (.ref k) (S.set k (.dK (mergeD [] kvs))) := wp_some (by unfold fillD; simp only [h, hl, if_true])
theorem w_sumL {r : Nat} {ns : List Int} (h : S[r]? = some (.lst (ns.map .int))) : wp (nSum [.ref r]) S Q ↔ Q (.int ns.sum) S := by
  have e : ∀ l : List Int, intsU (l.map .int) = some l := fun l => by
    induction l with
    | nil => rfl
    | cons x r ih => show (intsU (r.map .int)).map (x :: ·) = _; rw [ih]; rfl
  exact wp_some (by unfold nSum lstOf; simp only [h, e])
theorem rng_get {lo : Int} {n i : Nat} {x : D} (h : (rng lo n)[i]? = some x) : i < n ∧ x = .int (lo + (i : Nat)) := by
  unfold rng at h
  rw [List.getElem?_map] at h
  obtain ⟨j, hj, rfl⟩ := Option.map_eq_some_iff.mp h
  obtain ⟨h1, h2⟩ := List.getElem?_eq_some_iff.mp hj
  rw [List.length_range] at h1
  rw [List.getElem_range] at h2
  subst h2
  exact ⟨h1, rfl⟩
theorem rng_length {lo : Int} {n : Nat} : (rng lo n).length = n := by unfold rng; rw [List.length_map, List.length_range]
theorem small_mod {x m : Int} (h0 : 0 < m) (h : m ≤ 18446744073709551616) : smallI (x % m) = true := by
  unfold smallI
  have h1 := Int.emod_nonneg x (Int.ne_of_gt h0)
  have h2 := Int.emod_lt_of_pos x h0
  exact decide_eq_true ⟨by omega, by omega⟩
theorem ints_get {ns : List Int} {i : Nat} (h : i < ns.length) : atI (ns.map D.int) (i : Int) = some (.int ns[i]) := atI_nat (by rw [List.getElem?_map, List.getElem?_eq_getElem h]; rfl)
/-- the dict of the draws -/
abbrev drw (q : Nat) (a seed : Int) : List (Key × D) := [(.inr "row", .ref q), (.inr "at", .int a), (.inr "seed", .int seed)]
theorem key_ra : ¬ (Sum.inr ("row" : Str) : Key) = Sum.inr ("at" : Str) := by decide +kernel
theorem key_sa : ¬ (Sum.inr ("seed" : Str) : Key) = Sum.inr ("at" : Str) := by decide +kernel
theorem key_rs : ¬ (Sum.inr ("row" : Str) : Key) = Sum.inr ("seed" : Str) := by decide +kernel
theorem key_as : ¬ (Sum.inr ("at" : Str) : Key) = Sum.inr ("seed" : Str) := by decide +kernel
theorem drw_put (q : Nat) (a seed b : Int) : putD (drw q a seed) (.inr "at") (.int b) = drw q b seed := by
  unfold putD hasD replD drw
  simp only [lookD, key_ra, key_sa, if_true, if_false, Option.isSome, List.map_cons, List.map_nil]
theorem drw_row (q : Nat) (a seed : Int) : lookD (drw q a seed) (.inr "row") = some (.ref q) := by
  simp only [lookD, drw, if_true]
theorem drw_at (q : Nat) (a seed : Int) : lookD (drw q a seed) (.inr "at") = some (.int a) := by
  simp only [lookD, drw, key_ra, if_true, if_false]
theorem drw_seed (q : Nat) (a seed : Int) : lookD (drw q a seed) (.inr "seed") = some (.int seed) := by
  simp only [lookD, drw, key_rs, key_as, if_true, if_false]
theorem drw_made (q : Nat) (a seed : Int) : mergeD [] (drw q a seed) = drw q a seed := by
  unfold mergeD drw
  simp only [List.foldl, putD, hasD, lookD, key_ra, key_rs, key_as, if_false, Option.isSome, Bool.false_eq_true, List.nil_append, List.cons_append]
/-- the draws: the dict at r, its row at q -/
structure Dr (r q : Nat) (S : Store) : Prop where
  ne : r ≠ q
  ex : ∃ (row : List Int) (a : Nat) (seed : Int), S[r]? = some (.dK (drw q a seed)) ∧ S[q]? = some (.lst (row.map .int)) ∧ row.length ≤ 100000
/-- all else is as it was -/
structure Kp (r : Nat) (S S' : Store) : Prop where
  le : S.length ≤ S'.length
  get : ∀ i, i < S.length → i ≠ r → S'[i]? = S[i]?
theorem Dr.lt {r q : Nat} {S : Store} (h : Dr r q S) : r < S.length ∧ q < S.length := by
  obtain ⟨row, a, seed, h1, h2, _⟩ := h.ex
  exact ⟨(List.getElem?_eq_some_iff.mp h1).1, (List.getElem?_eq_some_iff.mp h2).1⟩
theorem Kp.refl {r : Nat} {S : Store} : Kp r S S := ⟨Nat.le_refl _, fun _ _ _ => rfl⟩
theorem Kp.trans {r : Nat} {S S1 S2 : Store} (a : Kp r S S1) (b : Kp r S1 S2) : Kp r S S2 := ⟨Nat.le_trans a.le b.le, fun i hi hr => (b.get i (Nat.lt_of_lt_of_le hi a.le) hr).trans (a.get i hi hr)⟩
theorem Kp.app {r : Nat} {S l : Store} : Kp r S (S ++ l) := ⟨by rw [List.length_append]; omega, fun i hi _ => List.getElem?_append_left hi⟩
theorem Kp.set {r i : Nat} {S S1 : Store} {o : MO} (h : Kp r S S1) (hi : S.length ≤ i) : Kp r S (S1.set i o) := ⟨by rw [List.length_set]; exact h.le, fun j hj hr => by rw [List.getElem?_set_ne (by omega)]; exact h.get j hj hr⟩
theorem Dr.app {r q : Nat} {S l : Store} (h : Dr r q S) : Dr r q (S ++ l) := by
  obtain ⟨row, a, seed, h1, h2, h3⟩ := h.ex
  exact ⟨h.ne, row, a, seed, by rw [List.getElem?_append_left h.lt.1]; exact h1, by rw [List.getElem?_append_left h.lt.2]; exact h2, h3⟩
theorem Dr.set {r q i : Nat} {S : Store} {o : MO} (h : Dr r q S) (h1 : i ≠ r) (h2 : i ≠ q) : Dr r q (S.set i o) := by
  obtain ⟨row, a, seed, e1, e2, h3⟩ := h.ex
  exact ⟨h.ne, row, a, seed, by rw [List.getElem?_set_ne h1]; exact e1, by rw [List.getElem?_set_ne h2]; exact e2, h3⟩
theorem w_lcm {α : Type} {x y : M α} {R : α → Store → Prop} (h : x = y) : wp x S R ↔ wp y S R := by rw [h]
end
end TS
set_option Elab.async false
set_option linter.all false
set_option maxRecDepth 100000
namespace TS
open PySem PySem.Spec PyProof.Rows L2
/-! ### a def that calls itself -/
theorem fn_fail {P : Program} {w : World} {K : PySem.W.Frag} {mg : Str → Option Value} {base : Heap} {f : Addr} {fd : FuncData} {ps : List Str} {n k : Nat} : FnOk P w K mg base CX0 k f fd ps (spOf K n fun _ => fail) :=
  ⟨fun _ _ _ _ h => (by obtain ⟨_, _, _, _, _, _, _, _, e, _⟩ := h; cases e), fun _ _ _ _ _ _ _ _ _ _ _ _ _ h => (by obtain ⟨_, _, _, _, _, _, _, _, e, _⟩ := h; cases e)⟩
/-! ### a text turned round -/
section
variable {X : Cx} {e : Expr} {te : TE} {f : SEnv → M D} {k : Nat} {p1 p2 p3 pos : Pos}
def turnS (x : Str) : Str := ⟨x.cps.toList.reverse.toArray⟩
def tRevS (te : TE) : TE := fun σ H Q => te σ H fun x H1 => ∃ z : Str, x = .str z ∧ z.length ≤ sizeLine ∧ Q (.str (turnS z)) H1
theorem pe_revS (he : PE X e te) : PE X (.Subscript e (.Slice none none (some (.UnaryOp .USub (.Constant (.int 1) k p1) p2)) p3) pos) (tRevS te) := by
  refine ⟨fun pins s σ H Q I h => ?_⟩
  refine Subscript_ (thn (he.run pins s σ H _ I h) fun v s1 ⟨x, H1, I1, r1, q1⟩ => ?_)
  obtain ⟨z, rfl, hz, q⟩ := q1
  obtain ⟨t, rfl⟩ := r1
  have neg1 : PO X (some (.UnaryOp .USub (.Constant (.int 1) k p1) p2)) (tPart (tUn (rU fun i => .int (-i)) (tC (.int 1)))) := po_some (pe_un un_neg pe_int)
  have lo0 := fun (s2 : Shared) (G : Hp) (I2 : Inv X pins σ G s2) => (po_none (X := X)).run pins s2 σ G (fun o G2 => o = none ∧ G2 = G) I2 ⟨rfl, rfl⟩
  refine wpAny_Slice (thn (lo0 s1 H1 I1) fun v1 s2 ⟨o1, G1, J1, a1, b1, c1⟩ => ?_)
  subst b1 c1
  refine thn (lo0 s2 G1 J1) fun v2 s3 ⟨o2, G2, J2, a2, b2, c2⟩ => ?_
  subst b2 c2
  refine thn (neg1.run pins s3 σ G2 (fun o G => o = some (-1) ∧ G = G2) J2 ⟨1, rfl, -1, rfl, rfl, rfl⟩) fun v3 s4 ⟨o3, G3, J3, a3, b3, c3⟩ => ?_
  subst b3 c3
  cases a1
  cases a2
  cases a3
  rename_i tk _
  refine tail_any (ops := [.ref s4.heap.objs.size, .str z t]) (typeIs_str _ z t) PySem.F.slot_str_getitem.lookup (wpAny_getItem_str_slice (l := none) (u := none) (st := some (-1, tk)) ⟨_, Heap.get?_push_size _ rfl, rfl, rfl⟩ rfl ?_) (by with_unfolding_all rfl)
  have e : sliceMade z t none none (some (-1, tk)) = .str (turnS z) := by
    unfold sliceMade
    rw [if_neg (by simp)]
    unfold turnS slicePicked
    show Made.str ⟨((Builtin.Str.strSliceIndices none none (-1) z.length).filterMap (z.cps[·]?)).toArray⟩ = _
    have e2 : Builtin.Str.strSliceIndices none none (-1) z.length = (List.range z.length).reverse := by
      rw [← PySem.W.krv_range, ← PySem.W.krv_sliceRange]
      rfl
    rw [e2, List.filterMap_reverse, show z.length = z.cps.size from rfl, PySem.W.krv_all]
  rw [e]
  refine ⟨by unfold turnS; simpa [Str.length] using hz, .str (turnS z), G3, ?_, ⟨_, rfl⟩, q⟩
  exact (J3.kept (t' := s4.toks) fun b ob q => Heap.get?_push_of_some _ q).tok _
def revM (d : D) : M D := fun S => match d with
  | .str z => if z.length ≤ sizeLine then some (.str (turnS z), S) else none
  | _ => none
def eRev (f : SEnv → M D) : SEnv → M D := fun env => bnd (f env) revM
theorem de_rev (he : DE X e te f) : DE X (.Subscript e (.Slice none none (some (.UnaryOp .USub (.Constant (.int 1) k p1) p2)) p3) pos) (tRevS te) (eRev f) := ⟨pe_revS he.pe, fun m S H env σ rl re d S' h Q q => by
  obtain ⟨a, S1, h1, h2⟩ := bnd_some h
  refine he.se rl re a S1 h1 _ fun m1 H1 v rl1 e1 rv => ?_
  unfold revM at h2
  split at h2
  · split at h2
    · cases h2
      cases rv
      exact ⟨_, rfl, by assumption, q m1 H1 _ rl1 e1 (.str _)⟩
    · cases h2
  · cases h2⟩
end
end TS
set_option Elab.async false
set_option linter.all false
set_option maxRecDepth 100000
namespace TS
open PySem PySem.Spec PyProof.Rows PySem.Builtin PySem.Calls L2
/-! ### set(xs) of a list of integers -/
abbrev newS (w : World) : Obj := { cls := .type "set", dict := none, data := .set #[] 0 (.fresh 0 0 (!w.params.followText "set-order")) }
section
variable {P : Program} {w : World} {A : Around} {E : Value → Shared → Prop} {s : Shared}
/-- what is there behind the making -/
def MadeS (w : World) (ns : List Int) (s s2 : Shared) : Prop := ∃ (h2 : Heap) (t2 c2 : Nat), s2 = { s with heap := h2, toks := t2 } ∧ SetR w h2 s.heap.objs.size (fun j => decide (j ∈ ns)) c2 ∧ c2 ≤ ns.length ∧ ∀ b o, s.heap.get? b = some o → h2.get? b = some o
set_option maxHeartbeats 3200000 in
theorem set_of_list {l : Addr} {items : Array Value} (ns : List Int) {Q : Value → Shared → Prop} (hh : A.handled = none) (hl : s.heap.IsList l items) (hi : IntsAre items.toList ns) (hb : ns.length + 1 < scanBound)
    (q : ∀ s2, MadeS w ns s s2 → Q (.ref s.heap.objs.size) s2) : wpAny (model P w) A (call (.type "set") [.ref l]) Q E s := by
  have hn : items.size = ns.length := by rw [← Array.length_toList]; exact IntsAre.length hi
  obtain ⟨_, _, mro⟩ := F.called_set.mro
  have m1 := F.called_set.made
  have m2 := F.called_set.sub
  have m3 := F.called_set.notType
  have m4 := F.called_set.canCreate
  have m5 := F.typeCall_set_1 (.ref l)
  refine wpAny_call (codeAny_of_tree (show wpAny _ _ (callAny (.type "set") _) _ _ _ from ?_))
  refine wpAny_pure ⟨Code.quiet_builtin _ (by decide +kernel), codeAny_builtin F.entry_type_call ?_⟩
  rw [Around.under_plain (weight_type_call_type "set" [.ref l] []) rfl]
  repeat (any_goals (first | assumption | wp_step))
  have made := code_set_led1 (P := P) (w := w) (A := A.in1) (s := s) (E := E) (.ref l) (Q₁ := fun o s1 => o = .ref s.heap.objs.size ∧ s1 = { s with heap := s.heap.push (newS w) }) ⟨rfl, rfl⟩
  refine codeAny_mono made fun r s1 hr => ?_
  match r, hr with
  | .error e, hr => exact hr
  | .ok (.ret o), hr =>
    obtain ⟨rfl, rfl⟩ := hr
    have g0 : (s.heap.push (newS w)).get? s.heap.objs.size = some (newS w) := Heap.get?_push_size _ rfl
    have ty : Shared.TypeIs { s with heap := s.heap.push (newS w) } (.ref s.heap.objs.size) "set" := ⟨_, g0, rfl⟩
    have n1 := F.called_set.init.lookup
    have n2 := F.called_set.init.bind (.ref s.heap.objs.size)
    repeat (any_goals (first | assumption | wp_step))
    refine codeAny_mono (codeAny_call_builtin (R := wants (fun o s2 => o = .none ∧ MadeS w ns s s2) E) F.called_set.init.plain F.entry_set_init (check_set_init_1 ty ?_)) fun o s2 h2 => ?_
    · obtain ⟨ob, hob, hc, nl, hd⟩ := hl
      obtain ⟨cl, dc, dt, sl⟩ := ob
      simp only at hc hd
      subst hc hd
      have g1 : (s.heap.push (newS w)).get? l = some { cls := .type "list", dict := dc, data := .seq items nl, slots := sl } := Heap.get?_push_of_some _ hob
      have b1 := F.sub_list_set
      have b2 := F.sub_list_frozenset
      have b3 : (Value.type "list" == Value.type "dict") = false := by decide
      have il : (s.heap.push (newS w)).IsList l items := ⟨_, g1, rfl, nl, rfl⟩
      unfold Builtin.«set.__init__» noKeywords Builtin.Frozenset.updateFrom
      generalize hit : pyIter = it
      wp_walk
      subst hit
      refine wpAny_pyIter_list il (wpAny_bind (wpAny_runValue ?_))
      have ll : l < s.heap.objs.size := Heap.lt_size hob
      have z1 : (s.heap.push (newS w)).objs.size = s.heap.objs.size + 1 := Heap.size_push ..
      have nl : l ≠ (s.heap.push (newS w)).objs.size := by
        rw [z1]
        exact Nat.ne_of_lt (Nat.lt_succ_of_lt ll)
      have wk := Walks.list (prog := P) (w := w) (A := A.in1.in1.in1) (by simp [hh]) (s.heap.push (newS w)).objs.size l nl items
      have at' : ∀ (i : Nat) (v : Value), items[i]? = some v → ∃ k t, ns[i]? = some k ∧ v = .int k t := fun i v hv => by
        have hlt : i < ns.length := by rw [← hn]; exact (Array.getElem?_eq_some_iff.mp hv).1
        obtain ⟨t, rfl⟩ := IntsAre.int_at hi i v (by rw [Array.getElem?_toList]; exact hv)
        exact ⟨ns[i], t, List.getElem?_eq_getElem hlt, by rw [List.getD_eq_getElem?_getD, List.getElem?_eq_getElem hlt]; rfl⟩
      refine set_update_ints wk.toS s.heap.objs.size (by
        rw [z1]
        intro hm
        rcases List.mem_cons.mp hm with e | hm
        · exact Nat.ne_of_lt (Nat.lt_succ_self _) e
        · exact Nat.ne_of_gt ll (List.mem_singleton.mp hm)) ns hn hb at' items.size 0 _ (Nat.sub_zero _) (Nat.zero_le _) ⟨⟨_, Heap.get?_push_size _ rfl, rfl, rfl⟩, il.push _⟩ ⟨0, Nat.le_refl 0, setR_new_at (Heap.get?_push_of_some _ g0)⟩ fun s3 c3 mv hc3 hS3 => ?_
      obtain ⟨h3, g3, d3, t3, o3⟩ := s3
      obtain rfl : g3 = s.gens := mv.gens
      obtain rfl : d3 = s.drawn := mv.drawn
      obtain rfl : o3 = s.os := mv.os
      refine wpAny_pure (wpAny_pure ⟨rfl, h3, t3, c3, rfl, hS3, by omega, fun b o e => ?_⟩)
      have hb0 : b < s.heap.objs.size := Heap.lt_size e
      refine mv.heap b o ?_ (Heap.get?_push_of_some _ (Heap.get?_push_of_some _ e))
      rw [z1]
      intro hm
      rcases List.mem_cons.mp hm with e | hm
      · exact Nat.ne_of_lt hb0 e
      · exact Nat.ne_of_lt (Nat.lt_succ_of_lt hb0) (List.mem_singleton.mp hm)
    · match o, h2 with
      | .error e, h2 => exact h2
      | .ok (.ret o), h2 =>
        obtain ⟨rfl, mk⟩ := h2
        repeat (any_goals (first | assumption | wp_step))
        exact q _ mk
end
end TS
set_option Elab.async false
set_option linter.all false
set_option maxRecDepth 100000
namespace TS
open PySem PySem.Spec PyProof.Rows L2
/-! ### sorted(set(xs)) of integers -/
def insI (x : Int) : List Int → List Int
  | [] => [x]
  | y :: r => if x < y then x :: y :: r else if x = y then y :: r else y :: insI x r
def sortI : List Int → List Int
  | [] => []
  | x :: r => insI x (sortI r)
theorem mem_insI {x k : Int} : ∀ {l : List Int}, k ∈ insI x l ↔ k = x ∨ k ∈ l
  | [] => by simp [insI]
  | y :: r => by
    unfold insI
    split
    · simp
    · split
      · rename_i e
        subst e
        simp
      · rw [List.mem_cons, mem_insI, List.mem_cons]
        constructor
        · rintro (h | h | h)
          · exact .inr (.inl h)
          · exact .inl h
          · exact .inr (.inr h)
        · rintro (h | h | h)
          · exact .inr (.inl h)
          · exact .inl h
          · exact .inr (.inr h)
theorem mem_sortI {k : Int} : ∀ {l : List Int}, k ∈ sortI l ↔ k ∈ l
  | [] => by simp [sortI]
  | x :: r => by
    unfold sortI
    rw [mem_insI, mem_sortI, List.mem_cons]
theorem rise_insI {x : Int} : ∀ {l : List Int}, l.Pairwise (· < ·) → (insI x l).Pairwise (· < ·)
  | [], _ => List.pairwise_singleton _ _
  | y :: r, h => by
    obtain ⟨h1, h2⟩ := List.pairwise_cons.mp h
    unfold insI
    split
    · refine List.pairwise_cons.mpr ⟨fun k hk => ?_, h⟩
      rcases List.mem_cons.mp hk with rfl | hk
      · assumption
      · have := h1 k hk
        omega
    · split
      · exact h
      · refine List.pairwise_cons.mpr ⟨fun k hk => ?_, rise_insI h2⟩
        rcases mem_insI.mp hk with rfl | hk
        · omega
        · exact h1 k hk
theorem rise_sortI : ∀ {l : List Int}, (sortI l).Pairwise (· < ·)
  | [] => List.Pairwise.nil
  | x :: r => rise_insI rise_sortI
theorem rise_eq : ∀ {l m : List Int}, l.Pairwise (· < ·) → m.Pairwise (· < ·) → (∀ k, k ∈ l ↔ k ∈ m) → l = m
  | [], [], _, _, _ => rfl
  | [], y :: _, _, _, h => absurd ((h y).mpr (List.mem_cons_self ..)) List.not_mem_nil
  | x :: _, [], _, _, h => absurd ((h x).mp (List.mem_cons_self ..)) List.not_mem_nil
  | x :: r, y :: t, hl, hm, h => by
    obtain ⟨l1, l2⟩ := List.pairwise_cons.mp hl
    obtain ⟨m1, m2⟩ := List.pairwise_cons.mp hm
    have e : x = y := by
      have a := (h x).mp (List.mem_cons_self ..)
      have b := (h y).mpr (List.mem_cons_self ..)
      rcases List.mem_cons.mp a with a | a
      · exact a
      · rcases List.mem_cons.mp b with b | b
        · exact b.symm
        · have := m1 x a
          have := l1 y b
          omega
    subst e
    rw [rise_eq l2 m2 fun k => ⟨fun hk => ?_, fun hk => ?_⟩]
    · rcases List.mem_cons.mp ((h k).mp (List.mem_cons_of_mem _ hk)) with rfl | q
      · exact absurd (l1 k hk) (Int.lt_irrefl _)
      · exact q
    · rcases List.mem_cons.mp ((h k).mpr (List.mem_cons_of_mem _ hk)) with rfl | q
      · exact absurd (m1 k hk) (Int.lt_irrefl _)
      · exact q
section
variable {X : Cx}
def rSetLI (X : Cx) : List V → Hp → VK → Prop := fun xs H Q => ∃ (p : Addr) (ns : List Int), xs = [.ref p] ∧ SqL X.K H p (ns.map V.int) ∧ ns.length ≤ 63 ∧ ∀ (a : Addr) (c : Nat), c ≤ ns.length → H a = none → Q (.ref a) (upd H a (SetO X.w a (fun j => decide (j ∈ ns)) c))
theorem cr_setLI (hc : X.calm = true) : CallR X (.type "set") (rSetLI X) := by
  intro pins s σ H xs us Q I r h
  obtain ⟨p, ns, rfl, hq, hl, q⟩ := h
  rw [Vals.ref1 r]
  obtain ⟨its, rv, pl, _⟩ := I.list hq
  refine set_of_list ns (I.ok.hd hc) pl.isList (by simpa using ints_of_vals rv) (by unfold scanBound; omega) fun s2 hs => ?_
  obtain ⟨h2, t2, c2, rfl, R, hcl, keep⟩ := hs
  exact ⟨.ref _, _, I.laid (t' := t2) keep (Nat.le_refl _) (setO_new R), rfl, q _ _ hcl (I.hok.fresh (Nat.le_refl _))⟩
def sortM (d : D) : M D := fun S => match d with
  | .ref i => match S[i]? with
    | some (.lst xs) => match intsU xs with
      | some ns => if ns.length ≤ 63 then some (.ref S.length, S ++ [.lst ((sortI ns).map .int)]) else none
      | none => none
    | _ => none
  | _ => none
def eSortSet (f : SEnv → M D) : SEnv → M D := fun env => bnd (f env) sortM
variable {e : Expr} {te : TE} {f : SEnv → M D} {p1 p2 p3 pos : Pos}
theorem de_sortSet (hc : X.calm = true) (h1 : X.mg "sorted" = none) (h2 : X.mg "set" = none) (he : DE X e te f) (g1 : Gl X "sorted" := by rfl) (g2 : Gl X "set" := by rfl)
    (s1 : starEach [e] X.env = (false, eval e X.env) :: starEach [] X.env := by rfl)
    (s2 : starEach [Expr.Call (.Name "set" p2) [e] [] p3] X.env = (false, eval (Expr.Call (.Name "set" p2) [e] [] p3) X.env) :: starEach [] X.env := by rfl) :
    DE X (.Call (.Name "sorted" p1) [.Call (.Name "set" p2) [e] [] p3] [] pos) (tCB (rSortedSet X.w) (tCons (tCB (rSetLI X) (tCons te tNil)) tNil)) (eSortSet f) := by
  have q1 : PE X (.Call (.Name "set" p2) [e] [] p3) (tCB (rSetLI X) (tCons te tNil)) := pe_callTy (cr_setLI hc) g2 h2 (by decide +kernel) (pa_cons he.pe pa_nil s1) (by decide) (by decide) s1 rfl
  refine ⟨pe_callB (cr_sortedSet hc) g1 h1 (by decide +kernel) (pa_cons q1 pa_nil s2) (by decide) (by decide) s2 rfl, fun m S H env σ rl re d S' h Q q => ?_⟩
  obtain ⟨a, S1, k1, k2⟩ := bnd_some h
  refine he.se rl re a S1 k1 _ fun m1 H1 v rl1 e1 rv => ?_
  unfold sortM at k2
  split at k2
  · rename_i i
    split at k2
    · rename_i xs hx
      split at k2
      · rename_i ns hns
        split at k2
        · rename_i hl
          cases k2
          obtain ⟨p, vs, rfl, _, hq, hv⟩ := rl1.sqL hx rv
          have hvs := intsU_rep hv hns
          subst hvs
          refine ⟨p, ns, rfl, .inl (.inl hq), hl, fun b c hcl hb => ?_⟩
          obtain ⟨rl2, x2⟩ := rl1.keep (keep_upd (o := SetO X.w b (fun j => decide (j ∈ ns)) c) hb)
          refine ⟨b, _, c, rfl, upd_same, by omega, fun ms p2 hr hmem _ hp2 => ?_⟩
          have hms : ms = sortI ns := rise_eq hr rise_sortI fun k => by rw [hmem k, mem_sortI, decide_eq_true_iff]
          subst hms
          have hr2 : Reps X.K m1 (upd H1 b (SetO X.w b (fun j => decide (j ∈ ns)) c)) ((sortI ns).map .int) ((sortI ns).map V.int) := by
            induction sortI ns with
            | nil => exact .nil
            | cons x r ih => exact .cons (.int x) ih
          obtain ⟨a1, a2, a3⟩ := rl2.new hp2 (.lst hr2)
          exact q _ _ _ a1 ((e1.trans x2).trans a2) a3
        · cases k2
      · cases k2
    · cases k2
  · cases k2
end
end TS
set_option Elab.async false
set_option linter.all false
set_option maxRecDepth 100000
namespace TS
open PySem PySem.Spec PyProof.Rows L2
section
variable {X : Cx} {K : PySem.W.Frag} {m : List Addr} {H : Hp}
theorem Reps.initL : ∀ {ds : List D} {vs : List V}, Reps K m H ds vs → Reps K m H ds.dropLast vs.dropLast
  | _, _, .nil => .nil
  | _, _, .cons h .nil => .nil
  | _, _, .cons h (.cons h2 h3) => .cons h (Reps.initL (.cons h2 h3))
/-- xs.pop() -/
def mPop (a : D) (as : List D) : M D := fun S => match a, as with
  | .ref i, [] => match S[i]? with
    | some (.lst xs) => match xs[xs.length - 1]? with
      | some d => some (d, S.set i (.lst xs.dropLast))
      | none => none
    | _ => none
  | _, _ => none
theorem m_pop : DM X "list" "list.pop" rPop mPop := ⟨mt_pop, fun m S H x a xs as rl ra ras d S' h Q q => by
  unfold mPop at h
  split at h
  · split at h
    · split at h
      · cases h
        rename_i i _ ys e d' hd
        cases ras
        obtain ⟨p, vs, rfl, hp, h2, h3⟩ := rl.sqL e ra
        obtain ⟨v, hv, rv⟩ := h3.get hd
        obtain ⟨a1, a2⟩ := rl.set hp (.lst h3.initL)
        refine ⟨p, vs, v, rfl, rfl, h2, by rw [← h3.length]; exact hv, q m _ _ a1 a2 (rv.mono rl a2)⟩
      · cases h
    · cases h
  · cases h⟩
/-- xs.extend(ys), ys another list -/
def mExtend (a : D) (as : List D) : M D := fun S => match a, as with
  | .ref i, [.ref j] => match S[i]?, S[j]? with
    | some (.lst xs), some (.lst ys) => if xs.length + ys.length ≤ sizeLine then some (.non, S.set i (.lst (xs ++ ys))) else none
    | _, _ => none
  | _, _ => none
theorem m_extend : DM X "list" "list.extend" rExtend mExtend := ⟨mt_extend, fun m S H x a xs as rl ra ras d S' h Q q => by
  unfold mExtend at h
  split at h
  · split at h
    · split at h
      · cases h
        rename_i i j _ _ ys zs e e2 c
        obtain ⟨v, rfl, rv⟩ := ras.one
        obtain ⟨p, vs, rfl, hp, h2, h3⟩ := rl.sqL e ra
        obtain ⟨p2, vs2, rfl, hp2, g2, g3⟩ := rl.sqL e2 rv
        obtain ⟨a1, a2⟩ := rl.set hp (.lst (h3.append g3))
        exact ⟨p, p2, vs, vs2, rfl, rfl, h2, g2, by rw [← h3.length, ← g3.length]; exact c, q m _ _ a1 a2 .non⟩
      · cases h
    · cases h
  · cases h⟩
/-- sep.join(xs) -/
def mJoin (a : D) (as : List D) : M D := fun S => match a, as with
  | .str z, [d] => match seqOf S d with
    | some xs => match strsOf xs with
      | some ys => if (ys.map (·.length)).sum + ys.length * z.length ≤ 16777216 then some (.str (Txt.join z ys), S) else none
      | none => none
    | none => none
  | _, _ => none
theorem m_join : DM X "str" "str.join" (fun x xs H Q => ∃ a p, ∃ ys : List Str, x = .str a ∧ xs = [.ref p] ∧ (SqL X.K H p (ys.map V.str) ∨ SqT X.K H p (ys.map V.str)) ∧
    (ys.map (·.length)).sum + ys.length * a.length ≤ 16777216 ∧ Q (.str (Txt.join a ys)) H) mJoin := ⟨mt_join, fun m S H x a xs as rl ra ras d S' h Q q => by
  unfold mJoin at h
  split at h
  · split at h
    · split at h
      · split at h
        · cases h
          rename_i z d' _ xs' e _ ys e2 c
          obtain ⟨v, rfl, rv⟩ := ras.one
          cases ra
          obtain ⟨p, vs, rfl, h1, h2⟩ := seqOf_rep rl rv e
          have := strsOf_rep h2 e2
          subst this
          exact ⟨_, p, ys, rfl, rfl, h1, c, q m H _ rl .refl (.str _)⟩
        · cases h
      · cases h
    · cases h
  · cases h⟩
end
end TS
set_option Elab.async false
set_option linter.all false
set_option maxRecDepth 100000
namespace TS
open PySem PySem.Spec PyProof.Rows L2 PySem.Calls PySem.Builtin
/-! ### enumerate(x): of a list, a tuple, a text -/
abbrev eObj (it : Addr) : Obj := { cls := .type "enumerate", data := .fields #[.none, .bool false, .ref it, rawInt 0, .none, .none] }
set_option maxHeartbeats 1000000 in
theorem enum_new {v : Value} {o : Obj} {G : Heap → Prop} (B : Begins v o G) : Meets (Builtin.«enumerate.__new__» ⟨[.type "enumerate", v], []⟩) (fun _ R s => G s.heap ∧
    R (.ok (.ret (.ref (s.heap.push o).objs.size))) { s with heap := (s.heap.push o).push (eObj s.heap.objs.size) }) := .of_wp fun prog w A R s h => by
  obtain ⟨hp, g, d, tk, os⟩ := s
  have sub := sub_enumerate
  have go : ∀ {A2 : Around} {E2 : Value → Shared → Prop} {Q2 : Value → Shared → Prop}, Q2 (.ref hp.objs.size) ⟨hp.push o, g, d, tk, os⟩ → wpAny (model prog w) A2 (pyIter v) Q2 E2 ⟨hp, g, d, tk, os⟩ := fun q => B.iter prog w _ _ ⟨hp, g, d, tk, os⟩ _ h.1 q
  wp_walk using go
  refine wpAny_stack_any fun fr => wpAny_pure ?_
  split
  · rename_i c _ _ _ _ _
    cases (c == Value.type "enumerate") <;> (wp_walk using go; exact ⟨_, rfl, h.2⟩)
  · wp_walk using go
    exact ⟨_, rfl, h.2⟩
section
variable {P : Program} {w : World} {A : Around} {E : Value → Shared → Prop} {s : Shared}
theorem enum_one {v : Value} {o : Obj} {G : Heap → Prop} {Q : Value → Shared → Prop} (B : Begins v o G) (g : G s.heap)
    (q : ∀ h2, IsEnum h2 (s.heap.objs.size + 1) s.heap.objs.size 0 .none → h2.get? s.heap.objs.size = some o → (∀ b u, s.heap.get? b = some u → h2.get? b = some u) → Q (.ref (s.heap.objs.size + 1)) { s with heap := h2 }) :
    wpAny (model P w) A (call (.type "enumerate") [v]) Q E s := by
  refine callType_new F.called_enumerate (by decide) (F.typeCall_enumerate_1 _) (F.newCall_enumerate_1 _) (fun x => F.args_object_init_2 x _) F.entry_enumerate_new (enum_new B) ⟨g, ?_⟩
  have z : (s.heap.push o).objs.size = s.heap.objs.size + 1 := Heap.size_push ..
  have e : ((s.heap.push o).push (eObj s.heap.objs.size)).get? (s.heap.objs.size + 1) = some (eObj s.heap.objs.size) := by
    rw [← z]
    exact Heap.get?_push_size _ rfl
  show _ ∧ _
  rw [z]
  exact ⟨⟨_, e, rfl⟩, q _ e (Heap.get?_push_of_some _ (Heap.get?_push_size _ B.free)) fun b u x => Heap.get?_push_of_some _ (Heap.get?_push_of_some _ x)⟩
end
def ItEn (K : PySem.W.Frag) (k : Kd) : It :=
  ⟨fun i H => ∃ vs : List V, k.its K H vs ∧ i < vs.length, fun i H v H' => ∃ T x, v = .ref T ∧ H T = none ∧ H' = upd H T (.tup [.int (i : Nat), x]) ∧ ∀ vs, k.its K H vs → vs[i]? = some x, fun i H => ∃ vs : List V, k.its K H vs ∧ i = vs.length⟩
theorem turn_enumG {P : Program} {w : World} {K : PySem.W.Frag} {elts : List Expr} {kk : Nat} {tpos : Pos} {e it : Addr} {k : Kd} (ne : e ≠ it) (oe : k.off e) (oi : k.off it) :
    Turn P w K (.Tuple elts kk tpos) (ItEn K k) [e, it] e (fun i h => (∃ old, IsEnum h e it ((i : Nat) : Int) old) ∧ k.at it i h) where
  mem := List.mem_cons_self ..
  obj := fun i h st b hb => by
    obtain ⟨⟨old, s1⟩, s2⟩ := st
    rcases List.mem_cons.mp hb with rfl | hb
    · exact ⟨_, s1, fun v q => nomatch q⟩
    · rw [List.mem_singleton.mp hb]
      exact Kd.live s2
  keep := fun i h h' st kp => by
    obtain ⟨⟨old, s1⟩, s2⟩ := st
    exact ⟨⟨old, kp e (by simp) _ s1⟩, Kd.keep s2 (kp it (by simp))⟩
  item := by
    intro X e1 e2 e3 hc i pins s σ H E I hf st hg
    subst e1 e2 e3
    obtain ⟨⟨old, s1⟩, s2⟩ := st
    obtain ⟨vs, hvs, hi⟩ := hg
    obtain ⟨P1, St1, D1, t1, r1, b1⟩ := Kd.draws I hc hvs oi s2
    have le : e < s.heap.objs.size := Heap.lt_size s1
    have li : it < s.heap.objs.size := let ⟨_, q, _⟩ := Kd.live s2; Heap.lt_size q
    refine wpAny_pyNext_enum_itemD D1 s1 t1 hi ne (Kd.not_fp ne.symm oe) fun u h1 tk pu c1 c2 c3 _ kp => ?_
    obtain ⟨x, hx, rx⟩ := r1 i u pu
    refine ⟨_, rfl, wpAny_letOwnedTupleGo_enum (s := { s with heap := h1, toks := tk + 1 }) c1 fun h2 c1' sb => ?_⟩
    have two : ∀ c o, c ∉ [e, it] → s.heap.get? c = some o → h2.get? c = some o := fun c o hn q => (sb.2 c fun w => hn (by simp [w])).trans (kp c o (fun w => hn (by simp [w])) (fun w => hn (by simp [w])) q)
    have hT : h2.get? s.heap.objs.size = some { cls := .type "tuple", data := .seq #[.int i tk, u] } := (sb.2 _ (Nat.ne_of_gt le)).trans c3
    have new : ObjOk X.prog X.w (upd H s.heap.objs.size (.tup [.int (i : Nat), x])) h2 s.heap.objs.size (.tup [.int (i : Nat), x]) := ⟨by show 2 ≤ sizeLine; decide, [.int i tk, u], .cons ⟨_, rfl⟩ (.cons rx .nil), _, hT, rfl, _, rfl⟩
    have I2 : Inv X pins σ (upd H s.heap.objs.size (.tup [.int (i : Nat), x])) { s with heap := h2, toks := tk + 1 } := I.turnedNew (ch := [e, it]) two hf (Nat.le_refl _) new
    refine ⟨.ref s.heap.objs.size, _, I2, rfl, ⟨_, x, rfl, I.hok.fresh (Nat.le_refl _), rfl, fun ws hw => by rw [Kd.its_inj I hw hvs]; exact hx⟩, ⟨⟨u, ?_⟩, ?_⟩, fun c hcm => ?_⟩
    · rw [show ((i + 1 : Nat) : Int) = (i : Int) + 1 by omega]
      exact c1'
    · exact Kd.keep (b1 _ _ c2) fun o q => (sb.2 _ ne.symm).trans q
    · have hlt : c < s.heap.objs.size := by
        rcases List.mem_cons.mp hcm with rfl | hcm
        · exact le
        · rw [List.mem_singleton.mp hcm]
          exact li
      rw [upd_ne (Nat.ne_of_lt hlt)]
      exact (hf c hcm).1
  done := by
    intro X e1 e2 e3 hc i pins s σ H E I hf st hg
    subst e1 e2 e3
    obtain ⟨⟨old, s1⟩, s2⟩ := st
    obtain ⟨vs, hvs, hi⟩ := hg
    obtain ⟨P1, St1, D1, t1, r1, b1⟩ := Kd.draws I hc hvs oi s2
    subst hi
    refine wpAny_pyNext_enum_endD D1 s1 t1 fun h1 kp => ⟨rfl, ?_⟩
    exact I.turnedL (ch := [e, it]) (fun c o hn q => kp c o (fun w => hn (by simp [w])) q) hf
  self := fun A' i s Q E st h => let ⟨⟨_, s1⟩, _⟩ := st; wpAny_pyIter_enum s1 h
def iEnG (K : PySem.W.Frag) (ta : TA) : TI := fun σ H R => ta σ H fun vs H1 => ∃ x, vs = [x] ∧ ∀ u, RelV x u → ∃ k ws, OfK x u k ∧ k.its K H1 ws ∧ R (ItEn K k) H1
theorem pi_enumG {X : Cx} {e : Expr} {ta : TA} {p pos tpos : Pos} {elts : List Expr} {kk : Nat} (hm : X.mg "enumerate" = none) (ha : PA X [e] ta) (hg : Gl X "enumerate" := by rfl)
    (hs : starEach [e] X.env = (false, eval e X.env) :: starEach [] X.env := by rfl) (hpl : (backTo pos (starEach [] X.env)).any (·.1) = false := by rfl) :
    PI X (.Tuple elts kk tpos) (.Call (.Name "enumerate" p) [e] [] pos) (iEnG X.K ta) := by
  refine ⟨fun pins s σ H R I h => Call_ (ld_blt I hg hm boot_enumerate (PyProof.Rows.callWith_type1 (thn (ha.run pos pins s σ H _ I h) fun us s1 ⟨vs, H1, I1, rv, q⟩ => ?_) hs hpl))⟩
  obtain ⟨x, rfl, q⟩ := q
  obtain ⟨u, rfl, rx⟩ := rv.one
  obtain ⟨k, ws, o1, i1, q⟩ := q u rx
  obtain ⟨G1, B1, g1, f1⟩ := Kd.begins I1 i1
  rw [o1.val]
  refine enum_one B1 g1 fun h2 z1 z2 kp => wpAny_pyIter_enum z1 ?_
  have I2 : Inv X pins σ H1 { s1 with heap := h2 } := I1.kept (t' := s1.toks) kp
  refine ⟨s1.heap.objs.size + 1, [s1.heap.objs.size + 1, s1.heap.objs.size], _, _, H1, rfl, I2, turn_enumG (Nat.succ_ne_self _) (f1 _ (Nat.le_add_right _ _)) (f1 _ (Nat.le_refl _)), ⟨⟨_, z1⟩, k.at0 z2⟩, fun c hc => ?_, q⟩
  have hle : s1.heap.objs.size ≤ c := by
    rcases List.mem_cons.mp hc with rfl | hc
    · exact Nat.le_add_right _ _
    · rw [List.mem_singleton.mp hc]
      exact Nat.le_refl _
  exact I1.fpOk hle (I1.hok.fresh hle)
section
variable {X : Cx} {K : PySem.W.Frag} {m : List Addr} {H : Hp}
def enD (xs : List D) : List D := xs.zipIdx.map fun p => .tup [.int (p.2 : Nat), p.1]
theorem enD_length (xs : List D) : (enD xs).length = xs.length := by unfold enD; rw [List.length_map, List.length_zipIdx]
theorem enD_get {xs : List D} {i : Nat} {y : D} : (enD xs)[i]? = some y ↔ ∃ x, xs[i]? = some x ∧ y = .tup [.int (i : Nat), x] := by
  unfold enD
  rw [List.getElem?_map, List.getElem?_zipIdx, Nat.zero_add]
  cases xs[i]? with
  | none => simp
  | some x => simp [eq_comm]
theorem walk_enG {k : Kd} {xs : List D} {g : Gd} (w : KW K m H k xs g) : WalkD K m H (ItEn K k) (enD xs) g := by
  refine ⟨fun i H2 hi ⟨m2, S2, rl2, x2, g2⟩ => ?_, fun H2 ⟨m2, S2, rl2, x2, g2⟩ => ?_, fun i H2 x H3 hi _ y m2 S2 rl2 x2 g2 => ?_⟩
  · obtain ⟨vs, a1, a2⟩ := w m2 S2 H2 rl2 x2 g2
    rw [enD_length] at hi
    exact ⟨vs, a1, by rw [← a2.length]; exact hi⟩
  · obtain ⟨vs, a1, a2⟩ := w m2 S2 H2 rl2 x2 g2
    exact ⟨vs, a1, by rw [enD_length, a2.length]⟩
  · obtain ⟨vs, a1, a2⟩ := w m2 S2 H2 rl2 x2 g2
    rw [enD_length] at hi
    obtain ⟨T, u, rfl, hT, rfl, c1⟩ := y
    obtain ⟨u', d1, d2⟩ := a2.get (List.getElem?_eq_getElem hi)
    rw [c1 vs a1] at d1
    cases d1
    obtain ⟨z1, z2, z3⟩ := rl2.tup hT (.cons (.int (i : Nat)) (.cons d2 .nil))
    exact ⟨_, enD_get.mpr ⟨_, List.getElem?_eq_getElem hi, rfl⟩, z1, z2, z3⟩
def iEnM (f : SEnv → M (List D)) : SEnv → M (List D × Gd) := fun env => bnd (f env) fun ds S => match ds with
  | [a] => match srcOf S a with
    | some (xs, g) => some ((enD xs, g), S)
    | none => none
  | _ => none
theorem dk_enum {e : Expr} {ta : TA} {f : SEnv → M (List D)} {p pos tpos : Pos} {elts : List Expr} {kk : Nat} (K : PySem.W.Frag) (hK : X.K = K) (hm : X.mg "enumerate" = none) (ha : DA X [e] ta f) (hg : Gl X "enumerate" := by rfl)
    (hs : starEach [e] X.env = (false, eval e X.env) :: starEach [] X.env := by rfl) (hpl : (backTo pos (starEach [] X.env)).any (·.1) = false := by rfl) :
    DI X (.Tuple elts kk tpos) (.Call (.Name "enumerate" p) [e] [] pos) (iEnG K ta) (iEnM f) := by
  subst hK
  refine ⟨pi_enumG hm ha.pa hg hs hpl, fun m S H env σ rl re xs g S' hh R q => ?_⟩
  obtain ⟨ds, S1, e1, h1⟩ := bnd_some hh
  refine ha.sa rl re ds S1 e1 _ fun m1 H1 vs rl1 x1 rv => ?_
  split at h1
  · rename_i a
    obtain ⟨v, rfl, r1⟩ := rv.one
    cases ea : srcOf S1 a with
    | none => rw [ea] at h1; cases h1
    | some pa =>
      obtain ⟨xs1, g1⟩ := pa
      rw [ea] at h1
      cases h1
      refine ⟨v, rfl, fun u hu => ?_⟩
      obtain ⟨gk, w⟩ := srcOf_rep rl1 r1 ea
      obtain ⟨k, o, w⟩ := w u hu
      obtain ⟨vs, iv, _⟩ := w m1 _ H1 rl1 .refl gk
      exact ⟨k, vs, o, iv, q m1 H1 _ rl1 x1 (walk_enG w)⟩
  · cases h1
end
end TS
set_option Elab.async false
set_option linter.all false
set_option maxRecDepth 100000
namespace TS
open PySem PySem.Spec PyProof.Rows L2
/-! ### d.get(k), d.get(k, x), d.setdefault(k, x), d.pop(k) -/
section
variable {X : Cx} {K : PySem.W.Frag} {m : List Addr} {S S' : Store} {H : Hp}
def isDM (a : D) : M Unit := fun S => if isDct S a = true then some ((), S) else none
theorem isDM_rep (rl : Rel K m S H) {a : D} {x : V} {u : Unit} (ra : Rep K m H a x) (h : isDM a S = some (u, S')) : S' = S ∧ ∃ p, x = .ref p ∧ IsD H p := by
  unfold isDM at h
  split at h
  · rename_i c
    cases h
    refine ⟨rfl, ?_⟩
    unfold isDct at c
    split at c
    · split at c
      · rename_i i _ kvs e
        obtain ⟨p, us, rfl, _, h3, _⟩ := rl.dict e ra
        exact ⟨p, rfl, .inl ⟨us, .inl h3⟩⟩
      · cases c
    · cases c
  · cases h
def dgetO (a b z : D) : M D := fun S => match a, keyOf b with
  | .ref i, some k => match S[i]? with
    | some (.dK kvs) => some ((lookD kvs k).getD z, S)
    | _ => none
  | _, _ => none
theorem dgetO_rep (rl : Rel K m S H) {a b z d : D} {x y w : V} (ra : Rep K m H a x) (rb : Rep K m H b y) (rz : Rep K m H z w) (h : dgetO a b z S = some (d, S')) : S' = S ∧ ∃ p o, x = .ref p ∧ DGet H p y o ∧ Rep K m H d (o.getD w) := by
  unfold dgetO at h
  split at h
  · split at h
    · cases h
      rename_i k hk _ kvs e
      obtain ⟨p, us, rfl, _, q3, q4⟩ := rl.dict e ra
      refine ⟨rfl, p, valV us k, rfl, ?_, ?_⟩
      · rw [keyOf_rep rb hk]
        exact DGet.k q3
      · rcases q4.look (k := k) with ⟨d1, v1, w1, w2, w3⟩ | ⟨w1, w2⟩
        · rw [w1, w2]
          exact w3
        · rw [w1, w2]
          exact rz
    · cases h
  · cases h
def eGet1 (fo fi : SEnv → M D) : SEnv → M D := fun env => bnd (fo env) fun a => bnd (isDM a) fun _ => bnd (fi env) fun b => dgetO a b .non
def eGet2 (fo fi fx : SEnv → M D) : SEnv → M D := fun env => bnd (fo env) fun a => bnd (isDM a) fun _ => bnd (fi env) fun b => bnd (fx env) fun z => dgetO a b z
variable {o e f : Expr} {apos cpos : Pos} {td ty tx : TE} {fo fi fx : SEnv → M D}
theorem de_get1 (hu : X.A.units + 1 < cLine) (ho : DE X o td fo) (he : DE X e ty fi) (mm : M1 X o "get" apos e cpos := by exact ⟨rfl, rfl, rfl, rfl⟩) : DE X (.Call (.Attribute o "get" apos) [e] [] cpos) (tDGet1 td ty) (eGet1 fo fi) := ⟨pe_dget1 hu ho.pe he.pe mm, fun m S H env σ rl re d S' h Q q => by
  obtain ⟨a, S1, e1, k1⟩ := bnd_some h
  obtain ⟨_, S2, e2, k2⟩ := bnd_some k1
  obtain ⟨b, S3, e3, k3⟩ := bnd_some k2
  refine ho.se rl re a S1 e1 _ fun m1 H1 x rl1 x1 ra => ?_
  obtain ⟨rfl, p, rfl, hp⟩ := isDM_rep rl1 ra e2
  refine ⟨p, rfl, hp, he.se rl1 (re.mono rl x1) b S3 e3 _ fun m2 H2 y rl2 x2 rb => ?_⟩
  obtain ⟨rfl, p', o', e4, g, rd⟩ := dgetO_rep rl2 (ra.mono rl1 x2) rb .non k3
  cases e4
  exact ⟨o', g, q m2 H2 _ rl2 (x1.trans x2) rd⟩⟩
theorem de_get2 (hu : X.A.units + 1 < cLine) (ho : DE X o td fo) (he : DE X e ty fi) (hf : DE X f tx fx) (mm : M2 X o "get" apos e f cpos := by exact ⟨rfl, rfl, rfl, rfl⟩) : DE X (.Call (.Attribute o "get" apos) [e, f] [] cpos) (tDGet2 td ty tx) (eGet2 fo fi fx) := ⟨pe_dget2 hu ho.pe he.pe hf.pe mm, fun m S H env σ rl re d S' h Q q => by
  obtain ⟨a, S1, e1, k1⟩ := bnd_some h
  obtain ⟨_, S2, e2, k2⟩ := bnd_some k1
  obtain ⟨b, S3, e3, k3⟩ := bnd_some k2
  obtain ⟨z, S4, e4, k4⟩ := bnd_some k3
  refine ho.se rl re a S1 e1 _ fun m1 H1 x rl1 x1 ra => ?_
  obtain ⟨rfl, p, rfl, hp⟩ := isDM_rep rl1 ra e2
  refine ⟨p, rfl, hp, he.se rl1 (re.mono rl x1) b S3 e3 _ fun m2 H2 y rl2 x2 rb => ?_⟩
  refine hf.se rl2 (re.mono rl (x1.trans x2)) z S4 e4 _ fun m3 H3 w rl3 x3 rz => ?_
  obtain ⟨rfl, p', o', e5, g, rd⟩ := dgetO_rep rl3 (ra.mono rl1 (x2.trans x3)) (rb.mono rl2 x3) rz k4
  cases e5
  exact ⟨o', g, q m3 H3 _ rl3 ((x1.trans x2).trans x3) rd⟩⟩
def setdO (a b z : D) : M D := fun S => match a, keyOf b with
  | .ref i, some k => match S[i]? with
    | some (.dK kvs) => if kvs.length < sizeLine then match lookD kvs k with
      | some d => some (d, S)
      | none => some (z, S.set i (.dK (putD kvs k z)))
      else none
    | _ => none
  | _, _ => none
def eSetd (fo fi fx : SEnv → M D) : SEnv → M D := fun env => bnd (fo env) fun a => bnd (isDM a) fun _ => bnd (fi env) fun b => bnd (fx env) fun z => setdO a b z
theorem de_setd (ho : DE X o td fo) (he : DE X e ty fi) (hf : DE X f tx fx) (mm : M2 X o "setdefault" apos e f cpos := by exact ⟨rfl, rfl, rfl, rfl⟩) : DE X (.Call (.Attribute o "setdefault" apos) [e, f] [] cpos) (tDSetd td ty tx) (eSetd fo fi fx) := ⟨pe_dsetd ho.pe he.pe hf.pe mm, fun m S H env σ rl re d S' h Q q => by
  obtain ⟨a, S1, e1, k1⟩ := bnd_some h
  obtain ⟨_, S2, e2, k2⟩ := bnd_some k1
  obtain ⟨b, S3, e3, k3⟩ := bnd_some k2
  obtain ⟨z, S4, e4, k4⟩ := bnd_some k3
  refine ho.se rl re a S1 e1 _ fun m1 H1 x rl1 x1 ra => ?_
  obtain ⟨rfl, p, rfl, hp⟩ := isDM_rep rl1 ra e2
  refine ⟨p, rfl, hp, he.se rl1 (re.mono rl x1) b S3 e3 _ fun m2 H2 y rl2 x2 rb => ?_⟩
  refine hf.se rl2 (re.mono rl (x1.trans x2)) z S4 e4 _ fun m3 H3 w rl3 x3 rz => ?_
  unfold setdO at k4
  split at k4
  · split at k4
    · split at k4
      · rename_i i k hk _ kvs ek c
        obtain ⟨p', us, e5, h2, q3, q4⟩ := rl3.dict ek (ra.mono rl1 (x2.trans x3))
        cases e5
        refine ⟨us, k, q3, keyOf_rep (rb.mono rl2 x3) hk, by rw [← q4.length]; exact c, fun v hv => ?_, fun hv => ?_⟩
        · rcases q4.look (k := k) with ⟨d1, v1, w1, w2, w3⟩ | ⟨w1, w2⟩
          · rw [w1] at k4
            cases k4
            rw [w2] at hv
            cases hv
            exact q m3 H3 _ rl3 ((x1.trans x2).trans x3) w3
          · rw [w2] at hv
            cases hv
        · rcases q4.look (k := k) with ⟨d1, v1, w1, w2, w3⟩ | ⟨w1, w2⟩
          · rw [w2] at hv
            cases hv
          · rw [w1] at k4
            cases k4
            obtain ⟨a1, a2⟩ := rl3.set h2 (q4.put (k := k) rz).o
            exact q m3 _ _ a1 (((x1.trans x2).trans x3).trans a2) (rz.mono rl3 a2)
      · cases k4
    · cases k4
  · cases k4⟩
end
end TS
set_option Elab.async false
set_option linter.all false
set_option maxRecDepth 100000
namespace TS
open PySem PySem.Spec PyProof.Rows L2
section
variable {X : Cx}
/-! ### a, b = x, y and a, b, c = x, y, z -/
def sPar2 (i j : Nat) (f : SEnv → M (List D)) : SEnv → M (Fl × SEnv) := fun env => bnd (f env) fun ds => match ds with
  | [a, b] => ret (.nx, (env.set i (some a)).set j (some b))
  | _ => fail
def sPar3 (i j l : Nat) (f : SEnv → M (List D)) : SEnv → M (Fl × SEnv) := fun env => bnd (f env) fun ds => match ds with
  | [a, b, c] => ret (.nx, ((env.set i (some a)).set j (some b)).set l (some c))
  | _ => fail
theorem Reps.three {K : PySem.W.Frag} {m : List Addr} {H : Hp} {a b c : D} {vs : List V} (h : Reps K m H [a, b, c] vs) : ∃ u v w, vs = [u, v, w] ∧ Rep K m H a u ∧ Rep K m H b v ∧ Rep K m H c w := by
  cases h with
  | cons h1 h =>
    obtain ⟨v, w, rfl, h2, h3⟩ := h.two
    exact ⟨_, v, w, rfl, h1, h2, h3⟩
theorem ds_par2 (i j : Nat) {x y : Str} {a b : Expr} {ta : TA} {f : SEnv → M (List D)} {px py pt pos : Pos} {kt k2 pt2} (hN : X.N.Nodup) (ha : DA X [a, b] ta f) (hi : X.N[i]? = some x := by rfl) (hj : X.N[j]? = some y := by rfl) (hij : i ≠ j := by decide)
    (hc : X.calm = true := by rfl) (hx : X.env.scope.names.lookup x = some .local := by rfl) (hy : X.env.scope.names.lookup y = some .local := by rfl)
    (hw : swappedStores [.Tuple [.Name x px, .Name y py] kt pt] (.Tuple [a, b] k2 pt2) X.env = pure (some [x, y]) := by rfl)
    (hs : swapsWithSole [.Tuple [.Name x px, .Name y py] kt pt] (.Tuple [a, b] k2 pt2) pos.line X.env = pure false := by rfl) :
    DS X (.Assign [.Tuple [.Name x px, .Name y py] kt pt] (.Tuple [a, b] k2 pt2) pos) (tPar i j ta) (sPar2 i j f) := ⟨ps_par hc hN hi hj hij hx hy ha.pa hw hs, fun m S H env σ rl re fl env' S' hh D q => by
  obtain ⟨ds, S1, e1, h1⟩ := bnd_some hh
  refine ha.sa rl re ds S1 e1 _ fun m1 H1 vs rl1 x1 rv => ?_
  split at h1
  · cases h1
    obtain ⟨v, w, rfl, r1, r2⟩ := rv.two
    exact ⟨v, w, rfl, q m1 H1 _ rl1 x1 (((re.mono rl x1).set r1).set r2)⟩
  · cases h1⟩
theorem ds_par3 (i j l : Nat) {x y z : Str} {a b c : Expr} {ta : TA} {f : SEnv → M (List D)} {px py pz pt pos : Pos} {kt k2 pt2} (hN : X.N.Nodup) (ha : DA X [a, b, c] ta f) (hi : X.N[i]? = some x := by rfl) (hj : X.N[j]? = some y := by rfl) (hl : X.N[l]? = some z := by rfl)
    (hij : i ≠ j := by decide) (hil : i ≠ l := by decide) (hjl : j ≠ l := by decide)
    (hc : X.calm = true := by rfl) (hx : X.env.scope.names.lookup x = some .local := by rfl) (hy : X.env.scope.names.lookup y = some .local := by rfl) (hz : X.env.scope.names.lookup z = some .local := by rfl)
    (hw : swappedStores [.Tuple [.Name x px, .Name y py, .Name z pz] kt pt] (.Tuple [a, b, c] k2 pt2) X.env = pure (some [x, y, z]) := by rfl)
    (hs : swapsWithSole [.Tuple [.Name x px, .Name y py, .Name z pz] kt pt] (.Tuple [a, b, c] k2 pt2) pos.line X.env = pure false := by rfl) :
    DS X (.Assign [.Tuple [.Name x px, .Name y py, .Name z pz] kt pt] (.Tuple [a, b, c] k2 pt2) pos) (tPar3 i j l ta) (sPar3 i j l f) := ⟨ps_par3 hc hN hi hj hl hij hil hjl hx hy hz ha.pa hw hs, fun m S H env σ rl re fl env' S' hh D q => by
  obtain ⟨ds, S1, e1, h1⟩ := bnd_some hh
  refine ha.sa rl re ds S1 e1 _ fun m1 H1 vs rl1 x1 rv => ?_
  split at h1
  · cases h1
    obtain ⟨u, v, w, rfl, r1, r2, r3⟩ := rv.three
    exact ⟨u, v, w, rfl, q m1 H1 _ rl1 x1 ((((re.mono rl x1).set r1).set r2).set r3)⟩
  · cases h1⟩
/-! ### xs.insert(i, y) -/
def mInsert (a : D) (as : List D) : M D := fun S => match a, as with
  | .ref r, [.int i, d] => match S[r]? with
    | some (.lst xs) => if xs.length < sizeLine ∧ 0 ≤ i ∧ i < 2 ^ 63 then some (.non, S.set r (.lst (xs.take i.toNat ++ [d] ++ xs.drop i.toNat))) else none
    | _ => none
  | _, _ => none
theorem m_insert : DM X "list" "list.insert" (fun x vs H Q => ∃ (l : Addr) (xs : List V) (i : Int) (y : V), x = .ref l ∧ vs = [.int i, y] ∧ H l = some (.lst xs) ∧ xs.length < sizeLine ∧ 0 ≤ i ∧ i < 2 ^ 63 ∧
    Q .non (upd H l (.lst (xs.take i.toNat ++ [y] ++ xs.drop i.toNat)))) mInsert := ⟨mt_insert, fun m S H x a xs as rl ra ras d S' h Q q => by
  unfold mInsert at h
  split at h
  · split at h
    · split at h
      · cases h
        rename_i r i d' _ ys e c
        obtain ⟨v, w, rfl, r1, r2⟩ := ras.two
        cases r1
        obtain ⟨p, vs, rfl, hp, h2, h3⟩ := rl.sqL e ra
        obtain ⟨a1, a2⟩ := rl.set hp (.lst (((h3.take i.toNat).snoc r2).append (h3.drop i.toNat)))
        exact ⟨p, vs, i, w, rfl, rfl, h2, by rw [← h3.length]; exact c.1, c.2.1, c.2.2, q m _ _ a1 a2 .non⟩
      · cases h
    · cases h
  · cases h⟩
end
end TS
set_option Elab.async false
set_option linter.all false
set_option maxRecDepth 100000
namespace TS
open PySem PySem.Spec PyProof.Rows L2
/-! ### x[::-1] of a text or a list -/
section
variable {X : Cx} {e : Expr} {te : TE} {f : SEnv → M D} {k : Nat} {p1 p2 p3 pos : Pos}
def tRevU (K : PySem.W.Frag) (te : TE) : TE := fun σ H Q => te σ H fun x H1 => (∃ z : Str, x = .str z ∧ z.length ≤ sizeLine ∧ Q (.str (turnS z)) H1) ∨ (∃ a xs, x = .ref a ∧ SqL K H1 a xs ∧ ∀ p, H1 p = none → Q (.ref p) (upd H1 p (.lst xs.reverse)))
theorem pe_revU (he : PE X e te) : PE X (.Subscript e (.Slice none none (some (.UnaryOp .USub (.Constant (.int 1) k p1) p2)) p3) pos) (tRevU X.K te) := by
  refine ⟨fun pins s σ H Q I h => ?_⟩
  refine Subscript_ (thn (he.run pins s σ H _ I h) fun v s1 ⟨x, H1, I1, r1, q1⟩ => ?_)
  have neg1 : PO X (some (.UnaryOp .USub (.Constant (.int 1) k p1) p2)) (tPart (tUn (rU fun i => .int (-i)) (tC (.int 1)))) := po_some (pe_un un_neg pe_int)
  have lo0 := fun (s2 : Shared) (G : Hp) (I2 : Inv X pins σ G s2) => (po_none (X := X)).run pins s2 σ G (fun o G2 => o = none ∧ G2 = G) I2 ⟨rfl, rfl⟩
  refine wpAny_Slice (thn (lo0 s1 H1 I1) fun v1 s2 ⟨o1, G1, J1, a1, b1, c1⟩ => ?_)
  subst b1 c1
  refine thn (lo0 s2 G1 J1) fun v2 s3 ⟨o2, G2, J2, a2, b2, c2⟩ => ?_
  subst b2 c2
  refine thn (neg1.run pins s3 σ G2 (fun o G => o = some (-1) ∧ G = G2) J2 ⟨1, rfl, -1, rfl, rfl, rfl⟩) fun v3 s4 ⟨o3, G3, J3, a3, b3, c3⟩ => ?_
  subst b3 c3
  rcases q1 with ⟨z, rfl, hz, q⟩ | ⟨a, xs, rfl, hx, q⟩
  · obtain ⟨t, rfl⟩ := r1
    cases a1
    cases a2
    cases a3
    rename_i tk _
    refine tail_any (ops := [.ref s4.heap.objs.size, .str z t]) (typeIs_str _ z t) PySem.F.slot_str_getitem.lookup (wpAny_getItem_str_slice (l := none) (u := none) (st := some (-1, tk)) ⟨_, Heap.get?_push_size _ rfl, rfl, rfl⟩ rfl ?_) (by with_unfolding_all rfl)
    have e : sliceMade z t none none (some (-1, tk)) = .str (turnS z) := by
      unfold sliceMade
      rw [if_neg (by simp)]
      unfold turnS slicePicked
      show Made.str ⟨((Builtin.Str.strSliceIndices none none (-1) z.length).filterMap (z.cps[·]?)).toArray⟩ = _
      have e2 : Builtin.Str.strSliceIndices none none (-1) z.length = (List.range z.length).reverse := by
        rw [← PySem.W.krv_range, ← PySem.W.krv_sliceRange]
        rfl
      rw [e2, List.filterMap_reverse, show z.length = z.cps.size from rfl, PySem.W.krv_all]
    rw [e]
    exact ⟨by unfold turnS; simpa [Str.length] using hz, .str (turnS z), G3, (J3.kept (t' := s4.toks) fun b ob q => Heap.get?_push_of_some _ q).tok _, ⟨_, rfl⟩, q⟩
  · cases r1
    have J4 : Inv X pins σ G3 { s4 with heap := s4.heap.push { cls := .type "slice", data := .fields #[v1, v2, v3] } } := J3.kept (t' := s4.toks) fun b ob q => Heap.get?_push_of_some _ q
    obtain ⟨us, rv, pl, hz⟩ := J4.list hx
    have hl := rv.length
    refine tail_any (ops := [.ref a, .ref s4.heap.objs.size]) pl.isList.typeIs PySem.slot_list_getitem.lookup (wpAny_getItem_list_slice pl.isList (Heap.IsSliceOf.new _ v1 v2 v3) a1 a2 a3 (by decide) ?_ (by rw [List.size_toArray]; omega)) (by with_unfolding_all rfl)
    rw [PySem.W.krv_pick]
    exact ⟨.ref _, _, J4.laid (t' := s4.toks) (o := .lst xs.reverse) (fun b ob q => Heap.get?_push_of_some _ q) (Nat.le_refl _) ⟨by rw [List.length_reverse]; exact hz, _, 0, rv.reverse, Heap.get?_push_size _ rfl⟩, rfl, q _ (J4.hok.fresh (Nat.le_refl _))⟩
theorem Reps.turn {K : PySem.W.Frag} {m : List Addr} {H : Hp} : ∀ {ds : List D} {vs : List V}, Reps K m H ds vs → Reps K m H ds.reverse vs.reverse
  | _, _, .nil => .nil
  | _, _, .cons h hs => by
    rw [List.reverse_cons, List.reverse_cons]
    exact (Reps.turn hs).snoc h
def revUM (d : D) : M D := fun S => match d with
  | .str z => if z.length ≤ sizeLine then some (.str (turnS z), S) else none
  | .ref i => match S[i]? with
    | some (.lst xs) => some (.ref S.length, S ++ [.lst xs.reverse])
    | _ => none
  | _ => none
def eRevU (f : SEnv → M D) : SEnv → M D := fun env => bnd (f env) revUM
theorem dk_rev (K : PySem.W.Frag) (hK : X.K = K) (he : DE X e te f) : DE X (.Subscript e (.Slice none none (some (.UnaryOp .USub (.Constant (.int 1) k p1) p2)) p3) pos) (tRevU K te) (eRevU f) := by
  subst hK
  refine ⟨pe_revU he.pe, fun m S H env σ rl re d S' h Q q => ?_⟩
  obtain ⟨a, S1, h1, h2⟩ := bnd_some h
  refine he.se rl re a S1 h1 _ fun m1 H1 v rl1 e1 rv => ?_
  unfold revUM at h2
  split at h2
  · split at h2
    · cases h2
      cases rv
      exact .inl ⟨_, rfl, by assumption, q m1 H1 _ rl1 e1 (.str _)⟩
    · cases h2
  · split at h2
    · cases h2
      rename_i i _ xs hx
      obtain ⟨p, vs, rfl, hp, h3, h4⟩ := rl1.sqL hx rv
      refine .inr ⟨p, vs, rfl, .inl (.inl h3), fun p2 hp2 => ?_⟩
      obtain ⟨a1, a2, a3⟩ := rl1.new hp2 (.lst h4.turn)
      exact q _ _ _ a1 (e1.trans a2) a3
    · cases h2
  · cases h2
end
end TS
set_option Elab.async false
set_option linter.all false
set_option maxRecDepth 100000
namespace TS
open PySem PySem.Spec PyProof.Rows L2
section
variable {X : Cx}
/-! ### abs, str of an integer, del d[k] -/
def nAbs : List D → M D
  | [.int i] => ret (.int (if i < 0 then -i else i))
  | _ => fail
theorem c_abs : DC X (.builtin "abs") (fun xs H Q => ∃ i, xs = [.int i] ∧ Q (.int (if i < 0 then -i else i)) H) nAbs := ⟨call_abs, fun m S H xs as rl ra d S' h Q q => by
  unfold nAbs at h
  split at h
  · cases h
    obtain ⟨v, rfl, rv⟩ := ra.one
    cases rv
    exact ⟨_, rfl, q m H _ rl .refl (.int _)⟩
  · cases h⟩
def nStr : List D → M D
  | [.int i] => fun S => if i.natAbs.log2 < 1920 then some (.str (toString i), S) else none
  | _ => fail
theorem c_str : DC X (.type "str") (fun xs H Q => ∃ i : Int, xs = [.int i] ∧ i.natAbs.log2 < 1920 ∧ Q (.str (toString i)) H) nStr := ⟨call_str_int, fun m S H xs as rl ra d S' h Q q => by
  unfold nStr at h
  split at h
  · split at h
    · cases h
      obtain ⟨v, rfl, rv⟩ := ra.one
      cases rv
      exact ⟨_, rfl, by assumption, q m H _ rl .refl (.str _)⟩
    · cases h
  · cases h⟩
def dropD (kvs : List (Key × D)) (k : Key) : List (Key × D) := kvs.filter fun kv => decide (kv.1 ≠ k)
theorem RepK.drop {K : PySem.W.Frag} {m : List Addr} {H : Hp} {k : Key} : ∀ {kvs : List (Key × D)} {us : List (Key × V)}, RepK K m H kvs us → RepK K m H (dropD kvs k) (dropK us k)
  | _, _, .nil => .nil
  | _, _, .cons (k := k') a b => by
    have ih := RepK.drop (k := k) b
    unfold dropD dropK at ih ⊢
    by_cases h : k' = k
    · rw [List.filter_cons, List.filter_cons, if_neg (by simpa using h), if_neg (by simpa using h)]
      exact ih
    · rw [List.filter_cons, List.filter_cons, if_pos (by simpa using h), if_pos (by simpa using h)]
      exact .cons a ih
def delM (a b : D) : M Unit := fun S => match a, keyOf b with
  | .ref i, some k => match S[i]? with
    | some (.dK kvs) => if hasD kvs k = true then some ((), S.set i (.dK (dropD kvs k))) else none
    | _ => none
  | _, _ => none
def sDel (fo fi : SEnv → M D) : SEnv → M (Fl × SEnv) := fun env => bnd (fo env) fun a => bnd (fi env) fun b => bnd (delM a b) fun _ => ret (.nx, env)
theorem ds_ddel {o i : Expr} {td ty : TE} {tpos pos : Pos} {fo fi : SEnv → M D} (ho : DE X o td fo) (hi : DE X i ty fi) : DS X (.Delete [.Subscript o i tpos] pos) (sDDel td ty) (sDel fo fi) := ⟨ps_ddel ho.pe hi.pe, fun m S H env σ rl re fl env' S' hh D q => by
  obtain ⟨a, S1, e1, h1⟩ := bnd_some hh
  obtain ⟨b, S2, e2, h2⟩ := bnd_some h1
  obtain ⟨_, S3, e3, h3⟩ := bnd_some h2
  cases h3
  refine ho.se rl re a S1 e1 _ fun m1 H1 x rl1 x1 ra => ?_
  refine hi.se rl1 (re.mono rl x1) b S2 e2 _ fun m2 H2 y rl2 x2 rb => ?_
  unfold delM at e3
  split at e3
  · split at e3
    · split at e3
      · cases e3
        rename_i i k hk _ kvs ek c
        obtain ⟨p, us, rfl, hp, q3, q4⟩ := rl2.dict ek (ra.mono rl1 x2)
        obtain ⟨a1, a2⟩ := rl2.set hp (q4.drop (k := k)).o
        refine ⟨p, us, k, rfl, q3, keyOf_rep rb hk, ?_, ?_⟩
        · unfold hasD at c
          rcases q4.look (k := k) with ⟨d1, v1, w1, w2, w3⟩ | ⟨w1, w2⟩
          · rw [w2]
            simp
          · rw [w1] at c
            cases c
        · exact q m2 _ σ a1 ((x1.trans x2).trans a2) (re.mono rl ((x1.trans x2).trans a2))
      · cases e3
    · cases e3
  · cases e3⟩
end
end TS
set_option Elab.async false
set_option linter.all false
set_option maxRecDepth 100000
namespace TS
open PySem PySem.Spec PyProof.Rows L2
/-! ### dict comprehensions -/
def putM (k : Nat) (a d : D) : M Unit := fun S => match keyOf a, S[k]? with
  | some kk, some (.dK kvs) => if kvs.length < sizeLine then some ((), S.set k (.dK (putD kvs kk d))) else none
  | _, _ => none
noncomputable def dcM (g : Gd) (k : Nat) (tgt : D → SEnv → M SEnv) (tt : SEnv → M Bool) (tk tv : SEnv → M D) (env : SEnv) : List D → M D
  | [] => gdM g (ret (.ref k))
  | x :: xs => gdM g (bnd (tgt x env) fun env1 => bnd (tt env1) fun b => if b then bnd (tk env1) fun a => bnd (tv env1) fun d => bnd (putM k a d) fun _ => dcM g k tgt tt tk tv env xs else dcM g k tgt tt tk tv env xs)
noncomputable def eDc (fi : SEnv → M (List D × Gd)) (tgt : D → SEnv → M SEnv) (tt : SEnv → M Bool) (tk tv : SEnv → M D) (vs : List Nat) : SEnv → M D := fun env => bnd (fi env) fun p => bnd newDct fun k => dcM p.2 k tgt tt tk tv (wipeE env vs) p.1
section
variable {J : It} {n : Nat} {G : Hp → Prop} {Y : Nat → Hp → V → Hp → Prop}
theorem dcomp_it (w : Walk J n G Y) {g : TG} {tt : TT} {tk tv : TE} {vs : List Nat} {σ : L2.St} {H1 : Hp} {Dd : Addr} {Qd : Hp → Prop} (Pv : Nat → Hp → Prop) (h0 : Pv 0 (upd H1 Dd (.dK []))) (hG : ∀ i H, i ≤ n → Pv i H → G H)
    (hs : ∀ i x H H', i < n → Pv i H → Y i H x H' → g x (L2.wipe σ vs) H' fun σ2 H2 => L2.wipe σ2 vs = L2.wipe σ vs ∧ tt σ2 H2 fun b H3 =>
      if b = true then tk σ2 H3 fun y H4 => tv σ2 H4 fun z H5 => ∃ kvs k, y = kV k ∧ H5 Dd = some (.dK kvs) ∧ kvs.length < sizeLine ∧ Pv (i + 1) (upd H5 Dd (.dK (putK kvs k z))) else Pv (i + 1) H3) (hd : ∀ H, Pv n H → Qd H) :
    ∃ W : Nat → Nat → Hp → Prop, (∃ m, W 0 m (upd H1 Dd (.dK []))) ∧ ∀ i m H, W i m H →
      (J.stop i H ∧ Qd H) ∨ (J.go i H ∧ ∃ Nx : Hp → Prop, (∀ H', Nx H' → ∃ m', m' < m ∧ W (i + 1) m' H') ∧ ∀ x H', J.yld i H x H' → g x (L2.wipe σ vs) H' fun σ2 H2 => L2.wipe σ2 vs = L2.wipe σ vs ∧ tt σ2 H2 fun b H3 =>
        if b = true then tk σ2 H3 fun y H4 => tv σ2 H4 fun z H5 => ∃ kvs k, y = kV k ∧ H5 Dd = some (.dK kvs) ∧ kvs.length < sizeLine ∧ Nx (upd H5 Dd (.dK (putK kvs k z))) else Nx H3) := by
  refine ⟨fun i left H => left = n - i ∧ i ≤ n ∧ Pv i H, ⟨n, (Nat.sub_zero n).symm, Nat.zero_le _, h0⟩, fun i left H hw => ?_⟩
  obtain ⟨e1, hi, p⟩ := hw
  subst e1
  have gh := hG i H hi p
  rcases Nat.lt_or_ge i n with c | c
  · exact .inr ⟨w.goes i H c gh, Pv (i + 1), fun H' p' => ⟨n - (i + 1), by omega, rfl, c, p'⟩, fun x H' y => hs i x H H' c p (w.yields i H x H' c gh y)⟩
  · obtain rfl : i = n := by omega
    exact .inl ⟨w.stops H gh, hd H p⟩
end
theorem se_dc {K : PySem.W.Frag} {wi : TI} {g : TG} {ws : List Nat} {tt : TT} {tk tv : TE} {fi : SEnv → M (List D × Gd)} {fg : D → SEnv → M SEnv} {ft : SEnv → M Bool} {fk fv : SEnv → M D}
    (hi : ∀ ⦃m : List Addr⦄ ⦃S : Store⦄ ⦃H : Hp⦄ ⦃env : SEnv⦄ ⦃σ : L2.St⦄, Rel K m S H → RelE K m H env σ → ∀ xs g S', fi env S = some ((xs, g), S') → ∀ R : It → Hp → Prop, (∀ m' H' J, Rel K m' S' H' → Ext m H m' H' → WalkD K m' H' J xs g → R J H') → wi σ H R)
    (hg : ∀ ⦃m : List Addr⦄ ⦃S : Store⦄ ⦃H : Hp⦄ ⦃env : SEnv⦄ ⦃σ : L2.St⦄ ⦃d : D⦄ ⦃v : V⦄, Rel K m S H → RelE K m H env σ → Rep K m H d v → ∀ env' S', fg d env S = some (env', S') →
      ∀ Q : L2.St → Hp → Prop, (∀ m' H' σ', Rel K m' S' H' → Ext m H m' H' → RelE K m' H' env' σ' → Off ws σ σ' → Q σ' H') → g v σ H Q)
    (ht : ST K tt ft) (hk : SE K tk fk) (hv : SE K tv fv) : SE K (tDc wi g tt tk tv ws) (eDc fi fg ft fk fv ws) := fun m S H env σ rl re d S' hh Q q => by
  obtain ⟨⟨xs, gd⟩, S1, e1, h1⟩ := bnd_some hh
  refine hi rl re xs gd S1 e1 _ fun m1 H1 J rl1 x1 w => ?_
  intro Dd hD
  have h1' : dcM gd S1.length fg ft fk fv (wipeE env ws) xs (S1 ++ [.dK []]) = some (d, S') := h1
  obtain ⟨rl1', x1', rD⟩ := rl1.new (o := .dK []) (u := .dK []) hD (RepK.nil).o
  have hk0 : (m1 ++ [Dd])[S1.length]? = some Dd := by
    rw [← rl1.len, List.getElem?_append_right (Nat.le_refl _), Nat.sub_self]
    rfl
  have hw1 := re.mono rl x1
  have gdS : ∀ {i : Nat} {S2 : Store}, dcM gd S1.length fg ft fk fv (wipeE env ws) (xs.drop i) S2 = some (d, S') → gdOk S2 gd := fun {i S2} h2 => by
    cases e : xs.drop i with
    | nil => rw [e] at h2; exact (gdM_some h2).1
    | cons y ys => rw [e] at h2; exact (gdM_some h2).1
  refine dcomp_it w (fun i H2 => ∃ m2 S2, Rel K m2 S2 H2 ∧ Ext (m1 ++ [Dd]) (upd H1 Dd (.dK [])) m2 H2 ∧ dcM gd S1.length fg ft fk fv (wipeE env ws) (xs.drop i) S2 = some (d, S')) ⟨_, _, rl1', .refl, h1'⟩ ?_ ?_ ?_
  · rintro i H2 hl ⟨m2, S2, rl2, x2, h2⟩
    exact ⟨m2, S2, rl2, x1'.trans x2, gdS h2⟩
  · rintro i x H2 H3 hl ⟨m2, S2, rl2, x2, h2⟩ hy
    obtain ⟨d1, hd, rl3, x3, rd⟩ := hy m2 S2 rl2 (x1'.trans x2) (gdS h2)
    rw [drop_at hd] at h2
    have h3 := (gdM_some h2).2
    obtain ⟨env3, S4, e4, h4⟩ := bnd_some h3
    obtain ⟨b, S5, e5, h5⟩ := bnd_some h4
    have rew : RelE K m2 H3 (wipeE env ws) (L2.wipe σ ws) := (hw1.mono rl1 (x1'.trans (x2.trans x3))).wipe ws
    refine hg rl3 rew rd env3 S4 e4 _ fun m4 H4 σ4 rl4 x4 re4 o4 => ⟨by rw [o4.wipe, wipe_wipe], ?_⟩
    refine ht rl4 re4 b S5 e5 _ fun m5 H5 rl5 x5 => ?_
    cases b with
    | true =>
      have h5' : bnd (fk env3) (fun a => bnd (fv env3) fun y => bnd (putM S1.length a y) fun _ => dcM gd S1.length fg ft fk fv (wipeE env ws) (xs.drop (i + 1))) S5 = some (d, S') := h5
      obtain ⟨a, S6, e6, h6⟩ := bnd_some h5'
      obtain ⟨y, S7, e7, h7⟩ := bnd_some h6
      obtain ⟨_, S8, e8, h8⟩ := bnd_some h7
      refine iteT (hk rl5 (re4.mono rl4 x5) a S6 e6 _ fun m6 H6 va rl6 x6 ra => ?_)
      refine hv rl6 (re4.mono rl4 (x5.trans x6)) y S7 e7 _ fun m7 H7 vy rl7 x7 ry => ?_
      have x27 : Ext (m1 ++ [Dd]) (upd H1 Dd (.dK [])) m7 H7 := x2.trans (x3.trans (x4.trans (x5.trans (x6.trans x7))))
      unfold putM at e8
      split at e8
      · rename_i kk kvs hkk ek
        split at e8
        · cases e8
          rename_i c
          have hk7 := x27.at hk0
          obtain ⟨p, us, q1, q2, q3, q4⟩ := rl7.dict ek (.ref hk7)
          cases q1
          obtain ⟨a1, a2⟩ := rl7.set hk7 (q4.put (k := kk) ry).o
          exact ⟨us, kk, keyOf_rep (ra.mono rl6 x7) hkk, q3, by rw [← q4.length]; exact c, m7, _, a1, x27.trans a2, h8⟩
        · cases e8
      · cases e8
    | false => exact iteF ⟨m5, S5, rl5, x2.trans (x3.trans (x4.trans x5)), h5⟩
  · rintro H2 ⟨m2, S2, rl2, x2, h2⟩
    rw [List.drop_length] at h2
    cases (gdM_some h2).2
    exact q m2 H2 _ rl2 (x1.trans (x1'.trans x2)) (.ref (x2.at hk0))
section
variable {X : Cx}
theorem de_dc {kx vx tg iter : Expr} {ifs : List Expr} {scope : Scope} {pos : Pos} (own : List (Str × Nat)) {wi : TI} {g : TG} {tt : TT} {tk tv : TE} {fi : SEnv → M (List D × Gd)} {fg : D → SEnv → M SEnv} {ft : SEnv → M Bool} {fk fv : SEnv → M D} (hc : X.calm = true) (hN : X.N.Nodup) (hi : DI X tg iter wi fi) (ok : BlkOk X.N X.env.scope scope own)
    (hg : ∀ (s : Shared) (H : Hp) (C : Addr) (cl : List (Str × Addr)) (fp : List Addr), DG (X.blk s H scope (compEnvC scope cl C X.env) fp) tg (own.map (·.2)) g fg) (ht : ∀ (s : Shared) (H : Hp) (C : Addr) (cl : List (Str × Addr)) (fp : List Addr), DTs (X.blk s H scope (compEnvC scope cl C X.env) fp) ifs tt ft)
    (hk : ∀ (s : Shared) (H : Hp) (C : Addr) (cl : List (Str × Addr)) (fp : List Addr), DE (X.blk s H scope (compEnvC scope cl C X.env) fp) kx tk fk) (hv : ∀ (s : Shared) (H : Hp) (C : Addr) (cl : List (Str × Addr)) (fp : List Addr), DE (X.blk s H scope (compEnvC scope cl C X.env) fp) vx tv fv) (hs : ∀ x, foldedSetIterable iter X.env x = pure x := by intro _; rfl) :
    DE X (.DictComp kx vx [⟨tg, iter, ifs, 0⟩] scope pos) (tDc wi g tt tk tv (own.map (·.2))) (eDc fi fg ft fk fv (own.map (·.2))) :=
  ⟨pe_dc hc hN hi.pi ok (fun s H C cl fp => (hg s H C cl fp).pg) (fun s H C cl fp => (ht s H C cl fp).pts) (fun s H C cl fp => (hk s H C cl fp).pe) (fun s H C cl fp => (hv s H C cl fp).pe) hs,
   se_dc hi.si (hg X.s_0 X.H_0 0 [] []).sg (ht X.s_0 X.H_0 0 [] []).st (hk X.s_0 X.H_0 0 [] []).se (hv X.s_0 X.H_0 0 [] []).se⟩
end
end TS
set_option Elab.async false
set_option linter.all false
set_option maxRecDepth 100000
namespace TS
open PySem PySem.Spec PyProof.Rows L2 RT
section
variable {X : Cx} {K : PySem.W.Frag} {m m' m2 m1 : List Addr} {S S' S2 : Store} {H H' H2 H1 : Hp} {env env' : SEnv} {σ : L2.St} {pos : Pos}
/-! ### a comprehension with two fors -/
noncomputable def lcInM (g : Gd) (k : Nat) (tgt : D → SEnv → M SEnv) (tt : SEnv → M Bool) (te : SEnv → M D) (env : SEnv) : List D → M Unit
  | [] => gdM g (ret ())
  | x :: xs => gdM g (bnd (tgt x env) fun env1 => bnd (tt env1) fun b => if b then bnd (te env1) fun d => bnd (pushM k d) fun _ => lcInM g k tgt tt te env xs else lcInM g k tgt tt te env xs)
noncomputable def lcOutM (g : Gd) (k : Nat) (tgt : D → SEnv → M SEnv) (tt : SEnv → M Bool) (fi1 : SEnv → M (List D × Gd)) (tgt1 : D → SEnv → M SEnv) (tt1 : SEnv → M Bool) (te : SEnv → M D) (us : List Nat) (env : SEnv) : List D → M D
  | [] => gdM g (ret (.ref k))
  | x :: xs => gdM g (bnd (tgt x env) fun env1 => bnd (tt env1) fun b => if b then bnd (fi1 env1) fun p => bnd (lcInM p.2 k tgt1 tt1 te (wipeE env1 us) p.1) fun _ => lcOutM g k tgt tt fi1 tgt1 tt1 te us env xs else lcOutM g k tgt tt fi1 tgt1 tt1 te us env xs)
noncomputable def eLc2 (fi : SEnv → M (List D × Gd)) (tgt : D → SEnv → M SEnv) (tt : SEnv → M Bool) (fi1 : SEnv → M (List D × Gd)) (tgt1 : D → SEnv → M SEnv) (tt1 : SEnv → M Bool) (te : SEnv → M D) (vs us : List Nat) : SEnv → M D := fun env => bnd (fi env) fun p => bnd newLst fun k => lcOutM p.2 k tgt tt fi1 tgt1 tt1 te us (wipeE env vs) p.1
theorem lcOut_ok {g : Gd} {k : Nat} {tgt tgt1 : D → SEnv → M SEnv} {tt tt1 : SEnv → M Bool} {fi1 : SEnv → M (List D × Gd)} {te : SEnv → M D} {us : List Nat} {env : SEnv} {xs : List D} {S : Store} {r : D × Store} (h : lcOutM g k tgt tt fi1 tgt1 tt1 te us env xs S = some r) : gdOk S g := by
  cases xs with
  | nil => exact (gdM_some h).1
  | cons y ys => exact (gdM_some h).1
theorem lcIn_ok {g : Gd} {k : Nat} {tgt : D → SEnv → M SEnv} {tt : SEnv → M Bool} {te : SEnv → M D} {env : SEnv} {xs : List D} {S : Store} {r : Unit × Store} (h : lcInM g k tgt tt te env xs S = some r) : gdOk S g := by
  cases xs with
  | nil => exact (gdM_some h).1
  | cons y ys => exact (gdM_some h).1
theorem se_lc2 {K : PySem.W.Frag} {wi wi1 : TI} {g g1 : TG} {ws us : List Nat} {tt tt1 : TT} {te : TE} {fi fi1 : SEnv → M (List D × Gd)} {fg fg1 : D → SEnv → M SEnv} {ft ft1 : SEnv → M Bool} {fe : SEnv → M D}
    (hi : ∀ ⦃m : List Addr⦄ ⦃S : Store⦄ ⦃H : Hp⦄ ⦃env : SEnv⦄ ⦃σ : L2.St⦄, Rel K m S H → RelE K m H env σ → ∀ xs g S', fi env S = some ((xs, g), S') → ∀ R : It → Hp → Prop, (∀ m' H' J, Rel K m' S' H' → Ext m H m' H' → WalkD K m' H' J xs g → R J H') → wi σ H R)
    (hg : ∀ ⦃m : List Addr⦄ ⦃S : Store⦄ ⦃H : Hp⦄ ⦃env : SEnv⦄ ⦃σ : L2.St⦄ ⦃d : D⦄ ⦃v : V⦄, Rel K m S H → RelE K m H env σ → Rep K m H d v → ∀ env' S', fg d env S = some (env', S') →
      ∀ Q : L2.St → Hp → Prop, (∀ m' H' σ', Rel K m' S' H' → Ext m H m' H' → RelE K m' H' env' σ' → Off ws σ σ' → Q σ' H') → g v σ H Q)
    (ht : ST K tt ft)
    (hi1 : ∀ ⦃m : List Addr⦄ ⦃S : Store⦄ ⦃H : Hp⦄ ⦃env : SEnv⦄ ⦃σ : L2.St⦄, Rel K m S H → RelE K m H env σ → ∀ xs g S', fi1 env S = some ((xs, g), S') → ∀ R : It → Hp → Prop, (∀ m' H' J, Rel K m' S' H' → Ext m H m' H' → WalkD K m' H' J xs g → R J H') → wi1 σ H R)
    (hg1 : ∀ ⦃m : List Addr⦄ ⦃S : Store⦄ ⦃H : Hp⦄ ⦃env : SEnv⦄ ⦃σ : L2.St⦄ ⦃d : D⦄ ⦃v : V⦄, Rel K m S H → RelE K m H env σ → Rep K m H d v → ∀ env' S', fg1 d env S = some (env', S') →
      ∀ Q : L2.St → Hp → Prop, (∀ m' H' σ', Rel K m' S' H' → Ext m H m' H' → RelE K m' H' env' σ' → Off us σ σ' → Q σ' H') → g1 v σ H Q)
    (ht1 : ST K tt1 ft1) (he : SE K te fe) : SE K (tLc2 wi g tt wi1 g1 tt1 te ws us) (eLc2 fi fg ft fi1 fg1 ft1 fe ws us) := fun m S H env σ rl re d S' hh Q q => by
  obtain ⟨⟨xs, gd⟩, S1, e1, h1⟩ := bnd_some hh
  refine hi rl re xs gd S1 e1 _ fun m1 H1 J rl1 x1 w => ?_
  intro D hD
  have h1' : lcOutM gd S1.length fg ft fi1 fg1 ft1 fe us (wipeE env ws) xs (S1 ++ [.lst []]) = some (d, S') := h1
  obtain ⟨rl1', x1', rD⟩ := rl1.new (o := .lst []) (u := .lst []) hD (.lst .nil)
  have hk0 : (m1 ++ [D])[S1.length]? = some D := by
    rw [← rl1.len, List.getElem?_append_right (Nat.le_refl _), Nat.sub_self]
    rfl
  have hw1 := re.mono rl x1
  let Pv : Nat → Hp → Prop := fun i H2 => ∃ m2 S2, Rel K m2 S2 H2 ∧ Ext (m1 ++ [D]) (upd H1 D (.lst [])) m2 H2 ∧ lcOutM gd S1.length fg ft fi1 fg1 ft1 fe us (wipeE env ws) (xs.drop i) S2 = some (d, S')
  refine ⟨fun i n H2 => n = xs.length - i ∧ i ≤ xs.length ∧ Pv i H2, ⟨xs.length, by simp, Nat.zero_le _, _, _, rl1', .refl, h1'⟩, ?_⟩
  rintro i n H2 ⟨rfl, hile, m2, S2, rl2, x2, h2⟩
  have hgd : gdOk S2 gd := lcOut_ok h2
  have GG : ∃ m2 S2, Rel K m2 S2 H2 ∧ Ext m1 H1 m2 H2 ∧ gdOk S2 gd := ⟨m2, S2, rl2, x1'.trans x2, hgd⟩
  by_cases hlt : i < xs.length
  · refine .inr ⟨w.goes i H2 hlt GG, Pv (i + 1), fun H' p' => ⟨xs.length - (i + 1), by omega, rfl, hlt, p'⟩, fun x H3 y => ?_⟩
    obtain ⟨d1, hd, rl3, x3, rd⟩ := w.yields i H2 x H3 hlt GG y m2 S2 rl2 (x1'.trans x2) hgd
    rw [drop_at hd] at h2
    have h3 := (gdM_some h2).2
    obtain ⟨env3, S4, e4, h4⟩ := bnd_some h3
    obtain ⟨b, S5, e5, h5⟩ := bnd_some h4
    have rew : RelE K m2 H3 (wipeE env ws) (L2.wipe σ ws) := (hw1.mono rl1 (x1'.trans (x2.trans x3))).wipe ws
    refine hg rl3 rew rd env3 S4 e4 _ fun m4 H4 σ4 rl4 x4 re4 o4 => ⟨by rw [o4.wipe, wipe_wipe], ?_⟩
    refine ht rl4 re4 b S5 e5 _ fun m5 H5 rl5 x5 => ?_
    cases b with
    | true =>
      have h5' : bnd (fi1 env3) (fun p => bnd (lcInM p.2 S1.length fg1 ft1 fe (wipeE env3 us) p.1) fun _ => lcOutM gd S1.length fg ft fi1 fg1 ft1 fe us (wipeE env ws) (xs.drop (i + 1))) S5 = some (d, S') := h5
      obtain ⟨⟨ys, gd1⟩, S6, e6, h6⟩ := bnd_some h5'
      obtain ⟨_, S7, e7, h7⟩ := bnd_some h6
      refine iteT (hi1 rl5 (re4.mono rl4 x5) ys gd1 S6 e6 _ fun m6 H6 J1 rl6 x6 w1 => ?_)
      have x26 : Ext (m1 ++ [D]) (upd H1 D (.lst [])) m6 H6 := x2.trans (x3.trans (x4.trans (x5.trans x6)))
      have hw4 := (re4.mono rl4 (x5.trans x6))
      let Pw : Nat → Hp → Prop := fun j H7 => ∃ m7 S8, Rel K m7 S8 H7 ∧ Ext m6 H6 m7 H7 ∧ lcInM gd1 S1.length fg1 ft1 fe (wipeE env3 us) (ys.drop j) S8 = some ((), S7)
      refine ⟨fun j n H7 => n = ys.length - j ∧ j ≤ ys.length ∧ Pw j H7, ⟨ys.length, by simp, Nat.zero_le _, m6, S6, rl6, .refl, e7⟩, ?_⟩
      rintro j n H7 ⟨rfl, hjle, m7, S8, rl7, x7, h8⟩
      have hgd1 : gdOk S8 gd1 := lcIn_ok h8
      have GG1 : ∃ m2 S2, Rel K m2 S2 H7 ∧ Ext m6 H6 m2 H7 ∧ gdOk S2 gd1 := ⟨m7, S8, rl7, x7, hgd1⟩
      by_cases hjl : j < ys.length
      · refine .inr ⟨w1.goes j H7 hjl GG1, Pw (j + 1), fun H' p' => ⟨ys.length - (j + 1), by omega, rfl, hjl, p'⟩, fun x' H8 y' => ?_⟩
        obtain ⟨d2, hd2, rl8, x8, rd2⟩ := w1.yields j H7 x' H8 hjl GG1 y' m7 S8 rl7 x7 hgd1
        rw [drop_at hd2] at h8
        have h9 := (gdM_some h8).2
        obtain ⟨env9, S9, e9, h10⟩ := bnd_some h9
        obtain ⟨b1, S10, e10, h11⟩ := bnd_some h10
        have rew1 : RelE K m7 H8 (wipeE env3 us) (L2.wipe σ4 us) := (hw4.mono rl6 (x7.trans x8)).wipe us
        refine hg1 rl8 rew1 rd2 env9 S9 e9 _ fun m9 H9 σ9 rl9 x9 re9 o9 => ⟨by rw [o9.wipe, wipe_wipe], ?_⟩
        refine ht1 rl9 re9 b1 S10 e10 _ fun m10 H10 rl10 x10 => ?_
        cases b1 with
        | true =>
          have h11' : bnd (fe env9) (fun d => bnd (pushM S1.length d) fun _ => lcInM gd1 S1.length fg1 ft1 fe (wipeE env3 us) (ys.drop (j + 1))) S10 = some ((), S7) := h11
          obtain ⟨yy, S11, e11, h12⟩ := bnd_some h11'
          obtain ⟨_, S12, e12, h13⟩ := bnd_some h12
          refine iteT (he rl10 (re9.mono rl9 x10) yy S11 e11 _ fun m11 H11 v rl11 x11 rv => ?_)
          have x611 : Ext m6 H6 m11 H11 := x7.trans (x8.trans (x9.trans (x10.trans x11)))
          unfold pushM at e12
          cases ek : S11[S1.length]? with
          | none => rw [ek] at e12; cases e12
          | some o =>
            rw [ek] at e12
            cases o with
            | lst acc =>
              simp only at e12
              split at e12
              · cases e12
                rename_i c
                have hk6 := (x26.trans x611).at hk0
                obtain ⟨p, u, q1, q2, q3⟩ := rl11.at ek
                rw [hk6] at q1
                cases q1
                cases q3 with
                | lst q3 =>
                  obtain ⟨a1, a2⟩ := rl11.set hk6 (.lst (q3.snoc rv))
                  exact ⟨_, q2, by rw [← q3.length]; exact c, m11, _, a1, x611.trans a2, h13⟩
              · cases e12
            | _ => cases e12
        | false => exact iteF ⟨m10, S10, rl10, x7.trans (x8.trans (x9.trans x10)), h11⟩
      · have e : j = ys.length := by omega
        subst e
        rw [List.drop_length] at h8
        cases (gdM_some h8).2
        exact .inl ⟨w1.stops H7 GG1, m7, _, rl7, x26.trans x7, h7⟩
    | false => exact iteF ⟨m5, S5, rl5, x2.trans (x3.trans (x4.trans x5)), h5⟩
  · have e : i = xs.length := by omega
    subst e
    rw [List.drop_length] at h2
    cases (gdM_some h2).2
    exact .inl ⟨w.stops H2 GG, q m2 H2 _ rl2 (x1.trans (x1'.trans x2)) (.ref (x2.at hk0))⟩
theorem de_lc2 {elt tg iter tg1 iter1 : Expr} {ifs ifs1 : List Expr} {scope : Scope} (own : List (Str × Nat)) (us : List Nat) {wi wi1 : TI} {g g1 : TG} {tt tt1 : TT} {te : TE} {fi fi1 : SEnv → M (List D × Gd)} {fg fg1 : D → SEnv → M SEnv} {ft ft1 : SEnv → M Bool} {fe : SEnv → M D} (hc : X.calm = true) (hN : X.N.Nodup) (hi : DI X tg iter wi fi) (ok : BlkOk X.N X.env.scope scope own)
    (hv : ∀ i ∈ us, i ∈ own.map (·.2)) {ws : List Nat} (hws : ∀ i ∈ ws, i ∈ own.map (·.2))
    (hg : ∀ (s : Shared) (H : Hp) (C : Addr) (cl : List (Str × Addr)) (fp : List Addr), DG (X.blk s H scope (compEnvC scope cl C X.env) fp) tg ws g fg) (ht : ∀ (s : Shared) (H : Hp) (C : Addr) (cl : List (Str × Addr)) (fp : List Addr), DTs (X.blk s H scope (compEnvC scope cl C X.env) fp) ifs tt ft)
    (hi1 : ∀ (s : Shared) (H : Hp) (C : Addr) (cl : List (Str × Addr)) (fp : List Addr), DI (X.blk s H scope (compEnvC scope cl C X.env) fp) tg1 iter1 wi1 fi1)
    (hg1 : ∀ (s : Shared) (H : Hp) (C : Addr) (cl : List (Str × Addr)) (fp : List Addr), DG (X.blk s H scope (compEnvC scope cl C X.env) fp) tg1 us g1 fg1) (ht1 : ∀ (s : Shared) (H : Hp) (C : Addr) (cl : List (Str × Addr)) (fp : List Addr), DTs (X.blk s H scope (compEnvC scope cl C X.env) fp) ifs1 tt1 ft1)
    (he : ∀ (s : Shared) (H : Hp) (C : Addr) (cl : List (Str × Addr)) (fp : List Addr), DE (X.blk s H scope (compEnvC scope cl C X.env) fp) elt te fe) (hs : ∀ x, foldedSetIterable iter X.env x = pure x := by intro _; rfl) (hs1 : ∀ env x, foldedSetIterable iter1 env x = pure x := by intro _ _; rfl) :
    DE X (.ListComp elt [⟨tg, iter, ifs, 0⟩, ⟨tg1, iter1, ifs1, 0⟩] scope pos) (tLc2 wi g tt wi1 g1 tt1 te (own.map (·.2)) us) (eLc2 fi fg ft fi1 fg1 ft1 fe (own.map (·.2)) us) :=
  ⟨pe_lc2 hc hN hi.pi ok hv (fun s H C cl fp => (hg s H C cl fp).pg) (fun s H C cl fp => (ht s H C cl fp).pts) (fun s H C cl fp => (hi1 s H C cl fp).pi) (fun s H C cl fp => (hg1 s H C cl fp).pg) (fun s H C cl fp => (ht1 s H C cl fp).pts) (fun s H C cl fp => (he s H C cl fp).pe) hs hs1,
   se_lc2 hi.si (fun m S H env σ d v rl re rd env' S' h Q q => (hg X.s_0 X.H_0 0 [] []).sg rl re rd env' S' h Q fun m' H' σ' r1 r2 r3 o => q m' H' σ' r1 r2 r3 ⟨o.1, fun i hi => o.2 i (fun z => hi (hws i z))⟩) (ht X.s_0 X.H_0 0 [] []).st (hi1 X.s_0 X.H_0 0 [] []).si (hg1 X.s_0 X.H_0 0 [] []).sg (ht1 X.s_0 X.H_0 0 [] []).st (he X.s_0 X.H_0 0 [] []).se⟩
theorem ds_setLc2 (i : Nat) {y : Str} {py spos : Pos} {elt tg iter tg1 iter1 : Expr} {ifs ifs1 : List Expr} {scope : Scope} (own : List (Str × Nat)) (us : List Nat) {wi wi1 : TI} {g g1 : TG} {tt tt1 : TT} {te : TE} {fi fi1 : SEnv → M (List D × Gd)} {fg fg1 : D → SEnv → M SEnv} {ft ft1 : SEnv → M Bool} {fe : SEnv → M D} (hc : X.calm = true) (hN : X.N.Nodup) (hi : DI X tg iter wi fi) (ok : BlkOk X.N X.env.scope scope own)
    (hv : ∀ i ∈ us, i ∈ own.map (·.2)) {ws : List Nat} (hws : ∀ i ∈ ws, i ∈ own.map (·.2))
    (hg : ∀ (s : Shared) (H : Hp) (C : Addr) (cl : List (Str × Addr)) (fp : List Addr), DG (X.blk s H scope (compEnvC scope cl C X.env) fp) tg ws g fg) (ht : ∀ (s : Shared) (H : Hp) (C : Addr) (cl : List (Str × Addr)) (fp : List Addr), DTs (X.blk s H scope (compEnvC scope cl C X.env) fp) ifs tt ft)
    (hi1 : ∀ (s : Shared) (H : Hp) (C : Addr) (cl : List (Str × Addr)) (fp : List Addr), DI (X.blk s H scope (compEnvC scope cl C X.env) fp) tg1 iter1 wi1 fi1)
    (hg1 : ∀ (s : Shared) (H : Hp) (C : Addr) (cl : List (Str × Addr)) (fp : List Addr), DG (X.blk s H scope (compEnvC scope cl C X.env) fp) tg1 us g1 fg1) (ht1 : ∀ (s : Shared) (H : Hp) (C : Addr) (cl : List (Str × Addr)) (fp : List Addr), DTs (X.blk s H scope (compEnvC scope cl C X.env) fp) ifs1 tt1 ft1)
    (he : ∀ (s : Shared) (H : Hp) (C : Addr) (cl : List (Str × Addr)) (fp : List Addr), DE (X.blk s H scope (compEnvC scope cl C X.env) fp) elt te fe) (hsw : swapsWith (.ListComp elt [⟨tg, iter, ifs, 0⟩, ⟨tg1, iter1, ifs1, 0⟩] scope pos) (some (.Name y py)) spos.line X.env = pure true)
    (hy : X.N[i]? = some y := by rfl) (hyl : X.env.scope.names.lookup y = some .local := by rfl) (hs : ∀ x, foldedSetIterable iter X.env x = pure x := by intro _; rfl) (hs1 : ∀ env x, foldedSetIterable iter1 env x = pure x := by intro _ _; rfl) :
    DS X (.Assign [.Name y py] (.ListComp elt [⟨tg, iter, ifs, 0⟩, ⟨tg1, iter1, ifs1, 0⟩] scope pos) spos) (tAsg (tLc2 wi g tt wi1 g1 tt1 te (own.map (·.2)) us) (gName i)) (sAsg (eLc2 fi fg ft fi1 fg1 ft1 fe (own.map (·.2)) us) (gN i)) :=
  ⟨ps_setLc2 hc hN hy hyl hsw hi.pi ok hv (fun s H C cl fp => (hg s H C cl fp).pg) (fun s H C cl fp => (ht s H C cl fp).pts) (fun s H C cl fp => (hi1 s H C cl fp).pi) (fun s H C cl fp => (hg1 s H C cl fp).pg) (fun s H C cl fp => (ht1 s H C cl fp).pts) (fun s H C cl fp => (he s H C cl fp).pe) hs hs1,
   ss_asg (se_lc2 hi.si (fun m S H env σ d v rl re rd env' S' h Q q => (hg X.s_0 X.H_0 0 [] []).sg rl re rd env' S' h Q fun m' H' σ' r1 r2 r3 o => q m' H' σ' r1 r2 r3 ⟨o.1, fun i hi => o.2 i (fun z => hi (hws i z))⟩) (ht X.s_0 X.H_0 0 [] []).st (hi1 X.s_0 X.H_0 0 [] []).si (hg1 X.s_0 X.H_0 0 [] []).sg (ht1 X.s_0 X.H_0 0 [] []).st (he X.s_0 X.H_0 0 [] []).se) (dg_name (pos := py) i hN hy (.inl hyl) (.inr hyl))⟩
/-! ### reversed -/
def iRevM (f : SEnv → M D) : SEnv → M (List D × Gd) := fun env => bnd (f env) fun d S => match d with
  | .ref r => match S[r]? with
    | some (.lst xs) => some ((xs.reverse, [(r, xs)]), S)
    | _ => none
  | .tup xs => some ((xs.reverse, []), S)
  | _ => none
theorem rev_at {α : Type} {xs : List α} {i : Nat} (h : i < xs.length) : xs.reverse[i]? = xs[xs.length - 1 - i]? := by
  rw [List.getElem?_reverse h]
theorem walk_revR {r : Nat} {a : Addr} {xs : List D} (ha : m[r]? = some a) : WalkD K m H (Itv K a xs.length) xs.reverse [(r, xs)] := by
  have key : ∀ {m2 : List Addr} {S2 : Store} {H2 : Hp}, Rel K m2 S2 H2 → Ext m H m2 H2 → gdOk S2 [(r, xs)] → ∃ vs, SqL K H2 a vs ∧ Reps K m2 H2 xs vs := fun rl2 x2 g => by
    have e := g (r, xs) (List.mem_singleton.mpr rfl)
    obtain ⟨p, u, q1, q2, q3⟩ := rl2.at e
    rw [x2.at ha] at q1
    cases q1
    cases q3 with
    | lst q3 => exact ⟨_, .inl (.inl q2), q3⟩
  refine ⟨fun i H2 hi ⟨m2, S2, rl2, x2, g⟩ => ?_, fun H2 ⟨m2, S2, rl2, x2, g⟩ => ?_, fun i H2 x H3 hi _ y m2 S2 rl2 x2 g => ?_⟩
  · obtain ⟨vs, hs, h2⟩ := key rl2 x2 g
    rw [List.length_reverse] at hi
    have hv : xs.length - 1 - i < vs.length := by rw [← h2.length]; omega
    exact ⟨hi, vs, vs[xs.length - 1 - i], hs, by rw [List.getElem?_eq_getElem hv]⟩
  · show xs.length ≤ xs.reverse.length
    rw [List.length_reverse]
    exact Nat.le_refl _
  · obtain ⟨vs, hs, h2⟩ := key rl2 x2 g
    rw [List.length_reverse] at hi
    obtain ⟨rfl, e⟩ := y
    have e2 := e vs hs
    have hx : xs.length - 1 - i < xs.length := by omega
    obtain ⟨v, h3, h4⟩ := h2.get (List.getElem?_eq_getElem hx)
    rw [e2] at h3
    cases h3
    exact ⟨_, (rev_at hi).trans (List.getElem?_eq_getElem hx), rl2, .refl, h4⟩
theorem walk_revT {a : Addr} {vs : List V} {xs : List D} (rl : Rel K m S H) (h1 : SqT K H a vs) (h2 : Reps K m H xs vs) : WalkD K m H (ItvT K a vs.length) xs.reverse [] := by
  have hl := h2.length
  refine ⟨fun i H2 hi ⟨m2, S2, rl2, x2, _⟩ => ?_, fun H2 ⟨m2, S2, rl2, x2, _⟩ => ?_, fun i H2 x H3 hi _ y m2 S2 rl2 x2 _ => ?_⟩
  · have hs := rl.sqT x2 h1
    rw [List.length_reverse] at hi
    have hv : vs.length - 1 - i < vs.length := by omega
    exact ⟨by omega, vs, vs[vs.length - 1 - i], hs, by rw [List.getElem?_eq_getElem hv]⟩
  · show vs.length ≤ xs.reverse.length
    rw [List.length_reverse, hl]
    exact Nat.le_refl _
  · have hs := rl.sqT x2 h1
    rw [List.length_reverse] at hi
    obtain ⟨rfl, e⟩ := y
    have e2 := e vs hs
    have hx : xs.length - 1 - i < xs.length := by omega
    obtain ⟨v, h3, h4⟩ := h2.get (List.getElem?_eq_getElem hx)
    rw [hl, e2] at h3
    cases h3
    exact ⟨_, (rev_at hi).trans (List.getElem?_eq_getElem hx), rl2, .refl, h4.mono rl x2⟩
theorem di_rev {tg e : Expr} {te : TE} {f : SEnv → M D} {p : Pos} (hm : X.mg "reversed" = none) (h : DE X e te f) (hg : Gl X "reversed" := by rfl) (hs : starEach [e] X.env = (false, eval e X.env) :: starEach [] X.env := by rfl) : DI X tg (.Call (.Name "reversed" p) [e] [] pos) (iRevA X.K te) (iRevM f) := ⟨pi_revA hg hm h.pe hs, fun m S H env σ rl re xs g S' hh R q => by
  obtain ⟨d, S1, e1, h1⟩ := bnd_some hh
  refine h.se rl re d S1 e1 _ fun m1 H1 v rl1 x1 rv => ?_
  cases rv with
  | tup h2 h3 =>
    cases h1
    exact ⟨_, _, rfl, .inr ⟨h2, q m1 H1 _ rl1 x1 (walk_revT rl1 h2 h3)⟩⟩
  | @ref r a ha =>
    simp only at h1
    cases e : S1[r]? with
    | none => rw [e] at h1; cases h1
    | some o =>
      rw [e] at h1
      cases o with
      | lst ys =>
        cases h1
        obtain ⟨p, vs, q1, q2, q3, q4⟩ := rl1.sqL e (.ref ha)
        cases q1
        refine ⟨_, vs, rfl, .inl ⟨.inl (.inl q3), q m1 H1 _ rl1 x1 ?_⟩⟩
        rw [← q4.length]
        exact walk_revR ha
      | _ => cases h1
  | _ => cases h1⟩
theorem dk_rever (K : PySem.W.Frag) (hK : X.K = K) {tg e : Expr} {te : TE} {f : SEnv → M D} {p : Pos} (hm : X.mg "reversed" = none) (h : DE X e te f) (hg : Gl X "reversed" := by rfl) (hs : starEach [e] X.env = (false, eval e X.env) :: starEach [] X.env := by rfl) : DI X tg (.Call (.Name "reversed" p) [e] [] pos) (iRevA K te) (iRevM f) := by subst hK; exact di_rev hm h hg hs
/-! ### x in a tuple of integers, whatever x is -/
def rInT (K : PySem.W.Frag) : R2 := fun x y H Q => ∃ d ds, Dp K H x d ∧ Dp K H y (.tuple ds) ∧ d.canLay0 = true ∧ PyData.canLayAll0 ds = true ∧ PyData.depthAll ds = 0 ∧ Q (.bl (ds.any fun z => PyData.eqv z d)) H
theorem op_inT (hu : X.A.units + 1 < cLine) : OpR X (compareOp .In) (rInT X.K) := by
  intro pins s σ H x y v u Q I rx ry h
  obtain ⟨d, ds, hd, he, sd, se, s0, q⟩ := h
  obtain ⟨as, r1⟩ := Dp.reads I d x v hd rx
  obtain ⟨bs, r2⟩ := Dp.reads I (.tuple ds) y u he ry
  exact SeqAt.in_tuple_reads r2 r1 se sd (by rw [s0, Nat.zero_min]; omega) ⟨.bl _, H, I, rfl, q⟩
def inWB (a b : D) : M Bool := fun S => match a, b with
  | .tup xs, .tup ys => match py (.tup xs), pys ys with
    | some p, some qs => if p.canLay0 = true ∧ PyData.canLayAll0 qs = true ∧ PyData.depthAll qs = 0 then some (qs.any fun z => PyData.eqv z p, S) else none
    | _, _ => none
  | a, b => inUB a b S
def inW (a b : D) : M D := bnd (inWB a b) fun k => ret (.bl k)
theorem o_inW (hu : X.A.units + 1 < cLine) : DO2 X (compareOp .In) (fun x y H Q => rInT X.K x y H Q ∨ rInU X.K x y H Q) inW := ⟨(op_inT hu).or (o_inU hu).op, fun m S H x y a b rl ra rb d S' h Q q => by
  obtain ⟨k, S1, h1, h2⟩ := bnd_some h
  cases h2
  unfold inWB at h1
  split at h1
  · split at h1
    · rename_i p qs e1 e2
      split at h1
      · rename_i c
        cases h1
        have e3 : py (.tup ‹_›) = some (.tuple qs) := by
          show (pys _).map PyData.tuple = _
          rw [e2]
          rfl
        exact .inl ⟨p, qs, ra.py e1, rb.py e3, c.1, c.2.1, c.2.2, q m H _ rl .refl (.bl _)⟩
      · cases h1
    · cases h1
  · exact .inr ((o_inU hu).sr rl ra rb _ _ (bnd_eq h1) Q q)⟩
theorem k_inW (K : PySem.W.Frag) (hK : X.K = K) (hu : X.A.units + 1 < cLine) : DO2 X (compareOp .In) (fun x y H Q => rInT K x y H Q ∨ rInU K x y H Q) inW := by subst hK; exact o_inW hu
end
end TS
set_option Elab.async false
set_option linter.all false
set_option maxRecDepth 100000
namespace TS
open PySem PySem.Spec PyProof.Rows L2
theorem w_eqS {S : Store} {Q : D → Store → Prop} {x y : Str} (hx : PyData.strOk x = true) (hy : PyData.strOk y = true) : wp (eqD (.str x) (.str y)) S Q ↔ Q (.bl (x == y)) S :=
  w_eqB (p := .str x) (q := .str y) rfl rfl (by show (PyData.strOk x && true) = true; rw [hx]; rfl) (by show (PyData.strOk y && true) = true; rw [hy]; rfl)
theorem w_neS {S : Store} {Q : D → Store → Prop} {x y : Str} (hx : PyData.strOk x = true) (hy : PyData.strOk y = true) : wp (neD (.str x) (.str y)) S Q ↔ Q (.bl (!(x == y))) S :=
  w_neB (p := .str x) (q := .str y) rfl rfl (by show (PyData.strOk x && true) = true; rw [hx]; rfl) (by show (PyData.strOk y && true) = true; rw [hy]; rfl)
/-- a text of plain signs -/
def Plain (x : Str) : Prop := ∀ c ∈ x.cps.toList, c < 128
theorem Plain.ok {x : Str} (h : Plain x) : PyData.strOk x = true := by
  unfold PyData.strOk
  rw [Array.all_eq_true]
  intro i hi
  have := h x.cps[i] (by simp)
  simp
  omega
theorem Plain.app {x y : Str} (h : Plain x) (g : Plain y) : Plain (x ++ y) := fun c hc => by
  rw [show (x ++ y).cps = x.cps ++ y.cps from rfl, Array.toList_append] at hc
  exact (List.mem_append.mp hc).elim (h c) (g c)
theorem plain1 {c : Nat} (h : c < 128) : Plain ⟨#[c]⟩ := fun d hd => by
  rw [List.mem_singleton.mp hd]
  exact h
theorem len_toList (x : Str) : x.cps.toList.length = x.length := by simp [Str.length]
theorem sz_lt {n : Nat} (h : n < 100000) : n < sizeLine := Nat.lt_of_lt_of_le h (by decide)
theorem menu_at {S : Store} {xs : List D} {n : Int} {Q : D → Store → Prop} {r : Nat} (hr : S[r]? = some (.lst xs)) (h0 : 0 ≤ n) (h1 : n < xs.length) (h : ∀ d ∈ xs, Q d S) : wp (ixU (.ref r) (.int n)) S Q := by
  rw [w_ixL hr]
  have hl : n.toNat < xs.length := by omega
  refine ⟨xs[n.toNat], ?_, h _ (List.getElem_mem hl)⟩
  have e := atI_nat (List.getElem?_eq_getElem hl)
  rw [show ((n.toNat : Nat) : Int) = n by omega] at e
  exact e
theorem w_yes {env : SEnv} {S : Store} {Q : Bool → Store → Prop} : wp (bYes env) S Q ↔ Q true S := wp_ret
/-! ### things: data without what may change -/
def FlatT (N : Nat) : D → Prop
  | .non => True
  | .bl _ => True
  | .int _ => True
  | .str z => Plain z ∧ z.length ≤ N
  | _ => False
def Th (N : Nat) : Nat → D → Prop
  | 0, d => FlatT N d
  | e + 1, d => match d with
    | .tup xs => xs.length ≤ N ∧ ∀ x ∈ xs, Th N e x
    | d => FlatT N d
def tupQ : D → Bool
  | .tup _ => true
  | _ => false
def strQ : D → Bool
  | .str _ => true
  | _ => false
def blQ : D → Bool
  | .bl _ => true
  | _ => false
def intQ : D → Bool
  | .int _ => true
  | .bl _ => true
  | _ => false
theorem Th.cases {N e : Nat} {d : D} (h : Th N e d) : (∃ e' xs, e = e' + 1 ∧ d = .tup xs ∧ xs.length ≤ N ∧ ∀ x ∈ xs, Th N e' x) ∨ d = .non ∨ (∃ b, d = .bl b) ∨ (∃ i, d = .int i) ∨ (∃ z, d = .str z ∧ Plain z ∧ z.length ≤ N) := by
  have flat : FlatT N d → d = .non ∨ (∃ b, d = .bl b) ∨ (∃ i, d = .int i) ∨ (∃ z, d = .str z ∧ Plain z ∧ z.length ≤ N) := fun h => by
    cases d with
    | non => exact .inl rfl
    | bl b => exact .inr (.inl ⟨b, rfl⟩)
    | int i => exact .inr (.inr (.inl ⟨i, rfl⟩))
    | str z => exact .inr (.inr (.inr ⟨z, rfl, h.1, h.2⟩))
    | _ => exact h.elim
  cases e with
  | zero => exact .inr (flat h)
  | succ e =>
    cases d with
    | tup xs => exact .inl ⟨e, xs, rfl, rfl, h.1, h.2⟩
    | _ => exact .inr (flat h)
theorem FlatT.th {N e : Nat} {d : D} (h : FlatT N d) : Th N e d := by
  cases e with
  | zero => exact h
  | succ e =>
    cases d with
    | tup xs => exact h.elim
    | _ => exact h
theorem Th.mono : ∀ {e e' N N' : Nat} {d : D}, Th N e d → e ≤ e' → N ≤ N' → Th N' e' d := by
  intro e
  induction e with
  | zero =>
    intro e' N N' d h _ hN
    refine FlatT.th ?_
    cases d with
    | str z => exact ⟨h.1, Nat.le_trans h.2 hN⟩
    | _ => exact h
  | succ e ih =>
    intro e' N N' d h he hN
    cases d with
    | tup xs =>
      obtain ⟨e2, rfl⟩ : ∃ e2, e' = e2 + 1 := ⟨e' - 1, by omega⟩
      exact ⟨Nat.le_trans h.1 hN, fun x hx => ih (h.2 x hx) (by omega) hN⟩
    | str z => exact FlatT.th (show FlatT N' (.str z) from ⟨h.1, Nat.le_trans h.2 hN⟩)
    | _ => exact FlatT.th (show FlatT N' _ from h)
/-- a thing as it is compared -/
theorem Th.py : ∀ {e N : Nat} {d : D}, Th N e d → ∃ p, py d = some p ∧ PyData.canLay0 p = true ∧ p.depth ≤ e := by
  intro e
  induction e with
  | zero =>
    intro N d h
    rcases Th.cases h with ⟨_, _, h, _⟩ | rfl | ⟨b, rfl⟩ | ⟨i, rfl⟩ | ⟨z, rfl, hz, _⟩
    · cases h
    · exact ⟨_, rfl, rfl, Nat.le_refl _⟩
    · exact ⟨_, rfl, rfl, Nat.le_refl _⟩
    · exact ⟨_, rfl, rfl, Nat.le_refl _⟩
    · exact ⟨_, rfl, hz.ok, Nat.le_refl _⟩
  | succ e ih =>
    intro N d h
    rcases Th.cases h with ⟨e', xs, he, rfl, _, hx⟩ | rfl | ⟨b, rfl⟩ | ⟨i, rfl⟩ | ⟨z, rfl, hz, _⟩
    · cases he
      have key : ∀ l : List D, (∀ x ∈ l, Th N e x) → ∃ ps, pys l = some ps ∧ PyData.canLayAll0 ps = true ∧ PyData.depthAll ps ≤ e := by
        intro l
        induction l with
        | nil => exact fun _ => ⟨[], rfl, rfl, Nat.zero_le _⟩
        | cons x r ih2 =>
          intro hl
          obtain ⟨p, h1, h2, h3⟩ := ih (hl x (List.mem_cons_self ..))
          obtain ⟨ps, g1, g2, g3⟩ := ih2 fun y hy => hl y (List.mem_cons_of_mem _ hy)
          refine ⟨p :: ps, by show (match TS.py x, pys r with | some p, some ps => some (p :: ps) | _, _ => none) = _; rw [h1, g1], ?_, Nat.max_le.mpr ⟨h3, g3⟩⟩
          show (PyData.canLay0 p && PyData.canLayAll0 ps) = true
          rw [h2, g2]
          rfl
      obtain ⟨ps, h1, h2, h3⟩ := key xs hx
      refine ⟨.tuple ps, by show (pys xs).map _ = _; rw [h1]; rfl, h2, ?_⟩
      show PyData.depthAll ps + 1 ≤ e + 1
      omega
    · exact ⟨_, rfl, rfl, Nat.zero_le _⟩
    · exact ⟨_, rfl, rfl, Nat.zero_le _⟩
    · exact ⟨_, rfl, rfl, Nat.zero_le _⟩
    · exact ⟨_, rfl, hz.ok, Nat.zero_le _⟩
theorem Th.pyS {e N : Nat} {d : D} (h : Th N e d) (he : e ≤ 60) (S : Store) : ∃ p, pyS S d = some p ∧ SeqAt.shaped p = true ∧ TS.py d = some p := by
  obtain ⟨p, h1, h2, h3⟩ := h.py
  refine ⟨p, ?_, ?_, h1⟩
  · cases d with
    | ref i => cases h1
    | _ => exact h1
  · unfold SeqAt.shaped
    rw [h2, decide_eq_true (by omega)]
    rfl
section
variable {S : Store} {Q : D → Store → Prop}
theorem w_isiT {N e : Nat} {d : D} (h : Th N e d) : wp (nIsi [d, .ty "tuple"]) S Q ↔ Q (.bl (tupQ d)) S := by
  rcases h.cases with ⟨e', xs, rfl, rfl, _, hx⟩ | rfl | ⟨b, rfl⟩ | ⟨i, rfl⟩ | ⟨z, rfl, hz, _⟩ <;> exact wp_some rfl
theorem w_isiS {N e : Nat} {d : D} (h : Th N e d) : wp (nIsi [d, .ty "str"]) S Q ↔ Q (.bl (strQ d)) S := by
  rcases h.cases with ⟨e', xs, rfl, rfl, _, hx⟩ | rfl | ⟨b, rfl⟩ | ⟨i, rfl⟩ | ⟨z, rfl, hz, _⟩ <;> exact wp_some rfl
theorem w_isiB {N e : Nat} {d : D} (h : Th N e d) : wp (nIsi [d, .ty "bool"]) S Q ↔ Q (.bl (blQ d)) S := by
  rcases h.cases with ⟨e', xs, rfl, rfl, _, hx⟩ | rfl | ⟨b, rfl⟩ | ⟨i, rfl⟩ | ⟨z, rfl, hz, _⟩ <;> exact wp_some rfl
theorem w_isiI {N e : Nat} {d : D} (h : Th N e d) : wp (nIsi [d, .ty "int"]) S Q ↔ Q (.bl (intQ d)) S := by
  rcases h.cases with ⟨e', xs, rfl, rfl, _, hx⟩ | rfl | ⟨b, rfl⟩ | ⟨i, rfl⟩ | ⟨z, rfl, hz, _⟩ <;> exact wp_some rfl
end
/-- grown by new objects alone -/
def Grow (S S' : Store) : Prop := ∃ l, S' = S ++ l
theorem Grow.refl {S : Store} : Grow S S := ⟨[], (List.append_nil S).symm⟩
theorem Grow.app {S S' l : Store} (h : Grow S S') : Grow S (S' ++ l) := by
  obtain ⟨l', rfl⟩ := h
  exact ⟨l' ++ l, List.append_assoc _ _ _⟩
theorem Grow.trans {S S1 S2 : Store} (h : Grow S S1) (g : Grow S1 S2) : Grow S S2 := by
  obtain ⟨l, rfl⟩ := g
  exact h.app
theorem Grow.kp {r : Nat} {S S' : Store} (h : Grow S S') : Kp r S S' := by
  obtain ⟨l, rfl⟩ := h
  exact .app
theorem Grow.dr {r q : Nat} {S S' : Store} (h : Grow S S') (d : Dr r q S) : Dr r q S' := by
  obtain ⟨l, rfl⟩ := h
  exact d.app
theorem pys_ints : ∀ l : List Int, pys (l.map .int) = some (l.map .int)
  | [] => rfl
  | x :: r => by
    show (match py (.int x), pys (r.map .int) with | some p, some ps => some (p :: ps) | _, _ => none) = _
    rw [pys_ints r]
    rfl
theorem pyS_list {S : Store} {r : Nat} {xs : List D} {ps : List PyData} (h : S[r]? = some (.lst xs)) (g : pys xs = some ps) : pyS S (.ref r) = some (.list ps) := by
  unfold pyS
  simp only [h, g, Option.map_some]
theorem shaped_list : ∀ {l : List PyData}, (∀ p ∈ l, PyData.canLay0 p = true ∧ p.depth ≤ 10) → PyData.canLayAll0 l = true ∧ PyData.depthAll l ≤ 10
  | [], _ => ⟨rfl, Nat.zero_le _⟩
  | x :: r, h => by
    obtain ⟨h1, h2⟩ := h x (List.mem_cons_self ..)
    obtain ⟨h3, h4⟩ := shaped_list fun p hp => h p (List.mem_cons_of_mem _ hp)
    exact ⟨by show (PyData.canLay0 x && PyData.canLayAll0 r) = true; rw [h1, h3]; rfl, Nat.max_le.mpr ⟨h2, h4⟩⟩
theorem shaped_l {l : List PyData} (h : ∀ p ∈ l, PyData.canLay0 p = true ∧ p.depth ≤ 10) : SeqAt.shaped (.list l) = true := by
  obtain ⟨h1, h2⟩ := shaped_list h
  unfold SeqAt.shaped
  rw [Bool.and_eq_true]
  refine ⟨h1, decide_eq_true ?_⟩
  show PyData.depthAll l + 1 ≤ 64
  omega
theorem shaped_ints (l : List Int) : SeqAt.shaped (.list (l.map PyData.int)) = true := shaped_l fun p hp => by
  obtain ⟨i, _, rfl⟩ := List.mem_map.mp hp
  exact ⟨rfl, Nat.zero_le _⟩
theorem lt_of_get {S : Store} {i : Nat} {o : MO} (h : S[i]? = some o) : i < S.length := (List.getElem?_eq_some_iff.mp h).1
theorem get_new {S : Store} {o : MO} : (S ++ [o])[S.length]? = some o := by rw [List.getElem?_append_right (Nat.le_refl _), Nat.sub_self]; rfl
theorem Grow.le {S S' : Store} (h : Grow S S') : S.length ≤ S'.length := by
  obtain ⟨l, rfl⟩ := h
  rw [List.length_append]
  omega
theorem Grow.get {S S' : Store} {i : Nat} {o : MO} (h : Grow S S') (e : S[i]? = some o) : S'[i]? = some o := by
  obtain ⟨l, rfl⟩ := h
  rw [List.getElem?_append_left (lt_of_get e)]
  exact e
theorem Grow.set {S S' : Store} {i : Nat} {o : MO} (h : Grow S S') (hi : S.length ≤ i) : Grow S (S'.set i o) := by
  obtain ⟨l, rfl⟩ := h
  exact ⟨l.set (i - S.length) o, by rw [List.set_append_right _ _ hi]⟩
/-- a comprehension without a test, whose values are told by f -/
theorem w_lcG {fi : SEnv → M (List D × Gd)} {tgt : D → SEnv → M SEnv} {te : SEnv → M D} {vs : List Nat} {env : SEnv} {S : Store} {Q : D → Store → Prop} {xs : List D} {g : Gd} (f : D → D)
    (h0 : fi env S = some ((xs, g), S)) (hg : ∀ S1, Grow S S1 → gdOk S1 g) (hz : xs.length < sizeLine)
    (step : ∀ (i : Nat) (x : D) (S1 : Store), xs[i]? = some x → Grow S S1 → wp (tgt x (wipeE env vs)) S1 fun env1 S2 => wp (te env1) S2 fun d S3 => d = f x ∧ Grow S1 S3)
    (q : ∀ S', Grow S S' → S'[S.length]? = some (.lst (xs.map f)) → Q (.ref S.length) S') : wp (eLc fi tgt bYes te vs env) S Q := by
  refine wp_lc (xs := xs) (g := g) (S1 := S) h0 (fun j acc S3 => acc = (xs.take j).map f ∧ S3[S.length]? = some (.lst acc) ∧ Grow S S3) ⟨rfl, get_new, Grow.refl.app⟩ (fun _ _ _ ⟨_, e, _⟩ => e) (fun _ _ _ ⟨_, _, e⟩ => hg _ e)
    (fun j acc S3 ⟨e, _⟩ => by rw [e, List.length_map]; exact List.length_take_le _ _) hz ?_ ?_
  · rintro i x acc S3 hx ⟨rfl, hk, hG⟩
    refine (step i x S3 hx hG).mono fun env1 S4 h => ?_
    rw [w_yes, if_pos rfl]
    refine h.mono fun d S5 ⟨hd, hG5⟩ => ?_
    subst hd
    have e5 := hG5.get hk
    refine ⟨e5, ?_, ?_, (hG.trans hG5).set (Nat.le_refl _)⟩
    · rw [List.take_add_one, hx, List.map_append]
      rfl
    · rw [List.getElem?_set_self (lt_of_get e5)]
  · rintro acc S3 ⟨rfl, hk, hG⟩
    rw [List.take_length] at hk
    exact q S3 hG hk
theorem w_allL {S : Store} {Q : D → Store → Prop} {r : Nat} {bs : List Bool} (h : S[r]? = some (.lst (bs.map .bl))) : wp (nAll [.ref r]) S Q ↔ Q (.bl (bs.all id)) S := by
  have e : ∀ l : List Bool, blsOf (l.map .bl) = some l := fun l => by
    induction l with
    | nil => rfl
    | cons x r ih => show (blsOf (r.map .bl)).map (x :: ·) = _; rw [ih]; rfl
  exact wp_some (by unfold nAll lstOf; simp only [h, e])
def tupN (n : Nat) : D → Bool
  | .tup xs => decide (xs.length = n)
  | _ => false
def idxQ (n : Nat) : D → Bool
  | .int i => decide (0 ≤ i) && decide (i < n)
  | _ => false
def idxQ' (n : Nat) (d : D) : D := .bl (idxQ n d)
def stepsQ (m n : Nat) : D → Bool
  | .tup xs => decide (xs.length = m) && xs.all (idxQ n)
  | _ => false
theorem one_lt (a b : Nat) : decide ([a] < [b]) = decide (a < b) := by
  rw [decide_eq_decide]
  simp [List.cons_lt_cons_iff]
theorem w_ltS1 {S : Store} {Q : D → Store → Prop} {a b : Nat} : wp (ltD (.str ⟨#[a]⟩) (.str ⟨#[b]⟩)) S Q ↔ Q (.bl (decide (a < b))) S := by
  rw [← one_lt a b]
  exact wp_some rfl
theorem w_leS1 {S : Store} {Q : D → Store → Prop} {a b : Nat} : wp (leD (.str ⟨#[a]⟩) (.str ⟨#[b]⟩)) S Q ↔ Q (.bl (decide (a ≤ b))) S := by
  have e : decide (a ≤ b) = !decide ([b] < [a]) := by
    rw [one_lt, Bool.eq_iff_iff]
    simp
  rw [e]
  exact wp_some rfl
def smallQ (c : Nat) : Bool := decide (97 ≤ c) && decide (c ≤ 122)
def riseQ (l : List Nat) : Bool := (l.zip l.tail).all fun p => decide (p.1 < p.2)
def letQ : D → Bool
  | .str z => (decide (1 ≤ z.length) && decide (z.length ≤ 6)) && (riseQ z.cps.toList && z.cps.toList.all smallQ)
  | _ => false
theorem riseQ_iff : ∀ l : List Nat, riseQ l = true ↔ l.Pairwise (· < ·)
  | [] => by simp [riseQ]
  | [a] => by simp [riseQ]
  | a :: b :: r => by
    have e : riseQ (a :: b :: r) = (decide (a < b) && riseQ (b :: r)) := rfl
    rw [e, Bool.and_eq_true, decide_eq_true_iff, riseQ_iff (b :: r), List.pairwise_cons (a := a)]
    constructor
    · rintro ⟨h1, h2⟩
      refine ⟨fun x hx => ?_, h2⟩
      rcases List.mem_cons.mp hx with rfl | hx
      · exact h1
      · exact Nat.lt_trans h1 ((List.pairwise_cons.mp h2).1 x hx)
    · rintro ⟨h1, h2⟩
      exact ⟨h1 b (List.mem_cons_self ..), h2⟩
def placeI (c : Nat) : Int := (c : Int) - 97
theorem sort_rise (l : List Nat) : decide (l.map placeI = sortI (l.map placeI)) = riseQ l := by
  rw [Bool.eq_iff_iff, decide_eq_true_iff, riseQ_iff]
  have e : (l.map placeI).Pairwise (· < ·) ↔ l.Pairwise (· < ·) := by
    rw [List.pairwise_map]
    constructor
    · exact fun h => h.imp fun h => by unfold placeI at h; omega
    · exact fun h => h.imp fun h => by unfold placeI; omega
  rw [← e]
  constructor
  · intro h
    rw [h]
    exact rise_sortI
  · exact fun h => rise_eq h rise_sortI fun k => mem_sortI.symm
theorem eqv_ints : ∀ a b : List Int, PyData.eqvAll (a.map .int) (b.map .int) = decide (a = b)
  | [], [] => by simp [PyData.eqvAll]
  | [], _ :: _ => by simp [PyData.eqvAll]
  | _ :: _, [] => by simp [PyData.eqvAll]
  | x :: a, y :: b => by
    rw [List.map_cons, List.map_cons]
    show (PyData.eqv (.int x) (.int y) && PyData.eqvAll (a.map .int) (b.map .int)) = _
    rw [eqv_ints a b, show PyData.eqv (.int x) (.int y) = decide (x = y) from rfl]
    by_cases c : x = y <;> by_cases d : a = b <;> simp [c, d]
def alphaS : Str := "abcdefghijklmnopqrstuvwxyz"
theorem alpha_list : alphaS.cps.toList = List.range' 97 26 := by decide +kernel
theorem alpha_mem (c : Nat) : decide (c ∈ alphaS.cps.toList) = smallQ c := by
  rw [alpha_list, Bool.eq_iff_iff]
  unfold smallQ
  simp [List.mem_range']
  constructor
  · rintro ⟨i, h1, rfl⟩
    omega
  · exact fun h => ⟨c - 97, by omega, by omega⟩
theorem place_lt {c : Nat} {l : List Nat} {i : Nat} (h : place c l = some i) : i < l.length := (List.getElem?_eq_some_iff.mp (place_some h).1).1
theorem alpha_place {c : Nat} (h : smallQ c = true) : place c alphaS.cps.toList = some (c - 97) := by
  have hm : c ∈ alphaS.cps.toList := by
    have := alpha_mem c
    rw [h] at this
    exact of_decide_eq_true this
  cases e : place c alphaS.cps.toList with
  | none => exact absurd hm (place_none.mp e)
  | some j =>
    have h1 := (place_some e).1
    have h2 := place_lt e
    rw [alpha_list] at h1 h2
    rw [List.length_range'] at h2
    rw [List.getElem?_range' h2] at h1
    have := Option.some.inj h1
    congr 1
    omega
theorem cut_tail (z : Str) : (cutS z (some 1) none).cps.toList = z.cps.toList.tail := by
  unfold cutS
  simp only [HT.sIx]
  rw [if_neg (by decide), ← len_toList, show (1 : Int).toNat = 1 from rfl]
  cases h : z.cps.toList with
  | nil => rfl
  | cons a r =>
    have e : min 1 (a :: r).length = 1 := by simp
    rw [e, List.drop_one, List.tail_cons]
    exact List.take_of_length_le (by simp)
theorem w_zip {f : SEnv → M (List D)} {env : SEnv} {S : Store} {QI : List D × Gd → Store → Prop} : wp (iZipM f env) S QI ↔ wp (f env) S fun ds S1 => ∃ a b p q, ds = [a, b] ∧ srcOf S1 a = some p ∧ srcOf S1 b = some q ∧ QI (zipD p.1 q.1, p.2 ++ q.2) S1 := by
  unfold iZipM
  rw [wp_bnd]
  constructor
  · exact fun h => h.mono fun ds S1 ⟨r, S2, e, q⟩ => by
      split at e
      · rename_i _ a b h0
        dsimp only at e
        split at e
        · rename_i e1 e2
          cases e
          exact ⟨_, _, _, _, rfl, e1, e2, q⟩
        · cases e
      · cases e
  · exact fun h => h.mono fun ds S1 ⟨a, b, p, q, e, e1, e2, h⟩ => by
      subst e
      exact ⟨_, S1, by show (match srcOf S1 a, srcOf S1 b with | some (xs, g1), some (ys, g2) => some ((zipD xs ys, g1 ++ g2), S1) | _, _ => none) = _; rw [e1, e2], h⟩
theorem zipD_get {xs ys : List D} {i : Nat} {y : D} (h : (zipD xs ys)[i]? = some y) : ∃ a b, xs[i]? = some a ∧ ys[i]? = some b ∧ y = .tup [a, b] := by
  unfold zipD at h
  rw [List.getElem?_map] at h
  obtain ⟨p, hp, rfl⟩ := Option.map_eq_some_iff.mp h
  obtain ⟨h1, h2⟩ := List.getElem?_zip_eq_some.mp hp
  exact ⟨_, _, h1, h2, rfl⟩
def lessP : D → D
  | .tup [.str a, .str b] => .bl (decide (a.cps.toList < b.cps.toList))
  | d => d
def smallD : D → D
  | .str x => .bl (match x.cps.toList with | [c] => smallQ c | _ => false)
  | d => d
theorem zip_signs (a b : List Nat) : zipD (a.map fun c => D.str ⟨#[c]⟩) (b.map fun c => D.str ⟨#[c]⟩) = (a.zip b).map fun p => D.tup [.str ⟨#[p.1]⟩, .str ⟨#[p.2]⟩] := by
  unfold zipD
  rw [List.zip_map, List.map_map]
  rfl
theorem w_ninS {S : Store} {c : Nat} {z : Str} {Q : D → Store → Prop} : wp (ninU (.str ⟨#[c]⟩) (.str z)) S Q ↔ Q (.bl (!decide (c ∈ z.cps.toList))) S := wp_some rfl
theorem w_indexS {S : Store} {c i : Nat} {z : Str} {Q : D → Store → Prop} (h : place c z.cps.toList = some i) : wp (mIndexS (.str z) [.str ⟨#[c]⟩]) S Q ↔ Q (.int (i : Nat)) S := wp_some (by unfold mIndexS; simp only [occ_sign, h])
theorem w_sortSet {f : SEnv → M D} {env : SEnv} {S : Store} {Q : D → Store → Prop} : wp (eSortSet f env) S Q ↔ wp (f env) S fun d S1 => wp (sortM d) S1 Q := wp_bnd
theorem intsU_map : ∀ l : List Int, intsU (l.map .int) = some l
  | [] => rfl
  | x :: r => by show (intsU (r.map .int)).map (x :: ·) = _; rw [intsU_map r]; rfl
theorem w_sortM {S : Store} {Q : D → Store → Prop} {r : Nat} {l : List Int} (h : S[r]? = some (.lst (l.map .int))) (hl : l.length ≤ 63) : wp (sortM (.ref r)) S Q ↔ Q (.ref S.length) (S ++ [.lst ((sortI l).map .int)]) :=
  wp_some (by unfold sortM; simp only [h, intsU_map, hl, if_true])
theorem w_inFB {S : Store} {Q : D → Store → Prop} {r : Nat} {bs : List Bool} (h : S[r]? = some (.lst (bs.map .bl))) : wp (inU (.bl false) (.ref r)) S Q ↔ Q (.bl (!bs.all id)) S := by
  have e1 : inF (.bl false) (bs.map .bl) = !bs.all id := by
    clear h
    induction bs with
    | nil => rfl
    | cons b r ih =>
      show (b == false || inF (.bl false) (r.map .bl)) = !(b && r.all id)
      rw [ih]
      cases b <;> rfl
  have e2 : (bs.map D.bl).all flatD = true := by
    rw [List.all_map, List.all_eq_true]
    exact fun _ _ => rfl
  refine wp_some ((bnd_eq (show inUB (.bl false) (.ref r) S = some (!bs.all id, S) from ?_)).trans rfl)
  unfold inUB isDct inB seqOf
  simp only [h, Bool.false_eq_true, if_false]
  rw [if_pos ⟨rfl, e2⟩, e1]
def blD (d : D) : D := .bl (blQ d)
def stepsD (m n : Nat) (d : D) : D := .bl (stepsQ m n d)
theorem w_neg {S : Store} {Q : D → Store → Prop} {i : Int} : wp (negD (.int i)) S Q ↔ Q (.int (-i)) S := wp_some rfl
theorem cut_take {xs : List D} {n : Int} (h0 : 0 ≤ n) (h1 : n ≤ xs.length) : cutD xs none (some n) = xs.take n.toNat := by
  unfold cutD
  simp only [HT.sIx]
  rw [if_neg (by omega), List.drop_zero, Nat.sub_zero, Nat.min_eq_left (by omega)]
theorem cut_drop {xs : List D} {n : Int} (h0 : 0 ≤ n) (h1 : n ≤ xs.length) : cutD xs (some n) none = xs.drop n.toNat := by
  unfold cutD
  simp only [HT.sIx]
  rw [if_neg (by omega), Nat.min_eq_left (by omega)]
  exact List.take_of_length_le (by rw [List.length_drop]; exact Nat.le_refl _)
theorem plain_lit (s : Str) (h : s.cps.toList.all (fun c => decide (c < 128)) = true) : Plain s := fun c hc => of_decide_eq_true (List.all_eq_true.mp h c hc)

section
variable {S : Store} {env : SEnv}
def rgOf2 : List D → Option (Int × Int)
  | [.int i, .int j] => some (i, j)
  | _ => none
theorem rgOf2_2 {i j : Int} : rgOf2 [.int i, .int j] = some (i, j) := rfl
theorem w_rg2 {f : SEnv → M (List D)} {QI : List D × Gd → Store → Prop} : wp (iRg2M f env) S QI ↔ wp (f env) S fun ds S1 => ∃ p : Int × Int, rgOf2 ds = some p ∧ (-(2 ^ 62) ≤ p.1 ∧ p.1 < 2 ^ 62 ∧ -(2 ^ 62) ≤ p.2 ∧ p.2 < 2 ^ 62) ∧ QI (rng p.1 (p.2 - p.1).toNat, []) S1 := by
  unfold iRg2M
  rw [wp_bnd]
  constructor
  · exact fun h => h.mono fun ds S1 h => by
      split at h
      · split at h
        · exact ⟨(_, _), rfl, by assumption, wp_ret.mp h⟩
        · exact (w_fail.mp h).elim
      · exact (w_fail.mp h).elim
  · exact fun h => h.mono fun ds S1 ⟨p, e, c, q⟩ => by
      unfold rgOf2 at e
      split at e
      · cases e
        simp only at c
        show wp (if _ then _ else _) S1 QI
        rw [if_pos c]
        exact wp_ret.mpr q
      · cases e
theorem w_rev {f : SEnv → M D} {QI : List D × Gd → Store → Prop} : wp (iRevM f env) S QI ↔ wp (f env) S fun d S1 => ∃ p, (match d with
    | .ref r => match S1[r]? with
      | some (.lst xs) => some (xs.reverse, [(r, xs)])
      | _ => none
    | .tup xs => some (xs.reverse, [])
    | _ => (none : Option (List D × Gd))) = some p ∧ QI p S1 := by
  unfold iRevM
  rw [wp_bnd]
  constructor
  · exact fun h => h.mono fun d S1 ⟨a, S2, e, q⟩ => by
      dsimp only at e
      split at e
      · split at e
        · rename_i _ _ r _ xs e0
          cases e
          exact ⟨_, by simp only [e0], q⟩
        · cases e
      · cases e
        exact ⟨_, rfl, q⟩
      · cases e
  · exact fun h => h.mono fun d S1 ⟨p, e, q⟩ => by
      split at e
      · split at e
        · rename_i _ r _ xs e0
          cases e
          exact ⟨_, S1, by simp only [e0], q⟩
        · cases e
      · cases e
        exact ⟨_, S1, rfl, q⟩
      · cases e
/-! is None -/
def nonQ : D → Bool
  | .non => true
  | _ => false
theorem w_isNh {N e : Nat} {d : D} {Q : D → Store → Prop} (h : Th N e d) : wp (isD d .non) S Q ↔ Q (.bl (nonQ d)) S := by
  rcases h.cases with ⟨e', xs, rfl, rfl, hl, hx⟩ | rfl | ⟨b, rfl⟩ | ⟨i, rfl⟩ | ⟨z, rfl, hz, hl⟩ <;> exact wp_some rfl
theorem w_notNh {N e : Nat} {d : D} {Q : D → Store → Prop} (h : Th N e d) : wp (notD d .non) S Q ↔ Q (.bl (!nonQ d)) S := by
  rcases h.cases with ⟨e', xs, rfl, rfl, hl, hx⟩ | rfl | ⟨b, rfl⟩ | ⟨i, rfl⟩ | ⟨z, rfl, hz, hl⟩ <;> exact wp_some rfl
theorem w_isN {Q : D → Store → Prop} : wp (isD .non .non) S Q ↔ Q (.bl true) S := wp_some rfl
theorem w_notN {Q : D → Store → Prop} : wp (notD .non .non) S Q ↔ Q (.bl false) S := wp_some rfl
/-- a for that ends at the first thing that is not as p says -/
theorem wp_all {g : Gd} {tgt : D → SEnv → M SEnv} {body : SEnv → M (Fl × SEnv)} {Q : Fl × SEnv → Store → Prop} {xs : List D} (p : D → Bool) (J : SEnv → Prop)
    (hg : ∀ S1, Grow S S1 → gdOk S1 g)
    (step : ∀ (i : Nat) (x : D) (env1 : SEnv) (S1 : Store), xs[i]? = some x → J env1 → Grow S S1 → wp (tgt x env1) S1 fun env2 S2 => wp (body env2) S2 fun r S3 => Grow S1 S3 ∧ ((r.1 = .nx ∧ p x = true ∧ J r.2) ∨ (r.1 = .rt (.bl false) ∧ p x = false)))
    (h0 : J env)
    (yes : xs.all p = true → ∀ env' S', J env' → Grow S S' → Q (.nx, env') S')
    (no : xs.all p = false → ∀ env' S', Grow S S' → Q (.rt (.bl false), env') S') : wp (loopM g tgt body xs env) S Q := by
  refine wp_loop (fun i env1 S1 => J env1 ∧ Grow S S1 ∧ (xs.take i).all p = true) (fun i env1 S1 h => hg S1 h.2.1) ?_ ?_ ⟨h0, .refl, rfl⟩
  · rintro i x env1 S1 hx ⟨hJ, hG, hall⟩
    refine (step i x env1 S1 hx hJ hG).mono fun env2 S2 h => h.mono fun r S3 ⟨hG3, h⟩ => ?_
    obtain ⟨fl, env3⟩ := r
    rcases h with ⟨h1, h2, h3⟩ | ⟨h1, h2⟩
    · dsimp only at h1 h3
      subst h1
      refine ⟨h3, hG.trans hG3, ?_⟩
      rw [List.take_add_one, hx, List.all_append, hall]
      simp [h2]
    · dsimp only at h1
      subst h1
      refine no ?_ _ _ (hG.trans hG3)
      rw [Bool.eq_false_iff]
      intro hc
      have := List.all_eq_true.mp hc x (List.mem_of_getElem? hx)
      rw [h2] at this
      cases this
  · rintro env1 S1 ⟨hJ, hG, hall⟩
    rw [List.take_length] at hall
    exact yes hall env1 S1 hJ hG
/-- two fors in a comprehension, told by src, p and f -/
theorem w_lc2G {fi fi1 : SEnv → M (List D × Gd)} {tgt tgt1 : D → SEnv → M SEnv} {tt1 : SEnv → M Bool} {te : SEnv → M D} {vs us : List Nat} {Q : D → Store → Prop} {xs : List D} {g : Gd} (src : D → List D) (p : D → Bool) (f : D → D)
    (h0 : fi env S = some ((xs, g), S)) (hg : ∀ S1, Grow S S1 → gdOk S1 g) (hz : (xs.flatMap fun x => (src x).filter p).length < sizeLine)
    (step : ∀ (i : Nat) (x : D) (S1 : Store), xs[i]? = some x → Grow S S1 → wp (tgt x (wipeE env vs)) S1 fun env1 S2 => wp (fi1 env1) S2 fun pp S4 => pp = (src x, []) ∧ Grow S1 S4 ∧ ∀ (y : D) (S5 : Store), y ∈ src x → Grow S S5 →
      wp (tgt1 y (wipeE env1 us)) S5 fun env2 S6 => wp (tt1 env2) S6 fun b1 S7 => b1 = p y ∧ Grow S5 S7 ∧ (b1 = true → wp (te env2) S7 fun d S8 => d = f y ∧ Grow S7 S8))
    (q : ∀ S', Grow S S' → S'[S.length]? = some (.lst ((xs.flatMap fun x => (src x).filter p).map f)) → Q (.ref S.length) S') : wp (eLc2 fi tgt bYes fi1 tgt1 tt1 te vs us env) S Q := by
  unfold eLc2
  rw [wp_bnd, wp_some h0, wp_bnd, wp_some (show newLst S = some (S.length, S ++ [.lst []]) from rfl)]
  have inn : ∀ (ys : List D) (env1 : SEnv), (∀ (y : D) (S5 : Store), y ∈ ys → Grow S S5 →
      wp (tgt1 y (wipeE env1 us)) S5 fun env2 S6 => wp (tt1 env2) S6 fun b1 S7 => b1 = p y ∧ Grow S5 S7 ∧ (b1 = true → wp (te env2) S7 fun d S8 => d = f y ∧ Grow S7 S8)) →
      ∀ (acc : List D) (S5 : Store) (R : Unit → Store → Prop), Grow S S5 → S5[S.length]? = some (.lst (acc.map f)) → acc.length + (ys.filter p).length < sizeLine →
      (∀ S6, Grow S S6 → S6[S.length]? = some (.lst ((acc ++ ys.filter p).map f)) → R () S6) → wp (lcInM [] S.length tgt1 tt1 te (wipeE env1 us) ys) S5 R := by
    intro ys env1
    induction ys with
    | nil =>
      intro _ acc S5 R hG hk _ r
      show wp (gdM [] (ret ())) S5 R
      rw [wp_gd (gdOk_nil _), wp_ret]
      exact r S5 hG (by rw [List.filter_nil, List.append_nil]; exact hk)
    | cons y ys ih =>
      intro hst acc S5 R hG hk hl r
      show wp (gdM [] (bnd (tgt1 y (wipeE env1 us)) fun env1' => bnd (tt1 env1') fun b => if b then bnd (te env1') fun d => bnd (pushM S.length d) fun _ => lcInM [] S.length tgt1 tt1 te (wipeE env1 us) ys else lcInM [] S.length tgt1 tt1 te (wipeE env1 us) ys)) S5 R
      rw [wp_gd (gdOk_nil _), wp_bnd]
      refine (hst y S5 (List.mem_cons_self ..) hG).mono fun env2 S6 h => ?_
      rw [wp_bnd]
      refine h.mono fun b1 S7 ⟨hb, hG7, h⟩ => ?_
      have hst' : ∀ (y : D) (S5 : Store), y ∈ ys → Grow S S5 →
        wp (tgt1 y (wipeE env1 us)) S5 fun env2 S6 => wp (tt1 env2) S6 fun b1 S7 => b1 = p y ∧ Grow S5 S7 ∧ (b1 = true → wp (te env2) S7 fun d S8 => d = f y ∧ Grow S7 S8) := fun z S z1 z2 => hst z S (List.mem_cons_of_mem _ z1) z2
      cases b1 with
      | true =>
        rw [if_pos rfl, wp_bnd]
        refine (h rfl).mono fun d S8 ⟨hd, hG8⟩ => ?_
        subst hd
        rw [List.filter_cons, ← hb, if_pos rfl, List.length_cons] at hl
        have e8 := hG8.get (hG7.get hk)
        have ep : pushM S.length (f y) S8 = some ((), S8.set S.length (.lst (acc.map f ++ [f y]))) := by
          unfold pushM
          rw [e8]
          exact if_pos (by rw [List.length_map]; omega)
        rw [wp_bnd, wp_some ep]
        have hG' : Grow S (S8.set S.length (.lst (acc.map f ++ [f y]))) := ((hG.trans hG7).trans hG8).set (Nat.le_refl _)
        refine ih hst' (acc ++ [y]) _ R hG' ?_ (by rw [List.length_append]; simp only [List.length_singleton]; omega) fun S9 g1 g2 => r S9 g1 ?_
        · rw [List.getElem?_set_self (lt_of_get e8), List.map_append]
          rfl
        · rw [List.filter_cons, ← hb, if_pos rfl]
          rw [List.append_assoc] at g2
          exact g2
      | false =>
        rw [if_neg Bool.false_ne_true]
        rw [List.filter_cons, ← hb, if_neg Bool.false_ne_true] at hl
        refine ih hst' acc S7 R (hG.trans hG7) (hG7.get hk) hl fun S9 g1 g2 => r S9 g1 ?_
        rw [List.filter_cons, ← hb, if_neg Bool.false_ne_true]
        exact g2
  have out : ∀ (ys zs : List D) (S5 : Store), xs = zs ++ ys → Grow S S5 → S5[S.length]? = some (.lst ((zs.flatMap fun x => (src x).filter p).map f)) → wp (lcOutM g S.length tgt bYes fi1 tgt1 tt1 te us (wipeE env vs) ys) S5 Q := by
    intro ys
    induction ys with
    | nil =>
      intro zs S5 hxs hG hk
      show wp (gdM g (ret (.ref S.length))) S5 Q
      rw [wp_gd (hg _ hG), wp_ret]
      rw [List.append_nil] at hxs
      subst hxs
      exact q S5 hG hk
    | cons x ys ih =>
      intro zs S5 hxs hG hk
      show wp (gdM g (bnd (tgt x (wipeE env vs)) fun env1 => bnd (bYes env1) fun b => if b then bnd (fi1 env1) fun p => bnd (lcInM p.2 S.length tgt1 tt1 te (wipeE env1 us) p.1) fun _ => lcOutM g S.length tgt bYes fi1 tgt1 tt1 te us (wipeE env vs) ys else lcOutM g S.length tgt bYes fi1 tgt1 tt1 te us (wipeE env vs) ys)) S5 Q
      rw [wp_gd (hg _ hG), wp_bnd]
      have hx : xs[zs.length]? = some x := by rw [hxs, List.getElem?_append_right (Nat.le_refl _), Nat.sub_self]; rfl
      refine (step zs.length x S5 hx hG).mono fun env1 S6 h => ?_
      rw [wp_bnd, w_yes, if_pos rfl, wp_bnd]
      refine h.mono fun pp S7 ⟨hp, hG7, h⟩ => ?_
      subst hp
      rw [wp_bnd]
      have hl : ((zs.flatMap fun x => (src x).filter p)).length + ((src x).filter p).length < sizeLine := by
        rw [hxs, List.flatMap_append, List.flatMap_cons, List.length_append, List.length_append] at hz
        omega
      refine inn (src x) env1 h (zs.flatMap fun x => (src x).filter p) S7 _ (hG.trans hG7) (hG7.get hk) hl fun S9 g1 g2 => ?_
      refine ih (zs ++ [x]) S9 (by rw [hxs, List.append_assoc]; rfl) g1 ?_
      rw [List.flatMap_append, List.flatMap_cons, List.flatMap_nil, List.append_nil]
      exact g2
  exact out xs [] _ rfl Grow.refl.app get_new
end
end TS
set_option Elab.async false
set_option linter.all false
set_option maxRecDepth 100000
namespace TS
open PySem PySem.Spec PyProof.Rows L2
/-- a comprehension that draws; what is made at each place is told by P -/
theorem w_lcD {fi : SEnv → M (List D × Gd)} {tgt : D → SEnv → M SEnv} {te : SEnv → M D} {vs : List Nat} {env : SEnv} {S : Store} {Q : D → Store → Prop} {xs : List D} {r q : Nat} (P : Nat → D → Prop)
    (h0 : fi env S = some ((xs, []), S)) (hD : Dr r q S) (hz : xs.length < sizeLine)
    (step : ∀ (i : Nat) (x : D) (S1 : Store), xs[i]? = some x → Dr r q S1 → Kp r S S1 → wp (tgt x (wipeE env vs)) S1 fun env1 S2 => wp (te env1) S2 fun d S3 => P i d ∧ Dr r q S3 ∧ Kp r S1 S3)
    (k : ∀ (ds : List D) S', ds.length = xs.length → (∀ i d, ds[i]? = some d → P i d) → Dr r q S' → Kp r S S' → S'[S.length]? = some (.lst ds) → Q (.ref S.length) S') : wp (eLc fi tgt bYes te vs env) S Q := by
  have hr : S.length ≠ r := Nat.ne_of_gt hD.lt.1
  have hq : S.length ≠ q := Nat.ne_of_gt hD.lt.2
  refine wp_lc (xs := xs) (g := []) (S1 := S) h0 (fun j acc S3 => acc.length = j ∧ (∀ i d, acc[i]? = some d → P i d) ∧ S3[S.length]? = some (.lst acc) ∧ Dr r q S3 ∧ Kp r S S3)
    ⟨rfl, (fun i d h => by simp at h), get_new, hD.app, Kp.app⟩ (fun _ _ _ ⟨_, _, e, _⟩ => e) (fun _ _ _ _ => gdOk_nil _) (fun j acc S3 ⟨e, _⟩ => by rw [e]; exact Nat.le_refl _) hz ?_ ?_
  · rintro i x acc S3 hx ⟨rfl, hp, hk, hD3, hK3⟩
    refine (step acc.length x S3 hx hD3 hK3).mono fun env1 S4 h => ?_
    rw [w_yes, if_pos rfl]
    refine h.mono fun d S5 ⟨hd, hD5, hK5⟩ => ?_
    have e5 : S5[S.length]? = some (.lst acc) := by rw [hK5.get _ (lt_of_get hk) hr]; exact hk
    refine ⟨e5, by rw [List.length_append]; rfl, fun i d' h' => ?_, by rw [List.getElem?_set_self (lt_of_get e5)], hD5.set hr hq, (hK3.trans hK5).set (Nat.le_refl _)⟩
    by_cases c : i < acc.length
    · rw [List.getElem?_append_left c] at h'
      exact hp i d' h'
    · have hl := (List.getElem?_eq_some_iff.mp h').1
      rw [List.length_append, List.length_singleton] at hl
      have : i = acc.length := by omega
      subst this
      rw [List.getElem?_append_right (Nat.le_refl _), Nat.sub_self] at h'
      cases h'
      exact hd
  · rintro acc S3 ⟨e, hp, hk, hD3, hK3⟩
    exact k acc S3 e hp hD3 hK3 hk
/-- a for that draws and appends one thing in each turn -/
theorem wp_appD {tgt : D → SEnv → M SEnv} {body : SEnv → M (Fl × SEnv)} {env : SEnv} {S S0 : Store} {Q : Fl × SEnv → Store → Prop} {xs : List D} {r q L : Nat} (P : Nat → D → Prop) (J : SEnv → Prop) (h0 : J env) (hk0 : Kp r S0 S) (hD0 : Dr r q S) (hL0 : S[L]? = some (.lst []))
    (step : ∀ (i : Nat) (x : D) (env1 : SEnv) (S1 : Store) (ds : List D), xs[i]? = some x → J env1 → Kp r S0 S1 → Dr r q S1 → S1[L]? = some (.lst ds) → ds.length = i → wp (tgt x env1) S1 fun env2 S2 => wp (body env2) S2 fun rr S3 => rr.1 = .nx ∧ J rr.2 ∧ Kp r S0 S3 ∧ Dr r q S3 ∧ ∃ d, P i d ∧ S3[L]? = some (.lst (ds ++ [d])))
    (fin : ∀ (env' : SEnv) (S' : Store) (ds : List D), J env' → Kp r S0 S' → Dr r q S' → ds.length = xs.length → (∀ i d, ds[i]? = some d → P i d) → S'[L]? = some (.lst ds) → Q (.nx, env') S') : wp (loopM [] tgt body xs env) S Q := by
  refine wp_loop (fun i env1 S1 => ∃ ds : List D, J env1 ∧ Kp r S0 S1 ∧ Dr r q S1 ∧ S1[L]? = some (.lst ds) ∧ ds.length = i ∧ (∀ i d, ds[i]? = some d → P i d)) (fun _ _ _ _ => gdOk_nil _) ?_ ?_ ⟨[], h0, hk0, hD0, hL0, rfl, fun i d h => by simp at h⟩
  · rintro i x env1 S1 hx ⟨ds, hJ, hK, hD, hL, hl, hp⟩
    refine (step i x env1 S1 ds hx hJ hK hD hL hl).mono fun env2 S2 h => h.mono fun rr S3 ⟨hf, hJ3, hK3, hD3, d, hd, hL3⟩ => ?_
    obtain ⟨fl, env3⟩ := rr
    dsimp only at hf hJ3
    subst hf
    refine ⟨ds ++ [d], hJ3, hK3, hD3, hL3, by rw [List.length_append, hl]; rfl, fun i2 d' h' => ?_⟩
    by_cases c : i2 < ds.length
    · rw [List.getElem?_append_left c] at h'
      exact hp i2 d' h'
    · have hl2 := (List.getElem?_eq_some_iff.mp h').1
      rw [List.length_append, List.length_singleton] at hl2
      have : i2 = ds.length := by omega
      subst this
      rw [List.getElem?_append_right (Nat.le_refl _), Nat.sub_self] at h'
      cases h'
      rw [hl]
      exact hd
  · rintro env1 S1 ⟨ds, hJ, hK, hD, hL, hl, hp⟩
    exact fin env1 S1 ds hJ hK hD hl hp hL
theorem app_step {L r q : Nat} {S0 S2 : Store} {ds : List D} {d : D} (hL : S0.length ≤ L) (hD : Dr r q S2) (hr : L ≠ r) (hq : L ≠ q) (h : S2[L]? = some (.lst ds)) (hk : Kp r S0 S2) : Kp r S0 (S2.set L (.lst (ds ++ [d]))) ∧ Dr r q (S2.set L (.lst (ds ++ [d]))) ∧ (S2.set L (.lst (ds ++ [d])))[L]? = some (.lst (ds ++ [d])) :=
  ⟨hk.set hL, hD.set hr hq, by rw [List.getElem?_set_self (lt_of_get h)]⟩
theorem all_idx {p : D → Bool} {ds : List D} (h : ∀ (i : Nat) (d : D), ds[i]? = some d → p d = true) : ds.all p = true := List.all_eq_true.mpr fun x hx => by
  obtain ⟨i, hi⟩ := List.getElem?_of_mem hx
  exact h i x hi
theorem mem_idx {P : D → Prop} {ds : List D} (h : ∀ (i : Nat) (d : D), ds[i]? = some d → P d) : ∀ x ∈ ds, P x := fun x hx => by
  obtain ⟨i, hi⟩ := List.getElem?_of_mem hx
  exact h i x hi
theorem rg1_eq {i : Nat} {env : SEnv} {S : Store} {n : Nat} (h : env[i]? = some (some (.int (n : Nat)))) (hn : n ≤ 100000) : iRg1M (aCons (eVar i) aNil) env S = some ((rng 0 n, []), S) := by
  refine (bnd_eq (show aCons (eVar i) aNil env S = some ([.int (n : Nat)], S) from ?_)).trans ?_
  · refine (bnd_eq (show eVar i env S = some (.int (n : Nat), S) by unfold eVar; rw [h])).trans rfl
  · show (if -(2 ^ 62) ≤ (n : Int) ∧ (n : Int) < 2 ^ 62 then ret (rng 0 (n : Int).toNat, []) else fail) S = _
    rw [if_pos ⟨by omega, by omega⟩]
    rfl
theorem int_nat {i : Int} (h : 0 ≤ i) : ∃ n : Nat, i = (n : Int) := ⟨i.toNat, by omega⟩
end TS
namespace TS
open PySem PySem.Spec PyProof.Rows L2
/-- an if without an else, whose ways come together -/
theorem w_join {c : SEnv → M Bool} {f R : SEnv → M (Fl × SEnv)} {env : SEnv} {S : Store} {QF : Fl × SEnv → Store → Prop} (I : SEnv → Store → Prop)
    (h1 : wp (c env) S fun b S1 => if b = true then wp (f env) S1 (fun r S2 => r.1 = .nx ∧ I r.2 S2) else I env S1) (h2 : ∀ env' S', I env' S' → wp (R env') S' QF) : wp (sSeq (sIf c f sNx) R env) S QF := by
  rw [w_seq, w_sIf]
  refine h1.mono fun b S1 h => ?_
  cases b with
  | true =>
    rw [if_pos rfl] at h ⊢
    refine h.mono fun r S2 ⟨e, hI⟩ => ?_
    obtain ⟨fl, env2⟩ := r
    dsimp only at e hI
    subst e
    exact h2 env2 S2 hI
  | false =>
    rw [if_neg Bool.false_ne_true] at h ⊢
    rw [w_nx]
    exact h2 env S1 h
theorem w_seqA {f R : SEnv → M (Fl × SEnv)} {env : SEnv} {S : Store} {QF : Fl × SEnv → Store → Prop} (h : wp (f env) S fun r S1 => r.1 = .nx ∧ wp (R r.2) S1 QF) : wp (sSeq f R env) S QF := by
  rw [w_seq]
  refine h.mono fun r S1 ⟨e, h⟩ => ?_
  obtain ⟨fl, env2⟩ := r
  dsimp only at e h
  subst e
  exact h
end TS
set_option Elab.async false
set_option linter.all false
set_option maxRecDepth 100000
namespace TS
open PySem PySem.Spec PyProof.Rows L2
def flatB (N : Nat) : D → Bool
  | .non => true
  | .bl _ => true
  | .int _ => true
  | .str z => z.cps.toList.all (fun c => decide (c < 128)) && decide (z.length ≤ N)
  | _ => false
def thB (N : Nat) : Nat → D → Bool
  | 0, d => flatB N d
  | e + 1, d => match d with
    | .tup xs => decide (xs.length ≤ N) && xs.all (thB N e)
    | d => flatB N d
theorem flatB_ok {N : Nat} {d : D} (h : flatB N d = true) : FlatT N d := by
  cases d with
  | non => trivial
  | bl b => trivial
  | int i => trivial
  | str z =>
    have h' := (Bool.and_eq_true _ _).mp h
    exact ⟨plain_lit z h'.1, of_decide_eq_true h'.2⟩
  | _ => cases h
theorem thB_ok {N : Nat} : ∀ {e : Nat} {d : D}, thB N e d = true → Th N e d
  | 0, d, h => flatB_ok h
  | e + 1, d, h => by
    cases d with
    | tup xs =>
      have h' := (Bool.and_eq_true _ _).mp h
      exact ⟨of_decide_eq_true h'.1, fun x hx => thB_ok (List.all_eq_true.mp h'.2 x hx)⟩
    | _ => exact FlatT.th (flatB_ok (show flatB N _ = true from h))
theorem thBs_ok {N e : Nat} {xs : List D} (h : xs.all (thB N e) = true) : ∀ x ∈ xs, Th N e x := fun x hx => thB_ok (List.all_eq_true.mp h x hx)
section
variable {S : Store} {env : SEnv}
theorem w_addL {i j : Nat} {xs ys : List D} {Q : D → Store → Prop} (h1 : S[i]? = some (.lst xs)) (h2 : S[j]? = some (.lst ys)) (hz : xs.length + ys.length ≤ sizeLine) : wp (addD (.ref i) (.ref j)) S Q ↔ Q (.ref S.length) (S ++ [.lst (xs ++ ys)]) :=
  wp_some (by unfold addD; simp only [h1, h2, hz, if_true])
theorem w_par2 {i j : Nat} {f : SEnv → M (List D)} {QF : Fl × SEnv → Store → Prop} : wp (sPar2 i j f env) S QF ↔ wp (f env) S fun ds S1 => ∃ a b, ds = [a, b] ∧ QF (.nx, (env.set i (some a)).set j (some b)) S1 := by
  unfold sPar2
  rw [wp_bnd]
  constructor
  · exact fun h => h.mono fun ds S1 h => by
      split at h
      · exact ⟨_, _, rfl, wp_ret.mp h⟩
      · exact (w_fail.mp h).elim
  · exact fun h => h.mono fun ds S1 ⟨a, b, e, h⟩ => by
      subst e
      exact wp_ret.mpr h
/-- a comprehension without a test that only adds to the store; what is made is told by P -/
theorem w_lcP {fi : SEnv → M (List D × Gd)} {tgt : D → SEnv → M SEnv} {te : SEnv → M D} {vs : List Nat} {S0 : Store} {Q : D → Store → Prop} {xs : List D} {g : Gd} (P : D → Prop)
    (h0 : fi env S0 = some ((xs, g), S)) (hg : ∀ S', Grow S S' → gdOk S' g) (hz : xs.length < sizeLine)
    (step : ∀ (i : Nat) (x : D) (S1 : Store), xs[i]? = some x → Grow S S1 → wp (tgt x (wipeE env vs)) S1 fun env1 S2 => wp (te env1) S2 fun d S3 => P d ∧ Grow S1 S3)
    (q : ∀ (ds : List D) S', ds.length = xs.length → (∀ d ∈ ds, P d) → Grow S S' → S'[S.length]? = some (.lst ds) → Q (.ref S.length) S') : wp (eLc fi tgt bYes te vs env) S0 Q := by
  refine wp_lc (xs := xs) (g := g) (S1 := S) h0 (fun j acc S3 => acc.length = j ∧ (∀ d ∈ acc, P d) ∧ S3[S.length]? = some (.lst acc) ∧ Grow S S3) ⟨rfl, (fun _ h => nomatch h), get_new, Grow.refl.app⟩ (fun _ _ _ ⟨_, _, e, _⟩ => e) (fun _ _ _ ⟨_, _, _, e⟩ => hg _ e)
    (fun j acc S3 ⟨e, _⟩ => by rw [e]; exact Nat.le_refl _) hz ?_ ?_
  · rintro i x acc S3 hx ⟨rfl, hp, hk, hG⟩
    refine (step acc.length x S3 hx hG).mono fun env1 S4 h => ?_
    rw [w_yes, if_pos rfl]
    refine h.mono fun d S5 ⟨hd, hG5⟩ => ?_
    have e5 := hG5.get hk
    refine ⟨e5, by rw [List.length_append]; rfl, fun y hy => ?_, by rw [List.getElem?_set_self (lt_of_get e5)], (hG.trans hG5).set (Nat.le_refl _)⟩
    rcases List.mem_append.mp hy with hy | hy
    · exact hp y hy
    · rw [List.mem_singleton.mp hy]
      exact hd
  · rintro acc S3 ⟨e, hp, hk, hG⟩
    exact q acc S3 e hp hG hk
theorem Kp.dr {T r q : Nat} {S S' : Store} (h : Kp T S S') (d : Dr r q S) (h1 : T ≠ r) (h2 : T ≠ q) : Dr r q S' := by
  obtain ⟨row, a, seed, e1, e2, h3⟩ := d.ex
  exact ⟨d.ne, row, a, seed, by rw [h.get _ d.lt.1 (Ne.symm h1)]; exact e1, by rw [h.get _ d.lt.2 (Ne.symm h2)]; exact e2, h3⟩
theorem Kp.gd {T i : Nat} {xs : List D} {S S' : Store} (h : Kp T S S') (e : S[i]? = some (.lst xs)) (hne : i ≠ T) : gdOk S' [(i, xs)] := fun p hp => by
  rw [List.mem_singleton.mp hp]
  show S'[i]? = _
  rw [h.get _ (lt_of_get e) hne]
  exact e
/-- things that are put into the list T -/
structure Put (N e T n : Nat) (S : Store) : Prop where
  ex : ∃ ds : List D, S[T]? = some (.lst ds) ∧ (∀ d ∈ ds, Th N e d) ∧ ds.length ≤ n
theorem Put.mono {N e T n n' : Nat} (h : Put N e T n S) (hn : n ≤ n') : Put N e T n' S := by
  obtain ⟨ds, h1, h2, h3⟩ := h.ex
  exact ⟨ds, h1, h2, by omega⟩
theorem Put.grow {N e T n : Nat} {S' : Store} (h : Put N e T n S) (g : Grow S S') : Put N e T n S' := by
  obtain ⟨ds, h1, h2, h3⟩ := h.ex
  exact ⟨ds, g.get h1, h2, h3⟩
theorem Put.kp {N e T n r : Nat} {S' : Store} (h : Put N e T n S) (g : Kp r S S') (hne : T ≠ r) : Put N e T n S' := by
  obtain ⟨ds, h1, h2, h3⟩ := h.ex
  exact ⟨ds, by rw [g.get _ (lt_of_get h1) hne]; exact h1, h2, h3⟩
theorem Put.lt {N e T n : Nat} (h : Put N e T n S) : T < S.length := by
  obtain ⟨ds, h1, _⟩ := h.ex
  exact lt_of_get h1
/-- one thing is put -/
theorem w_put {N e T n : Nat} {d : D} {Q : D → Store → Prop} (h : Put N e T n S) (hn : n ≤ 50000) (hd : Th N e d) (k : ∀ S', Put N e T (n + 1) S' → Kp T S S' → Q .non S') : wp (mAppend (.ref T) [d]) S Q := by
  obtain ⟨ds, h1, h2, h3⟩ := h.ex
  rw [w_app h1 (sz_lt (by omega))]
  refine k _ ⟨ds ++ [d], by rw [List.getElem?_set_self (lt_of_get h1)], fun x hx => ?_, by rw [List.length_append]; simp only [List.length_singleton]; omega⟩ ⟨by rw [List.length_set]; exact Nat.le_refl _, fun i _ hr => List.getElem?_set_ne (Ne.symm hr)⟩
  rcases List.mem_append.mp hx with hx | hx
  · exact h2 x hx
  · rw [List.mem_singleton.mp hx]
    exact hd
theorem w_tyPut {N e T n : Nat} {QU : Unit → Store → Prop} (h : Put N e T n S) : wp (tyM "list" (.ref T)) S QU ↔ QU () S := by
  obtain ⟨ds, h1, _⟩ := h.ex
  exact w_tyL h1
/-- a for whose turns put c things each -/
theorem wp_puts {tgt : D → SEnv → M SEnv} {body : SEnv → M (Fl × SEnv)} {Q : Fl × SEnv → Store → Prop} {xs : List D} {g : Gd} {N e T n c : Nat} (J : SEnv → Prop) (hJ : J env) (hg : ∀ S', Kp T S S' → gdOk S' g) (hT : Put N e T n S)
    (step : ∀ (i : Nat) (x : D) (env1 : SEnv) (S1 : Store), xs[i]? = some x → J env1 → Kp T S S1 → Put N e T (n + c * i) S1 → wp (tgt x env1) S1 fun env2 S2 => wp (body env2) S2 fun rr S3 => rr.1 = .nx ∧ J rr.2 ∧ Kp T S S3 ∧ Put N e T (n + c * i + c) S3)
    (fin : ∀ (env' : SEnv) (S' : Store), J env' → Kp T S S' → Put N e T (n + c * xs.length) S' → Q (.nx, env') S') : wp (loopM g tgt body xs env) S Q := by
  refine wp_loop (fun i env1 S1 => J env1 ∧ Kp T S S1 ∧ Put N e T (n + c * i) S1) (fun i env1 S1 h => hg S1 h.2.1) ?_ ?_ ⟨hJ, .refl, hT⟩
  · rintro i x env1 S1 hx ⟨h1, h2, h3⟩
    refine (step i x env1 S1 hx h1 h2 h3).mono fun env2 S2 h => h.mono fun rr S3 ⟨hf, a1, a2, a3⟩ => ?_
    obtain ⟨fl, env3⟩ := rr
    dsimp only at hf a1
    subst hf
    exact ⟨a1, a2, a3.mono (by rw [Nat.mul_add, Nat.mul_one, Nat.add_assoc]; exact Nat.le_refl _)⟩
  · rintro env1 S1 ⟨h1, h2, h3⟩
    exact fin env1 S1 h1 h2 h3
end
end TS
set_option Elab.async false
set_option linter.all false
set_option maxRecDepth 100000
namespace TS
open PySem PySem.Spec PyProof.Rows L2
/-! ### len(set(xs)) of integers -/
theorem nodup_len : ∀ {l m : List Int}, l.Nodup → m.Nodup → (∀ k, k ∈ l ↔ k ∈ m) → l.length = m.length := fun hl hm h => ((List.perm_ext_iff_of_nodup hl hm).mpr h).length_eq
theorem sortI_nodup {l : List Int} : (sortI l).Nodup := (rise_sortI (l := l)).imp fun h => by omega
theorem sortI_of_nodup {l : List Int} (h : l.Nodup) : (sortI l).length = l.length := nodup_len sortI_nodup h fun k => mem_sortI
theorem insI_len {x : Int} : ∀ {l : List Int}, (insI x l).length ≤ l.length + 1
  | [] => Nat.le_refl _
  | y :: r => by
    unfold insI
    split
    · exact Nat.le_refl _
    · split
      · exact Nat.le_succ _
      · rw [List.length_cons, List.length_cons]
        have := @insI_len x r
        omega
theorem insI_mem {x : Int} : ∀ {l : List Int}, l.Pairwise (· < ·) → x ∈ l → (insI x l).length = l.length
  | [], _, h => absurd h List.not_mem_nil
  | y :: r, hp, h => by
    obtain ⟨h1, h2⟩ := List.pairwise_cons.mp hp
    unfold insI
    rcases List.mem_cons.mp h with rfl | h
    · rw [if_neg (Int.lt_irrefl _), if_pos rfl]
    · have := h1 x h
      rw [if_neg (by omega), if_neg (by omega), List.length_cons, List.length_cons, insI_mem h2 h]
theorem sortI_len_le : ∀ {l : List Int}, (sortI l).length ≤ l.length
  | [] => Nat.le_refl _
  | x :: r => by
    unfold sortI
    have := @insI_len x (sortI r)
    have := @sortI_len_le r
    rw [List.length_cons]
    omega
theorem sortI_nodup_iff : ∀ {l : List Int}, (sortI l).length = l.length ↔ l.Nodup
  | [] => by simp [sortI]
  | x :: r => by
    constructor
    · intro h
      unfold sortI at h
      have h1 := @sortI_len_le r
      have h2 := @insI_len x (sortI r)
      rw [List.length_cons] at h
      by_cases c : x ∈ r
      · rw [insI_mem rise_sortI (mem_sortI.mpr c)] at h
        omega
      · exact List.nodup_cons.mpr ⟨c, sortI_nodup_iff.mp (by omega)⟩
    · exact sortI_of_nodup
section
variable {X : Cx}
theorem setR_count {w : World} {h : Heap} {a : Addr} {ns : List Int} {c : Nat} (R : SetR w h a (fun j => decide (j ∈ ns)) c) : c = (sortI ns).length := by
  obtain ⟨o, es, ep, t, ho, hx, hd, g, nd, hm, hb, hf, hn, _⟩ := R
  have e : es.size = (es.toList.map L2.keyOf).length := by rw [List.length_map, Array.length_toList]
  rw [← hn, e]
  exact nodup_len nd sortI_nodup fun k => by rw [← hm k, decide_eq_true_iff, mem_sortI]
def rLenSetO (X : Cx) : List V → Hp → VK → Prop := fun xs H Q => ∃ (p : Addr) (ns : List Int) (c : Nat), xs = [.ref p] ∧ H p = some (SetO X.w p (fun j => decide (j ∈ ns)) c) ∧ ns.length ≤ 4000 ∧ Q (.int ((sortI ns).length : Nat)) H
theorem cr_lenSetO : CallR X (.builtin "len") (rLenSetO X) := by
  intro pins s σ H xs us Q I r h
  obtain ⟨p, ns, c, rfl, hp, hl, q⟩ := h
  rw [Vals.ref1 r]
  have R := setO_get I hp
  have hc := setR_count R
  obtain ⟨o, es, ep, t, ho, hex, hd, _, _, _, _, hf, hn, _⟩ := R
  have hs := @sortI_len_le ns
  refine call_len_set ho hex hd hf (by rw [hn, hc]; omega) ⟨.int ((sortI ns).length : Nat), H, I.tok _, ⟨_, by rw [hn, hc]⟩, q⟩
def rSetLJ (X : Cx) : List V → Hp → VK → Prop := fun xs H Q => ∃ (p : Addr) (ns : List Int), xs = [.ref p] ∧ SqL X.K H p (ns.map V.int) ∧ ns.length ≤ 4000 ∧ ∀ (a : Addr) (c : Nat), H a = none → Q (.ref a) (upd H a (SetO X.w a (fun j => decide (j ∈ ns)) c))
theorem cr_setLJ (hc : X.calm = true) : CallR X (.type "set") (rSetLJ X) := by
  intro pins s σ H xs us Q I r h
  obtain ⟨p, ns, rfl, hq, hl, q⟩ := h
  rw [Vals.ref1 r]
  obtain ⟨its, rv, pl, _⟩ := I.list hq
  refine set_of_list ns (I.ok.hd hc) pl.isList (by simpa using ints_of_vals rv) (by unfold scanBound; omega) fun s2 hs => ?_
  obtain ⟨h2, t2, c2, rfl, R, hcl, keep⟩ := hs
  exact ⟨.ref _, _, I.laid (t' := t2) keep (Nat.le_refl _) (setO_new R), rfl, q _ _ (I.hok.fresh (Nat.le_refl _))⟩
def lenSetM (d : D) : M D := fun S => match d with
  | .ref i => match S[i]? with
    | some (.lst xs) => match intsU xs with
      | some ns => if ns.length ≤ 4000 then some (.int ((sortI ns).length : Nat), S) else none
      | none => none
    | _ => none
  | _ => none
def eLenSet (f : SEnv → M D) : SEnv → M D := fun env => bnd (f env) lenSetM
variable {e : Expr} {te : TE} {f : SEnv → M D} {p1 p2 p3 pos : Pos}
theorem de_lenSet (hc : X.calm = true) (h1 : X.mg "len" = none) (h2 : X.mg "set" = none) (he : DE X e te f) (g1 : Gl X "len" := by rfl) (g2 : Gl X "set" := by rfl)
    (s1 : starEach [e] X.env = (false, eval e X.env) :: starEach [] X.env := by rfl)
    (s2 : starEach [Expr.Call (.Name "set" p2) [e] [] p3] X.env = (false, eval (Expr.Call (.Name "set" p2) [e] [] p3) X.env) :: starEach [] X.env := by rfl) :
    DE X (.Call (.Name "len" p1) [.Call (.Name "set" p2) [e] [] p3] [] pos) (tCB (rLenSetO X) (tCons (tCB (rSetLJ X) (tCons te tNil)) tNil)) (eLenSet f) := by
  have q1 : PE X (.Call (.Name "set" p2) [e] [] p3) (tCB (rSetLJ X) (tCons te tNil)) := pe_callTy (cr_setLJ hc) g2 h2 (by decide +kernel) (pa_cons he.pe pa_nil s1) (by decide) (by decide) s1 rfl
  refine ⟨pe_callB cr_lenSetO g1 h1 (by decide +kernel) (pa_cons q1 pa_nil s2) (by decide) (by decide) s2 rfl, fun m S H env σ rl re d S' h Q q => ?_⟩
  obtain ⟨a, S1, k1, k2⟩ := bnd_some h
  refine he.se rl re a S1 k1 _ fun m1 H1 v rl1 e1 rv => ?_
  unfold lenSetM at k2
  split at k2
  · rename_i i
    split at k2
    · rename_i xs hx
      split at k2
      · rename_i ns hns
        split at k2
        · rename_i hl
          cases k2
          obtain ⟨p, vs, rfl, _, hq, hv⟩ := rl1.sqL hx rv
          have hvs := intsU_rep hv hns
          subst hvs
          refine ⟨p, ns, rfl, .inl (.inl hq), hl, fun b c hb => ?_⟩
          obtain ⟨rl2, x2⟩ := rl1.keep (keep_upd (o := SetO X.w b (fun j => decide (j ∈ ns)) c) hb)
          exact ⟨b, ns, c, rfl, upd_same, hl, q _ _ _ rl2 (e1.trans x2) (.int _)⟩
        · cases k2
      · cases k2
    · cases k2
  · cases k2
end
end TS
set_option Elab.async false
set_option linter.all false
set_option maxRecDepth 100000
namespace TS
open PySem PySem.Spec PyProof.Rows L2
section
variable {S : Store} {env : SEnv} {Q : D → Store → Prop}
theorem w_eLenSet {f : SEnv → M D} : wp (eLenSet f env) S Q ↔ wp (f env) S fun d S1 => wp (lenSetM d) S1 Q := wp_bnd
theorem w_lenSet {r : Nat} {ns : List Int} (h : S[r]? = some (.lst (ns.map .int))) (hl : ns.length ≤ 4000) : wp (lenSetM (.ref r)) S Q ↔ Q (.int ((sortI ns).length : Nat)) S :=
  wp_some (by unfold lenSetM; simp only [h, intsU_map, hl, if_true])
theorem w_intB {b : Bool} : wp (nInt [.bl b]) S Q ↔ Q (.int (if b then 1 else 0)) S := by cases b <;> exact wp_some rfl
end
end TS
set_option Elab.async false
set_option linter.all false
set_option maxRecDepth 100000
set_option maxHeartbeats 2000000
namespace TS
open PySem PySem.Spec PyProof.Rows L2
/-! ### a tuple no times -/
theorem tuple_zero (l : Addr) (items : Array Value) (n : Nat) (dd : Option Addr) (sl : Array (Option Value)) (u : Tok) (hne : items.isEmpty = false) :
    Meets (Builtin.«tuple.__mul__» ⟨[.ref l, .int 0 u], []⟩) (fun _ R s => s.heap.get? l = some { cls := .type "tuple", dict := dd, data := .seq items n, slots := sl } ∧
      R (.ok (.ret (Value.ref s.heap.objs.size))) { s with heap := s.heap.push { cls := .type "tuple", data := .seq #[] }, toks := s.toks }) :=
  .of_wp fun prog w A R s h => by
    obtain ⟨hp, g, d, tk, os⟩ := s
    obtain ⟨hl, h⟩ := h
    have ix := AutoSeq1.idx_int
    have big : (decide ((0 : Int) < -(2 ^ 63)) || decide ((0 : Int) ≥ 2 ^ 63)) = false := by decide
    have one : (items.isEmpty || (0 : Int) == 1) = false := by rw [hne]; decide
    have two : (decide ((0 : Int) ≤ 0) || items.isEmpty) = true := by simp
    wp_walk using wpAny_loadPart' hl
    repeat (first
      | (refine wpAny_ite_false (decide_eq_false (by rw [big]; exact Bool.false_ne_true)) ?_; wp_walk using wpAny_loadPart' hl)
      | (refine wpAny_ite_false (decide_eq_false (by rw [one]; exact Bool.false_ne_true)) ?_; wp_walk using wpAny_loadPart' hl)
      | (refine wpAny_ite_true (decide_eq_true two) ?_; wp_walk using wpAny_loadPart' hl))
    exact ⟨_, rfl, h⟩
section
variable {X : Cx} {K : PySem.W.Frag}
def rZero (K : PySem.W.Frag) : R2 := fun x y H Q => ∃ l xs, x = .ref l ∧ y = .int 0 ∧ SqT K H l xs ∧ xs ≠ [] ∧ ∀ p, H p = none → Q (.ref p) (upd H p (.tup []))
theorem op_zero : OpR X (binaryOp .Mult) (rZero X.K) := by
  intro pins s σ H x y v u Q I rx ry h
  obtain ⟨l, xs, rfl, rfl, ht, hne, q⟩ := h
  cases rx
  obtain ⟨tk, rfl⟩ := ry
  obtain ⟨us, rv, ⟨⟨c, dd, dt, sl⟩, ho, hc, n, hd⟩, hs⟩ := I.tuple ht
  simp only at hc hd
  subst hc hd
  have hi : us.toArray.isEmpty = false := by
    cases us with
    | nil =>
      have := rv.length
      exact absurd (List.eq_nil_of_length_eq_zero this) hne
    | cons a b => rfl
  exact wpAny_binaryOp_repeat_ref (T := "tuple") (U := "int") (by decide) ⟨_, ho, rfl⟩ (fun s' => typeIs_int s' 0 tk) noFill_tuple_mul F.fills_int_mul F.slot_int_rmul repeat_tuple F.slot_int_index.lookup
    (call_meets F.slot_int_rmul (typeIs_int s 0 tk) F.entry_int_rmul (F.args_int_rmul_2 _ _) (int_rmul_tuple 0 tk l us.toArray n dd sl)
      ⟨ho, rfl, ⟨_, ho, rfl⟩, call_meets F.slot_tuple_mul ⟨_, ho, rfl⟩ F.entry_tuple_mul (F.args_tuple_mul_2 _ _) (tuple_zero l us.toArray n dd sl tk hi) ⟨ho, .ref s.heap.objs.size, _, I.laid (t' := s.toks) (o := .tup []) (fun b ob q => Heap.get?_push_of_some _ q) (Nat.le_refl _) ⟨Nat.zero_le _, _, .nil, IsTup.new _ _⟩, rfl, q _ (I.hok.fresh (Nat.le_refl _))⟩⟩)
def mulZ (a b : D) : M D := fun S => match a, b with
  | .tup (x :: xs), .int 0 => some (.tup [], S)
  | a, b => mulU a b S
theorem o_mulZ : DO2 X (binaryOp .Mult) (fun x y H Q => rZero X.K x y H Q ∨ rMulU X.K x y H Q) mulZ := ⟨op_zero.or (o_mulU (X := X)).op, fun m S H x y a b rl ra rb d S' h Q q => by
  unfold mulZ at h
  split at h
  · cases h
    cases rb
    cases ra with
    | tup h1 h2 =>
      refine .inl ⟨_, _, rfl, rfl, h1, fun e => ?_, fun p hp => ?_⟩
      · have := h2.length
        rw [e] at this
        cases this
      · obtain ⟨r1, x1, y1⟩ := rl.tup (ds := []) (vs := []) hp .nil
        exact q _ _ _ r1 x1 y1
  · exact .inr ((o_mulU (X := X)).sr rl ra rb d S' h Q q)⟩
theorem k_mulZ (K : PySem.W.Frag) (hK : X.K = K) : DO2 X (binaryOp .Mult) (fun x y H Q => rZero K x y H Q ∨ rMulU K x y H Q) mulZ := by subst hK; exact o_mulZ
end
end TS
set_option Elab.async false
set_option linter.all false
set_option maxRecDepth 100000
namespace TS
open PySem PySem.Spec PyProof.Rows L2
theorem mulZ_tup (xs : List D) (x : D) (n : Nat) (S : Store) (Q : D → Store → Prop) (hn : n ≤ 1000) (hx : xs.length ≤ 900) (k : Q (.tup (List.replicate n (x :: xs)).flatten) S) : wp (mulZ (.tup (x :: xs)) (.int (n : Nat))) S Q := by
  match n, hn, k with
  | 0, _, k => exact (wp_some (a := .tup []) (S' := S) rfl).mpr k
  | 1, _, k => exact (wp_some (a := .tup (x :: xs)) (S' := S) rfl).mpr (by
      rw [List.replicate_one, List.flatten_cons, List.flatten_nil, List.append_nil] at k
      exact k)
  | n + 2, hn, k =>
    refine (wp_some (a := .tup (List.replicate (n + 2) (x :: xs)).flatten) (S' := S) ?_).mpr k
    have e1 : mulZ (.tup (x :: xs)) (.int ((n + 2 : Nat) : Int)) S = mulU (.tup (x :: xs)) (.int ((n + 2 : Nat) : Int)) S := by
      unfold mulZ
      split
      · rename_i h
        have := D.int.inj h
        omega
      · rfl
    have e2 : mulU (.tup (x :: xs)) (.int ((n + 2 : Nat) : Int)) S = mulD (.tup (x :: xs)) (.int ((n + 2 : Nat) : Int)) S := by
      unfold mulU
      split
      · rename_i h
        have := D.int.inj h
        omega
      · rfl
    rw [e1, e2]
    unfold mulD
    simp only
    rw [if_pos ⟨List.cons_ne_nil _ _, by omega, by omega, by rw [List.length_cons]; omega⟩]
    rfl
end TS
set_option Elab.async false
set_option linter.all false
set_option maxRecDepth 100000
set_option maxHeartbeats 2000000
namespace TS
open PySem PySem.Spec PyProof.Rows L2
/-! ### a def whose last parameter has an integer as default -/
structure CalleeD (P : Program) (w : World) (K : PySem.W.Frag) (mg : Str → Option Value) (base : Heap) (x : Str) (lv n : Nat) (ps : List Str) (i : Int) (F : List D → M D) : Prop where
  ex : ∃ (f : Addr) (fd : FuncData) (dds : List Value), FnOk P w K mg base CX0 lv f fd ps (spOf K (n + 1) F) ∧ mg x = some (.ref f) ∧ PySem.W.keepIn K (.ref f) = true ∧ Vals [V.int i] dds ∧ Binds K fd ps dds
def dfl (F : List D → M D) (i : Int) : List D → M D := fun ds => F (ds ++ [.int i])
theorem se_callD {K : PySem.W.Frag} {n : Nat} {i : Int} {F : List D → M D} {ta : TA} {f : SEnv → M (List D)} (hn : ∀ env S ds S', f env S = some (ds, S') → ds.length = n) (ha : SA K ta f) : SE K (tCall (spOf K (n + 1) F) [.int i] E0 ta) (eCall (dfl F i) f) := fun m S H env σ rl re d S' h Q q => by
  obtain ⟨ds, S1, e1, h1⟩ := bnd_some h
  have h1 : F (ds ++ [.int i]) S1 = some (d, S') := h1
  refine ha rl re ds S1 e1 _ fun m1 H1 vs rl1 x1 rvs => ?_
  exact ⟨m1, S1, ds ++ [.int i], d, S', rl1, rvs.snoc (.int i), by rw [List.length_append, hn env S ds S1 e1]; rfl, h1, fun m2 H2 v rl2 x2 rv => q m2 H2 v rl2 (x1.trans x2) rv⟩
section
variable {X : Cx} {x : Str} {lv n : Nat} {i : Int} {ps : List Str} {F : List D → M D} {p pos : Pos} {e : Expr} {es : List Expr} {ta : TA} {fa : SEnv → M (List D)}
theorem dk_fnD (K : PySem.W.Frag) (hK : X.K = K) (C : CalleeD X.prog X.w X.K X.mg X.base x lv n ps i F) (hr : Room lv X.A) (ha : DA X (e :: es) ta fa)
    (hn : ∀ env S ds S', fa env S = some (ds, S') → ds.length = n := by first | exact aCons_len aNil_len | exact aCons_len (aCons_len aNil_len) | exact aCons_len (aCons_len (aCons_len aNil_len)) | exact aCons_len (aCons_len (aCons_len (aCons_len aNil_len))) | exact aCons_len (aCons_len (aCons_len (aCons_len (aCons_len aNil_len)))))
    (hg : Gl X x := by rfl) (hdb : (x == ("__debug__" : Str)) = false := by decide) (he : starEach (e :: es) X.env = (false, eval e X.env) :: starEach es X.env := by rfl) (hpl : (backTo pos (starEach es X.env)).any (·.1) = false := by rfl) :
    DE X (.Call (.Name x p) (e :: es) [] pos) (tCall (spOf K (n + 1) F) [.int i] E0 ta) (eCall (dfl F i) fa) := by
  subst hK
  obtain ⟨f, fd, dds, a, b, c, d, g⟩ := C.ex
  exact ⟨pe_call a hr hg b c g d pass0 ha.pa hdb he hpl, se_callD hn ha.sa⟩
end
theorem fnD_ok {P : Program} {w : World} {K : PySem.W.Frag} {mg : Str → Option Value} {base : Heap} {x qual : Str} {st : Stmt} {f : Addr} {fd : FuncData} {N ps : List Str} {k : Nat} {fb : SEnv → M (Fl × SEnv)} {dvs : List V} {kws : List (Str × V)} (F : FunD K x qual (defArgs st) (defBody st) (defScope st) dvs kws f fd) (S : FnScope N ps (defScope st))
    (hbody : ∀ (cdv : Value) (A : Around) (outer : List PySem.Env) (s : Shared) (H : Hp) (E : XK), Room k (A.deeper (envOfC qual (defScope st) s.heap.objs.size f cdv)) → ∃ t, DSs (cxOf CX0 P w K mg base N qual (defScope st) f cdv A outer s H E).nox (defBody st) t fb) : FnOk P w K mg base CX0 (k + 1) f fd ps (spOf K ps.length (bodyM N.length fb)) := by
  refine F.ok S (fun vs H Q E h => ?_) (fun cdv A outer s H vs Q E hr h => ?_)
  · obtain ⟨m, S, ds, d, S', rl, rvs, hn, _⟩ := h
    rw [← rvs.length]
    exact hn
  · obtain ⟨m, S0, ds, d, S', rl, rvs, hn, hF, q⟩ := h
    obtain ⟨t, hb⟩ := hbody cdv A outer s H E hr
    obtain ⟨⟨fl, env'⟩, S1, e1, h1⟩ := bnd_some hF
    refine ⟨t, hb.ps.nox, hb.ss rl (rel0 rvs) fl env' S1 e1 _ ?_⟩
    cases fl with
    | nx =>
      cases h1
      exact fun m' H' σ' rl' x' _ => q m' H' _ rl' x' .non
    | rt d' =>
      cases h1
      exact fun m' H' v rl' x' rv => q m' H' v rl' x' rv
    | bk => cases h1
    | ct => cases h1
theorem funD_mk {K : PySem.W.Frag} {x qual : Str} {st : Stmt} {f T : Addr} {oc ocT : Value} {od an odT : Option Addr} {osl slT : Array (Option Value)} {kV doc pm cdv ct : Value} {i : Int} {tk : Tok} {nT : Nat} (l : K.lookup f = some ⟨oc, od, .func (PySem.W.fnOf x qual (defArgs st) (defBody st) (defScope st) (.ref T) kV doc pm an cdv ct), osl⟩)
    (lT : K.lookup T = some ⟨ocT, odT, .seq #[.int i tk] nT, slT⟩) (c : PySem.W.codeIn K cdv qual = true) (k : PySem.W.keepIn K (.ref f) = true) : FunD K x qual (defArgs st) (defBody st) (defScope st) [.int i] [] f (PySem.W.fnOf x qual (defArgs st) (defBody st) (defScope st) (.ref T) kV doc pm an cdv ct) :=
  ⟨⟨oc, od, .ref T, kV, doc, pm, an, cdv, ct, osl, rfl, l, c, .inr ⟨by simp, T, _, [.int i tk], nT, rfl, lT, rfl, .cons ⟨tk, rfl⟩ .nil⟩, .inl rfl⟩, k⟩
/-! ### a list so many times -/
section
variable {X : Cx}
def mulL (a b : D) : M D := fun S => match a, b with
  | .ref i, .int k => match S[i]? with
    | some (.lst xs) => if 0 ≤ k ∧ k ≤ 1000 ∧ xs.length ≤ 1000 then some (.ref S.length, S ++ [.lst (List.replicate k.toNat xs).flatten]) else none
    | _ => none
  | a, b => mulU a b S
theorem Reps.times {K : PySem.W.Frag} {m : List Addr} {H : Hp} {ds : List D} {vs : List V} (h : Reps K m H ds vs) : ∀ n : Nat, Reps K m H (List.replicate n ds).flatten (List.replicate n vs).flatten := Reps.rep h
theorem o_mulL : DO2 X (binaryOp .Mult) (fun x y H Q => rRep x y H Q ∨ rMulU X.K x y H Q) mulL := ⟨op_rep.or (o_mulU (X := X)).op, fun m S H x y a b rl ra rb d S' h Q q => by
  unfold mulL at h
  split at h
  · split at h
    · split at h
      · rename_i i k _ xs hx c
        cases h
        cases rb
        obtain ⟨p, vs, rfl, hp, h3, h4⟩ := rl.sqL hx ra
        have hl := h4.length
        refine .inl ⟨p, k, vs, rfl, rfl, h3, by omega, by omega, ?_, fun p2 hp2 => ?_⟩
        · rw [← hl]
          have hk : k.toNat ≤ 1000 := by omega
          exact Nat.le_trans (Nat.mul_le_mul c.2.2 hk) (by decide)
        · obtain ⟨a1, a2, a3⟩ := rl.new hp2 (.lst (h4.times k.toNat))
          exact q _ _ _ a1 a2 a3
      · cases h
    · cases h
  · exact .inr ((o_mulU (X := X)).sr rl ra rb d S' h Q q)⟩
theorem k_mulL (K : PySem.W.Frag) (hK : X.K = K) : DO2 X (binaryOp .Mult) (fun x y H Q => rRep x y H Q ∨ rMulU K x y H Q) mulL := by subst hK; exact o_mulL
end
end TS
set_option Elab.async false
set_option linter.all false
set_option maxRecDepth 100000
namespace TS
open PySem PySem.Spec PyProof.Rows L2
section
variable {F : List D → M D} {i : Int} {ds : List D} {S : Store} {Q : D → Store → Prop}
theorem w_dfl : wp (dfl F i ds) S Q ↔ wp (F (ds ++ [.int i])) S Q := Iff.rfl
theorem w_mulL {r : Nat} {xs : List D} {k : Int} (h : S[r]? = some (.lst xs)) (h0 : 0 ≤ k ∧ k ≤ 1000 ∧ xs.length ≤ 1000) : wp (mulL (.ref r) (.int k)) S Q ↔ Q (.ref S.length) (S ++ [.lst (List.replicate k.toNat xs).flatten]) :=
  wp_some (by unfold mulL; simp only [h]; rw [if_pos h0])
end
end TS
set_option Elab.async false
set_option linter.all false
set_option maxRecDepth 100000
set_option maxHeartbeats 2000000
namespace TS
open PySem PySem.Spec PyProof.Rows L2
/-! ### dicts whose keys are displays of tuples -/
section
variable {X : Cx} {K : PySem.W.Frag} {m : List Addr} {S : Store} {H : Hp} {pos : Pos}
def keysOf : List D → Option (List Key)
  | [] => some []
  | d :: r => match keyOf d, keysOf r with
    | some k, some ks => some (k :: ks)
    | _, _ => none
theorem keysOf_rep : ∀ {ds : List D} {vs : List V} {ks : List Key}, Reps K m H ds vs → keysOf ds = some ks → vs = ks.map kV
  | [], _, _, .nil, e => by cases e; rfl
  | d :: r, _, _, .cons h hs, e => by
    unfold keysOf at e
    split at e
    · rename_i k ks e1 e2
      cases e
      rw [List.map_cons, keyOf_rep h e1, keysOf_rep hs e2]
    · cases e
theorem Rel.dTm (r : Rel K m S H) {i : Nat} {kvs : List (List Key × D)} {v : V} (h : S[i]? = some (.dT kvs)) (q : Rep K m H (.ref i) v) : ∃ a us, v = .ref a ∧ m[i]? = some a ∧ H a = some (.dT us) ∧ us.map (·.1) = kvs.map (·.1) ∧ Reps K m H (kvs.map (·.2)) (us.map (·.2)) := by
  obtain ⟨a, u, h1, h2, h3⟩ := r.at h
  cases q with
  | ref h4 =>
    rw [h1] at h4
    cases h4
    cases h3 with
    | dT h5 h6 => exact ⟨a, _, rfl, h1, h2, h5, h6⟩
def hasT (kvs : List (List Key × D)) (ks : List Key) : Bool := (kvs.map (·.1)).any fun k => decide (k = ks)
theorem hasT_val {kvs : List (List Key × D)} {us : List (List Key × V)} (h : us.map (·.1) = kvs.map (·.1)) (ks : List Key) : (valV us ks).isSome = hasT kvs ks := by
  unfold hasT
  rw [← h, List.any_map, ← valV_any]
  rfl
def inT (ds : List D) (b : D) : M D := fun S => if ds.length ≤ 1000 then match keysOf ds, b with
  | some ks, .ref i => match S[i]? with
    | some (.dT kvs) => some (.bl (hasT kvs ks), S)
    | _ => none
  | _, _ => none
  else none
def eInT (f : SEnv → M (List D)) (fb : SEnv → M D) : SEnv → M D := fun env => bnd (f env) fun ds => bnd (fb env) fun b => inT ds b
theorem se_inT {t : TA} {tb : TE} {f : SEnv → M (List D)} {fb : SEnv → M D} (ha : SA K t f) (hb : SE K tb fb) : SE K (tOp (rInU K) (tTup t) tb) (eInT f fb) := fun m S H env σ rl re d S' h Q q => by
  obtain ⟨ds, S1, e1, h⟩ := bnd_some h
  obtain ⟨b, S2, e2, h⟩ := bnd_some h
  unfold inT at h
  split at h
  · rename_i hl
    split at h
    · rename_i ks i hks
      split at h
      · rename_i kvs e
        cases h
        refine ha rl re ds S1 e1 _ fun m1 H1 vs rl1 x1 rvs => ⟨by rw [← rvs.length]; exact Nat.le_trans hl (by decide), fun p hp => ?_⟩
        obtain ⟨a1, a2, a3⟩ := rl1.tup hp rvs
        refine hb a1 (re.mono rl (x1.trans a2)) _ _ e2 _ fun m2 H2 y rl2 x2 rb => ?_
        have hpk : H2 p = some (.tup vs) := x2.keep _ _ upd_same (a1.not_tup upd_same)
        obtain ⟨pa, us, rfl, hm, hd, hk, hv⟩ := rl2.dTm e rb
        refine .inl ⟨pa, valV us ks, rfl, ?_, ?_⟩
        · rw [keysOf_rep rvs hks] at hpk
          exact DGet.t hd hpk
        · rw [hasT_val hk]
          exact q m2 H2 _ rl2 ((x1.trans a2).trans x2) (.bl _)
      · cases h
    · cases h
  · cases h
theorem dt_inT {es : List Expr} {x1 : _} {b : Expr} {p2 : Pos} {t : TA} {tb : TE} {f : SEnv → M (List D)} {fb : SEnv → M D} (K : PySem.W.Frag) (hK : X.K = K) (hu : X.A.units + 1 < cLine) (ha : DA X es t f) (hb : DE X b tb fb) (hm : behindInMarks .In b = false := by first | exact nobehind _ (by decide) (by decide) | rfl) :
    DT X (.Compare (.Tuple es x1 p2) [.In] [b] pos) (tTest (tOp (rInU K) (tTup t) tb)) (asB (eInT f fb)) := by
  subst hK
  obtain ⟨h1, _⟩ := o_inU (X := X) hu
  exact ⟨pt_cmpR h1 (pe_tup ha.pa) hb.pe hm, st_B (se_inT ha.sa hb.se)⟩
def eDictT : SEnv → M D := fun _ S => some (.ref S.length, S ++ [.dT []])
theorem de_dictT : DE X (.Dict [] [] pos) tDNewT eDictT := ⟨pe_dnewT, fun m S H env σ rl re d S' hh Q q => by
  cases hh
  intro p hp
  obtain ⟨rl1, x1, rp⟩ := rl.new (o := .dT []) (u := .dT []) hp (.dT rfl .nil)
  exact q _ _ _ rl1 x1 rp⟩
/-- a new key -/
def setT (b : D) (ds : List D) (d : D) : M Unit := fun S => if ds.length ≤ 1000 then match keysOf ds, b with
  | some ks, .ref i => match S[i]? with
    | some (.dT kvs) => if hasT kvs ks = false ∧ kvs.length < sizeLine then some ((), S.set i (.dT (kvs ++ [(ks, d)]))) else none
    | _ => none
  | _, _ => none
  else none
def gSubT (fo : SEnv → M D) (f : SEnv → M (List D)) : D → SEnv → M SEnv := fun d env => bnd (fo env) fun o => bnd (f env) fun ds => bnd (setT o ds d) fun _ => ret env
theorem dg_subT {o : Expr} {es : List Expr} {x1 : _} {p2 : Pos} {to : TE} {t : TA} {fo : SEnv → M D} {f : SEnv → M (List D)} (hu : X.A.units + 1 < cLine) (ho : DE X o to fo) (hi : DA X es t f)
    (ha : ∀ v, assign (.Subscript o (.Tuple es x1 p2) pos) X.env v = (do
      let ov ← holding [v] (eval o X.env)
      let iv ← holding [v, ov] (eval (.Tuple es x1 p2) X.env)
      standAt pos
      holding [v, ov, iv] (setItem ov iv v)
      release [v, ov, iv] []) := by intro _; rfl) : DG X (.Subscript o (.Tuple es x1 p2) pos) [] (gSub to (tTup t) rSetD) (gSubT fo f) := ⟨pg_sub ho.pe (pe_tup hi.pa) (set_dict hu) ha, fun m S H env σ d v rl re rv env' S' h Q q => by
  obtain ⟨b, S1, e1, h1⟩ := bnd_some h
  obtain ⟨ds, S2, e2, h2⟩ := bnd_some h1
  obtain ⟨_, S3, e3, h3⟩ := bnd_some h2
  cases h3
  unfold setT at e3
  split at e3
  · rename_i hl
    split at e3
    · rename_i ks i hks
      split at e3
      · split at e3
        · rename_i kvs e c
          cases e3
          refine ho.se rl re _ S1 e1 _ fun m1 H1 x rl1 x1 ra => ?_
          refine hi.sa rl1 (re.mono rl x1) ds S2 e2 _ fun m2 H2 vs rl2 x2 rvs => ⟨by rw [← rvs.length]; exact Nat.le_trans hl (by decide), fun p hp => ?_⟩
          obtain ⟨a1, a2, a3⟩ := rl2.tup hp rvs
          have xx := (x1.trans x2).trans a2
          have ra2 := ra.mono rl1 (x2.trans a2)
          obtain ⟨pa, us, rfl, hm, hd, hk, hv⟩ := a1.dTm e ra2
          have hpk : upd H2 p (.tup vs) p = some (.tup (ks.map kV)) := by rw [← keysOf_rep rvs hks]; exact upd_same
          have hlen : us.length = kvs.length := by rw [← List.length_map (f := (·.1)), hk, List.length_map]
          have hput : putK us ks v = us ++ [(ks, v)] := by
            unfold putK
            rw [valV_any, hasT_val hk, c.1]
            rfl
          have rv3 := rv.mono rl xx
          have ho2 : RepO X.K m2 (upd H2 p (.tup vs)) (.dT (kvs ++ [(ks, d)])) (.dT (us ++ [(ks, v)])) := .dT (by rw [List.map_append, List.map_append, hk]; rfl) (by rw [List.map_append, List.map_append]; exact hv.snoc rv3)
          obtain ⟨b1, b2⟩ := a1.set hm ho2
          refine ⟨pa, _, rfl, DPut.t hd hpk (by rw [hlen]; exact c.2), ?_⟩
          rw [hput]
          exact q m2 _ σ b1 (xx.trans b2) (re.mono rl (xx.trans b2)) .refl
        · cases e3
      · cases e3
    · cases e3
  · cases e3⟩
end
end TS
set_option Elab.async false
set_option linter.all false
set_option maxRecDepth 100000
namespace TS
open PySem PySem.Spec PyProof.Rows L2
section
variable {env : SEnv} {S : Store} {Q : D → Store → Prop}
theorem w_eInT {f : SEnv → M (List D)} {fb : SEnv → M D} : wp (eInT f fb env) S Q ↔ wp (f env) S fun ds S1 => wp (fb env) S1 fun b S2 => wp (inT ds b) S2 Q := by
  unfold eInT
  rw [wp_bnd]
  constructor
  · exact fun h => h.mono fun ds S1 h => wp_bnd.mp h
  · exact fun h => h.mono fun ds S1 h => wp_bnd.mpr h
theorem w_eDictT : wp (eDictT env) S Q ↔ Q (.ref S.length) (S ++ [.dT []]) := wp_some rfl
theorem w_inT {ds : List D} {ks : List Key} {i : Nat} {kvs : List (List Key × D)} (hl : ds.length ≤ 1000) (hk : keysOf ds = some ks) (h : S[i]? = some (.dT kvs)) : wp (inT ds (.ref i)) S Q ↔ Q (.bl (hasT kvs ks)) S :=
  wp_some (by unfold inT; rw [if_pos hl, hk]; simp only [h])
theorem w_gSubT {d : D} {fo : SEnv → M D} {f : SEnv → M (List D)} {QE : SEnv → Store → Prop} : wp (gSubT fo f d env) S QE ↔ wp (fo env) S fun o S1 => wp (f env) S1 fun ds S2 => wp (setT o ds d) S2 fun _ S3 => QE env S3 := by
  unfold gSubT
  rw [wp_bnd]
  constructor
  · exact fun h => h.mono fun o S1 h => (wp_bnd.mp h).mono fun ds S2 h => (wp_bnd.mp h).mono fun _ S3 h => wp_ret.mp h
  · exact fun h => h.mono fun o S1 h => wp_bnd.mpr (h.mono fun ds S2 h => wp_bnd.mpr (h.mono fun _ S3 h => wp_ret.mpr h))
theorem w_setT {ds : List D} {ks : List Key} {i : Nat} {d : D} {kvs : List (List Key × D)} {QU : Unit → Store → Prop} (hl : ds.length ≤ 1000) (hk : keysOf ds = some ks) (h : S[i]? = some (.dT kvs)) (hn : hasT kvs ks = false) (hz : kvs.length < sizeLine) : wp (setT (.ref i) ds d) S QU ↔ QU () (S.set i (.dT (kvs ++ [(ks, d)]))) :=
  wp_some (by unfold setT; rw [if_pos hl, hk]; simp only [h]; rw [if_pos ⟨hn, hz⟩])
end
end TS
set_option Elab.async false
set_option linter.all false
set_option maxRecDepth 100000
set_option maxHeartbeats 2000000
namespace TS
open PySem PySem.Spec PyProof.Rows L2
section
variable {X : Cx}
/-! ### ord of one sign -/
def nOrd : List D → M D
  | [.str x] => fun S => if x.length = 1 then some (.int (x.cps.getD 0 0 : Nat), S) else none
  | _ => fail
theorem c_ord : DC X (.builtin "ord") (fun xs H Q => ∃ x, xs = [.str x] ∧ x.length = 1 ∧ Q (.int (x.cps.getD 0 0 : Nat)) H) nOrd := ⟨call_ord, fun m S H xs as rl ra d S' h Q q => by
  unfold nOrd at h
  split at h
  · split at h
    · cases h
      rename_i c
      obtain ⟨v, rfl, rv⟩ := ra.one
      cases rv
      exact ⟨_, rfl, c, q m H _ rl .refl (.int _)⟩
    · cases h
  · cases h⟩
/-! ### all kinds of a * b: great integers, a text so many times, lists, tuples -/
def rMulS : R2 := fun x y H Q => ∃ (z : Str) (n : Int), x = .str z ∧ y = .int n ∧ 0 ≤ n ∧ n ≤ 1000 ∧ z.length ≤ 1000 ∧ Q (.str (Txt.mul z n)) H
theorem op_mulS : OpR X (binaryOp .Mult) rMulS := by
  intro pins s σ H x y v u Q I rx ry h
  obtain ⟨z, n, rfl, rfl, h0, h1, h2, q⟩ := h
  obtain ⟨t, rfl⟩ := rx
  obtain ⟨t', rfl⟩ := ry
  exact SB.mul (mulOk_of 1000 1000 h2 (by omega) (by omega) (by decide) (by decide)) fun t2 k => ⟨.str (Txt.mul z n), H, I.tok _, ⟨t2, rfl⟩, q⟩
def wideI (i j : Int) : Bool := decide (i.natAbs.log2 + j.natAbs.log2 < 1000000)
def mulX (a b : D) : M D := fun S => match a, b with
  | .int i, .int j => if smallI i = true ∨ smallI j = true ∨ wideI i j = true then some (.int (i * j), S) else none
  | .str z, .int n => if 0 ≤ n ∧ n ≤ 1000 ∧ z.length ≤ 1000 then some (.str (Txt.mul z n), S) else none
  | .tup (x :: xs), .int 0 => some (.tup [], S)
  | a, b => mulL a b S
def rMulX (K : PySem.W.Frag) : R2 := fun x y H Q => rI CMulW (fun i j => .int (i * j)) x y H Q ∨ rMulS x y H Q ∨ rZero K x y H Q ∨ rRep x y H Q ∨ rMulU K x y H Q
theorem o_mulX : DO2 X (binaryOp .Mult) (rMulX X.K) mulX := ⟨op_mulW.or (op_mulS.or (op_zero.or (op_rep.or (o_mulU (X := X)).op))), fun m S H x y a b rl ra rb d S' h Q q => by
  unfold mulX at h
  split at h
  · split at h
    · cases h
      rename_i i j c
      rcases c with c | c | c
      · exact .inr (.inr (.inr ((o_mulL (X := X)).sr rl ra rb _ _ (show mulL (.int i) (.int j) S = some (.int (i * j), S) by
          show (if smallI i = true ∨ smallI j = true then some (D.int (i * j), S) else none) = _
          rw [if_pos (.inl c)]) Q q)))
      · exact .inr (.inr (.inr ((o_mulL (X := X)).sr rl ra rb _ _ (show mulL (.int i) (.int j) S = some (.int (i * j), S) by
          show (if smallI i = true ∨ smallI j = true then some (D.int (i * j), S) else none) = _
          rw [if_pos (.inr c)]) Q q)))
      · cases ra
        cases rb
        exact .inl ⟨_, _, rfl, rfl, (show i.natAbs.log2 + j.natAbs.log2 < 1000000 by unfold wideI at c; exact of_decide_eq_true c), q m H _ rl .refl (.int _)⟩
    · cases h
  · split at h
    · cases h
      rename_i c
      cases ra
      cases rb
      exact .inr (.inl ⟨_, _, rfl, rfl, c.1, c.2.1, c.2.2, q m H _ rl .refl (.str _)⟩)
    · cases h
  · cases h
    cases rb
    cases ra with
    | tup h1 h2 =>
      refine .inr (.inr (.inl ⟨_, _, rfl, rfl, h1, fun e => ?_, fun p hp => ?_⟩))
      · have := h2.length
        rw [e] at this
        cases this
      · obtain ⟨r1, x1, y1⟩ := rl.tup (ds := []) (vs := []) hp .nil
        exact q _ _ _ r1 x1 y1
  · exact .inr (.inr (.inr ((o_mulL (X := X)).sr rl ra rb d S' h Q q)))⟩
theorem k_mulX (K : PySem.W.Frag) (hK : X.K = K) : DO2 X (binaryOp .Mult) (rMulX K) mulX := by subst hK; exact o_mulX
end
theorem binds_nil {K : PySem.W.Frag} {fd : FuncData} {ps : List Str} {ds : List Value} (r : Vals [] ds) (b : Binds K fd ps ds) : Binds K fd ps [] := by
  cases r
  exact b
end TS
set_option Elab.async false
set_option linter.all false
set_option maxRecDepth 100000
set_option maxHeartbeats 2000000
namespace TS
open PySem PySem.Spec PyProof.Rows L2
section
variable {prog : Program} {w : World} {A : Around} {E : Value → Shared → Prop} {s : Shared}
/-- a list takes in what a tuple holds -/
theorem ext_run {l b : Addr} {o1 o2 : Obj} {xs ys : Array Value} {n m : Nat} (h1 : s.heap.get? l = some o1) (d1 : o1.data = .seq xs n) (h2 : s.heap.get? b = some o2) (c2 : o2.cls = .type "tuple") (d2 : o2.data = .seq ys m) (fit : xs.size + ys.size ≤ sizeLine) :
    wpAny (model prog w) A (Builtin.List.listExtendWith (.ref l) (.ref b) .none) (fun fin s1 => fin = .done (.ret .none) ∧ s1 = { s with heap := s.heap.update l (Obj.mapSeq (· ++ ys)) }) E s := by
  have room : (!xs.isEmpty && Builtin.List.listTooLong (xs.size + ys.size)) = false := by
    rw [show Builtin.List.listTooLong (xs.size + ys.size) = false from decide_eq_false (Nat.not_lt.mpr fit), Bool.and_false]
  unfold Builtin.List.listExtendWith
  refine wpAny_bind (wpAny_typeOf ⟨o2, h2, c2⟩ ?_)
  rw [if_pos (by rw [Bool.or_eq_true]; exact .inr (by decide))]
  refine wpAny_bind (wpAny_listItems h2 d2 (wpAny_bind (wpAny_listItems h1 d1 ?_)))
  rw [if_neg (by rw [room]; exact Bool.false_ne_true)]
  exact wpAny_bind (wpAny_updateSeq h1 d1 (wpAny_bind (wpAny_pure (wpAny_pure ⟨rfl, rfl⟩))) (by omega) (by show (xs ++ ys).size ≤ _; rw [Array.size_append]; omega))
end
section
variable {X : Cx} {K : PySem.W.Frag}
def rExtT (K : PySem.W.Frag) : V → List V → Hp → VK → Prop := fun x vs H Q => ∃ l b xs zs, x = .ref l ∧ vs = [.ref b] ∧ H l = some (.lst xs) ∧ SqT K H b zs ∧ xs.length + zs.length ≤ sizeLine ∧ Q .non (upd H l (.lst (xs ++ zs)))
theorem mt_extT : MtM X "list.extend" (rExtT X.K) := by
  intro pins s σ H x vs v us Q I rx rv h
  obtain ⟨l, b, xs, zs, rfl, rfl, hH, hB, hz, q⟩ := h
  cases rx
  obtain ⟨u, rfl, ru⟩ := rv.one
  cases ru
  have isL := I.lstM hH
  have isT := I.tuple hB
  obtain ⟨_, its, n, r, _, e⟩ := isL
  obtain ⟨its2, r2, ⟨o2, ho, hc, n2, hd⟩, _⟩ := isT
  have fit : its.toArray.size + its2.toArray.size ≤ sizeLine := by
    have := r.length
    have := r2.length
    simp only [List.size_toArray]
    omega
  refine wpAny_call_entry F.slot_list_extend ⟨_, e, rfl⟩ F.entry_list_extend ?_ (F.args_list_extend_2 _ _)
  show wpAny _ _ (Builtin.List.listExtendWith (.ref l) (.ref b) .none) _ _ _
  refine wpAny_mono (ext_run e rfl ho hc hd fit) (fun fin s1 h1 => ?_) fun _ _ x => x
  obtain ⟨rfl, rfl⟩ := h1
  refine ⟨_, rfl, .non, _, I.lset (its' := its ++ its2) hH e (by simp) (r.append r2) ?_, rfl, q⟩
  rw [List.length_append]
  exact hz
def mExtendU (a : D) (as : List D) : M D := fun S => match a, as with
  | .ref i, [.tup ys] => match S[i]? with
    | some (.lst xs) => if xs.length + ys.length ≤ sizeLine then some (.non, S.set i (.lst (xs ++ ys))) else none
    | _ => none
  | a, as => mExtend a as S
theorem m_extendU : DM X "list" "list.extend" (fun x vs H Q => rExtT X.K x vs H Q ∨ rExtend x vs H Q) mExtendU := ⟨fun pins s σ H x vs v us Q I rx rv h => h.elim (fun h => mt_extT pins s σ H x vs v us Q I rx rv h) (fun h => mt_extend pins s σ H x vs v us Q I rx rv h), fun m S H x a xs as rl ra ras d S' h Q q => by
  unfold mExtendU at h
  split at h
  · split at h
    · split at h
      · cases h
        rename_i e c
        obtain ⟨v, rfl, rv⟩ := ras.one
        obtain ⟨p, vs, rfl, hp, h2, h3⟩ := rl.sqL e ra
        cases rv with
        | tup g1 g2 =>
          obtain ⟨a1, a2⟩ := rl.set hp (.lst (h3.append g2))
          exact .inl ⟨p, _, vs, _, rfl, rfl, h2, g1, by rw [← h3.length, ← g2.length]; exact c, q m _ _ a1 a2 .non⟩
      · cases h
    · cases h
  · exact .inr ((m_extend (X := X)).sr rl ra ras d S' h Q q)⟩
/-! ### xs.index(y), flat items -/
def idxF (a : D) : List D → Option Nat
  | [] => none
  | x :: r => if eqF x a = true then some 0 else (idxF a r).map (· + 1)
theorem idxF_some {a : D} : ∀ {xs : List D} {j : Nat}, idxF a xs = some j → (∃ z, xs[j]? = some z ∧ eqF z a = true) ∧ ∀ (m : Nat) z', m < j → xs[m]? = some z' → eqF z' a = false
  | [], _, h => by cases h
  | x :: r, j, h => by
    unfold idxF at h
    by_cases c : eqF x a = true
    · rw [if_pos c] at h
      cases h
      exact ⟨⟨x, rfl, c⟩, fun m _ hm => absurd hm (Nat.not_lt_zero m)⟩
    · rw [if_neg c] at h
      obtain ⟨k, hk, rfl⟩ := Option.map_eq_some_iff.mp h
      obtain ⟨⟨z, h1, h2⟩, h3⟩ := idxF_some hk
      refine ⟨⟨z, h1, h2⟩, fun m z' hm hz => ?_⟩
      cases m with
      | zero =>
        rw [List.getElem?_cons_zero] at hz
        cases hz
        exact Bool.eq_false_iff.mpr c
      | succ m => exact h3 m z' (by omega) (by rw [List.getElem?_cons_succ] at hz; exact hz)
def mIndexL (a : D) (as : List D) : M D := fun S => match a, as with
  | .ref i, [d] => match S[i]? with
    | some (.lst xs) => if flatD d = true ∧ xs.all flatD = true then match idxF d xs with
      | some j => some (.int (j : Nat), S)
      | none => none
      else none
    | _ => none
  | _, _ => none
theorem m_indexL : DM X "list" "list.index" (rIndex X.K) mIndexL := ⟨mt_index, fun m S H x a xs as rl ra ras d S' h Q q => by
  unfold mIndexL at h
  split at h
  · split at h
    · rename_i xs0 e
      split at h
      · rename_i c
        split at h
        · rename_i j hj
          cases h
          obtain ⟨v, rfl, rv⟩ := ras.one
          obtain ⟨p, vs, rfl, hp, h2, h3⟩ := rl.sqL e ra
          obtain ⟨⟨z, z1, z2⟩, z3⟩ := idxF_some hj
          obtain ⟨w, w1, w2⟩ := h3.get z1
          refine ⟨p, vs, v, j, w, rfl, rfl, .inl (.inl h2), flat_rep rv c.1, flat_reps h3 c.2, w1, ?_, fun m0 w' hm hw => ?_, q m H _ rl .refl (.int _)⟩
          · rw [eqF_rep w2 rv (List.all_eq_true.mp c.2 z (List.mem_of_getElem? z1)) c.1]
            exact z2
          · have hml : m0 < xs0.length := by
              rw [h3.length]
              exact (List.getElem?_eq_some_iff.mp hw).1
            obtain ⟨w2', g1, g2⟩ := h3.get (List.getElem?_eq_getElem hml)
            rw [hw] at g1
            cases g1
            rw [eqF_rep g2 rv (List.all_eq_true.mp c.2 _ (List.getElem_mem hml)) c.1]
            exact z3 m0 _ hm (List.getElem?_eq_getElem hml)
        · cases h
      · cases h
    · cases h
  · cases h⟩
end
end TS
set_option Elab.async false
set_option linter.all false
set_option maxRecDepth 100000
set_option maxHeartbeats 2000000
namespace TS
open PySem PySem.Spec PyProof.Rows L2
/-! ### x[::-1] of a tuple, besides texts and lists -/
section
open HT
variable {prog : Program} {w : World} {A : Around} {E : Value → Shared → Prop} {s : Shared}
theorem sliceApplied_rev {sl : Addr} {vs : Value} {n : Nat} {Q : Int × Int × Nat → Shared → Prop} (hs : s.heap.IsSliceOf sl .none .none vs) (pst : IsPart vs (some (-1)))
    (h : Q ((n : Int) - 1, -1, n) s) : wpAny (model prog w) A (Builtin.Slice.sliceApplied (.ref sl) (pure (n : Int))) Q E s := by
  obtain ⟨os, hos, hcs, hds⟩ := id hs
  unfold Builtin.Slice.sliceApplied Builtin.Slice.sliceFields
  refine wpAny_bind (wpAny_bind (wpAny_field hos hds (x := .none) rfl (wpAny_bind (wpAny_field hos hds (x := .none) rfl (wpAny_bind (wpAny_field hos hds (x := vs) rfl (wpAny_pure ?_)))))))
  refine wpAny_bind (slicePart_ pst ?_)
  show wpAny _ _ (if ((-1 : Int) == 0) = true then _ else _) _ _ s
  rw [if_neg (by decide)]
  refine wpAny_bind (slicePart_none (wpAny_bind (slicePart_none (wpAny_bind (wpAny_pure ?_)))))
  show wpAny _ _ (pure ((n : Int) - 1, (-1 : Int), Builtin.Slice.slicePlaces ((n : Int) - 1) (-1) (-1))) _ _ s
  have e : Builtin.Slice.slicePlaces ((n : Int) - 1) (-1) (-1) = n := by
    unfold Builtin.Slice.slicePlaces
    rw [if_neg (by decide)]
    split
    · rw [show -(-1 : Int) = 1 by decide, Int.ediv_one]
      omega
    · have : n = 0 := by omega
      rw [this]
      rfl
  rw [e]
  exact wpAny_pure h
theorem range_rev (n : Nat) : (List.range n).map (fun m => n - 1 - m) = (List.range n).reverse := by
  refine List.ext_getElem (by simp) fun i h1 h2 => ?_
  simp
theorem pick_rev (xs : Array Value) : ((List.range xs.size).filterMap fun (m : Nat) => xs[((xs.size : Int) - 1 + (m : Int) * (-1)).toNat]?) = xs.toList.reverse := by
  have e : ∀ l : List Nat, (∀ m ∈ l, m < xs.size) → (l.filterMap fun (m : Nat) => xs[((xs.size : Int) - 1 + (m : Int) * (-1)).toNat]?) = (l.map fun m => xs.size - 1 - m).filterMap (xs[·]?) := by
    intro l
    induction l with
    | nil => intro _; rfl
    | cons m r ih =>
      intro h
      have h1 := h m (List.mem_cons_self ..)
      have e1 : ((xs.size : Int) - 1 + (m : Int) * (-1)).toNat = xs.size - 1 - m := by omega
      rw [List.map_cons, List.filterMap_cons, List.filterMap_cons, ih fun y hy => h y (List.mem_cons_of_mem _ hy), e1]
  rw [e _ fun m hm => List.mem_range.mp hm, range_rev, List.filterMap_reverse, PySem.W.krv_all]
/-- what tuple.__getitem__ gives for a slice that turns -/
theorem tuple_turned {t sl : Addr} {items : Array Value} {vs : Value} {Q : Value → Shared → Prop} (ht : IsTup s.heap t items) (hs : s.heap.IsSliceOf sl .none .none vs) (pst : IsPart vs (some (-1)))
    (h : Q (.ref s.heap.objs.size) { s with heap := s.heap.push { cls := .type "tuple", data := .seq items.toList.reverse.toArray } })
    (hsz : items.size ≤ sizeLine) : wpAny (model prog w) A (Builtin.«tuple.__getitem__» ⟨[.ref t, .ref sl], []⟩) (fun fin s' => ∃ v, fin = .done (.ret v) ∧ Q v s') E s := by
  have isSlice : s.TypeIs (.ref sl) "slice" := let ⟨o, h1, h2, _⟩ := hs; ⟨o, h1, h2⟩
  have small : sizeOk (.seq items.toList.reverse.toArray) := by
    show items.toList.reverse.toArray.size ≤ sizeLine
    simpa using hsz
  have whole : ((((items.size : Int) - 1) == 0 && (-1 : Int) == 1 && items.size == items.size) = true) = False := by
    rw [show ((-1 : Int) == 1) = false from rfl, Bool.and_false, Bool.false_and]
    exact eq_false Bool.false_ne_true
  have made : wpAny (model prog w) A (Builtin.Tuple.tupleExact items.toList.reverse.toArray) Q E s := wpAny_newObj_type h small
  have run : wpAny (model prog w) A (Builtin.Tuple.tupleItemsOf (.ref t)) (fun xs s1 => xs = items ∧ s1 = s) E s := tupleItemsOf_ ht ⟨rfl, rfl⟩
  have kind : wpAny (model prog w) A (typeOf (.ref sl)) (fun c s1 => c = .type "slice" ∧ s1 = s) E s := wpAny_typeOf isSlice ⟨rfl, rfl⟩
  have parts : wpAny (model prog w) A (Builtin.Slice.sliceApplied (.ref sl) (pure (items.size : Int))) (fun q s1 => q = ((items.size : Int) - 1, -1, items.size) ∧ s1 = s) E s := sliceApplied_rev hs pst ⟨rfl, rfl⟩
  refine wpAny_bind (m := Builtin.Tuple.tupleItemsOf (.ref t)) (wpAny_mono run (fun xs s1 h1 => ?_) fun _ _ x => x)
  obtain ⟨rfl, rfl⟩ := h1
  refine wpAny_bind (wpAny_mono kind (fun c s1 h1 => ?_) fun _ _ x => x)
  obtain ⟨rfl, rfl⟩ := h1
  rw [if_pos (show ((Value.type "slice" == Value.type "slice") = true) by decide)]
  refine wpAny_bind (wpAny_mono parts (fun q s1 h1 => ?_) fun _ _ x => x)
  obtain ⟨rfl, rfl⟩ := h1
  dsimp only
  rw [if_neg (by rw [whole]; exact id), pick_rev]
  exact wpAny_bind (wpAny_mono made (fun v s2 hq => wpAny_pure ⟨v, rfl, hq⟩) fun _ _ x => x)
theorem getItem_tuple_rev {t sl : Addr} {items : Array Value} {vs : Value} {Q : Value → Shared → Prop} (ht : IsTup s.heap t items) (hs : s.heap.IsSliceOf sl .none .none vs) (pst : IsPart vs (some (-1)))
    (h : Q (.ref s.heap.objs.size) { s with heap := s.heap.push { cls := .type "tuple", data := .seq items.toList.reverse.toArray } })
    (hsz : items.size ≤ sizeLine) : wpAny (model prog w) A (getItem (.ref t) (.ref sl)) Q E s := by
  exact wpAny_getItem_slot ht.typeIs (by decide) PyProof.Rows.slot_tuple_getitem (wpAny_call_entry PyProof.Rows.slot_tuple_getitem ht.typeIs entry_tuple_getitem (tuple_turned ht hs pst h hsz) (args_tuple_getitem _ _))
end
section
variable {X : Cx} {e : Expr} {te : TE} {f : SEnv → M D} {k : Nat} {p1 p2 p3 pos : Pos}
def tRevV (K : PySem.W.Frag) (te : TE) : TE := fun σ H Q => te σ H fun x H1 => ((∃ z : Str, x = .str z ∧ z.length ≤ sizeLine ∧ Q (.str (turnS z)) H1) ∨ (∃ a xs, x = .ref a ∧ SqL K H1 a xs ∧ ∀ p, H1 p = none → Q (.ref p) (upd H1 p (.lst xs.reverse)))) ∨ (∃ a xs, x = .ref a ∧ SqT K H1 a xs ∧ ∀ p, H1 p = none → Q (.ref p) (upd H1 p (.tup xs.reverse)))
theorem pe_revV (he : PE X e te) : PE X (.Subscript e (.Slice none none (some (.UnaryOp .USub (.Constant (.int 1) k p1) p2)) p3) pos) (tRevV X.K te) := by
  refine ⟨fun pins s σ H Q I h => ?_⟩
  refine Subscript_ (thn (he.run pins s σ H _ I h) fun v s1 ⟨x, H1, I1, r1, q1⟩ => ?_)
  have neg1 : PO X (some (.UnaryOp .USub (.Constant (.int 1) k p1) p2)) (tPart (tUn (rU fun i => .int (-i)) (tC (.int 1)))) := po_some (pe_un un_neg pe_int)
  have lo0 := fun (s2 : Shared) (G : Hp) (I2 : Inv X pins σ G s2) => (po_none (X := X)).run pins s2 σ G (fun o G2 => o = none ∧ G2 = G) I2 ⟨rfl, rfl⟩
  refine wpAny_Slice (thn (lo0 s1 H1 I1) fun v1 s2 ⟨o1, G1, J1, a1, b1, c1⟩ => ?_)
  subst b1 c1
  refine thn (lo0 s2 G1 J1) fun v2 s3 ⟨o2, G2, J2, a2, b2, c2⟩ => ?_
  subst b2 c2
  refine thn (neg1.run pins s3 σ G2 (fun o G => o = some (-1) ∧ G = G2) J2 ⟨1, rfl, -1, rfl, rfl, rfl⟩) fun v3 s4 ⟨o3, G3, J3, a3, b3, c3⟩ => ?_
  subst b3 c3
  rcases q1 with q1 | q1
  ·
    rcases q1 with ⟨z, rfl, hz, q⟩ | ⟨a, xs, rfl, hx, q⟩
    · obtain ⟨t, rfl⟩ := r1
      cases a1
      cases a2
      cases a3
      rename_i tk _
      refine tail_any (ops := [.ref s4.heap.objs.size, .str z t]) (typeIs_str _ z t) PySem.F.slot_str_getitem.lookup (wpAny_getItem_str_slice (l := none) (u := none) (st := some (-1, tk)) ⟨_, Heap.get?_push_size _ rfl, rfl, rfl⟩ rfl ?_) (by with_unfolding_all rfl)
      have e : sliceMade z t none none (some (-1, tk)) = .str (turnS z) := by
        unfold sliceMade
        rw [if_neg (by simp)]
        unfold turnS slicePicked
        show Made.str ⟨((Builtin.Str.strSliceIndices none none (-1) z.length).filterMap (z.cps[·]?)).toArray⟩ = _
        have e2 : Builtin.Str.strSliceIndices none none (-1) z.length = (List.range z.length).reverse := by
          rw [← PySem.W.krv_range, ← PySem.W.krv_sliceRange]
          rfl
        rw [e2, List.filterMap_reverse, show z.length = z.cps.size from rfl, PySem.W.krv_all]
      rw [e]
      exact ⟨by unfold turnS; simpa [Str.length] using hz, .str (turnS z), G3, (J3.kept (t' := s4.toks) fun b ob q => Heap.get?_push_of_some _ q).tok _, ⟨_, rfl⟩, q⟩
    · cases r1
      have J4 : Inv X pins σ G3 { s4 with heap := s4.heap.push { cls := .type "slice", data := .fields #[v1, v2, v3] } } := J3.kept (t' := s4.toks) fun b ob q => Heap.get?_push_of_some _ q
      obtain ⟨us, rv, pl, hz⟩ := J4.list hx
      have hl := rv.length
      refine tail_any (ops := [.ref a, .ref s4.heap.objs.size]) pl.isList.typeIs PySem.slot_list_getitem.lookup (wpAny_getItem_list_slice pl.isList (Heap.IsSliceOf.new _ v1 v2 v3) a1 a2 a3 (by decide) ?_ (by rw [List.size_toArray]; omega)) (by with_unfolding_all rfl)
      rw [PySem.W.krv_pick]
      exact ⟨.ref _, _, J4.laid (t' := s4.toks) (o := .lst xs.reverse) (fun b ob q => Heap.get?_push_of_some _ q) (Nat.le_refl _) ⟨by rw [List.length_reverse]; exact hz, _, 0, rv.reverse, Heap.get?_push_size _ rfl⟩, rfl, q _ (J4.hok.fresh (Nat.le_refl _))⟩
  ·
    obtain ⟨a, xs, rfl, hx, q⟩ := q1
    cases r1
    have J4 : Inv X pins σ G3 { s4 with heap := s4.heap.push { cls := .type "slice", data := .fields #[v1, v2, v3] } } := J3.kept (t' := s4.toks) fun b ob q => Heap.get?_push_of_some _ q
    obtain ⟨us, rv, it, hz⟩ := J4.tuple hx
    have hl := rv.length
    cases a1
    cases a2
    refine tail_any (ops := [.ref a, .ref s4.heap.objs.size]) it.typeIs PyProof.Rows.slot_tuple_getitem.lookup (getItem_tuple_rev it (Heap.IsSliceOf.new _ .none .none v3) a3 ?_ (by rw [List.size_toArray]; omega)) (by with_unfolding_all rfl)
    exact ⟨.ref _, _, J4.laid (t' := s4.toks) (o := .tup xs.reverse) (fun b ob q => Heap.get?_push_of_some _ q) (Nat.le_refl _) ⟨by rw [List.length_reverse]; omega, _, rv.reverse, IsTup.new _ _⟩, rfl, q _ (J4.hok.fresh (Nat.le_refl _))⟩
def revVM (d : D) : M D := fun S => match d with
  | .tup xs => some (.tup xs.reverse, S)
  | d => revUM d S
def eRevV (f : SEnv → M D) : SEnv → M D := fun env => bnd (f env) revVM
theorem dk_revV (K : PySem.W.Frag) (hK : X.K = K) (he : DE X e te f) : DE X (.Subscript e (.Slice none none (some (.UnaryOp .USub (.Constant (.int 1) k p1) p2)) p3) pos) (tRevV K te) (eRevV f) := by
  subst hK
  refine ⟨pe_revV he.pe, fun m S H env σ rl re d S' h Q q => ?_⟩
  obtain ⟨a, S1, h1, h2⟩ := bnd_some h
  refine he.se rl re a S1 h1 _ fun m1 H1 v rl1 e1 rv => ?_
  unfold revVM at h2
  split at h2
  · cases h2
    cases rv with
    | tup g1 g2 =>
      refine .inr ⟨_, _, rfl, g1, fun p hp => ?_⟩
      obtain ⟨a1, a2, a3⟩ := rl1.tup hp g2.turn
      exact q _ _ _ a1 (e1.trans a2) a3
  · left
    unfold revUM at h2
    split at h2
    · split at h2
      · cases h2
        cases rv
        exact .inl ⟨_, rfl, by assumption, q m1 H1 _ rl1 e1 (.str _)⟩
      · cases h2
    · split at h2
      · cases h2
        rename_i hx
        obtain ⟨p, vs, rfl, hp, h3, h4⟩ := rl1.sqL hx rv
        refine .inr ⟨p, vs, rfl, .inl (.inl h3), fun p2 hp2 => ?_⟩
        obtain ⟨a1, a2, a3⟩ := rl1.new hp2 (.lst h4.turn)
        exact q _ _ _ a1 (e1.trans a2) a3
      · cases h2
    · cases h2
end
end TS
set_option Elab.async false
set_option linter.all false
set_option maxRecDepth 100000
namespace TS
open PySem PySem.Spec PyProof.Rows L2
section
variable {S : Store} {Q : D → Store → Prop}
theorem w_mulX {i j : Int} : wp (mulX (.int i) (.int j)) S Q ↔ (smallI i = true ∨ smallI j = true ∨ wideI i j = true) ∧ Q (.int (i * j)) S := by
  constructor
  · rintro ⟨a, S', h, q⟩
    unfold mulX at h
    simp only at h
    split at h
    · cases h; exact ⟨by assumption, q⟩
    · cases h
  · exact fun ⟨h, q⟩ => ⟨_, S, if_pos h, q⟩
theorem w_mulXS {z : Str} {n : Int} : wp (mulX (.str z) (.int n)) S Q ↔ (0 ≤ n ∧ n ≤ 1000 ∧ z.length ≤ 1000) ∧ Q (.str (Txt.mul z n)) S := by
  constructor
  · rintro ⟨a, S', h, q⟩
    unfold mulX at h
    simp only at h
    split at h
    · cases h; exact ⟨by assumption, q⟩
    · cases h
  · exact fun ⟨h, q⟩ => ⟨_, S, if_pos h, q⟩
theorem w_ord {c : Nat} : wp (nOrd [.str ⟨#[c]⟩]) S Q ↔ Q (.int (c : Nat)) S := wp_some (by
  unfold nOrd
  exact if_pos rfl)
theorem wide_by {i j : Int} {a b : Nat} (ha : i.natAbs < 2 ^ a) (hb : j.natAbs < 2 ^ b) (h0 : 0 < a) (h1 : 0 < b) (h : a + b ≤ 1000000) : wideI i j = true := by
  have := wide_mul ha hb h0 h1 h
  unfold CMulW at this
  unfold wideI
  exact decide_eq_true this
end
end TS
set_option Elab.async false
set_option linter.all false
set_option maxRecDepth 100000
namespace TS
open PySem PySem.Spec PyProof.Rows L2
section
variable {S : Store} {Q : D → Store → Prop}
theorem x_isiSS {x : Str} : wp (nIsi [.str x, .ty "str"]) S Q ↔ Q (.bl true) S := wp_some rfl
theorem x_isiIS {i : Int} : wp (nIsi [.int i, .ty "str"]) S Q ↔ Q (.bl false) S := wp_some rfl
theorem x_isiII {i : Int} : wp (nIsi [.int i, .ty "int"]) S Q ↔ Q (.bl true) S := wp_some rfl
theorem x_isiIB {i : Int} : wp (nIsi [.int i, .ty "bool"]) S Q ↔ Q (.bl false) S := wp_some rfl
theorem x_isiTT {xs : List D} : wp (nIsi [.tup xs, .ty "tuple"]) S Q ↔ Q (.bl true) S := wp_some rfl
theorem x_isiNS : wp (nIsi [.non, .ty "str"]) S Q ↔ Q (.bl false) S := wp_some rfl
theorem x_isTN {xs : List D} : wp (isD (.tup xs) .non) S Q ↔ Q (.bl false) S := wp_some rfl
theorem x_isSN {x : Str} : wp (isD (.str x) .non) S Q ↔ Q (.bl false) S := wp_some rfl
theorem x_isIN {i : Int} : wp (isD (.int i) .non) S Q ↔ Q (.bl false) S := wp_some rfl
theorem x_notTN {xs : List D} : wp (notD (.tup xs) .non) S Q ↔ Q (.bl true) S := wp_some rfl
theorem x_notSN {x : Str} : wp (notD (.str x) .non) S Q ↔ Q (.bl true) S := wp_some rfl
theorem x_notIN {i : Int} : wp (notD (.int i) .non) S Q ↔ Q (.bl true) S := wp_some rfl
theorem x_revX {f : SEnv → M D} {env : SEnv} : wp (eRevU f env) S Q ↔ wp (f env) S fun d S1 => wp (revUM d) S1 Q := wp_bnd
theorem x_revL {r : Nat} {xs : List D} (h : S[r]? = some (.lst xs)) : wp (revUM (.ref r)) S Q ↔ Q (.ref S.length) (S ++ [.lst xs.reverse]) := wp_some (by unfold revUM; simp only [h])
theorem x_revS {z : Str} (h : z.length < 100000) : wp (revUM (.str z)) S Q ↔ Q (.str (turnS z)) S := wp_some (by unfold revUM; simp only [Nat.le_of_lt (sz_lt h), if_true])
theorem w_asBl {b : Bool} {env : SEnv} {QB : Bool → Store → Prop} : wp (asB (eC (.bl b)) env) S QB ↔ QB b S := by
  rw [w_asB, w_c]
  constructor
  · rintro ⟨c, e, q⟩
    cases e
    exact q
  · exact fun q => ⟨b, rfl, q⟩
end
theorem x_app_len (x y : Str) : (x ++ y).length = x.length + y.length := Array.size_append
theorem xglue_fold : ∀ (ys : List Str) (a : Array Nat), (⟨ys.foldl (fun acc p => acc ++ (Str.ofString "").cps ++ p.cps) a⟩ : Str) = ys.foldl (· ++ ·) ⟨a⟩
  | [], a => rfl
  | y :: r, a => by
    rw [List.foldl_cons, List.foldl_cons, xglue_fold r]
    have : a ++ (Str.ofString "").cps ++ y.cps = a ++ y.cps := by
      rw [show (Str.ofString "").cps = #[] by decide +kernel, Array.append_empty]
    rw [this]
    rfl
theorem xjoin_put (ys : List Str) : Txt.join (Str.ofString "") ys = ys.foldl (· ++ ·) ⟨#[]⟩ := by
  cases ys with
  | nil => rfl
  | cons y r =>
    have h := xglue_fold r y.cps
    show (⟨_⟩ : Str) = _
    rw [List.foldl_cons]
    refine Eq.trans h ?_
    congr 1
    show y = ⟨#[] ++ y.cps⟩
    rw [Array.empty_append]
theorem xstrsOf_map : ∀ l : List Str, strsOf (l.map .str) = some l
  | [] => rfl
  | x :: r => by show (strsOf (r.map .str)).map (x :: ·) = _; rw [xstrsOf_map r]; rfl
theorem x_join0 {r : Nat} {ys : List Str} {S : Store} {Q : D → Store → Prop} (h : S[r]? = some (.lst (ys.map .str))) (hb : (ys.map (·.length)).sum ≤ 16777216) : wp (mJoin (.str (Str.ofString "")) [.ref r]) S Q ↔ Q (.str (ys.foldl (· ++ ·) ⟨#[]⟩)) S :=
  wp_some (by
    unfold mJoin seqOf
    simp only [h, xstrsOf_map]
    rw [if_pos (by rw [show (Str.ofString "").length = 0 by decide +kernel]; omega), xjoin_put])
theorem x_emp : (Str.ofString "") = (⟨#[]⟩ : Str) := by decide +kernel
theorem xfold_list : ∀ (ys : List Str) (a : Str), (ys.foldl (· ++ ·) a).cps.toList = a.cps.toList ++ (ys.map fun y => y.cps.toList).flatten
  | [], a => by simp
  | y :: r, a => by
    rw [List.foldl_cons, xfold_list r, List.map_cons, List.flatten_cons, ← List.append_assoc]
    congr 1
    exact Array.toList_append
/-- signs put together -/
theorem x_joinCs {r : Nat} {ds : List D} {S : Store} {Q : D → Store → Prop} (P : Nat → Prop) (h : S[r]? = some (.lst ds)) (hds : ∀ d ∈ ds, ∃ c, P c ∧ d = .str ⟨#[c]⟩) (hl : ds.length ≤ 1000000) (k : ∀ z : Str, z.length = ds.length → (∀ c ∈ z.cps.toList, P c) → Q (.str z) S) : wp (mJoin (.str (Str.ofString "")) [.ref r]) S Q := by
  have key : ∀ l : List D, (∀ d ∈ l, ∃ c, P c ∧ d = .str ⟨#[c]⟩) → ∃ cs : List Nat, (∀ c ∈ cs, P c) ∧ l = (cs.map fun c => (⟨#[c]⟩ : Str)).map .str := by
    intro l
    induction l with
    | nil => exact fun _ => ⟨[], (fun _ h => nomatch h), rfl⟩
    | cons d l ih =>
      intro hx
      obtain ⟨c, hc, rfl⟩ := hx d (List.mem_cons_self ..)
      obtain ⟨cs, h1, rfl⟩ := ih fun d hd => hx d (List.mem_cons_of_mem _ hd)
      refine ⟨c :: cs, fun x hx => ?_, rfl⟩
      rcases List.mem_cons.mp hx with rfl | hx
      · exact hc
      · exact h1 x hx
  obtain ⟨cs, hc, rfl⟩ := key ds hds
  rw [List.length_map, List.length_map] at hl
  have hsum : ∀ l : List Nat, ((l.map fun c => (⟨#[c]⟩ : Str)).map (·.length)).sum = l.length := by
    intro l
    induction l with
    | nil => rfl
    | cons c l ih =>
      rw [List.map_cons, List.map_cons, List.sum_cons, ih, List.length_cons]
      show 1 + l.length = _
      omega
  have hflat : ∀ l : List Nat, ((l.map fun c => (⟨#[c]⟩ : Str)).map fun y => y.cps.toList).flatten = l := by
    intro l
    induction l with
    | nil => rfl
    | cons c l ih =>
      rw [List.map_cons, List.map_cons, List.flatten_cons, ih]
      rfl
  rw [x_join0 h (by rw [hsum]; omega)]
  have e := xfold_list (cs.map fun c => (⟨#[c]⟩ : Str)) (⟨#[]⟩ : Str)
  rw [hflat] at e
  have e2 : ((cs.map fun c => (⟨#[c]⟩ : Str)).foldl (· ++ ·) (⟨#[]⟩ : Str)).cps.toList = cs := e
  refine k _ ?_ fun c hc' => hc c ?_
  · rw [← len_toList, e2, List.length_map, List.length_map]
  · rw [e2] at hc'
    exact hc'
theorem x_enum {f : SEnv → M (List D)} {env : SEnv} {S : Store} {QI : List D × Gd → Store → Prop} : wp (iEnM f env) S QI ↔ wp (f env) S fun ds S1 => ∃ a p, ds = [a] ∧ srcOf S1 a = some p ∧ QI (enD p.1, p.2) S1 := by
  unfold iEnM
  rw [wp_bnd]
  constructor
  · exact fun h => h.mono fun ds S1 ⟨r, S2, e, q⟩ => by
      split at e
      · rename_i a
        dsimp only at e
        split at e
        · rename_i e1
          cases e
          exact ⟨_, _, rfl, e1, q⟩
        · cases e
      · cases e
  · exact fun h => h.mono fun ds S1 ⟨a, p, e, e1, h⟩ => by
      subst e
      exact ⟨_, S1, by show (match srcOf S1 a with | some (xs, g) => some ((enD xs, g), S1) | none => none) = _; rw [e1], h⟩

theorem x_geS1 {S : Store} {Q : D → Store → Prop} {a b : Nat} : wp (geD (.str ⟨#[a]⟩) (.str ⟨#[b]⟩)) S Q ↔ Q (.bl (!decide (a < b))) S := by
  rw [← one_lt a b]
  exact wp_some rfl
/-- a statement that always goes on, with what holds behind it -/
theorem w_cut {f R : SEnv → M (Fl × SEnv)} {env : SEnv} {S : Store} {QF : Fl × SEnv → Store → Prop} (I : SEnv → Store → Prop) (h : wp (f env) S fun r S1 => r.1 = .nx ∧ I r.2 S1) (h2 : ∀ env' S', I env' S' → wp (R env') S' QF) : wp (sSeq f R env) S QF :=
  w_seqA (h.mono fun r S1 ⟨e, i⟩ => ⟨e, h2 _ _ i⟩)
theorem w_lcF {fi : SEnv → M (List D × Gd)} {tgt : D → SEnv → M SEnv} {tt : SEnv → M Bool} {te : SEnv → M D} {vs : List Nat} {env : SEnv} {S : Store} {Q : D → Store → Prop} : wp (eLc fi tgt tt te vs env) S Q ↔ wp (fi env) S fun p S1 => wp (eLc (fun _ => ret p) tgt tt te vs env) S1 Q := by
  unfold eLc
  rw [wp_bnd]
  simp only [wp_bnd, wp_ret]
theorem x_revV {f : SEnv → M D} {env : SEnv} {S : Store} {Q : D → Store → Prop} : wp (eRevV f env) S Q ↔ wp (f env) S fun d S1 => wp (revVM d) S1 Q := wp_bnd
theorem x_revVT {xs : List D} {S : Store} {Q : D → Store → Prop} : wp (revVM (.tup xs)) S Q ↔ Q (.tup xs.reverse) S := wp_some rfl
/-- two fors in a comprehension, by a word over both turns, what is made so far, the store -/
theorem wp_lc2 {fi fi1 : SEnv → M (List D × Gd)} {tgt tgt1 : D → SEnv → M SEnv} {tt1 : SEnv → M Bool} {te : SEnv → M D} {vs us : List Nat} {env : SEnv} {S S1 : Store} {Q : D → Store → Prop} {xs : List D} {g : Gd} (src : Nat → List D) (gs : Nat → Gd)
    (h0 : fi env S = some ((xs, g), S1)) (I : Nat → Nat → List D → Store → Prop) (hI : I 0 0 [] (S1 ++ [.lst []]))
    (hk : ∀ i j acc S, I i j acc S → S[S1.length]? = some (.lst acc)) (hg : ∀ i j acc S, I i j acc S → gdOk S g) (hgs : ∀ i j acc S, i < xs.length → I i j acc S → gdOk S (gs i))
    (hl : ∀ i j acc S, I i j acc S → acc.length < sizeLine) (next : ∀ i acc S, i < xs.length → I i (src i).length acc S → I (i + 1) 0 acc S)
    (step : ∀ i x acc S, xs[i]? = some x → I i 0 acc S → wp (tgt x (wipeE env vs)) S fun env1 S2 => wp (fi1 env1) S2 fun pp S3 => pp = (src i, gs i) ∧ S3 = S ∧ ∀ j y acc S4, (src i)[j]? = some y → I i j acc S4 →
      wp (tgt1 y (wipeE env1 us)) S4 fun env2 S5 => wp (tt1 env2) S5 fun b S6 => if b = true then wp (te env2) S6 fun d S7 => S7[S1.length]? = some (.lst acc) ∧ I i (j + 1) (acc ++ [d]) (S7.set S1.length (.lst (acc ++ [d]))) else I i (j + 1) acc S6)
    (fin : ∀ acc S, I xs.length 0 acc S → Q (.ref S1.length) S) : wp (eLc2 fi tgt bYes fi1 tgt1 tt1 te vs us env) S Q := by
  unfold eLc2
  rw [wp_bnd, wp_some h0, wp_bnd, wp_some (show newLst S1 = some (S1.length, S1 ++ [.lst []]) from rfl)]
  have inn : ∀ (i : Nat) (env1 : SEnv), i < xs.length → (∀ j y acc S4, (src i)[j]? = some y → I i j acc S4 →
      wp (tgt1 y (wipeE env1 us)) S4 fun env2 S5 => wp (tt1 env2) S5 fun b S6 => if b = true then wp (te env2) S6 fun d S7 => S7[S1.length]? = some (.lst acc) ∧ I i (j + 1) (acc ++ [d]) (S7.set S1.length (.lst (acc ++ [d]))) else I i (j + 1) acc S6) →
      ∀ (n j : Nat) (acc : List D) (S5 : Store) (R : Unit → Store → Prop), j + n = (src i).length → I i j acc S5 → (∀ acc S6, I i (src i).length acc S6 → R () S6) → wp (lcInM (gs i) S1.length tgt1 tt1 te (wipeE env1 us) ((src i).drop j)) S5 R := by
    intro i env1 hi hst n
    induction n with
    | zero =>
      intro j acc S5 R hj hI r
      have e : (src i).drop j = [] := List.drop_eq_nil_iff.mpr (by omega)
      rw [e]
      show wp (gdM (gs i) (ret ())) S5 R
      rw [wp_gd (hgs i j acc S5 hi hI), wp_ret]
      have : j = (src i).length := by omega
      subst this
      exact r acc S5 hI
    | succ n ih =>
      intro j acc S5 R hj hI r
      have hjl : j < (src i).length := by omega
      rw [drop_at (List.getElem?_eq_getElem hjl)]
      show wp (gdM (gs i) (bnd (tgt1 (src i)[j] (wipeE env1 us)) fun env1' => bnd (tt1 env1') fun b => if b then bnd (te env1') fun d => bnd (pushM S1.length d) fun _ => lcInM (gs i) S1.length tgt1 tt1 te (wipeE env1 us) ((src i).drop (j + 1)) else lcInM (gs i) S1.length tgt1 tt1 te (wipeE env1 us) ((src i).drop (j + 1)))) S5 R
      rw [wp_gd (hgs i j acc S5 hi hI), wp_bnd]
      refine (hst j (src i)[j] acc S5 (List.getElem?_eq_getElem hjl) hI).mono fun env2 S6 h => ?_
      rw [wp_bnd]
      refine h.mono fun b S7 h => ?_
      cases b with
      | true =>
        rw [if_pos rfl] at h ⊢
        rw [wp_bnd]
        refine h.mono fun d S8 ⟨h1, h2⟩ => ?_
        rw [wp_bnd]
        have e : pushM S1.length d S8 = some ((), S8.set S1.length (.lst (acc ++ [d]))) := by
          unfold pushM
          rw [h1]
          exact if_pos (hl i j acc S5 hI)
        rw [wp_some e]
        exact ih (j + 1) (acc ++ [d]) _ R (by omega) h2 r
      | false =>
        rw [if_neg Bool.false_ne_true] at h ⊢
        exact ih (j + 1) acc _ R (by omega) h r
  have out : ∀ (n i : Nat) (acc : List D) (S5 : Store), i + n = xs.length → I i 0 acc S5 → wp (lcOutM g S1.length tgt bYes fi1 tgt1 tt1 te us (wipeE env vs) (xs.drop i)) S5 Q := by
    intro n
    induction n with
    | zero =>
      intro i acc S5 hi hI
      have e : xs.drop i = [] := List.drop_eq_nil_iff.mpr (by omega)
      rw [e]
      show wp (gdM g (ret (.ref S1.length))) S5 Q
      rw [wp_gd (hg i 0 acc S5 hI), wp_ret]
      have : i = xs.length := by omega
      subst this
      exact fin acc S5 hI
    | succ n ih =>
      intro i acc S5 hi hI
      have hil : i < xs.length := by omega
      rw [drop_at (List.getElem?_eq_getElem hil)]
      show wp (gdM g (bnd (tgt xs[i] (wipeE env vs)) fun env1 => bnd (bYes env1) fun b => if b then bnd (fi1 env1) fun p => bnd (lcInM p.2 S1.length tgt1 tt1 te (wipeE env1 us) p.1) fun _ => lcOutM g S1.length tgt bYes fi1 tgt1 tt1 te us (wipeE env vs) (xs.drop (i + 1)) else lcOutM g S1.length tgt bYes fi1 tgt1 tt1 te us (wipeE env vs) (xs.drop (i + 1)))) S5 Q
      rw [wp_gd (hg i 0 acc S5 hI), wp_bnd]
      refine (step i xs[i] acc S5 (List.getElem?_eq_getElem hil) hI).mono fun env1 S6 h => ?_
      rw [wp_bnd, w_yes, if_pos rfl, wp_bnd]
      refine h.mono fun pp S7 ⟨hp, hS, hst⟩ => ?_
      subst hp
      subst hS
      rw [wp_bnd]
      exact inn i env1 hil hst (src i).length 0 acc S7 _ (by omega) hI fun acc' S9 hI' => ih (i + 1) acc' S9 (by omega) (next i acc' S9 hil hI')
  exact out xs.length 0 [] _ (by omega) hI
theorem w_while {n : SEnv → Store → Nat} {c : SEnv → M Bool} {b : SEnv → M (Fl × SEnv)} {env : SEnv} {S : Store} {Q : Fl × SEnv → Store → Prop} : wp (sWhile n c b env) S Q ↔ wp (whileM c b (n env S) env) S Q := Iff.rfl
theorem wp_while {c : SEnv → M Bool} {b : SEnv → M (Fl × SEnv)} {Q : Fl × SEnv → Store → Prop} (I : Nat → SEnv → Store → Prop)
    (step : ∀ m env S, I m env S → wp (c env) S fun k S1 => if k = true then wp (b env) S1 fun r S2 => match r.1 with
      | .nx => ∃ m', m' < m ∧ I m' r.2 S2
      | .ct => ∃ m', m' < m ∧ I m' r.2 S2
      | .bk => Q (.nx, r.2) S2
      | .rt d => Q (.rt d, r.2) S2 else Q (.nx, env) S1) : ∀ (f m : Nat) (env : SEnv) (S : Store), m < f → I m env S → wp (whileM c b f env) S Q
  | 0, _, _, _, h, _ => absurd h (Nat.not_lt_zero _)
  | f + 1, m, env, S, h, hI => by
    show wp (bnd (c env) fun k => if k then bnd (b env) fun r => match r.1 with
      | .nx => whileM c b f r.2
      | .ct => whileM c b f r.2
      | .bk => ret (.nx, r.2)
      | .rt d => ret (.rt d, r.2)
    else ret (.nx, env)) S Q
    rw [wp_bnd]
    refine (step m env S hI).mono fun k S1 q => ?_
    cases k with
    | false =>
      rw [if_neg Bool.false_ne_true] at q ⊢
      exact wp_ret.mpr q
    | true =>
      rw [if_pos rfl] at q ⊢
      rw [wp_bnd]
      refine q.mono fun r S2 q => ?_
      obtain ⟨fl, env2⟩ := r
      cases fl with
      | nx => obtain ⟨m', hm, hI'⟩ := q; exact wp_while I step f m' env2 S2 (by omega) hI'
      | ct => obtain ⟨m', hm, hI'⟩ := q; exact wp_while I step f m' env2 S2 (by omega) hI'
      | bk => exact wp_ret.mpr q
      | rt d => exact wp_ret.mpr q
end TS
set_option Elab.async false
set_option linter.all false
set_option maxRecDepth 100000
namespace TS
open PySem PySem.Spec PyProof.Rows L2 RT
/-! ### instances of the program's classes -/
def putFD (f : Str) (d : D) : List (Str × D) → List (Str × D)
  | [] => [(f, d)]
  | (g, x) :: r => if g = f then (g, d) :: r else (g, x) :: putFD f d r
section
variable {K : PySem.W.Frag} {m m' : List Addr} {S S' : Store} {H H' : Hp} {f : Str}
theorem ins_put {v : V} {d : D} (r : Rep K m H d v) : ∀ {us : List (Str × V)} {fs : List (Str × D)}, us.map (·.1) = fs.map (·.1) → Reps K m H (fs.map (·.2)) (us.map (·.2)) → (putF f v us).map (·.1) = (putFD f d fs).map (·.1) ∧ Reps K m H ((putFD f d fs).map (·.2)) ((putF f v us).map (·.2))
  | [], [], _, _ => ⟨rfl, .cons r .nil⟩
  | [], _ :: _, h, _ => by cases h
  | _ :: _, [], h, _ => by cases h
  | (g, x) :: us, (g', y) :: fs, h, hs => by
    obtain ⟨h1, h2⟩ := List.cons.inj (show g :: us.map (·.1) = g' :: fs.map (·.1) from h)
    subst h1
    cases hs with
    | cons hx hr =>
      obtain ⟨i1, i2⟩ := ins_put r h2 hr
      unfold putF putFD
      by_cases e : g = f
      · rw [if_pos e, if_pos e]
        exact ⟨by rw [List.map_cons, List.map_cons, h2], .cons r hr⟩
      · rw [if_neg e, if_neg e]
        exact ⟨by rw [List.map_cons, List.map_cons, i1], .cons hx i2⟩
theorem ins_get : ∀ {us : List (Str × V)} {fs : List (Str × D)} {d : D}, us.map (·.1) = fs.map (·.1) → Reps K m H (fs.map (·.2)) (us.map (·.2)) → fs.lookup f = some d → ∃ v, us.lookup f = some v ∧ Rep K m H d v
  | _, [], _, _, _, e => by cases e
  | [], _ :: _, _, h, _, _ => by cases h
  | (g, x) :: us, (g', y) :: fs, d, h, hs, e => by
    obtain ⟨h1, h2⟩ := List.cons.inj (show g :: us.map (·.1) = g' :: fs.map (·.1) from h)
    subst h1
    cases hs with
    | cons hx hr =>
      rw [List.lookup_cons] at e ⊢
      cases q : f == g with
      | true =>
        rw [q] at e
        cases e
        exact ⟨x, rfl, hx⟩
      | false =>
        rw [q] at e
        exact ins_get h2 hr e
theorem ins_none : ∀ {us : List (Str × V)} {fs : List (Str × D)}, us.map (·.1) = fs.map (·.1) → fs.lookup f = none → us.lookup f = none
  | [], [], _, _ => rfl
  | [], _ :: _, h, _ => by cases h
  | _ :: _, [], h, _ => by cases h
  | (g, x) :: us, (g', y) :: fs, h, e => by
    obtain ⟨h1, h2⟩ := List.cons.inj (show g :: us.map (·.1) = g' :: fs.map (·.1) from h)
    subst h1
    rw [List.lookup_cons] at e ⊢
    cases q : f == g with
    | true => rw [q] at e; cases e
    | false =>
      rw [q] at e
      exact ins_none h2 e
theorem Rel.insAt (rl : Rel K m S H) {i : Nat} {C : Addr} {fs : List (Str × D)} {x : V} (e : S[i]? = some (.ins C fs)) (r : Rep K m H (.ref i) x) : ∃ a dx us, x = .ref a ∧ m[i]? = some a ∧ H a = some (.ins C dx us) ∧ us.map (·.1) = fs.map (·.1) ∧ Reps K m H (fs.map (·.2)) (us.map (·.2)) := by
  cases r with
  | @ref _ a hi =>
    obtain ⟨p, u, q1, q2, q3⟩ := rl.at e
    rw [hi] at q1
    cases q1
    cases q3 with
    | ins h1 h2 => exact ⟨a, _, _, rfl, hi, q2, h1, h2⟩
end
/-- the attributes of an instance of C -/
def insM (C : Addr) (d : D) : M (List (Str × D)) := fun S => match d with
  | .ref i => match S[i]? with
    | some (.ins C' fs) => if C' = C then some (fs, S) else none
    | _ => none
  | _ => none
theorem insM_some {C : Addr} {d : D} {S S' : Store} {fs : List (Str × D)} (h : insM C d S = some (fs, S')) : S' = S ∧ ∃ i, d = .ref i ∧ S[i]? = some (.ins C fs) := by
  unfold insM at h
  cases d with
  | ref i =>
    simp only at h
    cases e : S[i]? with
    | none => rw [e] at h; cases h
    | some o =>
      rw [e] at h
      cases o with
      | ins C' fs' =>
        simp only at h
        split at h
        · cases h
          rename_i c
          subst c
          exact ⟨rfl, i, rfl, e⟩
        · cases h
      | _ => cases h
  | _ => cases h
def optM {α : Type} (o : Option α) : M α := fun S => match o with
  | some a => some (a, S)
  | none => none
theorem optM_some {α : Type} {o : Option α} {S S' : Store} {a : α} (h : optM o S = some (a, S')) : S' = S ∧ o = some a := by
  unfold optM at h
  cases o with
  | none => cases h
  | some b => cases h; exact ⟨rfl, rfl⟩
def eFld (C : Addr) (f : Str) (fo : SEnv → M D) : SEnv → M D := fun env => bnd (fo env) fun a => bnd (insM C a) fun fs => optM (fs.lookup f)
def putFM (C : Addr) (f : Str) (a d : D) : M Unit := fun S => match a with
  | .ref i => match S[i]? with
    | some (.ins C' fs) => if C' = C ∧ fs.length < 1000 then some ((), S.set i (.ins C (putFD f d fs))) else none
    | _ => none
  | _ => none
theorem putFM_some {C : Addr} {f : Str} {a d : D} {S S' : Store} (h : putFM C f a d S = some ((), S')) : ∃ i fs, a = .ref i ∧ S[i]? = some (.ins C fs) ∧ fs.length < 1000 ∧ S' = S.set i (.ins C (putFD f d fs)) := by
  unfold putFM at h
  cases a with
  | ref i =>
    simp only at h
    cases e : S[i]? with
    | none => rw [e] at h; cases h
    | some o =>
      rw [e] at h
      cases o with
      | ins C' fs' =>
        simp only at h
        split at h
        · cases h
          rename_i c
          obtain ⟨rfl, c⟩ := c
          exact ⟨i, fs', rfl, e, c, rfl⟩
        · cases h
      | _ => cases h
  | _ => cases h
def sFldM (C : Addr) (f : Str) (fo fv : SEnv → M D) : SEnv → M (Fl × SEnv) := fun env => bnd (fv env) fun d => bnd (fo env) fun a => bnd (putFM C f a d) fun _ => ret (.nx, env)
/-- o.f += an integer -/
def addIM (a b : D) : M D := fun S => match a, b with
  | .int i, .int j => some (.int (i + j), S)
  | _, _ => none
def sFldAdd (C : Addr) (f : Str) (fo fv : SEnv → M D) : SEnv → M (Fl × SEnv) := fun env => bnd (fo env) fun a => bnd (insM C a) fun fs => bnd (optM (fs.lookup f)) fun x => bnd (fv env) fun y => bnd (addIM x y) fun z => bnd (putFM C f a z) fun _ => ret (.nx, env)
section
variable {X : Cx} {K : PySem.W.Frag} {C : Addr} {f m : Str} {o value e : Expr} {es : List Expr} {pos pos' tpos apos : Pos} {ta tv : TE} {fo fv : SEnv → M D}
theorem se_fld (c : Cls K C) (n : NoAttr K C f) (h : SE K ta fo) : SE K (tFld K ta f) (eFld C f fo) := fun m S H env σ rl re d S' hh Q q => by
  obtain ⟨a, S1, e1, h1⟩ := bnd_some hh
  obtain ⟨fs, S2, e2, h2⟩ := bnd_some h1
  obtain ⟨rfl, i, rfl, e3⟩ := insM_some e2
  obtain ⟨rfl, h3⟩ := optM_some h2
  refine h rl re _ _ e1 _ fun m1 H1 v rl1 x1 rv => ?_
  obtain ⟨b, dx, us, rfl, _, h4, h5, h6⟩ := rl1.insAt e3 rv
  obtain ⟨w, h7, h8⟩ := ins_get h5 h6 h3
  exact ⟨b, C, dx, us, w, rfl, h4, c, n, h7, q m1 H1 w rl1 x1 h8⟩
theorem de_fld (c : Cls X.K C) (n : NoAttr X.K C f) (h : DE X o ta fo) (hb : attributeBase o f X.env (eval o X.env) = eval o X.env := by rfl) : DE X (.Attribute o f pos) (tFld X.K ta f) (eFld C f fo) := ⟨pe_fld h.pe hb, se_fld c n h.se⟩
theorem set_ins {m : List Addr} {S S' : Store} {H : Hp} {a d : D} {x v : V} (rl : Rel K m S H) (ra : Rep K m H a x) (rd : Rep K m H d v) (h : putFM C f a d S = some ((), S')) : ∃ p dx us, x = .ref p ∧ H p = some (.ins C dx us) ∧ us.length < 1000 ∧ Rel K m S' (upd H p (.ins C dx (putF f v us))) ∧ Ext m H m (upd H p (.ins C dx (putF f v us))) := by
  obtain ⟨i, fs, rfl, e1, e2, rfl⟩ := putFM_some h
  obtain ⟨p, dx, us, rfl, hm, h4, h5, h6⟩ := rl.insAt e1 ra
  obtain ⟨g1, g2⟩ := ins_put (f := f) rd h5 h6
  obtain ⟨r1, r2⟩ := rl.set hm (.ins (C := C) (dx := dx) g1 g2)
  have hl : us.length = fs.length := by have := congrArg List.length h5; rw [List.length_map, List.length_map] at this; exact this
  exact ⟨p, dx, us, rfl, h4, by omega, r1, r2⟩
theorem ss_fld (c : Cls K C) (n : NoAttr K C f) (ho : SE K ta fo) (hv : SE K tv fv) : SS K (sFld K ta tv f) (sFldM C f fo fv) := fun m S H env σ rl re fl env' S' hh D q => by
  obtain ⟨d, S1, e1, h1⟩ := bnd_some hh
  obtain ⟨a, S2, e2, h2⟩ := bnd_some h1
  obtain ⟨_, S3, e3, h3⟩ := bnd_some h2
  cases h3
  refine hv rl re d S1 e1 _ fun m1 H1 y rl1 x1 ry => ?_
  refine ho rl1 (re.mono rl x1) a S2 e2 _ fun m2 H2 x rl2 x2 rx => ?_
  obtain ⟨p, dx, us, rfl, g1, g2, r1, r2⟩ := set_ins rl2 rx (ry.mono rl1 x2) e3
  exact ⟨p, C, dx, us, rfl, g1, c, n, g2, q m2 _ σ r1 (x1.trans (x2.trans r2)) ((re.mono rl x1).mono rl1 x2 |>.mono rl2 r2)⟩
theorem ds_fld (c : Cls X.K C) (n : NoAttr X.K C f) (ho : DE X o ta fo) (hv : DE X value tv fv) (hs : swapsWith value (some (.Attribute o f pos')) pos.line X.env = pure false := by rfl) : DS X (.Assign [.Attribute o f pos'] value pos) (sFld X.K ta tv f) (sFldM C f fo fv) := ⟨ps_fld ho.pe hv.pe hs, ss_fld c n ho.se hv.se⟩
theorem ss_fldadd (c : Cls K C) (n : NoAttr K C f) (ho : SE K ta fo) (hv : SE K tv fv) : SS K (sFldAug K ta tv rAdd f) (sFldAdd C f fo fv) := fun m S H env σ rl re fl env' S' hh D q => by
  obtain ⟨a, S1, e1, h1⟩ := bnd_some hh
  obtain ⟨fs, S2, e2, h2⟩ := bnd_some h1
  obtain ⟨x, S3, e3, h3⟩ := bnd_some h2
  obtain ⟨y, S4, e4, h4⟩ := bnd_some h3
  obtain ⟨z, S5, e5, h5⟩ := bnd_some h4
  obtain ⟨_, S6, e6, h6⟩ := bnd_some h5
  cases h6
  obtain ⟨rfl, i, rfl, e7⟩ := insM_some e2
  obtain ⟨rfl, e8⟩ := optM_some e3
  refine ho rl re _ _ e1 _ fun m1 H1 v rl1 x1 rv => ?_
  obtain ⟨p, dx, us, rfl, hm, g4, g5, g6⟩ := rl1.insAt e7 rv
  obtain ⟨w, g7, g8⟩ := ins_get g5 g6 e8
  refine ⟨p, C, dx, us, w, rfl, g4, c, n, g7, ?_⟩
  refine hv rl1 (re.mono rl x1) y S4 e4 _ fun m2 H2 u rl2 x2 ru => ?_
  have g9 := g8.mono rl1 x2
  unfold addIM at e5
  cases x with
  | int k =>
    cases y with
    | int j =>
      cases e5
      cases g9
      cases ru
      obtain ⟨p', dx', us', e9, k1, k2, r1, r2⟩ := set_ins (v := .int (k + j)) rl2 (rv.mono rl1 x2) (.int _) e6
      cases e9
      exact ⟨k, j, rfl, rfl, dx', us', k1, k2, q m2 _ σ r1 (x1.trans (x2.trans r2)) ((re.mono rl x1).mono rl1 x2 |>.mono rl2 r2)⟩
    | _ => cases e5
  | _ => cases e5
theorem ds_fldadd (c : Cls X.K C) (n : NoAttr X.K C f) (ho : DE X o ta fo) (hv : DE X value tv fv) : DS X (.AugAssign (.Attribute o f tpos) .Add value pos) (sFldAug X.K ta tv rAdd f) (sFldAdd C f fo fv) := ⟨ps_fldaug ho.pe hv.pe in_add, ss_fldadd c n ho.se hv.se⟩
end
end TS
set_option Elab.async false
set_option linter.all false
set_option maxRecDepth 100000
namespace TS
open PySem PySem.Spec PyProof.Rows L2 RT
/-! ### methods, and making an instance -/
structure MCallee (P : Program) (w : World) (K : PySem.W.Frag) (mg : Str → Option Value) (base : Heap) (C : Addr) (m : Str) (lv n : Nat) (ps : List Str) (F : List D → M D) : Prop where
  ex : ∃ (f : Addr) (fd : FuncData), FnOk P w K mg base CX0 lv f fd ps (spOf K n F) ∧ Meth K C m f ∧ Binds K fd ps []
structure CMake (P : Program) (w : World) (K : PySem.W.Frag) (mg : Str → Option Value) (base : Heap) (x : Str) (C : Addr) (lv n : Nat) (ps : List Str) (F : List D → M D) : Prop where
  ex : ∃ (f : Addr) (fd : FuncData), FnOk P w K mg base CX0 lv f fd ps (spOf K n F) ∧ Mk K C f ∧ mg x = some (.ref C) ∧ Binds K fd ps []
def eMeth (C : Addr) (m : Str) (F : List D → M D) (fo : SEnv → M D) (fa : SEnv → M (List D)) : SEnv → M D := fun env => bnd (fo env) fun a => bnd (insM C a) fun fs => if (fs.lookup m).isNone = true then bnd (fa env) fun as => F (a :: as) else fail
def newIns (C : Addr) : M D := fun S => some (.ref S.length, S ++ [.ins C []])
def nonM (a : D) : D → M D
  | .non => ret a
  | _ => fail
def eMake (C : Addr) (F : List D → M D) (fa : SEnv → M (List D)) : SEnv → M D := fun env => bnd (fa env) fun as => bnd (newIns C) fun a => bnd (F (a :: as)) fun r => nonM a r
section
variable {X : Cx} {K : PySem.W.Frag} {C : Addr} {m x : Str} {n lv : Nat} {ps : List Str} {F : List D → M D} {o e : Expr} {es : List Expr} {p pos apos : Pos} {ta : TE} {t : TA} {fo : SEnv → M D} {fa : SEnv → M (List D)}
theorem se_meth (hn : ∀ env S ds S', fa env S = some (ds, S') → ds.length = n) (ho : SE K ta fo) (ha : SA K t fa) : SE K (tMeth C m (spOf K (n + 1) F) [] E0 ta t) (eMeth C m F fo fa) := fun m0 S H env σ rl re d S' hh Q q => by
  obtain ⟨a, S1, e1, h1⟩ := bnd_some hh
  obtain ⟨fs, S2, e2, h2⟩ := bnd_some h1
  obtain ⟨rfl, i, rfl, e3⟩ := insM_some e2
  refine ho rl re _ _ e1 _ fun m1 H1 v rl1 x1 rv => ?_
  obtain ⟨b, dx, us, rfl, hm, h4, h5, h6⟩ := rl1.insAt e3 rv
  split at h2
  · rename_i c
    refine ⟨b, dx, us, rfl, h4, ins_none h5 (Option.isNone_iff_eq_none.mp c), ?_⟩
    obtain ⟨as, S3, e4, h3⟩ := bnd_some h2
    refine ha rl1 (re.mono rl x1) as S3 e4 _ fun m2 H2 vs rl2 x2 rvs => ?_
    rw [List.append_nil]
    exact ⟨m2, S3, .ref i :: as, d, S', rl2, .cons (rv.mono rl1 x2) rvs, by rw [List.length_cons, hn env _ as S3 e4], h3, fun m3 H3 w rl3 x3 rw' => q m3 H3 w rl3 (x1.trans (x2.trans x3)) rw'⟩
  · cases h2
theorem de_meth {pl : Sem Bool} (c : Cls X.K C) (M : MCallee X.prog X.w X.K X.mg X.base C m lv (n + 1) ps F) (hr : Room lv X.A) (ho : DE X o ta fo) (ha : DA X (e :: es) t fa)
    (hn : ∀ env S ds S', fa env S = some (ds, S') → ds.length = n := by first | exact aCons_len aNil_len | exact aCons_len (aCons_len aNil_len) | exact aCons_len (aCons_len (aCons_len aNil_len)) | exact aCons_len (aCons_len (aCons_len (aCons_len aNil_len))))
    (hst : starEach (e :: es) X.env = (false, eval e X.env) :: starEach es X.env := by rfl) (hpl : (backTo pos (starEach es X.env)).any (·.1) = false := by rfl)
    (ht : eval (.Call (.Attribute o m apos) (e :: es) [] pos) X.env = (do
      let ov ← eval o X.env
      standAt apos.atName
      let (f, first) ← holding [ov] (getMethod ov m pl)
      callWith pos f first (backTo pos (starEach (e :: es) X.env)) (backToKw pos (keywordEach [] X.env))) := by rfl) :
    DE X (.Call (.Attribute o m apos) (e :: es) [] pos) (tMeth C m (spOf X.K (n + 1) F) [] E0 ta t) (eMeth C m F fo fa) := let ⟨f, fd, a, b, d⟩ := M.ex; ⟨pe_meth (pl := pl) ho.pe c b a hr d .nil pass0 ha.pa hst hpl ht, se_meth hn ho.se ha.sa⟩
theorem de_meth0 {pl : Sem Bool} (c : Cls X.K C) (M : MCallee X.prog X.w X.K X.mg X.base C m lv 1 ps F) (hr : Room lv X.A) (ho : DE X o ta fo)
    (ht : eval (.Call (.Attribute o m apos) [] [] pos) X.env = (do
      let ov ← eval o X.env
      standAt apos.atName
      let (f, first) ← holding [ov] (getMethod ov m pl)
      callWith pos f first (backTo pos (starEach [] X.env)) (backToKw pos (keywordEach [] X.env))) := by rfl) :
    DE X (.Call (.Attribute o m apos) [] [] pos) (tMeth C m (spOf X.K 1 F) [] E0 ta tNil) (eMeth C m F fo aNil) := let ⟨f, fd, a, b, d⟩ := M.ex; ⟨pe_meth0 (pl := pl) ho.pe c b a hr d .nil pass0 ht, se_meth aNil_len ho.se (da_nil (X := X)).sa⟩
theorem se_make (hn : ∀ env S ds S', fa env S = some (ds, S') → ds.length = n) (ha : SA K t fa) : SE K (tMake C (spOf K (n + 1) F) [] E0 t) (eMake C F fa) := fun m0 S H env σ rl re d S' hh Q q => by
  obtain ⟨as, S1, e1, h1⟩ := bnd_some hh
  obtain ⟨a, S2, e2, h2⟩ := bnd_some h1
  obtain ⟨r, S3, e3, h3⟩ := bnd_some h2
  cases e2
  refine ha rl re as S1 e1 _ fun m1 H1 vs rl1 x1 rvs => ?_
  intro y dx hy hdx hne
  obtain ⟨rk, xk⟩ := rl1.keep (keep_upd (o := .own y) hdx)
  have hy2 : upd H1 dx (.own y) y = none := by rw [upd_ne (Ne.symm hne)]; exact hy
  obtain ⟨rn, xn, rp⟩ := rk.new (o := .ins C []) (u := .ins C dx []) hy2 (.ins rfl .nil)
  rw [List.append_nil]
  have hl : as.length = n := hn env _ as S1 e1
  cases r with
  | non =>
    cases h3
    refine ⟨_, S1 ++ [.ins C []], .ref S1.length :: as, .non, S', rn, .cons rp ((rvs.mono rl1 xk).mono rk xn), by rw [List.length_cons, hl], e3, fun m3 H3 w rl3 x3 rw' => ?_⟩
    cases rw'
    exact ⟨rfl, q m3 H3 _ rl3 (x1.trans (xk.trans (xn.trans x3))) (rp.mono rn x3)⟩
  | _ => cases h3
theorem de_make (M : CMake X.prog X.w X.K X.mg X.base x C lv (n + 1) ps F) (hr : Room (lv + 1) X.A) (ha : DA X (e :: es) t fa)
    (hn : ∀ env S ds S', fa env S = some (ds, S') → ds.length = n := by first | exact aCons_len aNil_len | exact aCons_len (aCons_len aNil_len) | exact aCons_len (aCons_len (aCons_len aNil_len)) | exact aCons_len (aCons_len (aCons_len (aCons_len aNil_len))))
    (hg : Gl X x := by rfl) (hdb : (x == ("__debug__" : Str)) = false := by decide) (he : starEach (e :: es) X.env = (false, eval e X.env) :: starEach es X.env := by rfl) (hpl : (backTo pos (starEach es X.env)).any (·.1) = false := by rfl) :
    DE X (.Call (.Name x p) (e :: es) [] pos) (tMake C (spOf X.K (n + 1) F) [] E0 t) (eMake C F fa) := let ⟨f, fd, a, b, c, d⟩ := M.ex; ⟨pe_make b a hr hg c d .nil pass0 ha.pa hdb he hpl, se_make hn ha.sa⟩
theorem de_make0 (M : CMake X.prog X.w X.K X.mg X.base x C lv 1 ps F) (hr : Room (lv + 1) X.A)
    (hg : Gl X x := by rfl) (hdb : (x == ("__debug__" : Str)) = false := by decide) :
    DE X (.Call (.Name x p) [] [] pos) (tMake C (spOf X.K 1 F) [] E0 tNil) (eMake C F aNil) := let ⟨f, fd, a, b, c, d⟩ := M.ex; ⟨pe_make0 b a hr hg c d .nil pass0 hdb, se_make aNil_len (da_nil (X := X)).sa⟩
end
end TS
set_option Elab.async false
set_option linter.all false
set_option maxRecDepth 100000
namespace TS
open PySem PySem.Spec PyProof.Rows L2 RT
/-! ### math.gcd -/
def nGcd : List D → M D
  | [.int a, .int b] => ret (.int ((Nat.gcd a.natAbs b.natAbs : Nat) : Int))
  | _ => fail
section
variable {X : Cx} {x : Str} {p pos : Pos} {e : Expr} {es : List Expr} {id : String} {r : Rn} {g : List D → M D} {ta : TA} {fa : SEnv → M (List D)}
theorem c_gcd : DC X (.builtin "math.gcd") rGcd nGcd := ⟨cr_gcd, fun m S H xs as rl ra d S' h Q q => by
  unfold nGcd at h
  split at h
  · cases h
    obtain ⟨v1, vs, rfl, r1, h2⟩ := (show ∃ v1 vs, xs = v1 :: vs ∧ Rep X.K m H (.int _) v1 ∧ Reps X.K m H [.int _] vs from by cases ra with | cons a b => exact ⟨_, _, rfl, a, b⟩)
    cases r1
    cases h2 with
    | cons r2 h3 =>
      cases r2
      cases h3
      exact ⟨_, _, rfl, q m H _ rl .refl (.int _)⟩
  · cases h⟩
theorem de_callBfun (hc : DC X (.builtin id) r g) (hm : X.mg x = some (.builtin id)) (ha : DA X (e :: es) ta fa) (hg : Gl X x := by rfl) (hdb : (x == ("__debug__" : Str)) = false := by decide)
    (he : starEach (e :: es) X.env = (false, eval e X.env) :: starEach es X.env := by rfl) (hpl : (backTo pos (starEach es X.env)).any (·.1) = false := by rfl) : DE X (.Call (.Name x p) (e :: es) [] pos) (tCB r ta) (eCall g fa) := ⟨pe_callBfun hc.cr hg hm ha.pa hdb he hpl, se_call hc.sr ha.sa⟩
end
end TS
set_option Elab.async false
set_option linter.all false
set_option maxRecDepth 100000
namespace TS
open PySem PySem.Spec PyProof.Rows L2 RT
/-! ### lists of integers, of data -/
section
variable {X : Cx}
def ints1 : List D → Option (List Int)
  | [] => some []
  | .int i :: r => (ints1 r).map (i :: ·)
  | _ :: _ => none
theorem ints1_eq : ∀ {xs : List D} {ns : List Int}, ints1 xs = some ns → xs = ns.map .int
  | [], _, h => by cases h; rfl
  | x :: r, ns, h => by
    cases x with
    | int i =>
      obtain ⟨ms, h1, rfl⟩ := Option.map_eq_some_iff.mp h
      rw [List.map_cons, ints1_eq h1]
    | _ => cases h
theorem reps_ints {K : PySem.W.Frag} {m : List Addr} {H : Hp} : ∀ {ns : List Int} {vs : List V}, Reps K m H (ns.map .int) vs → vs = ns.map V.int
  | [], _, .nil => rfl
  | n :: ns, _, .cons h hs => by
    cases h
    rw [List.map_cons, reps_ints hs]
end
end TS
set_option Elab.async false
set_option linter.all false
set_option maxRecDepth 100000
namespace TS
open PySem PySem.Spec PyProof.Rows L2
/-! ### attributes, methods, making: what a text does to the store -/
section
variable {C : Addr} {f : Str} {S : Store} {i : Nat} {fs : List (Str × D)} {env : SEnv}
theorem w_ins {Q : List (Str × D) → Store → Prop} (h : S[i]? = some (.ins C fs)) : wp (insM C (.ref i)) S Q ↔ Q fs S := wp_some (by unfold insM; simp only [h]; rw [if_pos trivial])
theorem w_optS {α : Type} {a : α} {Q : α → Store → Prop} : wp (optM (some a)) S Q ↔ Q a S := wp_some rfl
theorem w_fld {fo : SEnv → M D} {Q : D → Store → Prop} : wp (eFld C f fo env) S Q ↔ wp (fo env) S fun a S1 => wp (insM C a) S1 fun fs S2 => wp (optM (fs.lookup f)) S2 Q := by
  unfold eFld
  simp only [wp_bnd]
theorem w_putF {d : D} {Q : Unit → Store → Prop} (h : S[i]? = some (.ins C fs)) (hl : fs.length < 1000) : wp (putFM C f (.ref i) d) S Q ↔ Q () (S.set i (.ins C (putFD f d fs))) := wp_some (by unfold putFM; simp only [h]; rw [if_pos ⟨trivial, hl⟩])
theorem w_sFld {fo fv : SEnv → M D} {Q : Fl × SEnv → Store → Prop} : wp (sFldM C f fo fv env) S Q ↔ wp (fv env) S fun d S1 => wp (fo env) S1 fun a S2 => wp (putFM C f a d) S2 fun _ S3 => Q (.nx, env) S3 := by
  unfold sFldM
  simp only [wp_bnd, wp_ret]
theorem w_sFldAdd {fo fv : SEnv → M D} {Q : Fl × SEnv → Store → Prop} : wp (sFldAdd C f fo fv env) S Q ↔ wp (fo env) S fun a S1 => wp (insM C a) S1 fun fs S2 => wp (optM (fs.lookup f)) S2 fun x S3 => wp (fv env) S3 fun y S4 => wp (addIM x y) S4 fun z S5 => wp (putFM C f a z) S5 fun _ S6 => Q (.nx, env) S6 := by
  unfold sFldAdd
  simp only [wp_bnd, wp_ret]
theorem w_addI {a b : Int} {Q : D → Store → Prop} : wp (addIM (.int a) (.int b)) S Q ↔ Q (.int (a + b)) S := wp_some rfl
theorem w_meth {m : Str} {F : List D → M D} {fo : SEnv → M D} {fa : SEnv → M (List D)} {Q : D → Store → Prop} : wp (eMeth C m F fo fa env) S Q ↔ wp (fo env) S fun a S1 => wp (insM C a) S1 fun fs S2 => wp (if (fs.lookup m).isNone = true then bnd (fa env) fun as => F (a :: as) else fail) S2 Q := by
  unfold eMeth
  simp only [wp_bnd]
theorem w_make {F : List D → M D} {fa : SEnv → M (List D)} {Q : D → Store → Prop} : wp (eMake C F fa env) S Q ↔ wp (fa env) S fun as S1 => wp (F (.ref S1.length :: as)) (S1 ++ [.ins C []]) fun r S2 => wp (nonM (.ref S1.length) r) S2 Q := by
  unfold eMake
  rw [wp_bnd]
  have e : ∀ (as : List D) (S1 : Store), wp (bnd (newIns C) fun a => bnd (F (a :: as)) fun r => nonM a r) S1 Q ↔ wp (F (.ref S1.length :: as)) (S1 ++ [.ins C []]) fun r S2 => wp (nonM (.ref S1.length) r) S2 Q := fun as S1 => by
    rw [wp_bnd, wp_some (show newIns C S1 = some (.ref S1.length, S1 ++ [.ins C []]) from rfl), wp_bnd]
  simp only [e]
theorem w_non {a : D} {Q : D → Store → Prop} : wp (nonM a .non) S Q ↔ Q a S := wp_some rfl
theorem w_gcd {a b : Int} {Q : D → Store → Prop} : wp (nGcd [.int a, .int b]) S Q ↔ Q (.int ((Nat.gcd a.natAbs b.natAbs : Nat) : Int)) S := wp_some rfl
theorem ints1_map : ∀ l : List Int, ints1 (l.map .int) = some l
  | [] => rfl
  | x :: r => by
    show (ints1 (r.map .int)).map (x :: ·) = _
    rw [ints1_map r]
    rfl
end
end TS
set_option Elab.async false
set_option linter.all false
set_option maxRecDepth 100000
namespace TS
open PySem PySem.Spec PyProof.Rows L2 RT
/-! ### sorted of a list of tuples of integers -/
section
variable {K : PySem.W.Frag} {m : List Addr} {H : Hp}
theorem Reps.perm : ∀ {ys xs : List V}, ys.Perm xs → ∀ {ds : List D}, Reps K m H ds xs → ∃ es : List D, es.Perm ds ∧ Reps K m H es ys := by
  intro ys xs p
  induction p with
  | nil => exact fun h => ⟨_, List.Perm.refl _, h⟩
  | cons x _ ih =>
    intro ds h
    cases h with
    | cons h1 h2 =>
      obtain ⟨es, e1, e2⟩ := ih h2
      exact ⟨_, e1.cons _, .cons h1 e2⟩
  | swap x y l =>
    intro ds h
    cases h with
    | cons h1 h2 =>
      cases h2 with
      | cons h3 h4 => exact ⟨_, List.Perm.swap _ _ _, .cons h3 (.cons h1 h4)⟩
  | trans _ _ ih1 ih2 =>
    intro ds h
    obtain ⟨es, e1, e2⟩ := ih2 h
    obtain ⟨fs, f1, f2⟩ := ih1 e2
    exact ⟨fs, f1.trans e1, f2⟩
end
def insK (k : D → Int) (x : D) : List D → List D
  | [] => [x]
  | y :: r => if k x ≤ k y then x :: y :: r else y :: insK k x r
def sortK (k : D → Int) : List D → List D
  | [] => []
  | x :: r => insK k x (sortK k r)
theorem insK_perm (k : D → Int) (x : D) : ∀ l : List D, (insK k x l).Perm (x :: l)
  | [] => List.Perm.refl _
  | y :: r => by
    unfold insK
    split
    · exact List.Perm.refl _
    · exact ((insK_perm k x r).cons y).trans (List.Perm.swap x y r)
theorem sortK_perm (k : D → Int) : ∀ l : List D, (sortK k l).Perm l
  | [] => List.Perm.refl _
  | x :: r => (insK_perm k x _).trans ((sortK_perm k r).cons x)
theorem insK_sorted (k : D → Int) (x : D) : ∀ {l : List D}, l.Pairwise (fun a b => k a ≤ k b) → (insK k x l).Pairwise fun a b => k a ≤ k b
  | [], _ => List.pairwise_singleton _ _
  | y :: r, h => by
    obtain ⟨h1, h2⟩ := List.pairwise_cons.mp h
    unfold insK
    split
    · rename_i c
      refine List.pairwise_cons.mpr ⟨fun z hz => ?_, h⟩
      rcases List.mem_cons.mp hz with rfl | hz
      · exact c
      · have := h1 z hz; omega
    · rename_i c
      refine List.pairwise_cons.mpr ⟨fun z hz => ?_, insK_sorted k x h2⟩
      rcases List.mem_cons.mp ((insK_perm k x r).mem_iff.mp hz) with rfl | hz
      · omega
      · exact h1 z hz
theorem sortK_sorted (k : D → Int) : ∀ l : List D, (sortK k l).Pairwise fun a b => k a ≤ k b
  | [] => List.Pairwise.nil
  | x :: r => insK_sorted k x (sortK_sorted k r)
/-- two sorted rearrangements are one, if the key tells the items apart -/
theorem sorted_one {k : D → Int} : ∀ {l m : List D}, l.Perm m → (∀ a ∈ l, ∀ b ∈ l, k a = k b → a = b) → l.Pairwise (fun a b => k a ≤ k b) → m.Pairwise (fun a b => k a ≤ k b) → l = m
  | [], m, p, _, _, _ => (List.Perm.eq_nil p.symm).symm
  | x :: l, [], p, _, _, _ => absurd p.length_eq (by simp)
  | x :: l, y :: m, p, inj, hl, hm => by
    obtain ⟨l1, l2⟩ := List.pairwise_cons.mp hl
    obtain ⟨m1, m2⟩ := List.pairwise_cons.mp hm
    have hxy : k x ≤ k y := by
      rcases List.mem_cons.mp (p.mem_iff.mpr (List.mem_cons_self (a := y) (l := m))) with e | h
      · rw [e]; exact Int.le_refl _
      · exact l1 y h
    have hyx : k y ≤ k x := by
      rcases List.mem_cons.mp (p.mem_iff.mp (List.mem_cons_self (a := x) (l := l))) with e | h
      · rw [e]; exact Int.le_refl _
      · exact m1 x h
    have e : x = y := inj x (List.mem_cons_self ..) y (p.mem_iff.mpr (List.mem_cons_self ..)) (by omega)
    subst e
    rw [sorted_one p.cons_inv (fun a ha b hb => inj a (List.mem_cons_of_mem _ ha) b (List.mem_cons_of_mem _ hb)) l2 m2]
end TS
set_option Elab.async false
set_option linter.all false
set_option maxRecDepth 100000
namespace TS
open PySem PySem.Spec PyProof.Rows L2 RT
theorem code_one {B : Int} : ∀ {r q : List Int}, r.length = q.length → Bd B r → Bd B q → code B r = code B q → r = q
  | [], [], _, _, _, _ => rfl
  | [], _ :: _, h, _, _, _ => by cases h
  | _ :: _, [], h, _, _, _ => by cases h
  | d :: r, e :: q, h, hr, hq, hc => by
    have hl : r.length = q.length := by simpa using h
    have hr' : Bd B r := fun x hx => hr x (List.mem_cons_of_mem _ hx)
    have hq' : Bd B q := fun x hx => hq x (List.mem_cons_of_mem _ hx)
    rcases Int.lt_trichotomy d e with c | c | c
    · have := code_lt hl hr' hq' c; omega
    · subst c
      have c1 := code_same (B := B) (d := d) hl
      have c2 := code_same (B := B) (d := d) hl.symm
      have : code B r = code B q := by
        rcases Int.lt_trichotomy (code B r) (code B q) with z | z | z
        · have := c1.mpr z; omega
        · exact z
        · have := c2.mpr z; omega
      rw [code_one hl hr' hq' this]
    · have := code_lt hl.symm hq' hr' c; omega
def okT (d : Nat) (B : Int) (x : D) : Bool := match x with
  | .tup xs => match ints1 xs with
    | some ns => decide (ns.length = d) && ns.all fun n => decide (0 ≤ n ∧ n < B)
    | none => false
  | _ => false
def keyT (B : Int) (x : D) : Int := match x with
  | .tup xs => match ints1 xs with
    | some ns => code B ns
    | none => 0
  | _ => 0
theorem okT_some {d : Nat} {B : Int} {x : D} (h : okT d B x = true) : ∃ ns : List Int, x = .tup (ns.map .int) ∧ ns.length = d ∧ Bd B ns ∧ keyT B x = code B ns := by
  unfold okT at h
  split at h
  · rename_i xs
    split at h
    · rename_i ns e
      rw [Bool.and_eq_true, decide_eq_true_iff, List.all_eq_true] at h
      refine ⟨ns, by rw [ints1_eq e], h.1, fun n hn => of_decide_eq_true (h.2 n hn), ?_⟩
      unfold keyT
      simp only [e]
    · cases h
  · cases h
theorem keyT_inj {d : Nat} {B : Int} {x y : D} (hx : okT d B x = true) (hy : okT d B y = true) (h : keyT B x = keyT B y) : x = y := by
  obtain ⟨ns, rfl, h1, h2, h3⟩ := okT_some hx
  obtain ⟨ms, rfl, g1, g2, g3⟩ := okT_some hy
  rw [h3, g3] at h
  rw [code_one (h1.trans g1.symm) h2 g2 h]
section
variable {X : Cx} {K : PySem.W.Frag} {m : List Addr} {H : Hp} {d : Nat} {B : Int}
theorem okT_tup {x : D} {v : V} (hx : okT d B x = true) (r : Rep K m H x v) : ∃ ns, TupI K H v ns ∧ ns.length = d ∧ Bd B ns ∧ keyT B x = code B ns := by
  obtain ⟨ns, rfl, h1, h2, h3⟩ := okT_some hx
  cases r with
  | tup g1 g2 =>
    rw [reps_ints g2] at g1
    exact ⟨ns, ⟨_, rfl, g1⟩, h1, h2, h3⟩
theorem reps_mem : ∀ {ds : List D} {vs : List V} {v : V}, Reps K m H ds vs → v ∈ vs → ∃ x, x ∈ ds ∧ Rep K m H x v
  | _, _, _, .nil, h => nomatch h
  | _, _, _, .cons h hs, hm => by
    rcases List.mem_cons.mp hm with rfl | hm
    · exact ⟨_, List.mem_cons_self .., h⟩
    · obtain ⟨x, h1, h2⟩ := reps_mem hs hm
      exact ⟨x, List.mem_cons_of_mem _ h1, h2⟩
theorem reps_mem2 : ∀ {ds : List D} {vs : List V} {x : D}, Reps K m H ds vs → x ∈ ds → ∃ v, v ∈ vs ∧ Rep K m H x v
  | _, _, _, .nil, h => nomatch h
  | _, _, _, .cons h hs, hm => by
    rcases List.mem_cons.mp hm with rfl | hm
    · exact ⟨_, List.mem_cons_self .., h⟩
    · obtain ⟨x, h1, h2⟩ := reps_mem2 hs hm
      exact ⟨x, List.mem_cons_of_mem _ h1, h2⟩
theorem reps_sorted : ∀ {es : List D} {ys : List V}, Reps K m H es ys → (∀ x ∈ es, okT d B x = true) → ys.Pairwise (fun x y => ∀ n m, TupI K H x n → TupI K H y m → code B n ≤ code B m) → es.Pairwise fun a b => keyT B a ≤ keyT B b
  | _, _, .nil, _, _ => List.Pairwise.nil
  | _, _, .cons h hs, ho, hp => by
    obtain ⟨p1, p2⟩ := List.pairwise_cons.mp hp
    refine List.pairwise_cons.mpr ⟨fun z hz => ?_, reps_sorted hs (fun x hx => ho x (List.mem_cons_of_mem _ hx)) p2⟩
    obtain ⟨v, v1, v2⟩ := reps_mem2 hs hz
    obtain ⟨ns, n1, _, _, n2⟩ := okT_tup (ho _ (List.mem_cons_self ..)) h
    obtain ⟨ms, m1, _, _, m2⟩ := okT_tup (ho z (List.mem_cons_of_mem _ hz)) v2
    rw [n2, m2]
    exact p1 v v1 ns ms n1 m1
def nSortT (d : Nat) (B : Int) : List D → M D
  | [.ref i] => fun S => match S[i]? with
    | some (.lst xs) => if xs.length < 64 ∧ xs.all (okT d B) = true then some (.ref S.length, S ++ [.lst (sortK (keyT B) xs)]) else none
    | _ => none
  | _ => fail
theorem c_sortT (hd : 1 ≤ d) : DC X (.builtin "sorted") (rSortU X.K d B) (nSortT d B) := ⟨cr_sortT hd, fun m S H xs as rl ra dd S' h Q q => by
  unfold nSortT at h
  split at h
  · rename_i i
    split at h
    · rename_i xs e
      split at h
      · rename_i c
        cases h
        cases ra with
        | cons r1 r2 =>
          cases r2
          obtain ⟨a, vs, rfl, _, e3, e4⟩ := rl.sqL e r1
          have hall := List.all_eq_true.mp c.2
          refine ⟨a, vs, rfl, .inl (.inl e3), by rw [← e4.length]; exact c.1, fun v hv => ?_, fun ys p hp hs hn => ?_⟩
          · obtain ⟨x, x1, x2⟩ := reps_mem e4 hv
            obtain ⟨ns, n1, n2, n3, _⟩ := okT_tup (hall x x1) x2
            exact ⟨ns, n1, n2, n3⟩
          · obtain ⟨es, p1, p2⟩ := Reps.perm hp e4
            have ho : ∀ x ∈ es, okT d B x = true := fun x hx => hall x (p1.mem_iff.mp hx)
            have he : es = sortK (keyT B) xs := sorted_one (p1.trans (sortK_perm _ _).symm) (fun a ha b hb z => keyT_inj (ho a ha) (ho b hb) z) (reps_sorted p2 ho hs) (sortK_sorted _ _)
            rw [he] at p2
            obtain ⟨r1, x1, y1⟩ := rl.new (o := .lst (sortK (keyT B) xs)) (u := .lst ys) hn (.lst p2)
            exact q _ _ _ r1 x1 y1
      · cases h
    · cases h
  · cases h⟩
end
end TS
set_option Elab.async false
set_option linter.all false
set_option maxRecDepth 100000
namespace TS
open PySem PySem.Spec PyProof.Rows L2
theorem w_sortT {d : Nat} {B : Int} {i : Nat} {xs : List D} {S : Store} {Q : D → Store → Prop} (h : S[i]? = some (.lst xs)) (hl : xs.length < 64) (ho : xs.all (okT d B) = true) : wp (nSortT d B [.ref i]) S Q ↔ Q (.ref S.length) (S ++ [.lst (sortK (keyT B) xs)]) := wp_some (by unfold nSortT; simp only [h]; rw [if_pos ⟨hl, ho⟩])
end TS
set_option Elab.async false
set_option linter.all false
set_option maxRecDepth 100000
namespace TS
open PySem PySem.Spec PyProof.Rows L2
/-! ### list comprehensions with any number of clauses: one rule for the loop of a clause, the clauses behind it by induction -/
/-- what a turn of the clause at k does behind its tests: the next clause is begun, or an item is appended -/
def innerC (elt : Expr) (gens : List Comprehension) (scope : Scope) (pos : Pos) (k : Nat) (acc : Value) (env : Env) : Sem Unit :=
  match gens[k + 1]? with
  | some c => eval c.iter env >>= fun x => standAt c.iter.pos >>= fun _ => foldedSetIterable c.iter env x >>= fun y => holding [y] (pyIter y) >>= fun j =>
      runOwn (.compStart (.ListComp elt gens scope pos) (k + 1) j acc env) env >>= fun _ => pure ()
  | none => eval elt env >>= fun x => call (.builtin "list.append") [acc, x] >>= fun _ => pure ()
/-- a clause's tests, one behind another -/
def testsC (ifs : List Expr) (env : Env) : Sem Bool := forIn ifs true fun c r => if r = true then do let ok ← isTrue c env (eval c env); pure (ForInStep.yield ok) else pure (ForInStep.yield r)
section
variable {M : Model} {A : Around} {E : Value → Shared → Prop} {s : Shared}
theorem wpAny_of_eq2 {α : Type} {m m' : Sem α} {Q : α → Shared → Prop} (e : m = m') (h : wpAny M A m' Q E s) : wpAny M A m Q E s := e ▸ h
theorem turn_run {elt : Expr} {gens : List Comprehension} {scope : Scope} {pos : Pos} {k : Nat} {it acc : Value} {env : Env} {c : Comprehension} {R : PySem.Fin → Shared → Prop} (hk : gens[k]? = some c) (hall : ∀ d ∈ gens, d.is_async = 0)
    (h : wpAny M A (pyNext it) (fun r s1 => match r with
      | none => R (.done .next) s1
      | some v => wpAny M A (letOwnedTupleGo c.target it v) (fun _ s2 => wpAny M A (assign c.target env v) (fun _ s3 => wpAny M A (testsC c.ifs env) (fun b s4 =>
          if b = true then wpAny M A (innerC elt gens scope pos k acc env) (fun _ s5 => R (.again (.compLoop (.ListComp elt gens scope pos) k it acc env)) s5) E s4
          else R (.again (.compLoop (.ListComp elt gens scope pos) k it acc env)) s4) E s3) E s2) E s1) E s) :
    wpAny M A (compTurn (.ListComp elt gens scope pos) k it acc env) R E s := by
  have ha : c.is_async = 0 := hall c (List.mem_of_getElem? hk)
  unfold compTurn
  simp only [hk, ha]
  refine wpAny_bind (wpAny_standAt (wpAny_bind (thn h fun r s1 h1 => ?_)))
  cases r with
  | none => exact wpAny_pure h1
  | some v =>
    refine wpAny_bind (thn h1 fun _ s2 h2 => wpAny_bind (thn h2 fun _ s3 h3 => wpAny_bind (thn h3 fun b s4 h4 => ?_)))
    cases b with
    | false => exact wpAny_pure h4
    | true =>
      rw [if_pos rfl] at h4
      have h5 := wpAny_bind (f := fun _ => again (.compLoop (.ListComp elt gens scope pos) k it acc env)) (thn h4 fun _ s5 h5 => wpAny_pure h5)
      refine wpAny_of_eq2 ?_ h5
      unfold innerC
      cases hg : gens[k + 1]? with
      | none => simp only [if_true, bind_assoc, pure_bind]
      | some d =>
        have hd : d.is_async = 0 := hall d (List.mem_of_getElem? hg)
        simp [hd, bind_assoc, pure_bind]
end
/-- what a clause's loop asks: W tells the turns, each of which ends sooner than the one before; body, what stands behind the tests -/
abbrev lpT (J : It) (g : TG) (tt : TT) (vs : List Nat) (σ : L2.St) (body : L2.St → Hp → (Hp → Prop) → Prop) (H : Hp) (fin : Hp → Prop) : Prop :=
  ∃ W : Nat → Nat → Hp → Prop, (∃ m, W 0 m H) ∧ ∀ i n H', W i n H' → (J.stop i H' ∧ fin H') ∨
    (J.go i H' ∧ ∃ Nx : Hp → Prop, (∀ H1, Nx H1 → ∃ m, m < n ∧ W (i + 1) m H1) ∧
      ∀ x H1, J.yld i H' x H1 → g x (wipe σ vs) H1 fun σ2 H2 => wipe σ2 vs = wipe σ vs ∧ tt σ2 H2 fun b H3 => if b = true then body σ2 H3 Nx else Nx H3)
/-- all slots but us are known as before -/
structure Kept (us : List Nat) (σ σ' : L2.St) : Prop where
  len : σ'.length = σ.length
  old : ∀ (j : Nat) (v : V), j ∉ us → σ[j]? = some (some v) → σ'[j]? = some (some v)
theorem Kept.self {us : List Nat} {σ : L2.St} : Kept us σ σ := ⟨rfl, fun _ _ _ h => h⟩
theorem not_wiped {σ : L2.St} {i : Nat} {v : V} {vs : List Nat} (hi : i ∉ vs) (h : σ[i]? = some (some v)) : (wipe σ vs)[i]? = some (some v) := by
  induction vs with
  | nil => exact h
  | cons a r ih =>
    show ((wipe σ r).set a none)[i]? = _
    have ne : a ≠ i := fun z => hi (by rw [z]; exact List.mem_cons_self ..)
    rw [List.getElem?_set_ne ne]
    exact ih fun z => hi (List.mem_cons_of_mem _ z)
section
variable {Y : Cx} {elt : Expr} {gens : List Comprehension} {scope : Scope} {pos : Pos} {k : Nat} {c : Comprehension} {acc : Value} {pins : List (Addr × Obj)} {σ : L2.St} {H : Hp} {s : Shared}
/-- the loop of one clause -/
theorem clause_loop (hk : gens[k]? = some c) (hall : ∀ d ∈ gens, d.is_async = 0) (hcalm : Y.calm = true) (hxe : ∀ x s, ¬ Y.xe x s) {g : TG} {tt : TT} {vs us : List Nat} {body : L2.St → Hp → (Hp → Prop) → Prop} (hus : ∀ i ∈ us, i ∈ vs)
    (pg : PG Y c.target g) (pt : PTs Y c.ifs tt)
    (hb : ∀ (pins : List (Addr × Obj)) (s : Shared) (σ : L2.St) (H : Hp) (Nx : Hp → Prop), Inv Y pins σ H s → body σ H Nx →
      wpAny (model Y.prog Y.w) Y.A (innerC elt gens scope pos k acc Y.env) (fun _ s' => ∃ σ' H', Inv Y pins σ' H' s' ∧ Kept us σ σ' ∧ Nx H') Y.xe s)
    {J : It} {fp : List Addr} {it : Addr} {tn : Nat → Heap → Prop} {fin : Hp → Prop} (T : Turn Y.prog Y.w Y.K c.target J fp it tn)
    (hfp : ∀ (σ' : L2.St) (H' : Hp) (s' : Shared), Inv Y pins σ' H' s' → (∀ b ∈ fp, H' b = none) → ∀ b ∈ fp, FpOk Y pins H' b)
    (I : Inv Y pins (wipe σ vs) H s) (h0 : tn 0 s.heap) (hn : ∀ b ∈ fp, H b = none) (h : lpT J g tt vs σ body H fin) :
    codeAny (model Y.prog Y.w) Y.A (.compLoop (.ListComp elt gens scope pos) k (.ref it) acc Y.env) (fun r s' => r = .ok .next ∧ ∃ H', Inv Y pins (wipe σ vs) H' s' ∧ fin H') s := by
  obtain ⟨W, ⟨m, w⟩, hW⟩ := h
  refine codeAny_loop rfl (fun n s' => ∃ i H', W i n H' ∧ Inv Y pins (wipe σ vs) H' s' ∧ tn i s'.heap ∧ ∀ b ∈ fp, H' b = none) ?_ m ⟨0, H, w, I, h0, hn⟩
  rintro n sa ⟨i, Ha, wa, Ia, ta, na⟩
  refine wpAny_noted (env := Y.env) (m := compTurn (.ListComp elt gens scope pos) k (.ref it) acc Y.env) (turn_run hk hall ?_)
  rcases hW i n Ha wa with ⟨hstop, hfin⟩ | ⟨hgo, Nx, hN, hstep⟩
  · refine thn (T.done Y rfl rfl rfl hcalm i pins sa _ Ha _ Ia (hfp _ _ _ Ia na) ta hstop) ?_
    rintro _ sb ⟨rfl, Ib⟩
    exact ⟨rfl, Ha, Ib, hfin⟩
  · refine thn (T.item Y rfl rfl rfl hcalm i pins sa _ Ha _ Ia (hfp _ _ _ Ia na) ta hgo) ?_
    rintro _ sb ⟨u, rfl, hu⟩
    refine thn hu ?_
    rintro _ sc ⟨x, Hc, Ic, rx, yx, tc, nc⟩
    have up : ∀ {α : Type} {t : Sem α} {Q : α → Shared → Prop} {E : Value → Shared → Prop} {s' : Shared}, wpAny (model Y.prog Y.w) Y.A t Q Y.xe s' → wpAny (model Y.prog Y.w) Y.A t Q E s' := fun q => wpAny_mono q (fun _ _ z => z) fun x s' z => absurd z (hxe x s')
    -- the iterator's own objects stay as they are while the turn runs
    have Ip : Inv Y (pins ++ pinsAt fp sc.heap) (wipe σ vs) Hc sc := Ic.pinned (hfp _ _ _ Ic nc) (T.obj _ _ tc)
    have back : ∀ {σ' : L2.St} {H' : Hp} {s' : Shared}, Inv Y (pins ++ pinsAt fp sc.heap) σ' H' s' → Kept vs σ σ' → Nx H' → ∃ m, m < n ∧ ∃ i H', W i m H' ∧ Inv Y pins (wipe σ vs) H' s' ∧ tn i s'.heap ∧ ∀ b ∈ fp, H' b = none := by
      intro σ' H' s' I' kp nx
      obtain ⟨m', hm, w'⟩ := hN H' nx
      have stay : ∀ b ∈ fp, ∀ o, sc.heap.get? b = some o → s'.heap.get? b = some o ∧ H' b = none := fun b hb o e => by
        have q := I'.pin (b, o) (List.mem_append_right _ (List.mem_append_right _ (mem_pinsAt hb e)))
        exact ⟨q.1, q.2.1⟩
      refine ⟨m', hm, i + 1, H', w', I'.unpinned.weak ((wipe_length σ vs).trans kp.len.symm) fun j v e => ?_, T.keep _ _ _ tc fun b hb o e => (stay b hb o e).1, fun b hb => ?_⟩
      · have q := wipe_some e
        exact kp.old j v q.2 q.1
      · obtain ⟨o, e, _⟩ := T.obj _ _ tc b hb
        exact (stay b hb o e).2
    refine up (thn (pg.run _ sc _ Hc x u _ Ip rx (hstep x Hc yx)) ?_)
    rintro _ sd ⟨σd, Hd, Id, hw, qd⟩
    have kd : Kept vs σ σd := by
      refine ⟨by rw [← wipe_length σd vs, hw, wipe_length], fun j v hj e => ?_⟩
      have q : (wipe σ vs)[j]? = some (some v) := not_wiped hj e
      rw [← hw] at q
      exact (wipe_some q).1
    refine up (thn (pt.run _ sd σd Hd _ Id qd) ?_)
    rintro b se ⟨He, Ie, qe⟩
    cases b with
    | false => exact ⟨rfl, back Ie kd qe⟩
    | true =>
      refine up (thn (hb _ se σd He Nx Ie qe) ?_)
      rintro _ sf ⟨σf, Hf, If, kf, nf⟩
      exact ⟨rfl, back If ⟨kf.len.trans kd.len, fun j v hj e => kf.old j v (fun z => hj (hus j z)) (kd.old j v hj e)⟩ nf⟩
end
/-- a clause behind the first one: its source, its target, its tests, the slots forgotten at its turns -/
structure CT where
  wi : TI
  g : TG
  tt : TT
  vs : List Nat
/-- the slots forgotten by the clause that comes next -/
def vsOf : List CT → List Nat
  | [] => []
  | c :: _ => c.vs
/-- what stands behind a clause's tests: the loops of the clauses that follow, in the innermost one an item appended to the list at D -/
def tIn (te : TE) (D : Addr) : List CT → L2.St → Hp → (Hp → Prop) → Prop
  | [] => fun σ H Nx => te σ H fun y H' => ∃ acc, H' D = some (.lst acc) ∧ acc.length < sizeLine ∧ Nx (upd H' D (.lst (acc ++ [y])))
  | c :: cs => fun σ H Nx => c.wi σ H fun J H' => lpT J c.g c.tt c.vs σ (tIn te D cs) H' Nx
/-- [te for g in wi if tt ..cs..] -/
def tLcN (wi : TI) (g : TG) (tt : TT) (cs : List CT) (te : TE) (vs : List Nat) : TE := fun σ H Q => wi σ H fun J H' => ∀ D, H' D = none → lpT J g tt vs σ (tIn te D cs) (upd H' D (.lst [])) fun H2 => Q (.ref D) H2
/-- the clauses as they are written, and what is known of each -/
def ClOk (Y : Cx) : List Comprehension → List CT → Prop
  | [], [] => True
  | d :: ds, c :: cs => d.is_async = 0 ∧ (∀ env x, foldedSetIterable d.iter env x = pure x) ∧ PI Y d.target d.iter c.wi ∧ PG Y d.target c.g ∧ PTs Y d.ifs c.tt ∧ (∀ i ∈ vsOf cs, i ∈ c.vs) ∧ ClOk Y ds cs
  | _, _ => False
theorem clOk_sync {Y : Cx} : ∀ {ds : List Comprehension} {cs : List CT}, ClOk Y ds cs → ∀ d ∈ ds, d.is_async = 0
  | [], [], _, _, h => nomatch h
  | d :: ds, c :: cs, h, x, hx => by
    rcases List.mem_cons.mp hx with rfl | hx
    · exact h.1
    · exact clOk_sync h.2.2.2.2.2.2 x hx
  | [], _ :: _, h, _, _ => h.elim
  | _ :: _, [], h, _, _ => h.elim
/-- a clause behind the first one begins: its iterator, asked for an iterator, gives itself -/
theorem clause_start {prog : Program} {w : World} {A : Around} {elt : Expr} {gens : List Comprehension} {scope : Scope} {pos : Pos} {k : Nat} {c : Comprehension} {it acc : Value} {env : Env} {R : Result → Shared → Prop} {s : Shared}
    (hk : gens[k]? = some c) (hc : c.is_async = 0) (hit : ∀ (Q E : Value → Shared → Prop), Q it s → wpAny (model prog w) A (pyIter it) Q E s)
    (h : codeAny (model prog w) A (.compLoop (.ListComp elt gens scope pos) k it acc env) R s) :
    codeAny (model prog w) A (.compStart (.ListComp elt gens scope pos) k it acc env) R s := by
  refine codeAny_of_tree (wpAny_notedAt (env := env) (m := compStart (.ListComp elt gens scope pos) k it acc env) ?_)
  have hcl : ((clausesOf (.ListComp elt gens scope pos))[k]?).elim false (fun d => d.is_async != 0) = false := by
    show (gens[k]?).elim false _ = false
    rw [hk]
    show (c.is_async != 0) = false
    rw [hc]
    rfl
  unfold compStart
  rw [hcl]
  refine wpAny_bind (wpAny_askSetting (wpAny_ite ?_))
  split
  · exact wpAny_pure ⟨rfl, h⟩
  · have e : (clausesOf (.ListComp elt gens scope pos))[k]? = some c := hk
    rw [e]
    exact wpAny_bind (wpAny_rule (wpAny_bind (wpAny_standAt (wpAny_bind (hit _ _ (wpAny_pure ⟨rfl, h⟩))))))
section
variable {Y : Cx} {elt : Expr} {gens : List Comprehension} {scope : Scope} {pos : Pos} {D : Addr} {te : TE}
/-- what stands behind the tests of the clause at k, by the number of clauses that follow -/
theorem inner_ok (hcalm : Y.calm = true) (hxe : ∀ x s, ¬ Y.xe x s) (hall : ∀ d ∈ gens, d.is_async = 0) (pe : PE Y elt te) : ∀ (cs : List CT) (k : Nat), ClOk Y (gens.drop (k + 1)) cs →
    ∀ (pins : List (Addr × Obj)) (s : Shared) (σ : L2.St) (H : Hp) (Nx : Hp → Prop), Inv Y pins σ H s → tIn te D cs σ H Nx →
      wpAny (model Y.prog Y.w) Y.A (innerC elt gens scope pos k (.ref D) Y.env) (fun _ s' => ∃ σ' H', Inv Y pins σ' H' s' ∧ Kept (vsOf cs) σ σ' ∧ Nx H') Y.xe s
  | [], k, hcl, pins, s, σ, H, Nx, I, h => by
    have e : gens[k + 1]? = none := by
      cases q : gens[k + 1]? with
      | none => rfl
      | some d => rw [drop_at q] at hcl; exact hcl.elim
    unfold innerC
    rw [e]
    refine wpAny_bind (thn (pe.run pins s σ H _ I h) ?_)
    rintro x s1 ⟨y, H1, I1, r1, xs, e1, l1, n1⟩
    exact wpAny_bind (app_ok I1 e1 l1 r1 fun s2 I2 => wpAny_pure ⟨σ, _, I2, .self, n1⟩)
  | c :: cs, k, hcl, pins, s, σ, H, Nx, I, h => by
    cases q : gens[k + 1]? with
    | none =>
      rw [List.drop_eq_nil_iff.mpr (List.getElem?_eq_none_iff.mp q)] at hcl
      exact hcl.elim
    | some d =>
      rw [drop_at q] at hcl
      obtain ⟨h1, h2, h3, h4, h5, h6, h7⟩ := hcl
      unfold innerC
      rw [q]
      refine wpAny_bind (thn (h3.run pins s σ H _ I h) fun x s1 hx => wpAny_bind (wpAny_standAt (wpAny_bind (wpAny_of_eq2 (h2 _ x) (wpAny_pure (wpAny_bind (wpAny_holding (thn hx ?_))))))))
      rintro j s2 ⟨it, fp, tn, J, H2, rfl, I2, T, t2, f2, lp⟩
      have lp' : codeAny (model Y.prog Y.w) Y.A (.compLoop (.ListComp elt gens scope pos) (k + 1) (.ref it) (.ref D) Y.env) (fun r s' => r = .ok .next ∧ ∃ H', Inv Y pins (wipe σ c.vs) H' s' ∧ Nx H') s2 :=
        clause_loop q hall hcalm hxe h6 h4 h5 (inner_ok hcalm hxe hall pe cs (k + 1) h7) T (fun σ' H' s' I' n' b hb => ⟨n' b hb, (f2 b hb).2⟩)
          (I2.weak (wipe_length σ c.vs) fun j v e => (wipe_some e).1) t2 (fun b hb => (f2 b hb).1) lp
      refine wpAny_bind (wpAny_runOwn ?_)
      rw [Around.mark_none]
      refine clause_start q h1 (fun Q E z => T.self Y.A 0 s2 Q E t2 z) (codeAny_mono lp' ?_)
      rintro _ s3 ⟨rfl, H3, I3, n3⟩
      exact wpAny_pure ⟨_, H3, I3, ⟨wipe_length σ c.vs, fun j v hj e => not_wiped hj e⟩, n3⟩
end
section
variable {X : Cx}
/-- the context of the comprehension's own block -/
abbrev blkX (X : Cx) (s : Shared) (H : Hp) (scope : Scope) (fp : List Addr) : Cx := X.blk s H scope (compEnvC scope (cellsFrom (s.heap.objs.size + 1) scope.names (cloFrom X.env.cells scope.names [])) s.heap.objs.size X.env) fp
variable {elt tg iter : Expr} {ifs : List Expr} {gs : List Comprehension} {scope : Scope} {own : List (Str × Nat)} {cs : List CT} {pos : Pos} {wi : TI} {g : TG} {tt : TT} {te : TE} {pins : List (Addr × Obj)} {s : Shared} {σ : L2.St} {H : Hp}
/-- the block runs: from its start in X to its end, where X is as it was -/
theorem block_run (hc : X.calm = true) (hN : X.N.Nodup) (I : Inv X pins σ H s) (ok : BlkOk X.N X.env.scope scope own) (hv : ∀ i ∈ vsOf cs, i ∈ own.map (·.2)) {J : It} {fp : List Addr} {it D : Addr} {tn : Nat → Heap → Prop} {fin : Hp → Prop} {R : Result → Shared → Prop}
    (pg : PG (blkX X s H scope fp) tg g) (pt : PTs (blkX X s H scope fp) ifs tt) (pc : ClOk (blkX X s H scope fp) gs cs) (pe : PE (blkX X s H scope fp) elt te)
    (T : Turn X.prog X.w X.K tg J fp it tn) (t0 : tn 0 s.heap) (f : ∀ b ∈ fp, FpOk X pins H b) (lp : lpT J g tt (own.map (·.2)) σ (tIn te D cs) H fin)
    (hend : ∀ s' m H', Inv X pins σ H' s' → fin H' → s'.heap.Ns s.heap.objs.size m → FpOk X pins H' s.heap.objs.size → R (.ok .next) s') :
    codeAny (model X.prog X.w) X.A (.compStart (.ListComp elt (⟨tg, iter, ifs, 0⟩ :: gs) scope pos) 0 (.ref it) (.ref D) (blkX X s H scope fp).env) R { s with heap := pushCells (s.heap.push { cls := .type "dict", data := .dict #[] }) scope.names } := by
  have more : ∀ b o, s.heap.get? b = some o → (pushCells (s.heap.push { cls := .type "dict", data := .dict #[] }) scope.names).get? b = some o := fun b o e => pushCells_keeps _ _ _ _ (Heap.get?_push_of_some _ e)
  have t1 := T.keep _ _ _ t0 fun b _ o e => more b o e
  have I1 := block_start I ok hN fun b hb => ⟨f b hb, let ⟨_, e, _⟩ := T.obj _ _ t0 b hb; Heap.lt_size e⟩
  have hall : ∀ d ∈ (⟨tg, iter, ifs, 0⟩ : Comprehension) :: gs, d.is_async = 0 := fun d hd => (List.mem_cons.mp hd).elim (fun z => by rw [z]) (clOk_sync pc d)
  have own' : ∀ (σ' : L2.St) (H' : Hp) (s' : Shared), Inv (blkX X s H scope fp) [] σ' H' s' → (∀ b ∈ fp, H' b = none) → ∀ b ∈ fp, FpOk (blkX X s H scope fp) [] H' b := fun σ' H' s' I' n' b hb => by
    have z := I'.ok.exf b hb
    exact ⟨n' b hb, z.1, I'.ok.exfs b hb, .inl hb, z.2, fun p hp => nomatch hp⟩
  have loop := clause_loop (Y := blkX X s H scope fp) (gens := ⟨tg, iter, ifs, 0⟩ :: gs) (k := 0) (elt := elt) (scope := scope) (pos := pos) rfl hall hc (fun _ _ z => z) hv pg pt (inner_ok (Y := blkX X s H scope fp) (D := D) hc (fun _ _ z => z) hall pe cs 0 pc) T own' I1 t1 (fun b hb => (f b hb).1) lp
  have loop' := codeAny_mono loop (R' := R) ?_
  · exact codeAny_compStart_list loop' (T.self X.A 0 _ _ _ t1 loop')
  · rintro _ s' ⟨rfl, H', I', hf⟩
    obtain ⟨m, hm, _⟩ := I'.loc
    have J' : Inv X pins σ H' s' := I.call' (ch := fp) I'.os I'.base I'.hok I'.bare fun b hb => by
      obtain ⟨_, z1, _, z3, z4, z5⟩ := f b hb
      exact ⟨z3, z1, z4, z5⟩
    exact hend s' m H' J' hf hm (I.fpOk (Nat.le_refl _) I'.free)
theorem run_lcN {Q : VK} {pos' : Pos} {use : Option (Value → Sem Unit)} {Qf : Value → Shared → Prop}
    (hc : X.calm = true) (hN : X.N.Nodup) (I : Inv X pins σ H s) (hi : PI X tg iter wi) (ok : BlkOk X.N X.env.scope scope own) (hv : ∀ i ∈ vsOf cs, i ∈ own.map (·.2))
    (hg : ∀ (s : Shared) (H : Hp) (fp : List Addr), PG (blkX X s H scope fp) tg g) (ht : ∀ (s : Shared) (H : Hp) (fp : List Addr), PTs (blkX X s H scope fp) ifs tt)
    (hcl : ∀ (s : Shared) (H : Hp) (fp : List Addr), ClOk (blkX X s H scope fp) gs cs) (he : ∀ (s : Shared) (H : Hp) (fp : List Addr), PE (blkX X s H scope fp) elt te)
    (hs : ∀ x, foldedSetIterable iter X.env x = pure x) (h : tLcN wi g tt cs te (own.map (·.2)) σ H Q)
    (hend : ∀ (D C : Addr) (s' : Shared) m H', Inv X pins σ H' s' → Q (.ref D) H' → s'.heap.Ns C m → FpOk X pins H' C → compPost (model X.prog X.w) X.A X.xe use Qf (.ref D) C (.ok .next) s') :
    wpAny (model X.prog X.w) X.A (comprehension (.ListComp elt (⟨tg, iter, ifs, 0⟩ :: gs) scope pos) scope X.env pos' (newList []) false (eval iter X.env) use) Qf X.xe s := by
  have cells : ∀ y ∈ scope.names, y.2 = .free → ∃ c, X.env.cells.lookup y.1 = some c := fun y hy e => I.ok.has _ ((ok.free y hy e).imp id id)
  refine wpAny_comprehension_free rfl hs (closure_ok cells) ok.kind (fun y hy e => (ok.uniq y hy).trans (congrArg some e)) (thn (hi.run pins s σ H _ I h) fun v s1 h1 => thn h1 ?_)
  rintro _ s2 ⟨it, fp, tn, J, H2, rfl, I2, T, t2, f2, q⟩
  refine wpAny_newObj_type (newEnv_comp ?_) (Nat.zero_le _)
  have lp := q _ (I2.hok.fresh (Nat.le_refl _))
  have old : ∀ b ∈ fp, b < s2.heap.objs.size := fun b hb => let ⟨_, e, _⟩ := T.obj _ _ t2 b hb; Heap.lt_size e
  have I3 : Inv X pins σ (upd H2 s2.heap.objs.size (.lst [])) { s2 with heap := s2.heap.push { cls := .type "list", data := .seq #[] } } :=
    I2.laid (t' := s2.toks) (fun _ _ e => Heap.get?_push_of_some _ e) (Nat.le_refl _) ⟨Nat.zero_le _, [], 0, .nil, Heap.get?_push_size _ rfl⟩
  refine block_run (fp := fp) hc hN I3 ok hv (hg _ _ _) (ht _ _ _) (hcl _ _ _) (he _ _ _) T (T.keep _ _ _ t2 fun _ _ _ e => Heap.get?_push_of_some _ e) (fun b hb => ⟨?_, (f2 b hb).2⟩) lp fun s' m H' I' hq hm hf => hend _ _ s' m H' I' hq hm hf
  rw [upd_ne (Nat.ne_of_lt (old b hb))]
  exact (f2 b hb).1
/-- the block's own table is let go: the context does not see it -/
theorem let_go {H' : Hp} {s' : Shared} {C : Addr} {h' : Heap} (I : Inv X pins σ H' s') (f : FpOk X pins H' C) (sb : Heap.SameBut C s'.heap h') : Inv X pins σ H' { s' with heap := h' } := by
  obtain ⟨f0, f1, _, f3, f4, f5⟩ := f
  exact I.turned (t' := s'.toks) (fun b o hb e => (sb.2 b hb).trans e) f0 f1 f3 f4 f5
theorem pe_lcN (hc : X.calm = true) (hN : X.N.Nodup) (hi : PI X tg iter wi) (ok : BlkOk X.N X.env.scope scope own) (hv : ∀ i ∈ vsOf cs, i ∈ own.map (·.2))
    (hg : ∀ (s : Shared) (H : Hp) (C : Addr) (cl : List (Str × Addr)) (fp : List Addr), PG (X.blk s H scope (compEnvC scope cl C X.env) fp) tg g) (ht : ∀ (s : Shared) (H : Hp) (C : Addr) (cl : List (Str × Addr)) (fp : List Addr), PTs (X.blk s H scope (compEnvC scope cl C X.env) fp) ifs tt)
    (hcl : ∀ (s : Shared) (H : Hp) (C : Addr) (cl : List (Str × Addr)) (fp : List Addr), ClOk (X.blk s H scope (compEnvC scope cl C X.env) fp) gs cs) (he : ∀ (s : Shared) (H : Hp) (C : Addr) (cl : List (Str × Addr)) (fp : List Addr), PE (X.blk s H scope (compEnvC scope cl C X.env) fp) elt te)
    (hs : ∀ x, foldedSetIterable iter X.env x = pure x) : PE X (.ListComp elt (⟨tg, iter, ifs, 0⟩ :: gs) scope pos) (tLcN wi g tt cs te (own.map (·.2))) := by
  constructor
  intro pins s σ H Q I h
  rw [eval_ListComp]
  exact run_lcN hc hN I hi ok hv (fun s H fp => hg s H _ _ fp) (fun s H fp => ht s H _ _ fp) (fun s H fp => hcl s H _ _ fp) (fun s H fp => he s H _ _ fp) hs h fun D C s' m H' I' q hm f =>
    ⟨m, hm, fun h' sb => ⟨.ref D, H', let_go I' f sb, rfl, q⟩⟩
theorem ps_setLcN {i : Nat} {y : Str} {py spos : Pos} (hc : X.calm = true) (hN : X.N.Nodup) (hi : PI X tg iter wi) (ok : BlkOk X.N X.env.scope scope own) (hv : ∀ i ∈ vsOf cs, i ∈ own.map (·.2))
    (hg : ∀ (s : Shared) (H : Hp) (C : Addr) (cl : List (Str × Addr)) (fp : List Addr), PG (X.blk s H scope (compEnvC scope cl C X.env) fp) tg g) (ht : ∀ (s : Shared) (H : Hp) (C : Addr) (cl : List (Str × Addr)) (fp : List Addr), PTs (X.blk s H scope (compEnvC scope cl C X.env) fp) ifs tt)
    (hcl : ∀ (s : Shared) (H : Hp) (C : Addr) (cl : List (Str × Addr)) (fp : List Addr), ClOk (X.blk s H scope (compEnvC scope cl C X.env) fp) gs cs) (he : ∀ (s : Shared) (H : Hp) (C : Addr) (cl : List (Str × Addr)) (fp : List Addr), PE (X.blk s H scope (compEnvC scope cl C X.env) fp) elt te)
    (hs : ∀ x, foldedSetIterable iter X.env x = pure x) (hy : X.N[i]? = some y) (hyl : X.env.scope.names.lookup y = some .local) (hsw : swapsWith (.ListComp elt (⟨tg, iter, ifs, 0⟩ :: gs) scope pos) (some (.Name y py)) spos.line X.env = pure true) :
    PS X (.Assign [.Name y py] (.ListComp elt (⟨tg, iter, ifs, 0⟩ :: gs) scope pos) spos) (tAsg (tLcN wi g tt cs te (own.map (·.2))) (gName i)) := by
  constructor
  intro pins s σ H D I h
  rw [exec_Assign_Name_used _ _ _ _ hsw]
  refine wpAny_bind (wpAny_standAt (wpAny_bind (wpAny_bind (thn (run_lcN (pos' := firstIterPos (⟨tg, iter, ifs, 0⟩ :: gs) pos) (use := some (assign (.Name y py) X.env)) (Qf := fun _ s' => SP X pins D .next s') hc hN I hi ok hv (fun s H fp => hg s H _ _ fp) (fun s H fp => ht s H _ _ fp) (fun s H fp => hcl s H _ _ fp) (fun s H fp => he s H _ _ fp) hs h ?_) fun _ s' z => wpAny_pure (wpAny_pure z)))))
  intro L C s' m H' I' q hm f
  show wpAny _ _ (assign (.Name y py) X.env (.ref L)) _ _ _
  refine wpAny_assign_Name (store_ok2 (v := V.ref L) I' hN hy (.inl hyl) rfl ?_ (.inr hyl))
  rintro s2 I2 ⟨a, sb, ha⟩
  have ne : C ≠ a := by
    obtain ⟨_, z1, _, _, z4, _⟩ := f
    rcases ha with e | e
    · rw [e]; exact z1
    · exact (z4 y a e).symm
  exact ⟨m, hm.sameBut sb ne, fun h' sb' => ⟨_, H', let_go I2 f sb', q⟩⟩
end
end TS
set_option Elab.async false
set_option linter.all false
set_option maxRecDepth 100000
namespace TS
open PySem PySem.Spec PyProof.Rows L2 RT
section
variable {X : Cx} {K : PySem.W.Frag} {m m' m2 m1 : List Addr} {S S' S2 : Store} {H H' H2 H1 : Hp} {env env' : SEnv} {σ : L2.St} {pos : Pos}
/-! ### comprehensions with any number of fors, over the store -/
structure CM where
  fi : SEnv → M (List D × Gd)
  tgt : D → SEnv → M SEnv
  tt : SEnv → M Bool
  us : List Nat
noncomputable def lpM (g : Gd) (tgt : D → SEnv → M SEnv) (tt : SEnv → M Bool) (body : SEnv → M Unit) (env : SEnv) : List D → M Unit
  | [] => gdM g (ret ())
  | x :: xs => gdM g (bnd (tgt x env) fun env1 => bnd (tt env1) fun b => if b then bnd (body env1) fun _ => lpM g tgt tt body env xs else lpM g tgt tt body env xs)
noncomputable def lcIM (k : Nat) (te : SEnv → M D) : List CM → SEnv → M Unit
  | [] => fun env => bnd (te env) fun d => pushM k d
  | c :: cs => fun env => bnd (c.fi env) fun p => lpM p.2 c.tgt c.tt (lcIM k te cs) (wipeE env c.us) p.1
noncomputable def eLcN (fi : SEnv → M (List D × Gd)) (tgt : D → SEnv → M SEnv) (tt : SEnv → M Bool) (cs : List CM) (te : SEnv → M D) (vs : List Nat) : SEnv → M D := fun env => bnd (fi env) fun p => bnd newLst fun k => bnd (lpM p.2 tgt tt (lcIM k te cs) (wipeE env vs) p.1) fun _ => ret (.ref k)
theorem lpM_ok {g : Gd} {tgt : D → SEnv → M SEnv} {tt : SEnv → M Bool} {body : SEnv → M Unit} {env : SEnv} {xs : List D} {S : Store} {r : Unit × Store} (h : lpM g tgt tt body env xs S = some r) : gdOk S g := by
  cases xs with
  | nil => exact (gdM_some h).1
  | cons y ys => exact (gdM_some h).1
abbrev SIt (K : PySem.W.Frag) (wi : TI) (fi : SEnv → M (List D × Gd)) : Prop := ∀ ⦃m : List Addr⦄ ⦃S : Store⦄ ⦃H : Hp⦄ ⦃env : SEnv⦄ ⦃σ : L2.St⦄, Rel K m S H → RelE K m H env σ → ∀ xs g S', fi env S = some ((xs, g), S') → ∀ R : It → Hp → Prop, (∀ m' H' J, Rel K m' S' H' → Ext m H m' H' → WalkD K m' H' J xs g → R J H') → wi σ H R
abbrev SGt (K : PySem.W.Frag) (ws : List Nat) (g : TG) (fg : D → SEnv → M SEnv) : Prop := ∀ ⦃m : List Addr⦄ ⦃S : Store⦄ ⦃H : Hp⦄ ⦃env : SEnv⦄ ⦃σ : L2.St⦄ ⦃d : D⦄ ⦃v : V⦄, Rel K m S H → RelE K m H env σ → Rep K m H d v → ∀ env' S', fg d env S = some (env', S') →
      ∀ Q : L2.St → Hp → Prop, (∀ m' H' σ', Rel K m' S' H' → Ext m H m' H' → RelE K m' H' env' σ' → Off ws σ σ' → Q σ' H') → g v σ H Q
def ClS (K : PySem.W.Frag) : List CT → List CM → Prop
  | [], [] => True
  | c :: cs, d :: ds => c.vs = d.us ∧ SIt K c.wi d.fi ∧ SGt K c.vs c.g d.tgt ∧ ST K c.tt d.tt ∧ ClS K cs ds
  | _, _ => False
theorem step_S {te : TE} {fe : SEnv → M D} {D : Addr} {k : Nat} (he : SE K te fe) : ∀ (cs : List CT) (ds : List CM), ClS K cs ds → ∀ ⦃m : List Addr⦄ ⦃S : Store⦄ ⦃H : Hp⦄ ⦃env : SEnv⦄ ⦃σ : L2.St⦄, Rel K m S H → RelE K m H env σ → m[k]? = some D → ∀ S', lcIM k fe ds env S = some ((), S') → ∀ Nx : Hp → Prop, (∀ m' H', Rel K m' S' H' → Ext m H m' H' → Nx H') → tIn te D cs σ H Nx
  | [], [], _, m, S, H, env, σ, rl, re, hk, S', h, Nx, q => by
    obtain ⟨yy, S11, e11, e12⟩ := bnd_some h
    refine he rl re yy S11 e11 _ fun m11 H11 v rl11 x11 rv => ?_
    unfold pushM at e12
    cases ek : S11[k]? with
    | none => rw [ek] at e12; cases e12
    | some o =>
      rw [ek] at e12
      cases o with
      | lst acc =>
        simp only at e12
        split at e12
        · cases e12
          rename_i c
          have hk6 := x11.at hk
          obtain ⟨p, u, q1, q2, q3⟩ := rl11.at ek
          rw [hk6] at q1
          cases q1
          cases q3 with
          | lst q3 =>
            obtain ⟨a1, a2⟩ := rl11.set hk6 (.lst (q3.snoc rv))
            exact ⟨_, q2, by rw [← q3.length]; exact c, q m11 _ a1 (x11.trans a2)⟩
        · cases e12
      | _ => cases e12
  | c :: cs, d :: ds, hcl, m, S, H, env, σ, rl, re, hk, S7, h, Nx, q => by
    obtain ⟨hvs, hi1, hg1, ht1, hrest⟩ := hcl
    obtain ⟨⟨ys, gd1⟩, S6, e6, e7⟩ := bnd_some h
    refine hi1 rl re ys gd1 S6 e6 _ fun m6 H6 J1 rl6 x6 w1 => ?_
    have hw4 := re.mono rl x6
    have e7 : lpM gd1 d.tgt d.tt (lcIM k fe ds) (wipeE env d.us) ys S6 = some ((), S7) := e7
    let Pw : Nat → Hp → Prop := fun j H7 => ∃ m7 S8, Rel K m7 S8 H7 ∧ Ext m6 H6 m7 H7 ∧ lpM gd1 d.tgt d.tt (lcIM k fe ds) (wipeE env d.us) (ys.drop j) S8 = some ((), S7)
    refine ⟨fun j n H7 => n = ys.length - j ∧ j ≤ ys.length ∧ Pw j H7, ⟨ys.length, by simp, Nat.zero_le _, m6, S6, rl6, .refl, e7⟩, ?_⟩
    rintro j n H7 ⟨rfl, hjle, m7, S8, rl7, x7, h8⟩
    have hgd1 : gdOk S8 gd1 := lpM_ok h8
    have GG1 : ∃ m2 S2, Rel K m2 S2 H7 ∧ Ext m6 H6 m2 H7 ∧ gdOk S2 gd1 := ⟨m7, S8, rl7, x7, hgd1⟩
    by_cases hjl : j < ys.length
    · refine .inr ⟨w1.goes j H7 hjl GG1, Pw (j + 1), fun H' p' => ⟨ys.length - (j + 1), by omega, rfl, hjl, p'⟩, fun x' H8 y' => ?_⟩
      obtain ⟨d2, hd2, rl8, x8, rd2⟩ := w1.yields j H7 x' H8 hjl GG1 y' m7 S8 rl7 x7 hgd1
      rw [drop_at hd2] at h8
      have h9 := (gdM_some h8).2
      obtain ⟨env9, S9, e9, h10⟩ := bnd_some h9
      obtain ⟨b1, S10, e10, h11⟩ := bnd_some h10
      have rew1 : RelE K m7 H8 (wipeE env d.us) (L2.wipe σ c.vs) := by rw [hvs]; exact (hw4.mono rl6 (x7.trans x8)).wipe d.us
      refine hg1 rl8 rew1 rd2 env9 S9 e9 _ fun m9 H9 σ9 rl9 x9 re9 o9 => ⟨by rw [o9.wipe, wipe_wipe], ?_⟩
      refine ht1 rl9 re9 b1 S10 e10 _ fun m10 H10 rl10 x10 => ?_
      cases b1 with
      | true =>
        have h11' : bnd (lcIM k fe ds env9) (fun _ => lpM gd1 d.tgt d.tt (lcIM k fe ds) (wipeE env d.us) (ys.drop (j + 1))) S10 = some ((), S7) := h11
        obtain ⟨_, S12, e12, h13⟩ := bnd_some h11'
        have hk10 : m10[k]? = some D := x10.at (x9.at (x8.at (x7.at (x6.at hk))))
        exact iteT (step_S he cs ds hrest rl10 (re9.mono rl9 x10) hk10 S12 e12 _ fun m11 H11 rl11 x11 => ⟨m11, S12, rl11, x7.trans (x8.trans (x9.trans (x10.trans x11))), h13⟩)
      | false => exact iteF ⟨m10, S10, rl10, x7.trans (x8.trans (x9.trans x10)), h11⟩
    · have e : j = ys.length := by omega
      subst e
      rw [List.drop_length] at h8
      cases (gdM_some h8).2
      exact .inl ⟨w1.stops H7 GG1, q m7 _ rl7 (x6.trans x7)⟩
  | [], _ :: _, h, _, _, _, _, _, _, _, _, _, _, _, _ => h.elim
  | _ :: _, [], h, _, _, _, _, _, _, _, _, _, _, _, _ => h.elim
theorem se_lcN {wi : TI} {g : TG} {ws : List Nat} {tt : TT} {te : TE} {fi : SEnv → M (List D × Gd)} {fg : D → SEnv → M SEnv} {ft : SEnv → M Bool} {fe : SEnv → M D} {cs : List CT} {ds : List CM}
    (hi : SIt K wi fi) (hg : SGt K ws g fg) (ht : ST K tt ft) (hcl : ClS K cs ds) (he : SE K te fe) : SE K (tLcN wi g tt cs te ws) (eLcN fi fg ft ds fe ws) := fun m S H env σ rl re d S' hh Q q => by
  obtain ⟨⟨xs, gd⟩, S1, e1, h1⟩ := bnd_some hh
  refine hi rl re xs gd S1 e1 _ fun m1 H1 J rl1 x1 w => ?_
  intro D hD
  have h1' : bnd (lpM gd fg ft (lcIM S1.length fe ds) (wipeE env ws) xs) (fun _ => ret (.ref S1.length)) (S1 ++ [.lst []]) = some (d, S') := h1
  obtain ⟨_, S0, e0, h0⟩ := bnd_some h1'
  cases h0
  obtain ⟨rl1', x1', rD⟩ := rl1.new (o := .lst []) (u := .lst []) hD (.lst .nil)
  have hk0 : (m1 ++ [D])[S1.length]? = some D := by
    rw [← rl1.len, List.getElem?_append_right (Nat.le_refl _), Nat.sub_self]
    rfl
  have hw1 := re.mono rl x1
  let Pv : Nat → Hp → Prop := fun i H2 => ∃ m2 S2, Rel K m2 S2 H2 ∧ Ext (m1 ++ [D]) (upd H1 D (.lst [])) m2 H2 ∧ lpM gd fg ft (lcIM S1.length fe ds) (wipeE env ws) (xs.drop i) S2 = some ((), S')
  refine ⟨fun i n H2 => n = xs.length - i ∧ i ≤ xs.length ∧ Pv i H2, ⟨xs.length, by simp, Nat.zero_le _, _, _, rl1', .refl, e0⟩, ?_⟩
  rintro i n H2 ⟨rfl, hile, m2, S2, rl2, x2, h2⟩
  have hgd : gdOk S2 gd := lpM_ok h2
  have GG : ∃ m2 S2, Rel K m2 S2 H2 ∧ Ext m1 H1 m2 H2 ∧ gdOk S2 gd := ⟨m2, S2, rl2, x1'.trans x2, hgd⟩
  by_cases hlt : i < xs.length
  · refine .inr ⟨w.goes i H2 hlt GG, Pv (i + 1), fun H' p' => ⟨xs.length - (i + 1), by omega, rfl, hlt, p'⟩, fun x H3 y => ?_⟩
    obtain ⟨d1, hd, rl3, x3, rd⟩ := w.yields i H2 x H3 hlt GG y m2 S2 rl2 (x1'.trans x2) hgd
    rw [drop_at hd] at h2
    have h3 := (gdM_some h2).2
    obtain ⟨env3, S4, e4, h4⟩ := bnd_some h3
    obtain ⟨b, S5, e5, h5⟩ := bnd_some h4
    have rew : RelE K m2 H3 (wipeE env ws) (L2.wipe σ ws) := (hw1.mono rl1 (x1'.trans (x2.trans x3))).wipe ws
    refine hg rl3 rew rd env3 S4 e4 _ fun m4 H4 σ4 rl4 x4 re4 o4 => ⟨by rw [o4.wipe, wipe_wipe], ?_⟩
    refine ht rl4 re4 b S5 e5 _ fun m5 H5 rl5 x5 => ?_
    cases b with
    | true =>
      have h5' : bnd (lcIM S1.length fe ds env3) (fun _ => lpM gd fg ft (lcIM S1.length fe ds) (wipeE env ws) (xs.drop (i + 1))) S5 = some ((), S') := h5
      obtain ⟨_, S12, e12, h13⟩ := bnd_some h5'
      have x25 : Ext (m1 ++ [D]) (upd H1 D (.lst [])) m5 H5 := x2.trans (x3.trans (x4.trans x5))
      exact iteT (step_S he cs ds hcl rl5 (re4.mono rl4 x5) (x25.at hk0) S12 e12 _ fun m11 H11 rl11 x11 => ⟨m11, S12, rl11, x25.trans x11, h13⟩)
    | false => exact iteF ⟨m5, S5, rl5, x2.trans (x3.trans (x4.trans x5)), h5⟩
  · have e : i = xs.length := by omega
    subst e
    rw [List.drop_length] at h2
    cases (gdM_some h2).2
    exact .inl ⟨w.stops H2 GG, q m2 H2 _ rl2 (x1.trans (x1'.trans x2)) (.ref (x2.at hk0))⟩
end
end TS
set_option Elab.async false
set_option linter.all false
set_option maxRecDepth 100000
namespace TS
open PySem PySem.Spec PyProof.Rows L2 RT
section
variable {X : Cx} {K : PySem.W.Frag} {pos : Pos}
theorem SGt.sub {ws vs : List Nat} {g : TG} {fg : D → SEnv → M SEnv} (h : SGt K ws g fg) (hs : ∀ i ∈ ws, i ∈ vs) : SGt K vs g fg := fun m S H env σ d v rl re rd env' S' hh Q q => h rl re rd env' S' hh Q fun m' H' σ' r1 r2 r3 o => q m' H' σ' r1 r2 r3 ⟨o.1, fun i hi => o.2 i (fun z => hi (hs i z))⟩
theorem de_lc3 {elt tg iter tg1 iter1 tg2 iter2 : Expr} {ifs ifs1 ifs2 : List Expr} {scope : Scope} (own : List (Str × Nat)) (us us2 : List Nat) {wi wi1 wi2 : TI} {g g1 g2 : TG} {tt tt1 tt2 : TT} {te : TE} {fi fi1 fi2 : SEnv → M (List D × Gd)} {fg fg1 fg2 : D → SEnv → M SEnv} {ft ft1 ft2 : SEnv → M Bool} {fe : SEnv → M D} (hc : X.calm = true) (hN : X.N.Nodup) (hi : DI X tg iter wi fi) (ok : BlkOk X.N X.env.scope scope own)
    (hv : ∀ i ∈ us, i ∈ own.map (·.2)) (hv2 : ∀ i ∈ us2, i ∈ us) {ws ws1 ws2 : List Nat} (hws : ∀ i ∈ ws, i ∈ own.map (·.2)) (hws1 : ∀ i ∈ ws1, i ∈ us) (hws2 : ∀ i ∈ ws2, i ∈ us2)
    (hg : ∀ (s : Shared) (H : Hp) (C : Addr) (cl : List (Str × Addr)) (fp : List Addr), DG (X.blk s H scope (compEnvC scope cl C X.env) fp) tg ws g fg) (ht : ∀ (s : Shared) (H : Hp) (C : Addr) (cl : List (Str × Addr)) (fp : List Addr), DTs (X.blk s H scope (compEnvC scope cl C X.env) fp) ifs tt ft)
    (hi1 : ∀ (s : Shared) (H : Hp) (C : Addr) (cl : List (Str × Addr)) (fp : List Addr), DI (X.blk s H scope (compEnvC scope cl C X.env) fp) tg1 iter1 wi1 fi1)
    (hg1 : ∀ (s : Shared) (H : Hp) (C : Addr) (cl : List (Str × Addr)) (fp : List Addr), DG (X.blk s H scope (compEnvC scope cl C X.env) fp) tg1 ws1 g1 fg1) (ht1 : ∀ (s : Shared) (H : Hp) (C : Addr) (cl : List (Str × Addr)) (fp : List Addr), DTs (X.blk s H scope (compEnvC scope cl C X.env) fp) ifs1 tt1 ft1)
    (hi2 : ∀ (s : Shared) (H : Hp) (C : Addr) (cl : List (Str × Addr)) (fp : List Addr), DI (X.blk s H scope (compEnvC scope cl C X.env) fp) tg2 iter2 wi2 fi2)
    (hg2 : ∀ (s : Shared) (H : Hp) (C : Addr) (cl : List (Str × Addr)) (fp : List Addr), DG (X.blk s H scope (compEnvC scope cl C X.env) fp) tg2 ws2 g2 fg2) (ht2 : ∀ (s : Shared) (H : Hp) (C : Addr) (cl : List (Str × Addr)) (fp : List Addr), DTs (X.blk s H scope (compEnvC scope cl C X.env) fp) ifs2 tt2 ft2)
    (he : ∀ (s : Shared) (H : Hp) (C : Addr) (cl : List (Str × Addr)) (fp : List Addr), DE (X.blk s H scope (compEnvC scope cl C X.env) fp) elt te fe) (hs : ∀ x, foldedSetIterable iter X.env x = pure x := by intro _; rfl) (hs1 : ∀ env x, foldedSetIterable iter1 env x = pure x := by intro _ _; rfl) (hs2 : ∀ env x, foldedSetIterable iter2 env x = pure x := by intro _ _; rfl) :
    DE X (.ListComp elt [⟨tg, iter, ifs, 0⟩, ⟨tg1, iter1, ifs1, 0⟩, ⟨tg2, iter2, ifs2, 0⟩] scope pos) (tLcN wi g tt [⟨wi1, g1, tt1, us⟩, ⟨wi2, g2, tt2, us2⟩] te (own.map (·.2))) (eLcN fi fg ft [⟨fi1, fg1, ft1, us⟩, ⟨fi2, fg2, ft2, us2⟩] fe (own.map (·.2))) :=
  ⟨pe_lcN hc hN hi.pi ok hv (fun s H C cl fp => (hg s H C cl fp).pg) (fun s H C cl fp => (ht s H C cl fp).pts) (fun s H C cl fp => ⟨rfl, hs1, (hi1 s H C cl fp).pi, (hg1 s H C cl fp).pg, (ht1 s H C cl fp).pts, hv2, rfl, hs2, (hi2 s H C cl fp).pi, (hg2 s H C cl fp).pg, (ht2 s H C cl fp).pts, (fun _ h => nomatch h), trivial⟩) (fun s H C cl fp => (he s H C cl fp).pe) hs,
   se_lcN hi.si (SGt.sub (hg X.s_0 X.H_0 0 [] []).sg hws) (ht X.s_0 X.H_0 0 [] []).st ⟨rfl, (hi1 X.s_0 X.H_0 0 [] []).si, SGt.sub (hg1 X.s_0 X.H_0 0 [] []).sg hws1, (ht1 X.s_0 X.H_0 0 [] []).st, rfl, (hi2 X.s_0 X.H_0 0 [] []).si, SGt.sub (hg2 X.s_0 X.H_0 0 [] []).sg hws2, (ht2 X.s_0 X.H_0 0 [] []).st, trivial⟩ (he X.s_0 X.H_0 0 [] []).se⟩
theorem ds_setLc3 (i : Nat) {y : Str} {py spos : Pos} {elt tg iter tg1 iter1 tg2 iter2 : Expr} {ifs ifs1 ifs2 : List Expr} {scope : Scope} (own : List (Str × Nat)) (us us2 : List Nat) {wi wi1 wi2 : TI} {g g1 g2 : TG} {tt tt1 tt2 : TT} {te : TE} {fi fi1 fi2 : SEnv → M (List D × Gd)} {fg fg1 fg2 : D → SEnv → M SEnv} {ft ft1 ft2 : SEnv → M Bool} {fe : SEnv → M D} (hc : X.calm = true) (hN : X.N.Nodup) (hi : DI X tg iter wi fi) (ok : BlkOk X.N X.env.scope scope own)
    (hv : ∀ i ∈ us, i ∈ own.map (·.2)) (hv2 : ∀ i ∈ us2, i ∈ us) {ws ws1 ws2 : List Nat} (hws : ∀ i ∈ ws, i ∈ own.map (·.2)) (hws1 : ∀ i ∈ ws1, i ∈ us) (hws2 : ∀ i ∈ ws2, i ∈ us2)
    (hg : ∀ (s : Shared) (H : Hp) (C : Addr) (cl : List (Str × Addr)) (fp : List Addr), DG (X.blk s H scope (compEnvC scope cl C X.env) fp) tg ws g fg) (ht : ∀ (s : Shared) (H : Hp) (C : Addr) (cl : List (Str × Addr)) (fp : List Addr), DTs (X.blk s H scope (compEnvC scope cl C X.env) fp) ifs tt ft)
    (hi1 : ∀ (s : Shared) (H : Hp) (C : Addr) (cl : List (Str × Addr)) (fp : List Addr), DI (X.blk s H scope (compEnvC scope cl C X.env) fp) tg1 iter1 wi1 fi1)
    (hg1 : ∀ (s : Shared) (H : Hp) (C : Addr) (cl : List (Str × Addr)) (fp : List Addr), DG (X.blk s H scope (compEnvC scope cl C X.env) fp) tg1 ws1 g1 fg1) (ht1 : ∀ (s : Shared) (H : Hp) (C : Addr) (cl : List (Str × Addr)) (fp : List Addr), DTs (X.blk s H scope (compEnvC scope cl C X.env) fp) ifs1 tt1 ft1)
    (hi2 : ∀ (s : Shared) (H : Hp) (C : Addr) (cl : List (Str × Addr)) (fp : List Addr), DI (X.blk s H scope (compEnvC scope cl C X.env) fp) tg2 iter2 wi2 fi2)
    (hg2 : ∀ (s : Shared) (H : Hp) (C : Addr) (cl : List (Str × Addr)) (fp : List Addr), DG (X.blk s H scope (compEnvC scope cl C X.env) fp) tg2 ws2 g2 fg2) (ht2 : ∀ (s : Shared) (H : Hp) (C : Addr) (cl : List (Str × Addr)) (fp : List Addr), DTs (X.blk s H scope (compEnvC scope cl C X.env) fp) ifs2 tt2 ft2)
    (he : ∀ (s : Shared) (H : Hp) (C : Addr) (cl : List (Str × Addr)) (fp : List Addr), DE (X.blk s H scope (compEnvC scope cl C X.env) fp) elt te fe) (hsw : swapsWith (.ListComp elt [⟨tg, iter, ifs, 0⟩, ⟨tg1, iter1, ifs1, 0⟩, ⟨tg2, iter2, ifs2, 0⟩] scope pos) (some (.Name y py)) spos.line X.env = pure true)
    (hy : X.N[i]? = some y := by rfl) (hyl : X.env.scope.names.lookup y = some .local := by rfl) (hs : ∀ x, foldedSetIterable iter X.env x = pure x := by intro _; rfl) (hs1 : ∀ env x, foldedSetIterable iter1 env x = pure x := by intro _ _; rfl) (hs2 : ∀ env x, foldedSetIterable iter2 env x = pure x := by intro _ _; rfl) :
    DS X (.Assign [.Name y py] (.ListComp elt [⟨tg, iter, ifs, 0⟩, ⟨tg1, iter1, ifs1, 0⟩, ⟨tg2, iter2, ifs2, 0⟩] scope pos) spos) (tAsg (tLcN wi g tt [⟨wi1, g1, tt1, us⟩, ⟨wi2, g2, tt2, us2⟩] te (own.map (·.2))) (gName i)) (sAsg (eLcN fi fg ft [⟨fi1, fg1, ft1, us⟩, ⟨fi2, fg2, ft2, us2⟩] fe (own.map (·.2))) (gN i)) :=
  ⟨ps_setLcN hc hN hi.pi ok hv (fun s H C cl fp => (hg s H C cl fp).pg) (fun s H C cl fp => (ht s H C cl fp).pts) (fun s H C cl fp => ⟨rfl, hs1, (hi1 s H C cl fp).pi, (hg1 s H C cl fp).pg, (ht1 s H C cl fp).pts, hv2, rfl, hs2, (hi2 s H C cl fp).pi, (hg2 s H C cl fp).pg, (ht2 s H C cl fp).pts, (fun _ h => nomatch h), trivial⟩) (fun s H C cl fp => (he s H C cl fp).pe) hs hy hyl hsw,
   ss_asg (se_lcN hi.si (SGt.sub (hg X.s_0 X.H_0 0 [] []).sg hws) (ht X.s_0 X.H_0 0 [] []).st ⟨rfl, (hi1 X.s_0 X.H_0 0 [] []).si, SGt.sub (hg1 X.s_0 X.H_0 0 [] []).sg hws1, (ht1 X.s_0 X.H_0 0 [] []).st, rfl, (hi2 X.s_0 X.H_0 0 [] []).si, SGt.sub (hg2 X.s_0 X.H_0 0 [] []).sg hws2, (ht2 X.s_0 X.H_0 0 [] []).st, trivial⟩ (he X.s_0 X.H_0 0 [] []).se) (dg_name (pos := py) i hN hy (.inl hyl) (.inr hyl))⟩
end
end TS
set_option Elab.async false
set_option linter.all false
set_option maxRecDepth 100000
namespace TS
open PySem PySem.Spec PyProof.Rows L2
/-- a loop of a comprehension, by a word over its turns -/
theorem wp_lp {g : Gd} {tgt : D → SEnv → M SEnv} {tt : SEnv → M Bool} {body : SEnv → M Unit} {env : SEnv} {xs : List D} {S : Store} {Q : Unit → Store → Prop} (I : Nat → Store → Prop) (hg : ∀ i S, I i S → gdOk S g)
    (step : ∀ i x S, xs[i]? = some x → I i S → wp (tgt x env) S fun env1 S1 => wp (tt env1) S1 fun b S2 => if b = true then wp (body env1) S2 fun _ S3 => I (i + 1) S3 else I (i + 1) S2)
    (fin : ∀ S, I xs.length S → Q () S) (h : I 0 S) : wp (lpM g tgt tt body env xs) S Q := by
  have key : ∀ (n i : Nat) (S : Store), i + n = xs.length → I i S → wp (lpM g tgt tt body env (xs.drop i)) S Q := by
    intro n
    induction n with
    | zero =>
      intro i S hi hI
      have e : xs.drop i = [] := List.drop_eq_nil_iff.mpr (by omega)
      rw [e]
      show wp (gdM g (ret ())) S Q
      rw [wp_gd (hg i S hI), wp_ret]
      have : i = xs.length := by omega
      subst this
      exact fin S hI
    | succ n ih =>
      intro i S hi hI
      have hil : i < xs.length := by omega
      rw [drop_at (List.getElem?_eq_getElem hil)]
      show wp (gdM g (bnd (tgt xs[i] env) fun env1 => bnd (tt env1) fun b => if b then bnd (body env1) fun _ => lpM g tgt tt body env (xs.drop (i + 1)) else lpM g tgt tt body env (xs.drop (i + 1)))) S Q
      rw [wp_gd (hg i S hI), wp_bnd]
      refine (step i xs[i] S (List.getElem?_eq_getElem hil) hI).mono fun env1 S1 h => ?_
      rw [wp_bnd]
      refine h.mono fun b S2 h => ?_
      cases b with
      | true =>
        rw [if_pos rfl] at h ⊢
        rw [wp_bnd]
        exact h.mono fun _ S3 h => ih (i + 1) S3 (by omega) h
      | false =>
        rw [if_neg Bool.false_ne_true] at h ⊢
        exact ih (i + 1) S2 (by omega) h
  exact key xs.length 0 S (by omega) h
theorem w_lcN {fi : SEnv → M (List D × Gd)} {tgt : D → SEnv → M SEnv} {tt : SEnv → M Bool} {cs : List CM} {te : SEnv → M D} {vs : List Nat} {env : SEnv} {S : Store} {Q : D → Store → Prop} : wp (eLcN fi tgt tt cs te vs env) S Q ↔ wp (fi env) S fun p S1 => wp (lpM p.2 tgt tt (lcIM S1.length te cs) (wipeE env vs) p.1) (S1 ++ [.lst []]) fun _ S2 => Q (.ref S1.length) S2 := by
  unfold eLcN
  rw [wp_bnd]
  have e : ∀ (p : List D × Gd) (S1 : Store), wp (bnd newLst fun k => bnd (lpM p.2 tgt tt (lcIM k te cs) (wipeE env vs) p.1) fun _ => ret (.ref k)) S1 Q ↔ wp (lpM p.2 tgt tt (lcIM S1.length te cs) (wipeE env vs) p.1) (S1 ++ [.lst []]) fun _ S2 => Q (.ref S1.length) S2 := fun p S1 => by
    rw [wp_bnd, wp_some (show newLst S1 = some (S1.length, S1 ++ [.lst []]) from rfl), wp_bnd]
    simp only [wp_ret]
  simp only [e]
theorem w_lcI0 {k : Nat} {te : SEnv → M D} {env : SEnv} {S : Store} {Q : Unit → Store → Prop} : wp (lcIM k te [] env) S Q ↔ wp (te env) S fun d S1 => wp (pushM k d) S1 Q := wp_bnd
theorem w_lcI1 {k : Nat} {te : SEnv → M D} {c : CM} {cs : List CM} {env : SEnv} {S : Store} {Q : Unit → Store → Prop} : wp (lcIM k te (c :: cs) env) S Q ↔ wp (c.fi env) S fun p S1 => wp (lpM p.2 c.tgt c.tt (lcIM k te cs) (wipeE env c.us) p.1) S1 Q := wp_bnd
theorem w_push {k : Nat} {d : D} {acc : List D} {S : Store} {Q : Unit → Store → Prop} (h : S[k]? = some (.lst acc)) (hl : acc.length < sizeLine) : wp (pushM k d) S Q ↔ Q () (S.set k (.lst (acc ++ [d]))) := wp_some (by unfold pushM; rw [h]; simp only; rw [if_pos hl])
end TS
set_option Elab.async false
set_option linter.all false
set_option maxRecDepth 100000
namespace TS
open PySem PySem.Spec PyProof.Rows L2
/-! ### a dict of the module's own top, its keys texts -/
/-- one entry, as data -/
def EntD (K : PySem.W.Frag) (e : DictEntry) (p : Str × D) : Prop := (∃ t, e.key = .str p.1 t) ∧ ∃ v, RelV v e.val ∧ ∀ m H, Rep K m H p.2 v
inductive EntsD (K : PySem.W.Frag) : List DictEntry → List (Str × D) → Prop
  | nil : EntsD K [] []
  | cons {e p es ps} : EntD K e p → EntsD K es ps → EntsD K (e :: es) (p :: ps)
/-- at a: a dict of the written part that holds the table -/
def KTab (K : PySem.W.Frag) (w : World) (a : Addr) (tbl : List (Str × D)) : Prop := ∃ es n, KDict K w a es n ∧ EntsD K es.toList tbl
def tabAt (tbl : List (Str × D)) (z : Str) : Option D := (tbl.find? fun p => decide (p.1 = z)).map (·.2)
theorem str_is (z y : Str) (t : Tok) : (Value.str y t).isStr z = decide (y = z) := by
  by_cases c : y = z
  · subst c
    rw [decide_eq_true rfl]
    simp [Value.isStr]
  · rw [decide_eq_false c]
    simp [Value.isStr, c]
theorem ents_find {K : PySem.W.Frag} {z : Str} : ∀ {es : List DictEntry} {tbl : List (Str × D)}, EntsD K es tbl →
    (es.any (·.refKey) = false) ∧ match es.find? (·.key.isStr z), tabAt tbl z with
      | some e, some d => ∃ v, RelV v e.val ∧ ∀ m H, Rep K m H d v
      | none, none => True
      | _, _ => False
  | [], [], .nil => ⟨rfl, trivial⟩
  | e :: es, p :: ps, .cons ⟨⟨t, hk⟩, hv⟩ hs => by
    obtain ⟨h1, h2⟩ := ents_find (z := z) hs
    refine ⟨?_, ?_⟩
    · rw [List.any_cons, h1]
      unfold DictEntry.refKey
      rw [hk]
      rfl
    · unfold tabAt
      rw [List.find?_cons, List.find?_cons, hk, str_is]
      by_cases c : p.1 = z
      · rw [decide_eq_true c]
        exact hv
      · rw [decide_eq_false c]
        exact h2
theorem KTab.at {K : PySem.W.Frag} {w : World} {a : Addr} {tbl : List (Str × D)} (h : KTab K w a tbl) (z : Str) :
    ∃ r : Option Value, PySem.W.nsIn K a z = some r ∧ match r, tabAt tbl z with
      | some u, some d => ∃ v, RelV v u ∧ ∀ m H, Rep K m H d v
      | none, none => True
      | _, _ => False := by
  obtain ⟨es, n, kd, he⟩ := h
  obtain ⟨h1, h2⟩ := ents_find (z := z) he
  unfold PySem.W.nsIn
  rw [kd.at_]
  simp only
  cases e1 : es.toList.find? (·.key.isStr z) with
  | none =>
    rw [e1] at h2
    refine ⟨none, by simp only [h1]; rfl, ?_⟩
    cases e2 : tabAt tbl z with
    | none => trivial
    | some d => rw [e2] at h2; exact h2
  | some e =>
    rw [e1] at h2
    refine ⟨some e.val, rfl, ?_⟩
    cases e2 : tabAt tbl z with
    | none => rw [e2] at h2; exact h2
    | some d => rw [e2] at h2; exact h2
section
variable {X : Cx} {a : Addr} {tbl : List (Str × D)} {e : Expr} {te : TE} {fe : SEnv → M D} {x : Str} {p pos : Pos}
/-- G[e] -/
def eKGet (tbl : List (Str × D)) (fe : SEnv → M D) : SEnv → M D := fun env => bnd (fe env) fun d => match d with
  | .str z => (match tabAt tbl z with
    | some r => ret r
    | none => fail)
  | _ => fail
theorem de_kget (T : KTab X.K X.w a tbl) (hg : Gl X x) (hm : X.mg x = some (.ref a)) (he : DE X e te fe) (hs : PlainIx e := by exact fun _ _ => rfl) (hd : (x == ("__debug__" : Str)) = false := by decide) : DE X (.Subscript (.Name x p) e pos) (tOp (rIxD X.K X.w) (tC (.ref a)) te) (eKGet tbl fe) := by
  refine ⟨pe_ix ix_kdict (pe_glob (v := .ref a) hg hm rfl hd) he.pe hs, fun m S H env σ rl re d S' h Q q => ?_⟩
  obtain ⟨b, S1, h1, h2⟩ := bnd_some h
  refine he.se rl re b S1 h1 _ fun m1 H1 v rl1 e1 rv => ?_
  cases rv with
  | str z =>
    simp only at h2
    cases e2 : tabAt tbl z with
    | none => rw [e2] at h2; cases h2
    | some r =>
      rw [e2] at h2
      cases h2
      obtain ⟨o, ho, hr⟩ := T.at z
      rw [e2] at hr
      cases o with
      | none => exact hr.elim
      | some u =>
        obtain ⟨v0, g1, g2⟩ := hr
        obtain ⟨es, n, kd, _⟩ := T
        exact ⟨a, z, v0, rfl, rfl, ⟨es, n, u, kd.at_, kd.lit, ho, g1⟩, q m1 H1 v0 rl1 e1 (g2 m1 H1)⟩
  | _ => cases h2
/-- e in G -/
def eKIn (tbl : List (Str × D)) (fe : SEnv → M D) : SEnv → M D := fun env => bnd (fe env) fun d => match d with
  | .str z => ret (.bl (tabAt tbl z).isSome)
  | _ => fail
abbrev rKIn (K : PySem.W.Frag) (d : Addr) : R2 := fun x y H Q => ∃ (z : Str) (r : Option Value), x = .str z ∧ y = .ref d ∧ PySem.W.nsIn K d z = some r ∧ Q (.bl r.isSome) H
theorem se_kin (T : KTab X.K X.w a tbl) (he : SE X.K te fe) : SE X.K (tOp (rKIn X.K a) te (tC (.ref a))) (eKIn tbl fe) := fun m S H env σ rl re d S' h Q q => by
  obtain ⟨b, S1, h1, h2⟩ := bnd_some h
  refine he rl re b S1 h1 _ fun m1 H1 v rl1 e1 rv => ?_
  cases rv with
  | str z =>
    cases h2
    obtain ⟨o, ho, hr⟩ := T.at z
    refine ⟨z, o, rfl, rfl, ho, ?_⟩
    have : o.isSome = (tabAt tbl z).isSome := by
      cases o <;> cases e2 : tabAt tbl z <;> rw [e2] at hr <;> first | rfl | exact hr.elim
    rw [this]
    exact q m1 H1 _ rl1 e1 (.bl _)
  | _ => cases h2
theorem de_kin (T : KTab X.K X.w a tbl) (hg : Gl X x) (hm : X.mg x = some (.ref a)) (he : DE X e te fe) (hb : behindInMarks .In (.Name x p) = false := by first | exact nobehind _ (by decide) (by decide) | rfl) (hd : (x == ("__debug__" : Str)) = false := by decide) : DE X (.Compare e [.In] [.Name x p] pos) (tOp (rKIn X.K a) te (tC (.ref a))) (eKIn tbl fe) :=
  let ⟨_, _, kd, _⟩ := id T
  ⟨pe_cmpR (op_in_kd kd) he.pe (pe_glob (v := .ref a) hg hm rfl hd) hb, se_kin T he.se⟩
theorem dt_kin (T : KTab X.K X.w a tbl) (hg : Gl X x) (hm : X.mg x = some (.ref a)) (he : DE X e te fe) (hb : behindInMarks .In (.Name x p) = false := by first | exact nobehind _ (by decide) (by decide) | rfl) (hd : (x == ("__debug__" : Str)) = false := by decide) : DT X (.Compare e [.In] [.Name x p] pos) (tTest (tOp (rKIn X.K a) te (tC (.ref a)))) (asB (eKIn tbl fe)) :=
  let ⟨_, _, kd, _⟩ := id T
  ⟨pt_cmpR (op_in_kd kd) he.pe (pe_glob (v := .ref a) hg hm rfl hd) hb, st_B (se_kin T he.se)⟩
end
/-- a table of texts, from what is looked up -/
def strTab (l : List (Str × Str)) : List (Str × D) := l.map fun p => (p.1, .str p.2)
def entS (e : DictEntry) : Option (Str × Str) := match e.key, e.val with
  | .str k _, .str v _ => some (k, v)
  | _, _ => none
theorem entsS {K : PySem.W.Frag} : ∀ {es : List DictEntry} {l : List (Str × Str)}, es.map entS = l.map some → EntsD K es (strTab l)
  | [], [], _ => .nil
  | e :: es, p :: ps, h => by
    injection h with h1 h2
    refine .cons ?_ (entsS h2)
    obtain ⟨hash, key, val⟩ := e
    unfold entS at h1
    cases key with
    | str k t =>
      cases val with
      | str v u =>
        cases h1
        exact ⟨⟨t, rfl⟩, .str v, ⟨u, rfl⟩, fun m H => .str v⟩
      | _ => cases h1
    | _ => cases h1
  | [], _ :: _, h => by cases h
  | _ :: _, [], h => by cases h
theorem ktab_str {K : PySem.W.Frag} {w : World} {a : Addr} {es : Array DictEntry} {n : Nat} {l : List (Str × Str)} (h1 : K.lookup a = some ⟨.type "dict", none, .dict es n, #[]⟩) (h2 : PySem.W.KeysLit w.params es.toList) (h3 : (a == sysModules) = false) (h4 : es.toList.map entS = l.map some) : KTab K w a (strTab l) :=
  ⟨es, n, ⟨h1, h2, h3⟩, entsS h4⟩
end TS
set_option Elab.async false
set_option linter.all false
set_option maxRecDepth 100000
namespace TS
open PySem PySem.Spec PyProof.Rows L2
section
variable {S : Store} {env : SEnv} {Q : D → Store → Prop} {tbl : List (Str × D)} {fe : SEnv → M D}
theorem w_kget : wp (eKGet tbl fe env) S Q ↔ wp (fe env) S fun d S1 => ∃ z r, d = .str z ∧ tabAt tbl z = some r ∧ Q r S1 := by
  unfold eKGet
  rw [wp_bnd]
  constructor
  · exact fun h => h.mono fun d S1 h => by
      cases d with
      | str z =>
        simp only at h
        cases e : tabAt tbl z with
        | none => rw [e] at h; exact (w_fail.mp h).elim
        | some r => rw [e] at h; exact ⟨z, r, rfl, e, wp_ret.mp h⟩
      | _ => exact (w_fail.mp h).elim
  · exact fun h => h.mono fun d S1 ⟨z, r, e1, e2, q⟩ => by
      subst e1
      simp only [e2]
      exact wp_ret.mpr q
theorem w_kin : wp (eKIn tbl fe env) S Q ↔ wp (fe env) S fun d S1 => ∃ z, d = .str z ∧ Q (.bl (tabAt tbl z).isSome) S1 := by
  unfold eKIn
  rw [wp_bnd]
  constructor
  · exact fun h => h.mono fun d S1 h => by
      cases d with
      | str z => exact ⟨z, rfl, wp_ret.mp h⟩
      | _ => exact (w_fail.mp h).elim
  · exact fun h => h.mono fun d S1 ⟨z, e1, q⟩ => by
      subst e1
      exact wp_ret.mpr q
end
end TS
set_option Elab.async false
set_option linter.all false
set_option maxRecDepth 100000
namespace TS
open PySem PySem.Spec PyProof.Rows L2
/-! ### texts as lists of signs; written tables -/
def mkS (s : List Nat) : Str := ⟨s.toArray⟩
theorem mkS_toList (s : List Nat) : (mkS s).cps.toList = s := by unfold mkS; simp
theorem mkS_len (s : List Nat) : (mkS s).length = s.length := by unfold mkS Str.length; simp
theorem mkS_of (z : Str) : mkS z.cps.toList = z := by unfold mkS; simp
theorem mkS_app (s u : List Nat) : mkS s ++ mkS u = mkS (s ++ u) := by
  rw [← mkS_of (mkS s ++ mkS u)]
  congr 1
  rw [show (mkS s ++ mkS u).cps = (mkS s).cps ++ (mkS u).cps from rfl, Array.toList_append, mkS_toList, mkS_toList]
theorem mkS_inj {s u : List Nat} : mkS s = mkS u ↔ s = u := ⟨fun h => by rw [← mkS_toList s, h, mkS_toList], fun h => by rw [h]⟩
theorem mkS_one (c : Nat) : (⟨#[c]⟩ : Str) = mkS [c] := rfl
def PlnL (s : List Nat) : Prop := ∀ c ∈ s, c < 128
theorem PlnL.nil : PlnL [] := fun _ h => nomatch h
theorem PlnL.cons {c : Nat} {s : List Nat} (h : c < 128) (hs : PlnL s) : PlnL (c :: s) := fun d hd => by
  rcases List.mem_cons.mp hd with rfl | hd
  · exact h
  · exact hs d hd
theorem PlnL.app {s u : List Nat} (h : PlnL s) (g : PlnL u) : PlnL (s ++ u) := fun c hc => (List.mem_append.mp hc).elim (h c) (g c)
theorem PlnL.pln {s : List Nat} (h : PlnL s) : Plain (mkS s) := fun c hc => h c (by rw [mkS_toList] at hc; exact hc)
theorem beq_mkS (s u : List Nat) : (mkS s == mkS u) = decide (s = u) := by
  rw [Bool.eq_iff_iff, beq_iff_eq, decide_eq_true_iff, mkS_inj]
section
variable {S : Store} {env : SEnv} {Q : D → Store → Prop} {QU : Unit → Store → Prop}
theorem w_eqM {s u : List Nat} (hs : PlnL s) (hu : PlnL u) : wp (eqD (.str (mkS s)) (.str (mkS u))) S Q ↔ Q (.bl (decide (s = u))) S := by
  rw [w_eqS hs.pln.ok hu.pln.ok, beq_mkS]
theorem w_neM {s u : List Nat} (hs : PlnL s) (hu : PlnL u) : wp (neD (.str (mkS s)) (.str (mkS u))) S Q ↔ Q (.bl (!decide (s = u))) S := by
  rw [w_neS hs.pln.ok hu.pln.ok, beq_mkS]
theorem w_addM {s u : List Nat} : wp (addD (.str (mkS s)) (.str (mkS u))) S Q ↔ s.length + u.length ≤ sizeLine ∧ Q (.str (mkS (s ++ u))) S := by
  rw [w_addS, mkS_len, mkS_len, mkS_app]
theorem w_get2 {fo fi fx : SEnv → M D} : wp (eGet2 fo fi fx env) S Q ↔ wp (fo env) S fun a S1 => wp (isDM a) S1 fun _ S2 => wp (fi env) S2 fun b S3 => wp (fx env) S3 fun z S4 => wp (dgetO a b z) S4 Q := by
  unfold eGet2
  simp only [wp_bnd]
theorem w_isDM {i : Nat} {kvs : List (Key × D)} (h : S[i]? = some (.dK kvs)) : wp (isDM (.ref i)) S QU ↔ QU () S := wp_some (by unfold isDM isDct; simp only [h, if_true])
theorem w_dgetO {i : Nat} {kvs : List (Key × D)} {b z : D} {k : Key} (h : S[i]? = some (.dK kvs)) (hk : keyOf b = some k) : wp (dgetO (.ref i) b z) S Q ↔ Q ((lookD kvs k).getD z) S := wp_some (by unfold dgetO; simp only [hk, h])
end
/-- a table as it stands in the store -/
def kvT (l : List (Str × D)) : List (Key × D) := l.map fun p => (Sum.inr p.1, p.2)
theorem lookD_kvT (z : Str) : ∀ l : List (Str × D), lookD (kvT l) (.inr z) = tabAt l z
  | [] => rfl
  | p :: l => by
    have ih := lookD_kvT z l
    show (if (Sum.inr p.1 : Key) = .inr z then some p.2 else lookD (kvT l) (.inr z)) = _
    unfold tabAt
    rw [List.find?_cons]
    by_cases c : p.1 = z
    · rw [if_pos (by rw [c]), decide_eq_true c]
      rfl
    · rw [if_neg (fun h => c (Sum.inr.inj h)), decide_eq_false c, ih]
      rfl
theorem merge_kvT (l : List (Str × D)) (h : (l.map (·.1)).Nodup) : mergeD [] (kvT l) = kvT l := by
  have key : ∀ (l acc : List (Str × D)), ((acc ++ l).map (·.1)).Nodup → mergeD (kvT acc) (kvT l) = kvT (acc ++ l) := by
    intro l
    induction l with
    | nil => intro acc _; rw [List.append_nil]; rfl
    | cons p l ih =>
      intro acc h
      have e : putD (kvT acc) (.inr p.1) p.2 = kvT (acc ++ [p]) := by
        have hn : hasD (kvT acc) (.inr p.1) = false := by
          unfold hasD
          rw [lookD_kvT]
          unfold tabAt
          have : acc.find? (fun q => decide (q.1 = p.1)) = none := by
            rw [List.find?_eq_none]
            intro q hq
            rw [List.map_append, List.nodup_append] at h
            have := h.2.2 q.1 (List.mem_map.mpr ⟨q, hq, rfl⟩) p.1 (by simp)
            simpa using this
          rw [this]
          rfl
        unfold putD
        rw [hn, if_neg Bool.false_ne_true]
        unfold kvT
        rw [List.map_append]
        rfl
      show mergeD (putD (kvT acc) (.inr p.1) p.2) (kvT l) = _
      rw [e, ih (acc ++ [p]) (by rw [List.append_assoc]; exact h), List.append_assoc]
      rfl
  exact key l [] h
theorem tabAt_ix {l : List (Str × D)} {z : Str} {i : Nat} {p : Str × D} (h : (l.map (·.1)).findIdx? (fun k => decide (k = z)) = some i) (hp : l[i]? = some p) : tabAt l z = some p.2 := by
  induction l generalizing i with
  | nil => cases hp
  | cons q l ih =>
    unfold tabAt
    rw [List.map_cons, List.findIdx?_cons] at h
    rw [List.find?_cons]
    cases c : decide (q.1 = z) with
    | true =>
      rw [c, if_pos rfl] at h
      cases h
      cases hp
      rfl
    | false =>
      rw [c, if_neg Bool.false_ne_true] at h
      obtain ⟨j, hj, rfl⟩ := Option.map_eq_some_iff.mp h
      exact ih hj hp
theorem tabAt_no {l : List (Str × D)} {z : Str} (h : z ∉ l.map (·.1)) : tabAt l z = none := by
  unfold tabAt
  have : l.find? (fun q => decide (q.1 = z)) = none := by
    rw [List.find?_eq_none]
    intro q hq
    have : q.1 ≠ z := fun e => h (e ▸ List.mem_map.mpr ⟨q, hq, rfl⟩)
    simpa using this
  rw [this]
  rfl
theorem set_new {S : Store} {a b : MO} : (S ++ [a]).set S.length b = S ++ [b] := by rw [List.set_append_right _ _ (Nat.le_refl _), Nat.sub_self]; rfl
/-- a written table is made -/
theorem w_fillT {S : Store} {Q : D → Store → Prop} {l : List (Str × D)} (hl : l.length ≤ 15) (hn : (l.map (·.1)).Nodup) : wp (fillD S.length (kvT l)) (S ++ [.dK []]) Q ↔ Q (.ref S.length) (S ++ [.dK (kvT l)]) := by
  rw [w_fill get_new (by unfold kvT; rw [List.length_map]; exact hl), merge_kvT l hn, set_new]
end TS
set_option Elab.async false
set_option linter.all false
set_option maxRecDepth 100000
namespace TS
open PySem PySem.Spec PyProof.Rows L2
/-! ### written texts compared -/
theorem lit_mk (a : String) : Str.ofString a = mkS (a.toList.map Char.toNat) := Str.ofString_eq_toList a
theorem lit_inj {a b : String} : Str.ofString a = Str.ofString b ↔ a = b := by
  constructor
  · intro h
    rw [lit_mk, lit_mk, mkS_inj] at h
    have key : ∀ l m : List Char, l.map Char.toNat = m.map Char.toNat → l = m := by
      intro l
      induction l with
      | nil => intro m h; cases m with
        | nil => rfl
        | cons _ _ => cases h
      | cons c l ih =>
        intro m h
        cases m with
        | nil => cases h
        | cons d m =>
          rw [List.map_cons, List.map_cons] at h
          injection h with h1 h2
          have h3 : c = d := by
            apply Char.ext
            exact UInt32.toNat_inj.mp h1
          rw [h3, ih m h2]
    have := key _ _ h
    exact String.toList_inj.mp this
  · intro h
    rw [h]
theorem lit_beq (a b : String) : (Str.ofString a == Str.ofString b) = (a == b) := by
  rw [Bool.eq_iff_iff, beq_iff_eq, beq_iff_eq, lit_inj]
theorem lit_ok (a : String) : PyData.strOk (Str.ofString a) = true := by
  rw [lit_mk]
  unfold PyData.strOk mkS
  rw [Array.all_eq_true]
  intro i hi
  have : ((a.toList.map Char.toNat).toArray)[i] ∈ a.toList.map Char.toNat := by
    simp
    exact ⟨_, List.getElem_mem _, rfl⟩
  obtain ⟨c, _, hc⟩ := List.mem_map.mp this
  have := c.valid
  rw [decide_eq_true_iff]
  show ((a.toList.map Char.toNat).toArray)[i] < 0x110000
  rw [← hc]
  have h := c.valid
  unfold UInt32.isValidChar Nat.isValidChar at h
  have : c.toNat = c.val.toNat := rfl
  omega
theorem at0 {α : Type} {a : α} {r : List α} : atI (a :: r) 0 = some a := atI_nat (j := 0) rfl
theorem at1 {α : Type} {a b : α} {r : List α} : atI (a :: b :: r) 1 = some b := atI_nat (j := 1) rfl
theorem at2 {α : Type} {a b c : α} {r : List α} : atI (a :: b :: c :: r) 2 = some c := atI_nat (j := 2) rfl
theorem at3 {α : Type} {a b c d : α} {r : List α} : atI (a :: b :: c :: d :: r) 3 = some d := atI_nat (j := 3) rfl
section
variable {S : Store} {env : SEnv} {Q : D → Store → Prop}
theorem w_eqL {a b : String} : wp (eqD (.str (Str.ofString a)) (.str (Str.ofString b))) S Q ↔ Q (.bl (a == b)) S := by
  rw [w_eqS (lit_ok a) (lit_ok b), lit_beq]
theorem w_neL {a b : String} : wp (neD (.str (Str.ofString a)) (.str (Str.ofString b))) S Q ↔ Q (.bl (!(a == b))) S := by
  rw [w_neS (lit_ok a) (lit_ok b), lit_beq]
theorem w_inT1 {x a : String} : wp (inU (.str (Str.ofString x)) (.tup [.str (Str.ofString a)])) S Q ↔ Q (.bl (a == x)) S := by
  rw [w_some (a := D.bl (Str.ofString a == Str.ofString x || false)) rfl, lit_beq, Bool.or_false]
where w_some {a : D} {m : M D} {S' : Store} (h : m S = some (a, S')) : wp m S Q ↔ Q a S' := wp_some h
theorem w_inT2 {x a b : String} : wp (inU (.str (Str.ofString x)) (.tup [.str (Str.ofString a), .str (Str.ofString b)])) S Q ↔ Q (.bl (a == x || b == x)) S := by
  rw [wp_some (a := D.bl (Str.ofString a == Str.ofString x || (Str.ofString b == Str.ofString x || false))) (S' := S) rfl, lit_beq, lit_beq, Bool.or_false]
theorem w_inT3 {x a b c : String} : wp (inU (.str (Str.ofString x)) (.tup [.str (Str.ofString a), .str (Str.ofString b), .str (Str.ofString c)])) S Q ↔ Q (.bl (a == x || (b == x || c == x))) S := by
  rw [wp_some (a := D.bl (Str.ofString a == Str.ofString x || (Str.ofString b == Str.ofString x || (Str.ofString c == Str.ofString x || false)))) (S' := S) rfl, lit_beq, lit_beq, lit_beq, Bool.or_false]
theorem w_inS {c : Nat} {z : Str} : wp (inU (.str ⟨#[c]⟩) (.str z)) S Q ↔ Q (.bl (decide (c ∈ z.cps.toList))) S := wp_some rfl
end
end TS
set_option Elab.async false
set_option linter.all false
set_option maxRecDepth 100000
namespace TS
open PySem PySem.Spec PyProof.Rows L2
/-! ### what stood before stays; pop, extend, the truth of a list -/
structure Stay (S S' : Store) : Prop where
  le : S.length ≤ S'.length
  get : ∀ i, i < S.length → S'[i]? = S[i]?
section
variable {S S1 S2 S' : Store}
theorem Stay.refl : Stay S S := ⟨Nat.le_refl _, fun _ _ => rfl⟩
theorem Stay.trans (a : Stay S S1) (b : Stay S1 S2) : Stay S S2 := ⟨Nat.le_trans a.le b.le, fun i hi => (b.get i (Nat.lt_of_lt_of_le hi a.le)).trans (a.get i hi)⟩
theorem Stay.app {l : Store} : Stay S (S ++ l) := ⟨by rw [List.length_append]; omega, fun i hi => List.getElem?_append_left hi⟩
theorem Stay.set {i : Nat} {o : MO} (h : Stay S S1) (hi : S.length ≤ i) : Stay S (S1.set i o) := ⟨by rw [List.length_set]; exact h.le, fun j hj => by rw [List.getElem?_set_ne (by omega)]; exact h.get j hj⟩
theorem Stay.dr {r q : Nat} (h : Stay S S') (d : Dr r q S) : Dr r q S' := by
  obtain ⟨row, a, seed, h1, h2, h3⟩ := d.ex
  exact ⟨d.ne, row, a, seed, by rw [h.get _ d.lt.1]; exact h1, by rw [h.get _ d.lt.2]; exact h2, h3⟩
theorem Stay.kp {r : Nat} (h : Stay S S') : Kp r S S' := ⟨h.le, fun i hi _ => h.get i hi⟩
theorem Stay.at {i : Nat} {o : MO} (h : Stay S S') (e : S[i]? = some o) : S'[i]? = some o := by rw [h.get _ (lt_of_get e)]; exact e
theorem Grow.stay (h : Grow S S') : Stay S S' := by
  obtain ⟨l, rfl⟩ := h
  exact .app
end
section
variable {S : Store} {env : SEnv} {Q : D → Store → Prop} {QB : Bool → Store → Prop}
theorem w_pop {i : Nat} {xs : List D} {d : D} (h : S[i]? = some (.lst (xs ++ [d]))) : wp (mPop (.ref i) []) S Q ↔ Q d (S.set i (.lst xs)) := wp_some (by
  unfold mPop
  simp only [h]
  rw [List.length_append, List.length_singleton, Nat.add_sub_cancel, List.getElem?_append_right (Nat.le_refl _), Nat.sub_self, List.dropLast_concat]
  rfl)
theorem w_ext {i j : Nat} {xs ys : List D} (h1 : S[i]? = some (.lst xs)) (h2 : S[j]? = some (.lst ys)) (hz : xs.length + ys.length ≤ sizeLine) : wp (mExtend (.ref i) [.ref j]) S Q ↔ Q .non (S.set i (.lst (xs ++ ys))) := wp_some (by
  unfold mExtend
  simp only [h1, h2]
  rw [if_pos hz])
theorem w_truL {i : Nat} {xs : List D} (h : S[i]? = some (.lst xs)) : wp (tru (.ref i)) S QB ↔ QB (!xs.isEmpty) S := wp_some (by unfold tru; simp only [h])
end
end TS
set_option Elab.async false
set_option linter.all false
set_option maxRecDepth 100000
namespace TS
open PySem PySem.Spec PyProof.Rows L2
/-! ### pieces of texts -/
theorem cut_mk (s : List Nat) (i j : Nat) : cutS (mkS s) (some (i : Int)) (some (j : Int)) = mkS ((s.drop i).take (j - i)) := by
  unfold cutS
  rw [HT.sIx_nat, HT.sIx_nat, mkS_toList, mkS_len]
  show mkS _ = _
  rw [mkS_inj]
  by_cases h : i ≤ s.length
  · rw [show min i s.length = i by omega]
    by_cases g : j ≤ s.length
    · rw [show min j s.length = j by omega]
    · rw [show min j s.length = s.length by omega, List.take_of_length_le (by rw [List.length_drop]; omega), List.take_of_length_le (by rw [List.length_drop]; omega)]
  · rw [show min i s.length = s.length by omega, List.drop_of_length_le (Nat.le_refl s.length), List.drop_of_length_le (by omega : s.length ≤ i)]
    simp
section
variable {S : Store} {Q : D → Store → Prop}
theorem w_slM {s : List Nat} {i j : Nat} : wp (slD (.str (mkS s)) (some (i : Int)) (some (j : Int))) S Q ↔ s.length ≤ sizeLine ∧ Q (.str (mkS ((s.drop i).take (j - i)))) S := by
  rw [w_slS, mkS_len, cut_mk]
theorem w_ixM {s : List Nat} {i : Nat} {c : Nat} (h : s[i]? = some c) (hl : s.length ≤ sizeLine) : wp (ixU (.str (mkS s)) (.int (i : Int))) S Q ↔ Q (.str ⟨#[c]⟩) S := by
  rw [w_ixS, mkS_len, mkS_toList, atI_nat h]
  simp [hl]
end
theorem PlnL.take {s : List Nat} (h : PlnL s) (n : Nat) : PlnL (s.take n) := fun c hc => h c (List.mem_of_mem_take hc)
theorem PlnL.drop {s : List Nat} (h : PlnL s) (n : Nat) : PlnL (s.drop n) := fun c hc => h c (List.mem_of_mem_drop hc)
end TS
set_option Elab.async false
set_option linter.all false
set_option maxRecDepth 100000
namespace TS
open PySem PySem.Spec PyProof.Rows L2
/-! ### a dict of the module's own top, its values tuples of texts; its keys as a list; try where nothing is raised; ''.join(..).replace(.., ..) -/
def strsTab (l : List (Str × List Str)) : List (Str × D) := l.map fun p => (p.1, .tup (p.2.map .str))
/-- key and value as they stand -/
def entV (e : DictEntry) : Option (Str × Value) := match e.key with
  | .str k _ => some (k, e.val)
  | _ => none
/-- a written tuple of texts -/
def strsOfV : List Value → Option (List Str)
  | [] => some []
  | .str x _ :: r => (strsOfV r).map (x :: ·)
  | _ :: _ => none
theorem strsOfV_rep {K : PySem.W.Frag} {m : List Addr} {H : Hp} : ∀ {us : List Value} {xs : List Str}, strsOfV us = some xs → Vals (xs.map V.str) us ∧ Reps K m H (xs.map D.str) (xs.map V.str)
  | [], xs, h => by cases h; exact ⟨.nil, .nil⟩
  | .str x t :: r, xs, h => by
    obtain ⟨ys, h1, rfl⟩ := Option.map_eq_some_iff.mp h
    obtain ⟨h2, h3⟩ := strsOfV_rep (K := K) (m := m) (H := H) h1
    exact ⟨.cons ⟨t, rfl⟩ h2, .cons (.str x) h3⟩
/-- a written tuple at T -/
def TupT (K : PySem.W.Frag) (v : Value) (xs : List Str) : Prop := ∃ T o its n, v = .ref T ∧ K.lookup T = some o ∧ o.cls = .type "tuple" ∧ o.data = .seq its n ∧ strsOfV its.toList = some xs ∧ its.size ≤ sizeLine
inductive EntsT (K : PySem.W.Frag) : List DictEntry → List (Str × List Str) → Prop
  | nil : EntsT K [] []
  | cons {e p v es ps} : entV e = some (p.1, v) → TupT K v p.2 → EntsT K es ps → EntsT K (e :: es) (p :: ps)
theorem EntsT.d {K : PySem.W.Frag} : ∀ {es : List DictEntry} {l : List (Str × List Str)}, EntsT K es l → EntsD K es (strsTab l)
  | [], [], .nil => .nil
  | e :: es, p :: ps, .cons h1 h2 h3 => by
    refine .cons ?_ h3.d
    obtain ⟨hash, key, val⟩ := e
    unfold entV at h1
    cases key with
    | str k t =>
      cases h1
      obtain ⟨T, o, its, n, rfl, g1, g2, g3, g4, g5⟩ := h2
      refine ⟨⟨t, rfl⟩, .ref T, rfl, fun m H => ?_⟩
      have hv := strsOfV_rep (K := K) (m := m) (H := H) g4
      exact .tup (.inr ⟨o, its, n, g1, g2, g3, g5, hv.1⟩) hv.2 fun q => by
        obtain ⟨k0, l0⟩ := p
        cases l0 <;> exact absurd q (by simp [intsQ])
    | _ => cases h1
theorem ktab_strs {K : PySem.W.Frag} {w : World} {a : Addr} {es : Array DictEntry} {n : Nat} {l : List (Str × List Str)} (h1 : K.lookup a = some ⟨.type "dict", none, .dict es n, #[]⟩) (h2 : PySem.W.KeysLit w.params es.toList) (h3 : (a == sysModules) = false) (h4 : EntsT K es.toList l) : KTab K w a (strsTab l) :=
  ⟨es, n, ⟨h1, h2, h3⟩, h4.d⟩
theorem tupT_mk {K : PySem.W.Frag} {T : Addr} {oc : Value} {od : Option Addr} {its : Array Value} {n : Nat} {sl : Array (Option Value)} {xs : List Str} (h : K.lookup T = some ⟨.type "tuple", od, .seq its n, sl⟩) (h2 : strsOfV its.toList = some xs) (h3 : its.size ≤ 1000) : TupT K (.ref T) xs :=
  ⟨T, _, its, n, rfl, h, rfl, rfl, h2, Nat.le_trans h3 (by decide)⟩
/-! list(G) -/
section
variable {X : Cx} {a : Addr} {tbl : List (Str × D)}
def keysD (tbl : List (Str × D)) : List D := tbl.map fun p => .str p.1
abbrev rListK (a : Addr) (tbl : List (Str × D)) : List V → Hp → VK → Prop := fun xs H Q => xs = [.ref a] ∧ ∀ p, H p = none → Q (.ref p) (upd H p (.lst (tbl.map fun q => V.str q.1)))
theorem ents_len {K : PySem.W.Frag} : ∀ {es : List DictEntry} {tbl : List (Str × D)}, EntsD K es tbl → es.length = tbl.length ∧ ∀ (j : Nat) (e : DictEntry) (p : Str × D), es[j]? = some e → tbl[j]? = some p → ∃ t, e.key = .str p.1 t
  | [], [], .nil => ⟨rfl, fun j e p h => by simp at h⟩
  | e :: es, p :: ps, .cons h1 h2 => by
    obtain ⟨g1, g2⟩ := ents_len h2
    refine ⟨by rw [List.length_cons, List.length_cons, g1], fun j e' p' h3 h4 => ?_⟩
    cases j with
    | zero => cases h3; cases h4; exact h1.1
    | succ j => exact g2 j e' p' h3 h4
theorem cr_listK (hc : X.calm = true) (T : KTab X.K X.w a tbl) (hz : tbl.length ≤ 1000) : CallR X (.type "list") (rListK a tbl) := by
  intro pins s σ H xs us Q I r h
  obtain ⟨e, q⟩ := h
  subst e
  obtain ⟨u, eu, rx⟩ := vals1 r
  subst eu
  obtain rfl : u = Value.ref a := rx
  obtain ⟨es, n, kd, he⟩ := T
  obtain ⟨g1, g2⟩ := ents_len he
  have hat : s.heap.get? a = some ⟨.type "dict", none, .dict es n, #[]⟩ := I.kIn _ _ kd.at_
  have hsz : es.size = tbl.length := by rw [← g1, Array.length_toList]
  refine PySem.W.kdl_call (kdl_raw (o := ⟨.type "dict", none, .dict es n, #[]⟩) kd.low ⟨rfl, rfl, rfl⟩ rfl) (I.ok.hd hc) hat (by rw [hsz]; exact Nat.le_trans hz (by decide)) fun h' tk acc' c' hkeep hS hacc => ?_
  refine ⟨.ref s.heap.objs.size, _, I.laid (o := .lst (tbl.map fun q => V.str q.1)) hkeep (Nat.le_refl _) ⟨?_, acc'.toList, c', ?_, ?_⟩, rfl, q _ (I.hok.fresh (Nat.le_refl _))⟩
  · rw [List.length_map]; exact Nat.le_trans hz (by decide)
  · have e1 : acc'.toList.length = tbl.length := by rw [Array.length_toList, hacc.1, hsz]
    refine vals_of_at (by rw [List.length_map, e1]) fun j x v h1 h2 => ?_
    obtain ⟨en, h3, rfl⟩ := hacc.2 j v (by rw [← Array.getElem?_toList]; exact h2)
    rw [List.getElem?_map] at h1
    obtain ⟨p, h4, rfl⟩ := Option.map_eq_some_iff.mp h1
    obtain ⟨t, ht⟩ := g2 j en p (by rw [Array.getElem?_toList]; exact h3) h4
    exact ⟨t, ht⟩
  · rw [Array.toArray_toList]; exact hS
def eListK (tbl : List (Str × D)) : SEnv → M D := fun _ S => some (.ref S.length, S ++ [.lst (keysD tbl)])
theorem keys_rep {K : PySem.W.Frag} {m : List Addr} {H : Hp} : ∀ tbl : List (Str × D), Reps K m H (keysD tbl) (tbl.map fun q => V.str q.1)
  | [] => .nil
  | p :: r => .cons (.str p.1) (keys_rep r)
theorem de_listK {x : Str} {p0 p pos : Pos} (hc : X.calm = true) (T : KTab X.K X.w a tbl) (hz : tbl.length ≤ 1000) (hml : X.mg "list" = none) (hm : X.mg x = some (.ref a)) (hg : Gl X x) (hgl : Gl X "list" := by rfl) (hd : (x == ("__debug__" : Str)) = false := by decide)
    (hst : starEach [Expr.Name x p] X.env = (false, eval (Expr.Name x p) X.env) :: starEach [] X.env := by rfl) (hpl : (backTo pos (starEach [] X.env)).any (·.1) = false := by rfl) :
    DE X (.Call (.Name "list" p0) [.Name x p] [] pos) (tCB (rListK a tbl) (tCons (tC (.ref a)) tNil)) (eListK tbl) := by
  refine ⟨pe_callTy (cr_listK hc T hz) hgl hml (by decide +kernel) (pa_cons (pe_glob (v := .ref a) hg hm rfl hd) pa_nil hst) (by decide) (by decide) hst hpl, fun m S H env σ rl re d S' h Q q => ?_⟩
  cases h
  refine ⟨rfl, fun l hl => ?_⟩
  obtain ⟨a1, a2, a3⟩ := rl.new hl (.lst (keys_rep tbl))
  exact q _ _ _ a1 a2 a3
/-- try, where the body raises nothing -/
theorem ds_try {body : List Stmt} {h₀ : ExceptHandler} {hs : List ExceptHandler} {t : TS} {f : SEnv → M (Fl × SEnv)} {pos : Pos} (hb : DSs X.nox body t f) : DS X (.Try body (h₀ :: hs) [] [] pos) t f := ⟨ps_try_thru0 hb.ps, hb.ss⟩
/-! ''.join(xs).replace(y, z) -/
section
variable {e : Expr} {te : TE} {fe : SEnv → M D} {z y r : Str} {j k l : Nat} {c0 c1 c2 apos pos apos2 pos2 : Pos}
def rJR (K : PySem.W.Frag) (z y r : Str) : V → Hp → VK → Prop := fun x H Q => ∃ (p : Addr) (ys : List Str), x = .ref p ∧ (SqL K H p (ys.map V.str) ∨ SqT K H p (ys.map V.str)) ∧ (ys.map (·.length)).sum + ys.length * z.length ≤ 16777216 ∧
  (Txt.join z ys).length + ((Txt.join z ys).length + 1) * r.length ≤ 16777216 ∧ Q (.str (Txt.replace (Txt.join z ys) y r)) H
theorem pe_joinRepl (he : PE X e te) (hyr : (y == r) = false := by decide)
    (hbase : attributeBase (.Constant (.str z) j c0) "join" X.env (eval (.Constant (.str z) j c0) X.env) = eval (.Constant (.str z) j c0) X.env := by rfl)
    (hfew : ((backTo pos (starEach [e] X.env)).all (fun x => !x.1) && (backToKw pos (keywordEach [] X.env)).all (fun x => x.1.isSome) && decide ([e].length + ([] : List Keyword).length + (if ([] : List Keyword).isEmpty then 0 else 1) < 30)) = true := by rfl)
    (hline : (apos.endLine == pos.line) = true := by rfl) (hs : starEach [e] X.env = (false, eval e X.env) :: starEach [] X.env := by rfl) (hplain : (backTo pos (starEach [] X.env)).any (·.1) = false := by rfl)
    (hst2 : starEach [.Constant (.str y) k c1, .Constant (.str r) l c2] X.env = [(false, eval (.Constant (.str y) k c1) X.env), (false, eval (.Constant (.str r) l c2) X.env)] := by rfl)
    (hbase2 : attributeBase (.Call (.Attribute (.Constant (.str z) j c0) "join" apos) [e] [] pos) "replace" X.env (eval (.Call (.Attribute (.Constant (.str z) j c0) "join" apos) [e] [] pos) X.env) = eval (.Call (.Attribute (.Constant (.str z) j c0) "join" apos) [e] [] pos) X.env := by rfl)
    (hline2 : (apos2.endLine == pos2.line) = true := by rfl) :
    PE X (.Call (.Attribute (.Call (.Attribute (.Constant (.str z) j c0) "join" apos) [e] [] pos) "replace" apos2) [.Constant (.str y) k c1, .Constant (.str r) l c2] [] pos2) (tUn (rJR X.K z y r) te) := by
  refine ⟨fun pins s σ H Q I h => ?_⟩
  refine PySem.Call_method2 hbase2 hst2 hline2 ?_
  refine wpAny_Call_method_late hbase hfew hline rfl (Calls.Constant_str ?_)
  have I0 : Inv X pins σ H { s with toks := s.toks + 1 } := I.tok _
  obtain ⟨h1, h2⟩ := tyV_is I0 (show RelV (.str z) (.str z s.toks) from ⟨_, rfl⟩) (show tyV X.K "str" (.str z) H from rfl)
  refine ⟨"str", "str.join", PySem.F.plainAttrs_str, PySem.F.slot_str_join, PySem.F.type_str_join, h1, h2, ?_⟩
  have hA := (pa_cons he pa_nil hs).run pos pins { s with toks := s.toks + 1 } σ H (fun vs H1 => match vs with
    | [x] => rJR X.K z y r x H1 Q
    | _ => False) I0 h
  · rw [hs] at hA ⊢
    refine Calls.callWith_builtin (by show (false || (backTo pos (starEach [] X.env)).any (·.1)) = false; rw [hplain] <;> rfl) (Calls.evalArgs_plain ?_)
    refine wpAny_mono (wpAny_toks_of (n := 1) (by show 1 ≤ s.toks + 1; omega) hA) ?_ fun _ _ z => z.2
    rintro us s2 ⟨ht2, vs, H2, I2, r2, q2⟩
    cases vs with
    | nil => exact q2.elim
    | cons x vs =>
    cases vs with
    | cons _ _ => exact q2.elim
    | nil =>
    obtain ⟨p, ys, rfl, hsq, hb, hb2, q⟩ := q2
    have hm := mt_join (X := X) pins s2 σ H2 (.str z) [.ref p] (.str z s.toks) us (fun v H' => v = .str (Txt.join z ys) ∧ H' = H2) I2 ⟨_, rfl⟩ r2 ⟨z, p, ys, rfl, rfl, hsq, hb, rfl, rfl⟩
    refine wpAny_mono (wpAny_toks_of (n := 1) ht2 hm) ?_ fun _ _ z => z.2
    rintro v s3 ⟨ht3, v', H3, I3, r3, rfl, rfl⟩
    obtain ⟨tx, rfl⟩ := r3
    refine ⟨"str", _, PySem.F.plainAttrs_str, PySem.F.slot_str_replace, PySem.F.type_str_replace, typeIs_str _ _ _, (fun _ e => nomatch e), Calls.callWith_builtin rfl (Calls.evalArgs_plain (Calls.spliced_cons ?_))⟩
    refine Calls.Constant_str (Calls.spliced_cons (Calls.Constant_str (Calls.spliced_nil ?_)))
    exact PySem.SC.replace (by show s3.toks ≠ 0; omega) (by show s3.toks + 1 ≠ 0; omega) (by show s3.toks ≠ s3.toks + 1; omega) hyr hb2 fun t' k => ⟨.str _, H3, I3.tok k, ⟨t', rfl⟩, q⟩
def joinRepl (z y r : Str) (d : D) : M D := bnd (mJoin (.str z) [d]) fun v => match v with
  | .str x => if x.length + (x.length + 1) * r.length ≤ 16777216 then ret (.str (Txt.replace x y r)) else fail
  | _ => fail
def eJR (z y r : Str) (fe : SEnv → M D) : SEnv → M D := fun env => bnd (fe env) (joinRepl z y r)
theorem de_joinRepl (he : DE X e te fe) (hyr : (y == r) = false := by decide)
    (hbase : attributeBase (.Constant (.str z) j c0) "join" X.env (eval (.Constant (.str z) j c0) X.env) = eval (.Constant (.str z) j c0) X.env := by rfl)
    (hfew : ((backTo pos (starEach [e] X.env)).all (fun x => !x.1) && (backToKw pos (keywordEach [] X.env)).all (fun x => x.1.isSome) && decide ([e].length + ([] : List Keyword).length + (if ([] : List Keyword).isEmpty then 0 else 1) < 30)) = true := by rfl)
    (hline : (apos.endLine == pos.line) = true := by rfl) (hs : starEach [e] X.env = (false, eval e X.env) :: starEach [] X.env := by rfl) (hplain : (backTo pos (starEach [] X.env)).any (·.1) = false := by rfl)
    (hst2 : starEach [.Constant (.str y) k c1, .Constant (.str r) l c2] X.env = [(false, eval (.Constant (.str y) k c1) X.env), (false, eval (.Constant (.str r) l c2) X.env)] := by rfl)
    (hbase2 : attributeBase (.Call (.Attribute (.Constant (.str z) j c0) "join" apos) [e] [] pos) "replace" X.env (eval (.Call (.Attribute (.Constant (.str z) j c0) "join" apos) [e] [] pos) X.env) = eval (.Call (.Attribute (.Constant (.str z) j c0) "join" apos) [e] [] pos) X.env := by rfl)
    (hline2 : (apos2.endLine == pos2.line) = true := by rfl) :
    DE X (.Call (.Attribute (.Call (.Attribute (.Constant (.str z) j c0) "join" apos) [e] [] pos) "replace" apos2) [.Constant (.str y) k c1, .Constant (.str r) l c2] [] pos2) (tUn (rJR X.K z y r) te) (eJR z y r fe) := by
  refine ⟨pe_joinRepl he.pe hyr hbase hfew hline hs hplain hst2 hbase2 hline2, fun m S H env σ rl re d S' h Q q => ?_⟩
  obtain ⟨a, S1, h1, h2⟩ := bnd_some h
  refine he.se rl re a S1 h1 _ fun m1 H1 v rl1 e1 rv => ?_
  obtain ⟨w, S2, h3, h4⟩ := bnd_some h2
  unfold mJoin at h3
  dsimp only at h3
  cases e1' : seqOf S1 a with
  | none => rw [e1'] at h3; cases h3
  | some xs =>
    rw [e1'] at h3
    dsimp only at h3
    cases e2' : strsOf xs with
    | none => rw [e2'] at h3; cases h3
    | some ys =>
      rw [e2'] at h3
      dsimp only at h3
      split at h3
      · cases h3
        rename_i cb
        dsimp only at h4
        split at h4
        · cases h4
          rename_i c
          obtain ⟨p, vs, rfl, g1, g2⟩ := seqOf_rep rl1 rv e1'
          have := strsOf_rep g2 e2'
          subst this
          exact ⟨p, ys, rfl, g1, cb, c, q _ _ _ rl1 e1 (.str _)⟩
        · cases h4
      · cases h3
end
end
end TS
namespace TS
open PySem PySem.Spec PyProof.Rows L2
theorem entsT_n {K : PySem.W.Frag} {es : List DictEntry} (h : es.map entV = []) : EntsT K es [] := by
  cases es with
  | nil => exact .nil
  | cons _ _ => cases h
theorem entsT_c {K : PySem.W.Frag} {es : List DictEntry} {l : List (Str × List Str)} {k : Str} {v : Value} {xs : List Str} {rest : List (Option (Str × Value))} (h : es.map entV = some (k, v) :: rest) (t : TupT K v xs) (ih : ∀ es', es'.map entV = rest → EntsT K es' l) : EntsT K es ((k, xs) :: l) := by
  cases es with
  | nil => cases h
  | cons e es =>
    injection h with h1 h2
    exact .cons h1 t (ih es h2)
end TS
namespace TS
open PySem PySem.Spec PyProof.Rows L2
/-- a call without arguments -/
theorem dk_fn0 {X : Cx} {x : Str} {lv : Nat} {F : List D → M D} {p pos : Pos} (K : PySem.W.Frag) (hK : X.K = K) (C : Callee X.prog X.w X.K X.mg X.base x lv 0 [] F) (hr : Room lv X.A) (hg : Gl X x := by rfl) (hdb : (x == ("__debug__" : Str)) = false := by decide) :
    DE X (.Call (.Name x p) [] [] pos) (tCall (spOf K 0 F) [] E0 tNil) (eCall F aNil) := by
  subst hK
  obtain ⟨f, fd, a, b, c, d⟩ := C.ex
  exact ⟨pe_call0 a hr hg b c d .nil pass0 hdb, se_callF (fun _ _ _ _ h => by cases h; rfl) da_nil.sa⟩
end TS
set_option Elab.async false
set_option linter.all false
set_option maxRecDepth 100000
namespace TS
open PySem PySem.Spec PyProof.Rows L2
section
variable {S : Store} {env : SEnv} {Q : D → Store → Prop}
theorem w_listK {tbl : List (Str × D)} : wp (eListK tbl env) S Q ↔ Q (.ref S.length) (S ++ [.lst (keysD tbl)]) := wp_some rfl
theorem w_jr {z y r : Str} {fe : SEnv → M D} : wp (eJR z y r fe env) S Q ↔ wp (fe env) S fun d S1 => wp (joinRepl z y r d) S1 Q := wp_bnd
end
end TS
set_option Elab.async false
set_option linter.all false
set_option maxRecDepth 100000
namespace TS
open PySem PySem.Spec PyProof.Rows L2 Builtin.Str PySem.StrLaws
/-! ### one sign replaced by a text -/
theorem occ_one_all (x : Str) (c limit : Nat) : ∀ (n k : Nat) (st : Array Nat × Nat), st.snd ≤ k → st.fst.size + n ≤ limit →
    (forIn (List.range' k n) st (occBody x ⟨#[c]⟩ x.length limit)).run.fst.toList = st.fst.toList ++ (List.range' k n).filter fun i => decide (x.cps.toList[i]? = some c)
  | 0, k, st, _, _ => by simp
  | n + 1, k, st, h1, h2 => by
    rw [List.range'_succ, List.forIn_cons, List.filter_cons]
    unfold occBody
    have one : (⟨#[c]⟩ : Str).length = 1 := rfl
    by_cases hc : x.cps.toList[k]? = some c
    · have h3 := (subAt_one x c k).mpr hc
      rw [if_pos ⟨⟨⟨by omega, h1⟩, h3.1⟩, h3.2⟩, if_pos (decide_eq_true hc)]
      show (forIn (List.range' (k + 1) n) (st.fst.push k, k + (⟨#[c]⟩ : Str).length) (occBody x ⟨#[c]⟩ x.length limit)).run.fst.toList = _
      rw [occ_one_all x c limit n (k + 1) _ (by show k + (⟨#[c]⟩ : Str).length ≤ k + 1; rw [one]; exact Nat.le_refl _) (by show (st.fst.push k).size + n ≤ limit; rw [Array.size_push]; omega), Array.toList_push, List.append_assoc]
      rfl
    · rw [if_neg (fun z => hc ((subAt_one x c k).mp ⟨z.1.2, z.2⟩)), if_neg (fun z => hc (of_decide_eq_true z))]
      show (forIn (List.range' (k + 1) n) (st.fst, st.snd) (occBody x ⟨#[c]⟩ x.length limit)).run.fst.toList = _
      exact occ_one_all x c limit n (k + 1) _ (Nat.le_succ_of_le h1) (by show st.fst.size + n ≤ limit; omega)
/-- where c stands, from k on -/
def spots (s : List Nat) (c k : Nat) : List Nat := (List.range' k (s.length + 1 - k)).filter fun i => decide (s[i]? = some c)
theorem occ_spots (s : List Nat) (c : Nat) : occurrences (mkS s) ⟨#[c]⟩ 0 (mkS s).length ((mkS s).length + 1) = spots s c 0 := by
  rw [occ_eq, occ_one_all _ c _ _ 0 _ (Nat.le_refl _) (by simp)]
  unfold spots
  rw [mkS_toList, mkS_len]
  simp
theorem spots_end {s : List Nat} {c k : Nat} (h : s.length ≤ k) : spots s c k = [] := by
  unfold spots
  rw [List.filter_eq_nil_iff]
  intro i hi
  have := List.mem_range'_1.mp hi
  rw [List.getElem?_eq_none (by omega)]
  simp
theorem spots_hit {s : List Nat} {c k : Nat} (h : s[k]? = some c) : spots s c k = k :: spots s c (k + 1) := by
  unfold spots
  have hk := (List.getElem?_eq_some_iff.mp h).1
  rw [show s.length + 1 - k = (s.length + 1 - (k + 1)) + 1 by omega, List.range'_succ, List.filter_cons, if_pos (decide_eq_true h)]
theorem spots_miss {s : List Nat} {c k : Nat} (hk : k < s.length) (h : s[k]? ≠ some c) : spots s c k = spots s c (k + 1) := by
  unfold spots
  rw [show s.length + 1 - k = (s.length + 1 - (k + 1)) + 1 by omega, List.range'_succ, List.filter_cons, if_neg (fun z => h (of_decide_eq_true z))]
def jl (z : List Nat) : List (List Nat) → List Nat
  | [] => []
  | [p] => p
  | p :: q :: r => p ++ z ++ jl z (q :: r)
theorem glued_fold (z : List Nat) : ∀ (rest : List Str) (a : List Nat), (⟨rest.foldl (fun acc p => acc ++ (mkS z).cps ++ p.cps) (mkS a).cps⟩ : Str) = mkS (jl z (a :: rest.map fun p => p.cps.toList))
  | [], a => rfl
  | p :: r, a => by
    rw [List.foldl_cons]
    have e : (mkS a).cps ++ (mkS z).cps ++ p.cps = (mkS (a ++ z ++ p.cps.toList)).cps := by
      unfold mkS
      apply Array.toList_inj.mp
      simp
    rw [e, glued_fold z r (a ++ z ++ p.cps.toList), List.map_cons]
    congr 1
    cases r with
    | nil => rfl
    | cons q r =>
      show _ ++ z ++ jl z _ = (a ++ z ++ (_ ++ z ++ jl z _))
      simp [List.append_assoc]
theorem glued_jl (z : List Nat) (p : Str) (r : List Str) : glued (mkS z) (p :: r) = mkS (jl z ((p :: r).map fun p => p.cps.toList)) := by
  have := glued_fold z r p.cps.toList
  rw [mkS_of] at this
  exact this
theorem strSub_mk (s : List Nat) (i j : Nat) : (strSub (mkS s) i j).cps.toList = (s.drop i).take (j - i) := by
  rw [strSub_toList, mkS_toList]
/-- what replaces c -/
def repl (c : Nat) (z : List Nat) (s : List Nat) : List Nat := s.flatMap fun d => if d = c then z else [d]
theorem jl_parts (s : List Nat) (c : Nat) (z : List Nat) : ∀ (n k a : Nat), a ≤ k → k + n = s.length → (∀ i, a ≤ i → i < k → s[i]? ≠ some c) →
    jl z ((partsFrom (mkS s) 1 a (spots s c k)).map fun p => p.cps.toList) = (s.drop a).take (k - a) ++ repl c z (s.drop k)
  | 0, k, a, h1, h2, h3 => by
    rw [spots_end (by omega)]
    show (strSub (mkS s) a (mkS s).length).cps.toList = _
    rw [strSub_mk, mkS_len, show s.length = k by omega, List.drop_eq_nil_iff.mpr (by omega : s.length ≤ k)]
    simp [repl]
  | n + 1, k, a, h1, h2, h3 => by
    have hk : k < s.length := by omega
    have hdr : s.drop k = s[k] :: s.drop (k + 1) := drop_at (List.getElem?_eq_getElem hk)
    rw [hdr]
    by_cases hc : s[k]? = some c
    · have e : s[k] = c := by rw [List.getElem?_eq_getElem hk] at hc; exact Option.some.inj hc
      rw [spots_hit hc]
      have ih := jl_parts s c z n (k + 1) (k + 1) (Nat.le_refl _) (by omega) (fun i h4 h5 => by omega)
      show jl z ((strSub (mkS s) a k).cps.toList :: (partsFrom (mkS s) 1 (k + 1) (spots s c (k + 1))).map fun p => p.cps.toList) = _
      obtain ⟨p, r, hp⟩ := partsFrom_ne (mkS s) 1 (k + 1) (spots s c (k + 1))
      rw [hp] at ih ⊢
      rw [List.map_cons]
      show (strSub (mkS s) a k).cps.toList ++ z ++ jl z _ = _
      rw [← List.map_cons (f := fun p : Str => p.cps.toList), ih, strSub_mk]
      simp [repl, e]
    · rw [spots_miss hk hc, jl_parts s c z n (k + 1) a (by omega) (by omega) (fun i h4 h5 => by
        by_cases q : i = k
        · subst q; exact hc
        · exact h3 i h4 (by omega))]
      have e : s[k] ≠ c := fun q => hc (by rw [List.getElem?_eq_getElem hk, q])
      have e2 : (s.drop a).take (k + 1 - a) = (s.drop a).take (k - a) ++ [s[k]] := by
        rw [show k + 1 - a = (k - a) + 1 by omega, List.take_add_one, List.getElem?_drop, show a + (k - a) = k by omega, List.getElem?_eq_getElem hk]
        rfl
      rw [e2]
      show _ = _ ++ repl c z (s[k] :: s.drop (k + 1))
      have e3 : repl c z (s[k] :: s.drop (k + 1)) = s[k] :: repl c z (s.drop (k + 1)) := by
        unfold repl
        rw [List.flatMap_cons, if_neg e]
        rfl
      rw [e3, List.append_assoc]
      rfl
theorem replace_one (s : List Nat) (c : Nat) (z : List Nat) (hz : z ≠ [c]) : Txt.replace (mkS s) ⟨#[c]⟩ (mkS z) = mkS (repl c z s) := by
  unfold Txt.replace
  rw [occ_spots]
  have key := jl_parts s c z s.length 0 0 (Nat.le_refl _) (by omega) (fun i h4 h5 => by omega)
  rw [List.drop_zero, Nat.sub_self, List.take_zero, List.nil_append] at key
  by_cases h : spots s c 0 = []
  · rw [if_pos (by rw [h]; rfl)]
    rw [h] at key
    have : jl z ((partsFrom (mkS s) 1 0 []).map fun p => p.cps.toList) = s := by
      show (strSub (mkS s) 0 (mkS s).length).cps.toList = s
      rw [strSub_mk, mkS_len]
      simp
    rw [← key, this]
  · rw [if_neg (by
      have : (⟨#[c]⟩ : Str).length = 1 := rfl
      rw [this]
      cases e : spots s c 0 with
      | nil => exact absurd e h
      | cons _ _ => simp), partsBetween_eq]
    show glued (mkS z) (partsFrom (mkS s) 1 0 (spots s c 0)) = _
    obtain ⟨p, r, hp⟩ := partsFrom_ne (mkS s) 1 0 (spots s c 0)
    rw [hp, glued_jl, ← hp, key]
end TS
set_option Elab.async false
set_option linter.all false
set_option maxRecDepth 100000
set_option maxHeartbeats 2000000
namespace TS
open PySem PySem.Spec PyProof.Rows L2
/-! ### dicts whose keys are tuples of integers, whatever holds the tuple -/
section
variable {X : Cx} {K : PySem.W.Frag} {m : List Addr} {S S' : Store} {H : Hp} {pos : Pos}
/-- the key that a tuple of integers is -/
def tupKey : D → Option (List Key)
  | .tup ds => if intsQ ds = true then keysOf ds else none
  | _ => none
theorem tupKey_rep {b : D} {y : V} {ks : List Key} (r : Rep K m H b y) (h : tupKey b = some ks) : ∃ p, y = .ref p ∧ H p = some (.tup (ks.map kV)) := by
  cases r with
  | @tup a vs ds h1 h2 h3 =>
    have h' : (if intsQ ds = true then keysOf ds else none) = some ks := h
    by_cases q : intsQ ds = true
    · rw [if_pos q] at h'
      have e := keysOf_rep h2 h'
      exact ⟨_, rfl, by rw [← e]; exact h3 q⟩
    · rw [if_neg q] at h'
      cases h'
  | _ => cases h
def isDT (S : Store) : D → Bool
  | .ref i => match S[i]? with
    | some (.dT _) => true
    | _ => false
  | _ => false
/-- what stands at a key -/
def atT (kvs : List (List Key × D)) (ks : List Key) : Option D := (kvs.find? fun p => decide (p.1 = ks)).map (·.2)
theorem atT_rep {kvs : List (List Key × D)} {us : List (List Key × V)} (hk : us.map (·.1) = kvs.map (·.1)) (hv : Reps K m H (kvs.map (·.2)) (us.map (·.2))) {ks : List Key} {d : D} (h : atT kvs ks = some d) : ∃ v, valV us ks = some v ∧ Rep K m H d v := by
  induction kvs generalizing us with
  | nil => cases h
  | cons p r ih =>
    cases us with
    | nil => cases hk
    | cons u us =>
      obtain ⟨p1, p2⟩ := p
      obtain ⟨u1, u2⟩ := u
      have e1 : u1 = p1 := by injection hk
      have e2 : us.map (·.1) = r.map (·.1) := by injection hk
      subst e1
      cases hv with
      | cons q qs =>
        unfold atT at h
        unfold valV
        rw [List.find?_cons] at h ⊢
        by_cases c : u1 = ks
        · simp only [c, decide_true] at h ⊢
          cases h
          exact ⟨u2, rfl, q⟩
        · simp only [c, decide_false] at h ⊢
          exact ih e2 qs h
def findV (a b : D) : M Bool := fun S => match tupKey a, b with
  | some ks, .ref i => match S[i]? with
    | some (.dT kvs) => some (hasT kvs ks, S)
    | _ => none
  | _, _ => none
theorem findV_rep (rl : Rel K m S H) {a b : D} {y x : V} {k : Bool} (ra : Rep K m H a y) (rb : Rep K m H b x) (h : findV a b S = some (k, S')) : S' = S ∧ ∃ p o, x = .ref p ∧ DGet H p y o ∧ o.isSome = k := by
  unfold findV at h
  split at h
  · rename_i ks i hks
    split at h
    · rename_i kvs e
      cases h
      obtain ⟨p, rfl, hp⟩ := tupKey_rep ra hks
      obtain ⟨pa, us, rfl, hm, hd, hk, hv⟩ := rl.dTm e rb
      exact ⟨rfl, pa, valV us ks, rfl, DGet.t hd hp, hasT_val hk ks⟩
    · cases h
  · cases h
def inVB (a b : D) : M Bool := fun S => if isDT S b = true then findV a b S else inUB a b S
def inV (a b : D) : M D := bnd (inVB a b) fun k => ret (.bl k)
def ninV (a b : D) : M D := bnd (inVB a b) fun k => ret (.bl (!k))
theorem o_inV (hu : X.A.units + 1 < cLine) : DO2 X (compareOp .In) (rInU X.K) inV := ⟨(o_inU (X := X) hu).op, fun m S H x y a b rl ra rb d S' h Q q => by
  obtain ⟨k, S1, h1, h2⟩ := bnd_some h
  cases h2
  unfold inVB at h1
  split at h1
  · obtain ⟨rfl, p, o, rfl, g, rfl⟩ := findV_rep rl ra rb h1
    exact .inl ⟨p, o, rfl, g, q m H _ rl .refl (.bl _)⟩
  · exact (o_inU (X := X) hu).sr rl ra rb _ _ (show inU a b S = some (.bl k, _) from bnd_eq h1) Q q⟩
theorem o_ninV (hu : X.A.units + 1 < cLine) : DO2 X (compareOp .NotIn) (rNinU X.K) ninV := ⟨(o_ninU (X := X) hu).op, fun m S H x y a b rl ra rb d S' h Q q => by
  obtain ⟨k, S1, h1, h2⟩ := bnd_some h
  cases h2
  unfold inVB at h1
  split at h1
  · obtain ⟨rfl, p, o, rfl, g, rfl⟩ := findV_rep rl ra rb h1
    exact .inl ⟨p, o, rfl, g, q m H _ rl .refl (.bl _)⟩
  · exact (o_ninU (X := X) hu).sr rl ra rb _ _ (show ninU a b S = some (.bl (!k), _) from bnd_eq h1) Q q⟩
def takeV (a b : D) : M D := fun S => match a, tupKey b with
  | .ref i, some ks => match S[i]? with
    | some (.dT kvs) => match atT kvs ks with
      | some d => some (d, S)
      | none => none
    | _ => none
  | _, _ => none
def ixV (a b : D) : M D := fun S => if isDT S a = true then takeV a b S else ixU a b S
theorem ix_v (hu : X.A.units + 1 < cLine) : DIx X (rIxU X.K) ixV := ⟨(ix_u (X := X) hu).ix, fun m S H x y a b rl ra rb d S' h Q q => by
  unfold ixV at h
  split at h
  · refine .inl ?_
    unfold takeV at h
    split at h
    · rename_i ks hks hq
      split at h
      · rename_i kvs e
        split at h
        · rename_i d0 e0
          cases h
          obtain ⟨p, rfl, hp⟩ := tupKey_rep rb hks
          obtain ⟨pa, us, rfl, hm, hd, hk, hv⟩ := rl.dTm e ra
          obtain ⟨v, g1, g2⟩ := atT_rep hk hv e0
          exact ⟨pa, v, rfl, by rw [← g1]; exact DGet.t hd hp, q m H v rl .refl g2⟩
        · cases h
      · cases h
    · cases h
  · exact (ix_u (X := X) hu).sr rl ra rb d S' h Q q⟩
/-- a key set, new or old -/
def putT (kvs : List (List Key × D)) (ks : List Key) (d : D) : List (List Key × D) := if hasT kvs ks = true then kvs.map fun p => if p.1 = ks then (p.1, d) else p else kvs ++ [(ks, d)]
theorem putT_rep {kvs : List (List Key × D)} {us : List (List Key × V)} (hk : us.map (·.1) = kvs.map (·.1)) (hv : Reps K m H (kvs.map (·.2)) (us.map (·.2))) (ks : List Key) {d : D} {v : V} (r : Rep K m H d v) : (putK us ks v).map (·.1) = (putT kvs ks d).map (·.1) ∧ Reps K m H ((putT kvs ks d).map (·.2)) ((putK us ks v).map (·.2)) := by
  have he : (us.any fun kv => decide (kv.1 = ks)) = hasT kvs ks := by rw [valV_any, hasT_val hk]
  unfold putK putT
  rw [he]
  by_cases c : hasT kvs ks = true
  · rw [if_pos c, if_pos c]
    clear c he
    induction kvs generalizing us with
    | nil =>
      cases us with
      | nil => exact ⟨rfl, .nil⟩
      | cons _ _ => cases hk
    | cons p q ih =>
      cases us with
      | nil => cases hk
      | cons u us =>
        obtain ⟨p1, p2⟩ := p
        obtain ⟨u1, u2⟩ := u
        have e1 : u1 = p1 := by injection hk
        have e2 : us.map (·.1) = q.map (·.1) := by injection hk
        subst e1
        cases hv with
        | cons g gs =>
          obtain ⟨i1, i2⟩ := ih e2 gs
          by_cases cc : u1 = ks
          · simp only [List.map_cons, cc, if_true] at i1 i2 ⊢
            exact ⟨by rw [i1], .cons r i2⟩
          · simp only [List.map_cons, cc, if_false] at i1 i2 ⊢
            exact ⟨by rw [i1], .cons g i2⟩
  · rw [if_neg c, if_neg c, List.map_append, List.map_append, List.map_append, List.map_append, hk]
    exact ⟨rfl, hv.snoc r⟩
def keepV (a b d : D) : M Unit := fun S => match a, tupKey b with
  | .ref i, some ks => match S[i]? with
    | some (.dT kvs) => if kvs.length < sizeLine then some ((), S.set i (.dT (putT kvs ks d))) else none
    | _ => none
  | _, _ => none
def setV (a b d : D) : M Unit := fun S => if isDT S a = true then keepV a b d S else setU a b d S
theorem set_v (hu : X.A.units + 1 < cLine) : DSet X rSetU setV := ⟨(set_u (X := X) hu).1, fun m S H o i v a b d rl ra rb rd S' h Q q => by
  unfold setV at h
  split at h
  · refine .inl ?_
    unfold keepV at h
    split at h
    · rename_i ks hks hq
      split at h
      · rename_i kvs e
        split at h
        · rename_i c
          cases h
          obtain ⟨p, rfl, hp⟩ := tupKey_rep rb hks
          obtain ⟨pa, us, rfl, hm, hd, hk, hv⟩ := rl.dTm e ra
          have hlen : us.length = kvs.length := by rw [← List.length_map (f := (·.1)), hk, List.length_map]
          obtain ⟨w1, w2⟩ := putT_rep hk hv ks rd
          obtain ⟨b1, b2⟩ := rl.set hm (.dT w1 w2)
          exact ⟨pa, _, rfl, DPut.t hd hp (by rw [hlen]; exact c), q _ _ b1 b2⟩
        · cases h
      · cases h
    · cases h
  · exact (set_u (X := X) hu).sr rl ra rb rd S' h Q q⟩
end
end TS
set_option Elab.async false
set_option linter.all false
set_option maxRecDepth 100000
set_option maxHeartbeats 1000000
namespace TS
open PySem PySem.Spec PyProof.Rows L2 RT
/-! ### sorted(d), d a dict whose keys are tuples of integers -/
section
variable {X : Cx} {pins : List (Addr × Obj)} {σ : L2.St} {H : Hp} {s : Shared}
theorem keys_run {a : Addr} {kvs : List (List Key × V)} {A : Around} {E : Value → Shared → Prop} (I : Inv X pins σ H s) (hh : A.handled = none) (hd : Rd H a (.dT kvs)) :
    wpAny (model X.prog X.w) A (collect (.ref a)) (fun l s1 => ∃ cs, IsKeys H kvs cs ∧ l = cs.map Value.ref ∧ ∃ h' tk, s1 = { s with heap := h', toks := tk } ∧ ∀ b o, s.heap.get? b = some o → h'.get? b = some o) E s := by
  have ok : ObjOk X.prog X.w H s.heap a (.dT kvs) := hd.ok I.hok
  obtain ⟨few, notSys, ks, pr, o, es, ep, ho, exact', data, ents, rest⟩ := ok
  refine PySem.W.kdu_collect (kdl_raw notSys exact' data) hh ho ?_ fun h' tk acc keep it => ⟨ks.map (·.2.1), isKeys_of pr, ?_, h', tk, rfl, keep⟩
  · rw [size_of_entries ents, ← Paired.length pr]
    omega
  · have each : ∀ j : Nat, acc[j]? = (ks[j]?).map fun x => Value.ref x.2.1 := by
      intro j
      by_cases hj : j < acc.size
      · obtain ⟨en, h1, h2⟩ := it.2 j acc[j] (Array.getElem?_eq_getElem hj)
        rw [Array.getElem?_eq_getElem hj, h2]
        have h3 := entry_at ents j
        rw [h1] at h3
        cases hk : ks[j]? with
        | none => rw [hk] at h3; cases h3
        | some k =>
          rw [hk] at h3
          have h4 : en = _ := Option.some.inj h3
          rw [h4]
          rfl
      · have h1 : ks.length = acc.size := by rw [it.1, size_of_entries ents]
        rw [Array.getElem?_eq_none (by omega), List.getElem?_eq_none (by omega)]
        rfl
    refine List.ext_getElem? fun j => ?_
    rw [Array.getElem?_toList, each j, List.map_map, List.getElem?_map]
    rfl
/-- what sorted gives for the keys -/
def rSortDT (K : PySem.W.Frag) (d : Nat) (B : Int) : List V → Hp → VK → Prop := fun vs H Q => ∃ (a : Addr) (kvs : List (List Key × V)), vs = [V.ref a] ∧ Rd H a (.dT kvs) ∧ kvs.length < 64 ∧ (∀ p ∈ kvs, ∃ ns : List Int, p.1 = ns.map Sum.inl ∧ ns.length = d ∧ Bd B ns) ∧
  ∀ (p : Addr) (bs ys : List V), (∃ cs, IsKeys H kvs cs ∧ bs = cs.map V.ref) → ys.Perm bs → ys.Pairwise (fun x y => ∀ n m, TupI K H x n → TupI K H y m → code B n ≤ code B m) → H p = none → Q (.ref p) (upd H p (.lst ys))
theorem keys_tups {kvs : List (List Key × V)} {cs : List Addr} {d : Nat} {B : Int} (I : Inv X pins σ H s) (hk : IsKeys H kvs cs) (h : ∀ p ∈ kvs, ∃ ns : List Int, p.1 = ns.map Sum.inl ∧ ns.length = d ∧ Bd B ns) : TupsOk s.heap d B (cs.map Value.ref) := by
  have each : ∀ c ∈ cs, ∃ p ∈ kvs, H c = some (.tup (p.1.map kV)) := by
    unfold IsKeys at hk
    clear h
    induction hk with
    | nil => exact fun c hc => nomatch hc
    | cons h1 _ ih =>
      intro c hc
      rcases List.mem_cons.mp hc with rfl | hc
      · exact ⟨_, List.mem_cons_self .., h1⟩
      · obtain ⟨p, h2, h3⟩ := ih c hc
        exact ⟨p, List.mem_cons_of_mem _ h2, h3⟩
  intro v hv
  obtain ⟨c, hc, rfl⟩ := List.mem_map.mp hv
  obtain ⟨p, hp, e⟩ := each c hc
  obtain ⟨ns, e1, e2, e3⟩ := h p hp
  refine ⟨ns, tupI_raw I (.inl (.inl ?_)), e2, e3⟩
  rw [e, e1, List.map_map]
  rfl
theorem cr_sortDT {d : Nat} {B : Int} (hd : 1 ≤ d) (hc : X.calm = true) : CallR X (.builtin "sorted") (rSortDT X.K d B) := by
  intro pins s σ H vs us Q I r h
  obtain ⟨a, kvs, rfl, hdict, h64, hk, q⟩ := h
  rw [Vals.ref1 r]
  refine Calls.call_function_entry kind_sorted plain_sorted entry_sorted (args_sorted1 _) ?_
  unfold Builtin.«sorted»
  refine wpAny_bind (m := checkCount "sorted" 1 1 _) (wpAny_pure ?_)
  refine wpAny_bind (wpAny_mono (keys_run I (I.ok.hd hc) hdict) (fun l s1 hq => ?_) fun _ _ e => e)
  obtain ⟨cs, hcs, rfl, h', tk, rfl, keep⟩ := hq
  have clen : cs.length = kvs.length := (Paired.length hcs).symm
  refine wpAny_bind (wpAny_newList ?_ (by rw [List.length_map, sizeLine_eq]; omega))
  have new : (h'.push (seqObj "list" (cs.map Value.ref).toArray 0)).get? h'.objs.size = some (seqObj "list" (cs.map Value.ref).toArray 0) := Heap.get?_push_size _ rfl
  have keep2 : ∀ b o, s.heap.get? b = some o → (h'.push (seqObj "list" (cs.map Value.ref).toArray 0)).get? b = some o := fun b o e => Heap.get?_push_of_some _ (keep b o e)
  have tups := (keys_tups (d := d) (B := B) I hcs hk)
  refine wpAny_bind (wpAny_holding (call_sort_tups (s := { s with heap := h'.push (seqObj "list" (cs.map Value.ref).toArray 0), toks := tk }) new (by rw [List.length_map]; omega) hd (tups.keeps fun b o e _ => keep2 b o e) fun out p1 p2 => ?_))
  have I1 := I.kept (t' := tk) keep
  have old : ∀ b o, h'.get? b = some o → (sortedHeap (h'.push (seqObj "list" (cs.map Value.ref).toArray 0)) h'.objs.size (cs.map Value.ref) out).get? b = some o := fun b o e => by
    have e2 := Heap.get?_push_of_some (seqObj "list" (cs.map Value.ref).toArray 0) e
    rw [sortedHeap_old (Nat.ne_of_lt (Heap.lt_size e)) (Heap.lt_size e2)]
    exact e2
  obtain ⟨c, there⟩ := sortedHeap_at (out := out) new
  have refs : ∀ u ∈ out.toList, ∃ t, u = Value.ref t := fun u hu => by
    obtain ⟨t, _, rfl⟩ := List.mem_map.mp (p1.mem_iff.mp hu)
    exact ⟨t, rfl⟩
  have perm : (out.toList.map bkV).Perm (cs.map V.ref) := by
    have := p1.map bkV
    rw [List.map_map] at this
    exact this
  have plen : (out.toList.map bkV).length ≤ sizeLine := by rw [perm.length_eq, List.length_map, sizeLine_eq]; omega
  have told : ∀ u n, TupI X.K H (bkV u) n → intsOf (h'.push (seqObj "list" (cs.map Value.ref).toArray 0)) u = n := fun u n ⟨t, e1, e2⟩ => by
    rw [bkV_ref e1]
    exact ((tupI_raw I e2).keeps fun b o e _ => keep2 b o e).ints
  refine wpAny_pure ⟨_, rfl, .ref h'.objs.size, _, I1.laid (t' := tk) (o := .lst (out.toList.map bkV)) old (Nat.le_refl _) ⟨plen, out.toList, c, bkV_vals refs, there⟩, rfl, q _ _ _ ⟨cs, hcs, rfl⟩ perm ?_ (I1.hok.fresh (Nat.le_refl _))⟩
  rw [List.pairwise_map]
  exact p2.imp fun {u v} le n m hn hm => by rw [← told u n hn, ← told v m hm]; exact le
end
section
variable {X : Cx} {K : PySem.W.Frag} {m : List Addr} {H : Hp} {d : Nat} {B : Int}
def intK : List Key → Option (List Int)
  | [] => some []
  | .inl i :: r => (intK r).map (i :: ·)
  | .inr _ :: _ => none
theorem intK_eq : ∀ {ks : List Key} {ns : List Int}, intK ks = some ns → ks = ns.map Sum.inl
  | [], _, h => by cases h; rfl
  | .inl i :: r, ns, h => by
    obtain ⟨ms, h1, rfl⟩ := Option.map_eq_some_iff.mp h
    rw [List.map_cons, intK_eq h1]
  | .inr _ :: _, _, h => by cases h
theorem intK_map : ∀ ns : List Int, intK (ns.map Sum.inl) = some ns
  | [] => rfl
  | n :: r => by
    show (intK (r.map Sum.inl)).map (n :: ·) = _
    rw [intK_map r]
    rfl
/-- a key of integers as a tuple -/
def keyTup (ks : List Key) : D := match intK ks with
  | some ns => .tup (ns.map .int)
  | none => .non
def okK (d : Nat) (B : Int) (ks : List Key) : Bool := match intK ks with
  | some ns => decide (ns.length = d) && ns.all fun n => decide (0 ≤ n ∧ n < B)
  | none => false
theorem okK_some {ks : List Key} (h : okK d B ks = true) : ∃ ns : List Int, ks = ns.map Sum.inl ∧ ns.length = d ∧ Bd B ns ∧ keyTup ks = .tup (ns.map .int) := by
  unfold okK at h
  split at h
  · rename_i ns e
    rw [Bool.and_eq_true, decide_eq_true_iff, List.all_eq_true] at h
    refine ⟨ns, intK_eq e, h.1, fun n hn => of_decide_eq_true (h.2 n hn), ?_⟩
    unfold keyTup
    rw [e]
  · cases h
theorem okK_T {ks : List Key} (h : okK d B ks = true) : okT d B (keyTup ks) = true := by
  obtain ⟨ns, rfl, h1, h2, h3⟩ := okK_some h
  rw [h3]
  have e : ints1 (ns.map D.int) = some ns := by
    have : ∀ l : List Int, ints1 (l.map .int) = some l := fun l => by
      induction l with
      | nil => rfl
      | cons x r ih =>
        show (ints1 (r.map .int)).map (x :: ·) = _
        rw [ih]
        rfl
    exact this ns
  unfold okT
  simp only [e]
  rw [decide_eq_true h1, Bool.true_and, List.all_eq_true]
  exact fun n hn => decide_eq_true (h2 n hn)
theorem reps_of_ints : ∀ ns : List Int, Reps K m H (ns.map .int) (ns.map V.int)
  | [] => .nil
  | n :: r => .cons (.int n) (reps_of_ints r)
theorem reps_keys : ∀ {us : List (List Key × V)} {bs : List Addr}, IsKeys H us bs → (∀ p ∈ us, okK d B p.1 = true) → Reps K m H (us.map fun p => keyTup p.1) (bs.map V.ref)
  | _, _, .nil, _ => .nil
  | _, _, .cons h t, ho => by
    obtain ⟨ns, e1, _, _, e2⟩ := okK_some (ho _ (List.mem_cons_self ..))
    rw [List.map_cons, List.map_cons, e2]
    refine .cons (.tup (.inl (.inl h)) ?_ fun _ => h) (reps_keys t fun p hp => ho p (List.mem_cons_of_mem _ hp))
    rw [e1, List.map_map]
    show Reps K m H _ (ns.map V.int)
    exact reps_of_ints ns
def nSortDT (d : Nat) (B : Int) : List D → M D
  | [.ref i] => fun S => match S[i]? with
    | some (.dT kvs) => if kvs.length < 64 ∧ kvs.all (fun p => okK d B p.1) = true then some (.ref S.length, S ++ [.lst (sortK (keyT B) (kvs.map fun p => keyTup p.1))]) else none
    | _ => none
  | _ => fail
theorem c_sortDT (hd : 1 ≤ d) (hc : X.calm = true) : DC X (.builtin "sorted") (rSortDT X.K d B) (nSortDT d B) := ⟨cr_sortDT hd hc, fun m S H xs as rl ra dd S' h Q q => by
  unfold nSortDT at h
  split at h
  · rename_i i
    split at h
    · rename_i kvs e
      split at h
      · rename_i c
        cases h
        cases ra with
        | cons r1 r2 =>
          cases r2
          cases r1 with
          | @ref _ a hi =>
            obtain ⟨p0, u, q1, q2, q3⟩ := rl.at e
            rw [hi] at q1
            cases q1
            cases q3 with
            | @dT _ us h1 h2 =>
              have hl : us.length = kvs.length := by have := congrArg List.length h1; rw [List.length_map, List.length_map] at this; exact this
              have hall := List.all_eq_true.mp c.2
              have hu : ∀ p ∈ us, okK d B p.1 = true := fun p hp => by
                have : p.1 ∈ us.map (·.1) := List.mem_map.mpr ⟨p, hp, rfl⟩
                rw [h1] at this
                obtain ⟨p', hp', e'⟩ := List.mem_map.mp this
                rw [← e']
                exact hall p' hp'
              refine ⟨a, us, rfl, .inl q2, by rw [hl]; exact c.1, fun p hp => ?_, fun pp bs ys ⟨cs, hk, hb⟩ hp hs hn => ?_⟩
              · obtain ⟨ns, e1, e2, e3, _⟩ := okK_some (hu p hp)
                exact ⟨ns, e1, e2, e3⟩
              · subst hb
                have hr := reps_keys (K := X.K) (m := m) hk hu
                have em : (us.map fun p => keyTup p.1) = kvs.map fun p => keyTup p.1 := by
                  have := congrArg (List.map keyTup) h1
                  rw [List.map_map, List.map_map] at this
                  exact this
                rw [em] at hr
                have hall2 : ∀ x ∈ kvs.map (fun p => keyTup p.1), okT d B x = true := fun x hx => by
                  obtain ⟨p, hp, rfl⟩ := List.mem_map.mp hx
                  exact okK_T (hall p hp)
                obtain ⟨es, p1, p2⟩ := Reps.perm hp hr
                have ho : ∀ x ∈ es, okT d B x = true := fun x hx => hall2 x (p1.mem_iff.mp hx)
                have he : es = sortK (keyT B) (kvs.map fun p => keyTup p.1) := sorted_one (p1.trans (sortK_perm _ _).symm) (fun a ha b hb z => keyT_inj (ho a ha) (ho b hb) z) (reps_sorted p2 ho hs) (sortK_sorted _ _)
                rw [he] at p2
                obtain ⟨r1, x1, y1⟩ := rl.new (o := .lst (sortK (keyT B) (kvs.map fun p => keyTup p.1))) (u := .lst ys) hn (.lst p2)
                exact q _ _ _ r1 x1 y1
      · cases h
    · cases h
  · cases h⟩
end
end TS
set_option Elab.async false
set_option linter.all false
set_option maxRecDepth 100000
set_option maxHeartbeats 1000000
namespace TS
open PySem PySem.Spec PyProof.Rows L2
/-! ### a display of one pair, its key a tuple -/
section
variable {X : Cx} {pins : List (Addr × Obj)} {σ : L2.St} {H : Hp} {s : Shared}
theorem put_run {a b : Addr} {kvs : List (List Key × V)} {k : List Key} {v : V} {r : Value} {A : Around} {E : Value → Shared → Prop} {Q : Unit → Shared → Prop} (I : Inv X pins σ H s) (room : (tupleKind (mixKind X.prog X.w)).room A) (e : H a = some (.dT kvs)) (eb : H b = some (.tup (k.map kV))) (few : kvs.length < sizeLine) (rv : RelV v r)
    (h : ∀ s', Inv X pins σ (upd H a (.dT (putK kvs k v))) s' → Q () s') : wpAny (model X.prog X.w) A (dictSet a (.ref b) r) Q E s := by
  obtain ⟨_, notSys, xs, pr, at0⟩ := dt_of I.hok e
  have same : xs.length = kvs.length := (Paired.length pr).symm
  refine wpAny_dictSet_heap (hsz := by omega) room (key_of I.hok eb) at0 fun h' at1 but => h _ ?_
  have full : (putK kvs k v).length ≤ sizeLine := Nat.le_trans (length_putK kvs k v) few
  have others : ∀ c ys, H c = some (.tup ys) → upd H a (.dT (putK kvs k v)) c = some (.tup ys) := fun c ys ec => by
    have apart : c ≠ a := fun z => by
      rw [z, e] at ec
      cases ec
    rw [upd_ne apart, ec]
  obtain ⟨o, es, ep, live, g2, g3, g4, _, g5⟩ := at1
  exact d_write I (by rw [e]; trivial) but ⟨o, live⟩ ⟨full, notSys, _, (pr.put k eb rv).keeps others, o, es, ep, live, g2, g3, g4, g5⟩
/-- the word of a display with one pair, whose key is a tuple -/
def tOneT (tk tv : TE) : TE := fun σ H Q => ∀ p, H p = none → tk σ (upd H p (.dT [])) fun y H1 => tv σ H1 fun z H2 => H2 p = some (.dT []) ∧ ∃ (b : Addr) (k : List Key), y = .ref b ∧ H2 b = some (.tup (k.map kV)) ∧ Q (.ref p) (upd H2 p (.dT [(k, z)]))
theorem pe_oneT {k v : Expr} {tk tv : TE} {pos : Pos} (hu : X.A.units + 1 < cLine) (hk : PE X k tk) (hv : PE X v tv) : PE X (.Dict [some k] [v] pos) (tOneT tk tv) := by
  refine ⟨fun pins s σ H Q I q => ?_⟩
  have fresh := I.hok.fresh (Nat.le_refl s.heap.objs.size)
  have I1 := I.laid (a := s.heap.objs.size) (o := .dT []) (h' := s.heap.push { cls := .type "dict", data := .dict #[] }) (t' := s.toks) (fun _ _ e => Heap.get?_push_of_some _ e) (Nat.le_refl _) (dt_empty s.heap I.big)
  have first := q _ fresh
  refine wpAny_Dict_any rfl rfl (by simp) (by simp) ?_
  have both : PPs X pos [some k] [v] [(tk, tv)] := pps_cons hk hv pps_nil
  have run := both.run pins _ σ _ (fun ps H2 => match ps with
    | [(y, z)] => H2 s.heap.objs.size = some (.dT []) ∧ ∃ (b : Addr) (k : List Key), y = .ref b ∧ H2 b = some (.tup (k.map kV)) ∧ Q (.ref s.heap.objs.size) (upd H2 s.heap.objs.size (.dT [(k, z)]))
    | _ => False) I1 first
  refine wpAny_mono run (fun ws s2 got => ?_) fun _ _ x => x
  obtain ⟨ps, H2, I2, rel, tail⟩ := got
  cases rel with
  | nil => exact tail.elim
  | cons pr more =>
    cases more with
    | cons _ _ => exact tail.elim
    | nil =>
      rename_i p w
      obtain ⟨y, z⟩ := p
      obtain ⟨w1, w2⟩ := w
      obtain ⟨here, b, key, e1, e2, q2⟩ := tail
      subst e1
      obtain ⟨r1, r2⟩ := pr
      cases (show w1 = Value.ref b from r1)
      unfold storeAll
      simp only [List.forIn_cons, List.forIn_nil, bind_assoc, pure_bind]
      exact wpAny_bind (put_run I2 (show X.A.units < cLine by omega) here e2 (by decide) r2 fun s3 I3 => wpAny_pure ⟨.ref s.heap.objs.size, _, I3, rfl, q2⟩)
def eOneT (fk fv : SEnv → M D) : SEnv → M D := fun env S => match fk env (S ++ [.dT []]) with
  | some (a, S1) => match fv env S1 with
    | some (d, S2) => match tupKey a, S2[S.length]? with
      | some ks, some (.dT []) => some (.ref S.length, S2.set S.length (.dT [(ks, d)]))
      | _, _ => none
    | none => none
  | none => none
theorem de_oneT {k v : Expr} {tk tv : TE} {fk fv : SEnv → M D} {pos : Pos} (hu : X.A.units + 1 < cLine) (hk : DE X k tk fk) (hv : DE X v tv fv) : DE X (.Dict [some k] [v] pos) (tOneT tk tv) (eOneT fk fv) := ⟨pe_oneT hu hk.pe hv.pe, fun m S H env σ rl re d S' h Q q => by
  intro p hp
  unfold eOneT at h
  obtain ⟨rl0, x0, rp⟩ := rl.new (o := .dT []) (u := .dT []) hp (.dT rfl .nil)
  split at h
  · rename_i a S1 e1
    split at h
    · rename_i d0 S2 e2
      split at h
      · rename_i ks hks e3
        cases h
        refine hk.se rl0 (re.mono rl x0) a S1 e1 _ fun m1 H1 y rl1 x1 ry => ?_
        refine hv.se rl1 ((re.mono rl x0).mono rl0 x1) d0 S2 e2 _ fun m2 H2 z rl2 x2 rz => ?_
        have rp2 := (rp.mono rl0 x1).mono rl1 x2
        have ry2 := ry.mono rl1 x2
        obtain ⟨pa, us, ep, hm, hd, hkk, hvv⟩ := rl2.dTm e3 rp2
        cases ep
        have none0 : us = [] := by
          cases us with
          | nil => rfl
          | cons _ _ => cases hkk
        subst none0
        obtain ⟨b, rfl, hb⟩ := tupKey_rep ry2 hks
        obtain ⟨b1, b2⟩ := rl2.set hm (.dT (kvs := [(ks, d0)]) (us := [(ks, z)]) rfl (.cons rz .nil))
        exact ⟨hd, b, ks, rfl, hb, q m2 _ _ b1 (((x0.trans x1).trans x2).trans b2) (rp2.mono rl2 b2)⟩
      · cases h
    · cases h
  · cases h⟩
end
section
variable {X : Cx} (K : PySem.W.Frag) (hK : X.K = K)
include hK
theorem k_inV (hu : X.A.units + 1 < cLine) : DO2 X (compareOp .In) (rInU K) inV := by subst hK; exact o_inV hu
theorem k_ninV (hu : X.A.units + 1 < cLine) : DO2 X (compareOp .NotIn) (rNinU K) ninV := by subst hK; exact o_ninV hu
theorem k_ixV (hu : X.A.units + 1 < cLine) : DIx X (rIxU K) ixV := by subst hK; exact ix_v hu
end
end TS
set_option Elab.async false
set_option linter.all false
set_option maxRecDepth 100000
namespace TS
open PySem PySem.Spec PyProof.Rows L2
/-! ### dicts with tuples of integers as keys, by wp -/
section
variable {S : Store} {Q : D → Store → Prop} {QU : Unit → Store → Prop} {i : Nat} {a b d : D} {ks : List Key} {kvs : List (List Key × D)}
theorem tk2 (x y : Int) : tupKey (.tup [.int x, .int y]) = some [.inl x, .inl y] := rfl
theorem isDT_at (h : S[i]? = some (.dT kvs)) : isDT S (.ref i) = true := by unfold isDT; simp only [h]
theorem w_inV (h : S[i]? = some (.dT kvs)) (hk : tupKey a = some ks) : wp (inV a (.ref i)) S Q ↔ Q (.bl (hasT kvs ks)) S := wp_some (by
  unfold inV inVB bnd
  simp only [isDT_at h, if_true]
  unfold findV
  simp only [hk, h]
  rfl)
theorem w_ninV (h : S[i]? = some (.dT kvs)) (hk : tupKey a = some ks) : wp (ninV a (.ref i)) S Q ↔ Q (.bl (!hasT kvs ks)) S := wp_some (by
  unfold ninV inVB bnd
  simp only [isDT_at h, if_true]
  unfold findV
  simp only [hk, h]
  rfl)
theorem w_ixV (h : S[i]? = some (.dT kvs)) (hk : tupKey b = some ks) (hd : atT kvs ks = some d) : wp (ixV (.ref i) b) S Q ↔ Q d S := wp_some (by
  unfold ixV
  simp only [isDT_at h, if_true]
  unfold takeV
  simp only [hk, h, hd])
theorem w_ixN (h : isDT S a = false) : wp (ixV a b) S Q ↔ wp (ixU a b) S Q := by
  unfold ixV wp
  simp only [h, Bool.false_eq_true, if_false]
theorem w_setV (h : S[i]? = some (.dT kvs)) (hk : tupKey b = some ks) (hl : kvs.length < sizeLine) : wp (setV (.ref i) b d) S QU ↔ QU () (S.set i (.dT (putT kvs ks d))) := wp_some (by
  unfold setV
  simp only [isDT_at h, if_true]
  unfold keepV
  simp only [hk, h, if_pos hl])
theorem w_oneT {fk fv : SEnv → M D} {env : SEnv} (h : wp (fk env) (S ++ [.dT []]) fun a S1 => wp (fv env) S1 fun d S2 => ∃ ks, tupKey a = some ks ∧ S2[S.length]? = some (.dT []) ∧ Q (.ref S.length) (S2.set S.length (.dT [(ks, d)]))) : wp (eOneT fk fv env) S Q := by
  obtain ⟨a, S1, e1, d, S2, e2, ks, e3, e4, q⟩ := h
  exact ⟨_, _, by unfold eOneT; simp only [e1, e2, e3, e4], q⟩
theorem w_sortDT {n : Nat} {B : Int} (h : S[i]? = some (.dT kvs)) (hl : kvs.length < 64) (hk : kvs.all (fun p => okK n B p.1) = true) : wp (nSortDT n B [.ref i]) S Q ↔ Q (.ref S.length) (S ++ [.lst (sortK (keyT B) (kvs.map fun p => keyTup p.1))]) := wp_some (by
  unfold nSortDT
  simp only [h, hl, hk, and_self, if_true])
end
end TS
set_option Elab.async false
set_option linter.all false
set_option maxRecDepth 100000
set_option maxHeartbeats 2000000
namespace TS
open PySem PySem.Spec PyProof.Rows L2
/-- the zip z, which gave T before (or nothing: f0) -/
abbrev ZObj (h : Heap) (z TI TO : Addr) (f0 : Value) (b : Bool) : Prop :=
  h.get? z = some { cls := .type "zip", dict := none, data := .fields #[f0, .bool b, .bool false, .ref TI, .ref TO], slots := #[] }
section
variable {prog : Program} {w : World} {A : Around} {E : Value → Shared → Prop} {s : Shared} {z TI TO i1 i2 : Addr}
theorem alive_is {a : Addr} {Q : Option Obj → Shared → Prop} (h : Q (s.heap.get? a) s) : wpAny (model prog w) A (loadIfAlive a) Q E s := fun _ _ _ => h
theorem zobj_free {f0 : Value} {b : Bool} {Q : Bool → Shared → Prop} (f : f0 = .none ∨ ∃ T : Addr, f0 = rawInt T) (hz : ZObj s.heap z TI TO f0 b)
    (h : ∀ k c h', ZObj h' z TI TO f0 c → Heap.SameBut z s.heap h' → Q k { s with heap := h' }) : wpAny (model prog w) A (Builtin.SmallTypes.ownedTupleIsFree (.ref z)) Q E s := by
  unfold Builtin.SmallTypes.ownedTupleIsFree
  rcases f with rfl | ⟨T, rfl⟩
  · exact wpAny_bind (wpAny_field hz rfl (x := .none) rfl (wpAny_pure (h true b _ hz (Heap.SameBut.refl _ _))))
  · refine wpAny_bind (wpAny_field hz rfl (x := rawInt T) rfl ?_)
    refine wpAny_bind (m := loadIfAlive ((T : Int).toNat)) (alive_is ?_)
    by_cases e : (s.heap.get? ((T : Int).toNat)).isNone = true
    · rw [if_pos e]
      exact wpAny_pure (h true b _ hz (Heap.SameBut.refl _ _))
    · rw [if_neg e]
      refine wpAny_bind (wpAny_field hz rfl (x := .bool b) rfl ?_)
      by_cases e2 : (Value.bool b != Value.bool true) = true
      · rw [if_pos e2]
        exact wpAny_bind (wpAny_setField_rec hz (by simp) fun h1 z1 k1 => wpAny_pure (h false true h1 z1 k1))
      · rw [if_neg e2]
        exact wpAny_pure (h false b _ hz (Heap.SameBut.refl _ _))
end
end TS
namespace TS
open PySem PySem.Spec PyProof.Rows L2
section
variable {prog : Program} {w : World} {A : Around} {E : Value → Shared → Prop} {s : Shared} {z TI TO i1 i2 : Addr} {fp1 fp2 : List Addr} {n1 n2 i : Nat} {P1 P2 : Nat → Value → Prop} {St1 St2 : Nat → Heap → Prop}
/-- what a turn of the zip leaves: a new tuple at the end of the heap -/
structure Zipped (St1 St2 : Nat → Heap → Prop) (hp h' : Heap) (z TI TO i1 i2 : Addr) (i : Nat) (x1 x2 : Value) : Prop where
  zo : ∃ f0 b, (f0 = Value.none ∨ ∃ T : Addr, f0 = rawInt T) ∧ ZObj h' z TI TO f0 b
  to : ∃ a b, IsTupOf2 h' TO a b
  s1 : St1 (i + 1) h'
  s2 : St2 (i + 1) h'
  new : IsTupOf2 h' hp.objs.size x1 x2
  big : h'.objs.size = hp.objs.size + 1
  kp : ∀ c o, c ≠ z → c ≠ TO → c ≠ i1 → c ≠ i2 → hp.get? c = some o → h'.get? c = some o
theorem zip_turn {f0 : Value} {b : Bool} {Q : Value → Shared → Prop} (S : ZipSep2 z TI TO i1 i2 fp1 fp2) (D1 : Draws prog w A i1 fp1 n1 P1 St1) (D2 : Draws prog w A i2 fp2 n2 P2 St2)
    (f : f0 = .none ∨ ∃ T : Addr, f0 = rawInt T) (hz : ZObj s.heap z TI TO f0 b) (hTI : IsTupOf2 s.heap TI (.ref i1) (.ref i2)) {y1 y2 : Value} (hTO : IsTupOf2 s.heap TO y1 y2) (t1 : St1 i s.heap) (t2 : St2 i s.heap) (l1 : i < n1) (l2 : i < n2)
    (h : ∀ x1 x2 h' tk, P1 i x1 → P2 i x2 → Zipped St1 St2 s.heap h' z TI TO i1 i2 i x1 x2 → Q (.ref s.heap.objs.size) { s with heap := h', toks := tk }) :
    wpAny (model prog w) A (Builtin.«zip.__next__» ⟨[.ref z], []⟩) (fun fin s' => ∃ v, fin = .done (.ret v) ∧ Q v s') E s := by
  obtain ⟨hp, g, d, tk0, os⟩ := s
  have go : ∀ {E2 : Value → Shared → Prop} {Q2 : Bool → Shared → Prop}, (∀ k c h', ZObj h' z TI TO f0 c → Heap.SameBut z hp h' → Q2 k ⟨h', g, d, tk0, os⟩) → wpAny (model prog w) A (Builtin.SmallTypes.ownedTupleIsFree (.ref z)) Q2 E2 ⟨hp, g, d, tk0, os⟩ := fun q => zobj_free (s := ⟨hp, g, d, tk0, os⟩) f hz q
  replace h : ∀ x1 x2 h' tk, P1 i x1 → P2 i x2 → Zipped St1 St2 hp h' z TI TO i1 i2 i x1 x2 → Q (.ref hp.objs.size) ⟨h', g, d, tk, os⟩ := h
  have hTO0 : IsTupOf2 hp TO y1 y2 := hTO
  have hTI0 : IsTupOf2 hp TI (.ref i1) (.ref i2) := hTI
  wp_walk using go
  intro k c h1 z1 k1
  have O1 : IsTupOf2 h1 TO y1 y2 := k1.extBut _ _ S.TOz hTO0
  have u1 : St1 i h1 := D1.over t1 k1 S.zf1
  have u2 : St2 i h1 := D2.over t2 k1 S.zf2
  have nz : z ≠ TO := S.TOz.symm
  clear go hz hTO t1 t2 hTI
  cases k with
  | true => 
    wp_walk using wpAny_onRaise, D1.item i _ _ _ l1
    · exact D1.over u1 (Heap.SameBut.update ..) S.zf1
    have k2 : Heap.SameBut z h1 (h1.update z (Obj.mapFields fun x => x.setIfInBounds 0 Value.ellipsis)) := Heap.SameBut.update ..
    have z2 : ZObj (h1.update z (Obj.mapFields fun x => x.setIfInBounds 0 Value.ellipsis)) z TI TO .ellipsis c := Heap.get?_update_self _ z1 rfl
    revert z2 k2
    generalize h1.update z (Obj.mapFields fun x => x.setIfInBounds 0 Value.ellipsis) = h2
    intro k2 z2 x1 p1 tk1 hx1 sn1 hp1
    replace hp1 : Heap.SameBut i1 h2 p1 := hp1
    have O2 : IsTupOf2 p1 TO y1 y2 := hp1.extBut _ _ S.Ti1 (k2.extBut _ _ S.TOz O1)
    have z3 := hp1.extBut _ _ S.zi1 z2
    have v2 : St2 i p1 := D2.over (D2.over u2 k2 S.zf2) hp1 S.sep1_2
    wp_walk using wpAny_onRaise, D2.item i _ _ _ l2
    · exact D2.over v2 (Heap.SameBut.update ..) S.Tf2
    have k4 : Heap.SameBut TO p1 (p1.update TO (Obj.mapSeq fun x => x.setIfInBounds 0 x1)) := Heap.SameBut.update ..
    have z4 : IsTupOf2 (p1.update TO (Obj.mapSeq fun x => x.setIfInBounds 0 x1)) TO x1 y2 := Heap.get?_update_self _ O2 rfl
    revert z4 k4
    show _ → _ → ∀ x h' tk, _ → _ → Heap.SameBut i2 (p1.update TO (Obj.mapSeq fun x => x.setIfInBounds 0 x1)) h' → _
    generalize p1.update TO (Obj.mapSeq fun x => x.setIfInBounds 0 x1) = h4
    intro k4 O4 x2 p2 tk2 hx2 sn2 hp2
    have O5 : IsTupOf2 p2 TO x1 y2 := hp2.extBut _ _ S.Ti2 O4
    have z5 := hp2.extBut _ _ S.zi2 (k4.extBut _ _ nz z3)
    have m1 : St1 (i + 1) p2 := D1.over (D1.over sn1 k4 S.Tf1) hp2 S.sep2_1
    wp_walk
    have lt5 : z < p2.objs.size := Heap.lt_size z5
    have sz5 : p2.objs.size = hp.objs.size := by rw [hp2.1, k4.1, hp1.1, k2.1, k1.1]
    have fr5 : ∀ c o, c ≠ z → c ≠ TO → c ≠ i1 → c ≠ i2 → hp.get? c = some o → p2.get? c = some o := fun c o a1 a2 a3 a4 e => hp2.extBut _ _ a4 (k4.extBut _ _ a2 (hp1.extBut _ _ a3 (k2.extBut _ _ a1 (k1.extBut _ _ a1 e))))
    have k6 : Heap.SameBut TO p2 (p2.update TO (Obj.mapSeq fun x => x.setIfInBounds (0 + 1) x2)) := Heap.SameBut.update ..
    have z6 : IsTupOf2 (p2.update TO (Obj.mapSeq fun x => x.setIfInBounds (0 + 1) x2)) TO x1 x2 := Heap.get?_update_self _ O5 rfl
    revert k6 z6
    show _ → _ → ∃ v, _ ∧ Q v ⟨((Heap.push (p2.update TO (Obj.mapSeq fun x => x.setIfInBounds (0 + 1) x2)) { cls := .type "tuple", data := .seq #[x1, x2] }).update z (Obj.mapFields fun x => x.setIfInBounds 0 (rawInt ((p2.update TO (Obj.mapSeq fun x => x.setIfInBounds (0 + 1) x2)).objs.size : Nat)))).update z (Obj.mapFields fun x => x.setIfInBounds 1 (Value.bool false)), g, d, tk2, os⟩
    generalize p2.update TO (Obj.mapSeq fun x => x.setIfInBounds (0 + 1) x2) = h6
    intro k6 O6
    have sz6 : h6.objs.size = hp.objs.size := k6.1.trans sz5
    have z6 := k6.extBut _ _ nz z5
    have lt6 : z < h6.objs.size := Heap.lt_size z6
    have z7 := Heap.get?_push_of_some { cls := .type "tuple", data := .seq #[x1, x2] } z6
    have n7 : (h6.push { cls := .type "tuple", data := .seq #[x1, x2] }).get? h6.objs.size = some { cls := .type "tuple", data := .seq #[x1, x2] } := Heap.get?_push_size _ rfl
    have up : ∀ c o, c ≠ z → h6.get? c = some o → (((Heap.push h6 { cls := .type "tuple", data := .seq #[x1, x2] }).update z (Obj.mapFields fun x => x.setIfInBounds 0 (rawInt (h6.objs.size : Nat)))).update z (Obj.mapFields fun x => x.setIfInBounds 1 (Value.bool false))).get? c = some o := fun c o a e => (Heap.SameBut.update ..).extBut _ _ a ((Heap.SameBut.update ..).extBut _ _ a (Heap.get?_push_of_some _ e))
    refine ⟨_, rfl, ?_⟩
    rw [sz6] at n7 up ⊢
    refine h x1 x2 _ tk2 hx1 hx2 ⟨⟨rawInt (hp.objs.size : Nat), false, .inr ⟨_, rfl⟩, ?_⟩, ⟨_, _, up _ _ S.TOz O6⟩, ?_, ?_, ?_, ?_, fun c o a1 a2 a3 a4 e => up c o a1 (k6.extBut _ _ a2 (fr5 c o a1 a2 a3 a4 e))⟩
    · exact Heap.get?_update_self _ (Heap.get?_update_self _ z7 rfl) rfl
    · exact D1.frame _ _ _ (D1.over m1 k6 S.Tf1) fun b hb o e => up b o (fun q => S.zf1 (q ▸ hb)) e
    · exact D2.frame _ _ _ (D2.over sn2 k6 S.Tf2) fun b hb o e => up b o (fun q => S.zf2 (q ▸ hb)) e
    · have ne : hp.objs.size ≠ z := by rw [← sz6]; exact Nat.ne_of_gt lt6
      exact (Heap.SameBut.update ..).extBut _ _ ne ((Heap.SameBut.update ..).extBut _ _ ne n7)
    · rw [(Heap.SameBut.update ..).1, (Heap.SameBut.update ..).1, Heap.size_push, sz6]
  | false =>
    simp only [← Array.forIn_toList]
    wp_walk using wpAny_onRaise, D1.item i _ _ _ l1
    · exact u1
    intro x1 p1 tk1 hx1 sn1 hp1
    replace hp1 : Heap.SameBut i1 h1 p1 := hp1
    have v2 : St2 i p1 := D2.over u2 hp1 S.sep1_2
    wp_walk using wpAny_onRaise, D2.item i _ _ _ l2
    · exact v2
    intro x2 p2 tk2 hx2 sn2 hp2
    replace hp2 : Heap.SameBut i2 p1 p2 := hp2
    wp_walk
    have sz2 : p2.objs.size = hp.objs.size := by rw [hp2.1, hp1.1, k1.1]
    refine ⟨_, rfl, ?_⟩
    have up : ∀ c o, p2.get? c = some o → (p2.push { cls := .type "tuple", data := .seq #[x1, x2] }).get? c = some o := fun c o e => Heap.get?_push_of_some _ e
    have n3 : (p2.push { cls := .type "tuple", data := .seq #[x1, x2] }).get? p2.objs.size = some { cls := .type "tuple", data := .seq #[x1, x2] } := Heap.get?_push_size _ rfl
    rw [sz2] at n3
    show Q (.ref p2.objs.size) ⟨p2.push { cls := .type "tuple", data := .seq #[x1, x2] }, g, d, tk2, os⟩
    rw [sz2]
    refine h x1 x2 _ tk2 hx1 hx2 ⟨⟨f0, c, f, up _ _ (hp2.extBut _ _ S.zi2 (hp1.extBut _ _ S.zi1 z1))⟩, ⟨_, _, up _ _ (hp2.extBut _ _ S.Ti2 (hp1.extBut _ _ S.Ti1 O1))⟩, ?_, ?_, n3, by rw [Heap.size_push, sz2], fun c o a1 a2 a3 a4 e => up c o (hp2.extBut _ _ a4 (hp1.extBut _ _ a3 (k1.extBut _ _ a1 e)))⟩
    · exact D1.frame _ _ _ (D1.over sn1 hp2 S.sep2_1) fun b hb o e => up b o e
    · exact D2.frame _ _ _ sn2 fun b hb o e => up b o e
end
end TS
namespace TS
open PySem PySem.Spec PyProof.Rows L2
section
variable {prog : Program} {w : World} {A : Around} {E : Value → Shared → Prop} {s : Shared} {z TI TO i1 i2 : Addr} {fp1 fp2 : List Addr} {n1 n2 i : Nat} {P1 P2 : Nat → Value → Prop} {St1 St2 : Nat → Heap → Prop}
theorem zip_over {f0 : Value} {b : Bool} {Q : PySem.Fin → Shared → Prop} (S : ZipSep2 z TI TO i1 i2 fp1 fp2) (D1 : Draws prog w A i1 fp1 n1 P1 St1) (D2 : Draws prog w A i2 fp2 n2 P2 St2)
    (f : f0 = .none ∨ ∃ T : Addr, f0 = rawInt T) (hz : ZObj s.heap z TI TO f0 b) (hTI : IsTupOf2 s.heap TI (.ref i1) (.ref i2)) {y1 y2 : Value} (hTO : IsTupOf2 s.heap TO y1 y2) (t1 : St1 i s.heap) (t2 : St2 i s.heap) (l1 : i ≤ n1) (l2 : i ≤ n2) (l3 : i = n1 ∨ i = n2)
    (h : ∀ h' tk e, (∀ c o, c ≠ z → c ≠ TO → c ≠ i1 → c ≠ i2 → s.heap.get? c = some o → h'.get? c = some o) → (∃ o, h'.get? e = some o ∧ o.cls = .type "StopIteration") → E (.ref e) { s with heap := h', toks := tk }) :
    wpAny (model prog w) A (Builtin.«zip.__next__» ⟨[.ref z], []⟩) Q E s := by
  obtain ⟨hp, g, d, tk0, os⟩ := s
  have go : ∀ {E2 : Value → Shared → Prop} {Q2 : Bool → Shared → Prop}, (∀ k c h', ZObj h' z TI TO f0 c → Heap.SameBut z hp h' → Q2 k ⟨h', g, d, tk0, os⟩) → wpAny (model prog w) A (Builtin.SmallTypes.ownedTupleIsFree (.ref z)) Q2 E2 ⟨hp, g, d, tk0, os⟩ := fun q => zobj_free (s := ⟨hp, g, d, tk0, os⟩) f hz q
  replace h : ∀ h' tk e, (∀ c o, c ≠ z → c ≠ TO → c ≠ i1 → c ≠ i2 → hp.get? c = some o → h'.get? c = some o) → (∃ o, h'.get? e = some o ∧ o.cls = .type "StopIteration") → E (.ref e) ⟨h', g, d, tk, os⟩ := h
  have hTO0 : IsTupOf2 hp TO y1 y2 := hTO
  have hTI0 : IsTupOf2 hp TI (.ref i1) (.ref i2) := hTI
  wp_walk using go
  intro k c h1 z1 k1
  have O1 : IsTupOf2 h1 TO y1 y2 := k1.extBut _ _ S.TOz hTO0
  have u1 : St1 i h1 := D1.over t1 k1 S.zf1
  have u2 : St2 i h1 := D2.over t2 k1 S.zf2
  have nz : z ≠ TO := S.TOz.symm
  clear go hz hTO t1 t2 hTI
  cases k with
  | true =>
    have k2 : Heap.SameBut z h1 (h1.update z (Obj.mapFields fun x => x.setIfInBounds 0 Value.ellipsis)) := Heap.SameBut.update ..
    have z2 : ZObj (h1.update z (Obj.mapFields fun x => x.setIfInBounds 0 Value.ellipsis)) z TI TO .ellipsis c := Heap.get?_update_self _ z1 rfl
    by_cases q1 : i < n1
    · wp_walk using wpAny_onRaise, D1.item i _ _ _ q1
      · exact D1.over u1 (Heap.SameBut.update ..) S.zf1
      revert z2 k2
      generalize h1.update z (Obj.mapFields fun x => x.setIfInBounds 0 Value.ellipsis) = h2
      intro k2 z2 x1 p1 tk1 hx1 sn1 hp1
      replace hp1 : Heap.SameBut i1 h2 p1 := hp1
      have O2 : IsTupOf2 p1 TO y1 y2 := hp1.extBut _ _ S.Ti1 (k2.extBut _ _ S.TOz O1)
      have z3 := hp1.extBut _ _ S.zi1 z2
      have v2 : St2 i p1 := D2.over (D2.over u2 k2 S.zf2) hp1 S.sep1_2
      obtain rfl : i = n2 := by omega
      wp_walk using wpAny_onRaise, D2.done
      · exact D2.over v2 (Heap.SameBut.update ..) S.Tf2
      have k4 : Heap.SameBut TO p1 (p1.update TO (Obj.mapSeq fun x => x.setIfInBounds 0 x1)) := Heap.SameBut.update ..
      revert k4
      show _ → ∀ h' e, Heap.ExtBut i2 (p1.update TO (Obj.mapSeq fun x => x.setIfInBounds 0 x1)) h' → _
      generalize p1.update TO (Obj.mapSeq fun x => x.setIfInBounds 0 x1) = h4
      intro k4 p2 ex hp2 st2
      have z5 := hp2 _ _ S.zi2 (k4.extBut _ _ nz z3)
      wp_walk
      obtain ⟨o, ho, co⟩ := st2
      have nx : ex ≠ z := fun q => by
        rw [q, z5] at ho
        cases ho
        exact absurd co (by simp)
      refine h _ _ _ (fun c o a1 a2 a3 a4 e => (Heap.SameBut.update ..).extBut _ _ a1 (hp2 _ _ a4 (k4.extBut _ _ a2 (hp1.extBut _ _ a3 (k2.extBut _ _ a1 (k1.extBut _ _ a1 e)))))) ⟨o, (Heap.SameBut.update ..).extBut _ _ nx ho, co⟩
    · obtain rfl : i = n1 := by omega
      wp_walk using wpAny_onRaise, D1.done
      · exact D1.over u1 (Heap.SameBut.update ..) S.zf1
      revert z2 k2
      generalize h1.update z (Obj.mapFields fun x => x.setIfInBounds 0 Value.ellipsis) = h2
      intro k2 z2 p2 ex hp2 st2
      replace hp2 : Heap.ExtBut i1 h2 p2 := hp2
      have z5 := hp2 _ _ S.zi1 z2
      wp_walk
      obtain ⟨o, ho, co⟩ := st2
      have nx : ex ≠ z := fun q => by
        rw [q, z5] at ho
        cases ho
        exact absurd co (by simp)
      refine h _ _ _ (fun c o a1 a2 a3 a4 e => (Heap.SameBut.update ..).extBut _ _ a1 (hp2 _ _ a3 (k2.extBut _ _ a1 (k1.extBut _ _ a1 e)))) ⟨o, (Heap.SameBut.update ..).extBut _ _ nx ho, co⟩
  | false =>
    simp only [← Array.forIn_toList]
    by_cases q1 : i < n1
    · wp_walk using wpAny_onRaise, D1.item i _ _ _ q1
      · exact u1
      intro x1 p1 tk1 hx1 sn1 hp1
      replace hp1 : Heap.SameBut i1 h1 p1 := hp1
      have v2 : St2 i p1 := D2.over u2 hp1 S.sep1_2
      obtain rfl : i = n2 := by omega
      wp_walk using wpAny_onRaise, D2.done
      · exact v2
      intro p2 ex hp2 st2
      replace hp2 : Heap.ExtBut i2 p1 p2 := hp2
      exact h _ _ _ (fun c o a1 a2 a3 a4 e => hp2 _ _ a4 (hp1.extBut _ _ a3 (k1.extBut _ _ a1 e))) st2
    · obtain rfl : i = n1 := by omega
      wp_walk using wpAny_onRaise, D1.done
      · exact u1
      intro p2 ex hp2 st2
      replace hp2 : Heap.ExtBut i1 h1 p2 := hp2
      exact h _ _ _ (fun c o a1 a2 a3 a4 e => hp2 _ _ a3 (k1.extBut _ _ a1 e)) st2
end
end TS
namespace TS
open PySem PySem.Spec PyProof.Rows L2
section
variable {prog : Program} {w : World} {A : Around} {E : Value → Shared → Prop} {s : Shared} {z TI TO i1 i2 : Addr} {fp1 fp2 : List Addr} {n1 n2 i : Nat} {P1 P2 : Nat → Value → Prop} {St1 St2 : Nat → Heap → Prop}
/-- the zip's own state at a turn -/
structure ZipSt (St1 St2 : Nat → Heap → Prop) (z TI TO i1 i2 : Addr) (i : Nat) (h : Heap) : Prop where
  zo : ∃ f0 b, (f0 = Value.none ∨ ∃ T : Addr, f0 = rawInt T) ∧ ZObj h z TI TO f0 b
  ti : IsTupOf2 h TI (.ref i1) (.ref i2)
  to : ∃ a b, IsTupOf2 h TO a b
  s1 : St1 i h
  s2 : St2 i h
theorem zip_gives {Q : Value → Shared → Prop} (S : ZipSep2 z TI TO i1 i2 fp1 fp2) (D1 : Draws prog w A.in1 i1 fp1 n1 P1 St1) (D2 : Draws prog w A.in1 i2 fp2 n2 P2 St2) (st : ZipSt St1 St2 z TI TO i1 i2 i s.heap) (l1 : i < n1) (l2 : i < n2)
    (h : ∀ x1 x2 h' tk, P1 i x1 → P2 i x2 → ZipSt St1 St2 z TI TO i1 i2 (i + 1) h' → IsTupOf2 h' s.heap.objs.size x1 x2 → h'.objs.size = s.heap.objs.size + 1 → (∀ c o, c ≠ z → c ≠ TO → c ≠ i1 → c ≠ i2 → s.heap.get? c = some o → h'.get? c = some o) → Q (.ref s.heap.objs.size) { s with heap := h', toks := tk }) :
    wpAny (model prog w) A (Builtin.SmallTypes.nextOf (.ref z)) Q E s := by
  obtain ⟨f0, b, f, zo⟩ := st.zo
  obtain ⟨y1, y2, to⟩ := st.to
  have ty : s.TypeIs (.ref z) "zip" := ⟨_, zo, rfl⟩
  unfold Builtin.SmallTypes.nextOf
  refine wpAny_bind (wpAny_callSpecial?_slot ty F.slot_zip_next (wpAny_call_entry F.slot_zip_next ty F.entry_zip_next (zip_turn S D1 D2 f zo st.ti to st.s1 st.s2 l1 l2 fun x1 x2 h' tk p1 p2 r => ?_) (F.args_zip_next_1 _)))
  exact wpAny_pure (h x1 x2 h' tk p1 p2 ⟨r.zo, r.kp _ _ S.TIz S.TITO S.TIi1 S.TIi2 st.ti, r.to, r.s1, r.s2⟩ r.new r.big r.kp)
theorem zip_ends {Q : Value → Shared → Prop} (S : ZipSep2 z TI TO i1 i2 fp1 fp2) (D1 : Draws prog w A.in1 i1 fp1 n1 P1 St1) (D2 : Draws prog w A.in1 i2 fp2 n2 P2 St2) (st : ZipSt St1 St2 z TI TO i1 i2 i s.heap) (l1 : i ≤ n1) (l2 : i ≤ n2) (l3 : i = n1 ∨ i = n2)
    (h : ∀ h' tk e, (∀ c o, c ≠ z → c ≠ TO → c ≠ i1 → c ≠ i2 → s.heap.get? c = some o → h'.get? c = some o) → (∃ o, h'.get? e = some o ∧ o.cls = .type "StopIteration") → E (.ref e) { s with heap := h', toks := tk }) :
    wpAny (model prog w) A (Builtin.SmallTypes.nextOf (.ref z)) Q E s := by
  obtain ⟨f0, b, f, zo⟩ := st.zo
  obtain ⟨y1, y2, to⟩ := st.to
  have ty : s.TypeIs (.ref z) "zip" := ⟨_, zo, rfl⟩
  unfold Builtin.SmallTypes.nextOf
  exact wpAny_bind (wpAny_callSpecial?_slot ty F.slot_zip_next (wpAny_call_entry F.slot_zip_next ty F.entry_zip_next (zip_over S D1 D2 f zo st.ti to st.s1 st.s2 l1 l2 l3 h) (F.args_zip_next_1 _)))
theorem enumzip_turn {e : Addr} {old : Value} {Q : Value → Shared → Prop} (S : ZipSep2 z TI TO i1 i2 fp1 fp2) (D1 : Draws prog w A.in1 i1 fp1 n1 P1 St1) (D2 : Draws prog w A.in1 i2 fp2 n2 P2 St2) (he : IsEnum s.heap e z (i : Nat) old) (st : ZipSt St1 St2 z TI TO i1 i2 i s.heap) (l1 : i < n1) (l2 : i < n2)
    (ez : e ≠ z) (eO : e ≠ TO) (eI : e ≠ TI) (e1 : e ∉ fp1) (e2 : e ∉ fp2)
    (h : ∀ x1 x2 h' tk, P1 i x1 → P2 i x2 → IsEnumOut h' e z ((i : Int) + 1) (.ref s.heap.objs.size) (s.heap.objs.size + 1) → ZipSt St1 St2 z TI TO i1 i2 (i + 1) h' → IsTupOf2 h' s.heap.objs.size x1 x2 → IsTupOf2 h' (s.heap.objs.size + 1) (.int (i : Nat) tk) (.ref s.heap.objs.size) → (∀ c o, c ≠ e → c ≠ z → c ≠ TO → c ≠ i1 → c ≠ i2 → s.heap.get? c = some o → h'.get? c = some o) → Q (.ref (s.heap.objs.size + 1)) { s with heap := h', toks := tk + 1 }) :
    wpAny (model prog w) A (Builtin.«enumerate.__next__» ⟨[.ref e], []⟩) (fun fin s' => ∃ v, fin = .done (.ret v) ∧ Q v s') E s := by
  obtain ⟨hp, g, d, tk0, os⟩ := s
  have he0 : IsEnum hp e z (i : Nat) old := he
  have st0 : ZipSt St1 St2 z TI TO i1 i2 i hp := st
  replace h : ∀ x1 x2 h' tk, P1 i x1 → P2 i x2 → IsEnumOut h' e z ((i : Int) + 1) (.ref hp.objs.size) (hp.objs.size + 1) → ZipSt St1 St2 z TI TO i1 i2 (i + 1) h' → IsTupOf2 h' hp.objs.size x1 x2 → IsTupOf2 h' (hp.objs.size + 1) (.int (i : Nat) tk) (.ref hp.objs.size) → (∀ c o, c ≠ e → c ≠ z → c ≠ TO → c ≠ i1 → c ≠ i2 → hp.get? c = some o → h'.get? c = some o) → Q (.ref (hp.objs.size + 1)) ⟨h', g, d, tk + 1, os⟩ := h
  clear he st
  have go : ∀ {E2 : Value → Shared → Prop} {Q2 : Value → Shared → Prop}, (∀ x1 x2 h' tk, P1 i x1 → P2 i x2 → ZipSt St1 St2 z TI TO i1 i2 (i + 1) h' → IsTupOf2 h' hp.objs.size x1 x2 → h'.objs.size = hp.objs.size + 1 → (∀ c o, c ≠ z → c ≠ TO → c ≠ i1 → c ≠ i2 → hp.get? c = some o → h'.get? c = some o) → Q2 (.ref hp.objs.size) ⟨h', g, d, tk, os⟩) →
      wpAny (model prog w) A (Builtin.SmallTypes.nextOf (#[Value.none, Value.bool false, Value.ref z, rawInt (i : Nat), Value.none, old][2]'(by simp))) Q2 E2 ⟨hp, g, d, tk0, os⟩ := fun q => zip_gives (s := ⟨hp, g, d, tk0, os⟩) S D1 D2 st0 l1 l2 q
  wp_walk using go
  intro x1 x2 h1 tk p1 p2 st1 n1' big kp
  have ne1 : e ≠ i1 := fun q => e1 (q ▸ S.mem1)
  have ne2 : e ≠ i2 := fun q => e2 (q ▸ S.mem2)
  have he1 : IsEnum h1 e z (i : Nat) old := kp _ _ ez eO ne1 ne2 he0
  have lt : e < hp.objs.size := Heap.lt_size he0
  wp_walk using wpAny_setField_rec he1 (by simp)
  intro h2 z2 k2
  replace z2 : IsEnum h2 e z ((i : Int) + 1) old := z2
  replace k2 : Heap.SameBut e h1 h2 := k2
  wp_walk using wpAny_setField_rec z2 (by simp)
  intro h3 z3 k3
  replace z3 : IsEnum h3 e z ((i : Int) + 1) old := z3
  replace k3 : Heap.SameBut e h2 h3 := k3
  have z4 : IsEnum (h3.push { cls := .type "tuple", data := .seq #[.int (i : Nat) tk, .ref hp.objs.size] }) e z ((i : Int) + 1) old := Heap.get?_push_of_some _ z3
  wp_walk using wpAny_setField_rec z4 (by simp)
  show ∀ h', _ → Heap.SameBut e (h3.push { cls := .type "tuple", data := .seq #[.int (i : Nat) tk, .ref hp.objs.size] }) h' → wpAny _ _ _ _ _ ⟨h', g, d, tk + 1, os⟩
  intro h5 z5 k5
  replace z5 : IsEnum h5 e z ((i : Int) + 1) (.ref hp.objs.size) := z5
  wp_walk using wpAny_setField_rec z5 (by simp)
  show ∀ h', _ → Heap.SameBut e h5 h' → wpAny _ _ _ _ _ ⟨h', g, d, tk + 1, os⟩
  intro h6 z6 k6
  replace z6 : h6.get? e = some { cls := .type "enumerate", dict := none, data := .fields #[rawInt (h3.objs.size : Nat), .bool false, .ref z, rawInt ((i : Int) + 1), .none, .ref hp.objs.size], slots := #[] } := z6
  wp_walk using wpAny_setField_rec z6 (by simp)
  show ∀ h', _ → Heap.SameBut e h6 h' → wpAny _ _ _ _ _ ⟨h', g, d, tk + 1, os⟩
  intro h7 z7 k7
  wp_walk
  have s3 : h3.objs.size = hp.objs.size + 1 := by rw [k3.1, k2.1, big]
  have new : (h3.push { cls := .type "tuple", data := .seq #[.int (i : Nat) tk, .ref hp.objs.size] }).get? h3.objs.size = some { cls := .type "tuple", data := .seq #[.int (i : Nat) tk, .ref hp.objs.size] } := Heap.get?_push_size _ rfl
  have up : ∀ c o, c ≠ e → h1.get? c = some o → h7.get? c = some o := fun c o a q => k7.extBut _ _ a (k6.extBut _ _ a (k5.extBut _ _ a (Heap.get?_push_of_some _ (k3.extBut _ _ a (k2.extBut _ _ a q)))))
  have new7 : h7.get? h3.objs.size = some { cls := .type "tuple", data := .seq #[.int (i : Nat) tk, .ref hp.objs.size] } := by
    have ne : h3.objs.size ≠ e := by rw [s3]; exact Nat.ne_of_gt (Nat.lt_succ_of_lt lt)
    exact k7.extBut _ _ ne (k6.extBut _ _ ne (k5.extBut _ _ ne new))
  refine ⟨_, rfl, ?_⟩
  show Q (.ref h3.objs.size) ⟨h7, g, d, tk + 1, os⟩
  replace z7 : IsEnumOut h7 e z ((i : Int) + 1) (.ref hp.objs.size) h3.objs.size := z7
  rw [s3] at new7 z7 ⊢
  refine h x1 x2 h7 tk p1 p2 z7 ⟨?_, ?_, ?_, ?_, ?_⟩ (up _ _ (Nat.ne_of_gt lt) n1') new7 fun c o a1 a2 a3 a4 a5 q => up c o a1 (kp c o a2 a3 a4 a5 q)
  · obtain ⟨f0, b, f, q⟩ := st1.zo
    exact ⟨f0, b, f, up _ _ ez.symm q⟩
  · exact up _ _ eI.symm st1.ti
  · obtain ⟨a, b, q⟩ := st1.to
    exact ⟨a, b, up _ _ eO.symm q⟩
  · exact D1.frame _ _ _ st1.s1 fun b hb o q => up b o (fun r => e1 (r ▸ hb)) q
  · exact D2.frame _ _ _ st1.s2 fun b hb o q => up b o (fun r => e2 (r ▸ hb)) q
theorem enumzip_item {e : Addr} {old : Value} {Q : Option Value → Shared → Prop} (S : ZipSep2 z TI TO i1 i2 fp1 fp2) (D1 : Draws prog w A.in1.in1 i1 fp1 n1 P1 St1) (D2 : Draws prog w A.in1.in1 i2 fp2 n2 P2 St2) (he : IsEnum s.heap e z (i : Nat) old) (st : ZipSt St1 St2 z TI TO i1 i2 i s.heap) (l1 : i < n1) (l2 : i < n2)
    (ez : e ≠ z) (eO : e ≠ TO) (eI : e ≠ TI) (e1 : e ∉ fp1) (e2 : e ∉ fp2)
    (h : ∀ x1 x2 h' tk, P1 i x1 → P2 i x2 → IsEnumOut h' e z ((i : Int) + 1) (.ref s.heap.objs.size) (s.heap.objs.size + 1) → ZipSt St1 St2 z TI TO i1 i2 (i + 1) h' → IsTupOf2 h' s.heap.objs.size x1 x2 → IsTupOf2 h' (s.heap.objs.size + 1) (.int (i : Nat) tk) (.ref s.heap.objs.size) → (∀ c o, c ≠ e → c ≠ z → c ≠ TO → c ≠ i1 → c ≠ i2 → s.heap.get? c = some o → h'.get? c = some o) → Q (some (.ref (s.heap.objs.size + 1))) { s with heap := h', toks := tk + 1 }) :
    wpAny (model prog w) A (pyNext (.ref e)) Q E s := by
  have ty : s.TypeIs (.ref e) "enumerate" := ⟨_, he, rfl⟩
  unfold pyNext
  refine wpAny_bind (wpAny_attempt (wpAny_callSpecial?_slot ty F.slot_enumerate_next (wpAny_call_entry F.slot_enumerate_next ty F.entry_enumerate_next (enumzip_turn S D1 D2 he st l1 l2 ez eO eI e1 e2 fun x1 x2 h' tk p1 p2 r1 r2 r3 r4 r5 => ?_) (F.args_enumerate_next_1 _))))
  exact wpAny_pure (h x1 x2 h' tk p1 p2 r1 r2 r3 r4 r5)
theorem enumzip_end {e : Addr} {old : Value} {Q : Option Value → Shared → Prop} (S : ZipSep2 z TI TO i1 i2 fp1 fp2) (D1 : Draws prog w A.in1.in1 i1 fp1 n1 P1 St1) (D2 : Draws prog w A.in1.in1 i2 fp2 n2 P2 St2) (he : IsEnum s.heap e z (i : Nat) old) (st : ZipSt St1 St2 z TI TO i1 i2 i s.heap) (l1 : i ≤ n1) (l2 : i ≤ n2) (l3 : i = n1 ∨ i = n2)
    (h : ∀ h' tk, (∀ c o, c ≠ z → c ≠ TO → c ≠ i1 → c ≠ i2 → s.heap.get? c = some o → h'.get? c = some o) → Q none { s with heap := h', toks := tk }) :
    wpAny (model prog w) A (pyNext (.ref e)) Q E s := by
  have ty : s.TypeIs (.ref e) "enumerate" := ⟨_, he, rfl⟩
  obtain ⟨hp, g, d, tk0, os⟩ := s
  have he0 : IsEnum hp e z (i : Nat) old := he
  unfold pyNext
  refine wpAny_bind (wpAny_attempt (wpAny_callSpecial?_slot ty F.slot_enumerate_next (wpAny_call_entry F.slot_enumerate_next ty F.entry_enumerate_next ?_ (F.args_enumerate_next_1 _))))
  refine wpAny_bind (m := field (.ref e) 2) (wpAny_field he0 rfl (x := .ref z) rfl (wpAny_bind (zip_ends S D1 D2 st l1 l2 l3 fun h' tk x kp ⟨o, ho, co⟩ => ?_)))
  exact wpAny_bind (wpAny_isInstance (T := "StopIteration") (b := true) ⟨o, ho, co⟩ isSubtype_stop (wpAny_pure (h h' tk kp)))
end
end TS
set_option Elab.async false
set_option linter.all false
set_option maxRecDepth 100000
set_option maxHeartbeats 2000000
namespace TS
open PySem PySem.Spec PyProof.Rows L2 PySem.Calls PySem.Builtin
/-! ### enumerate(zip(x, y)) -/
theorem enum_selfnew {z TI TO : Addr} : Meets (Builtin.«enumerate.__new__» ⟨[.type "enumerate", .ref z], []⟩) (fun _ R s => IsZip s.heap z TI TO .none ∧ R (.ok (.ret (.ref s.heap.objs.size))) { s with heap := s.heap.push (eObj z) }) := .of_wp fun prog w A R s h => by
  obtain ⟨hp, g, d, tk, os⟩ := s
  have sub := sub_enumerate
  have go : ∀ {A2 : Around} {E2 : Value → Shared → Prop} {Q2 : Value → Shared → Prop}, Q2 (.ref z) ⟨hp, g, d, tk, os⟩ → wpAny (model prog w) A2 (pyIter (.ref z)) Q2 E2 ⟨hp, g, d, tk, os⟩ := fun q => wpAny_pyIter_zip (s := ⟨hp, g, d, tk, os⟩) h.1 q
  wp_walk using go
  refine wpAny_stack_any fun fr => wpAny_pure ?_
  split
  · rename_i c _ _ _ _ _
    cases (c == Value.type "enumerate") <;> (wp_walk using go; exact ⟨_, rfl, h.2⟩)
  · wp_walk using go
    exact ⟨_, rfl, h.2⟩
section
variable {P : Program} {w : World} {A : Around} {E : Value → Shared → Prop} {s : Shared}
theorem enum_ofzip {z TI TO : Addr} {Q : Value → Shared → Prop} (hz : IsZip s.heap z TI TO .none) (q : ∀ h2, h2 = s.heap.push (eObj z) → Q (.ref s.heap.objs.size) { s with heap := h2 }) : wpAny (model P w) A (call (.type "enumerate") [.ref z]) Q E s := by
  refine callType_new F.called_enumerate (by decide) (F.typeCall_enumerate_1 _) (F.newCall_enumerate_1 _) (fun x => F.args_object_init_2 x _) F.entry_enumerate_new (enum_selfnew (TI := TI) (TO := TO)) ⟨hz, ?_⟩
  show _ ∧ _
  exact ⟨⟨_, Heap.get?_push_size _ rfl, rfl⟩, q _ rfl⟩
variable {X : Cx} {pins : List (Addr × Obj)} {σ : L2.St} {H : Hp}
/-- what a kind draws, whatever is around -/
theorem Kd.drawsA (I : Inv X pins σ H s) {A : Around} (hh : A.handled = none) {k : Kd} {vs : List V} (hv : k.its X.K H vs) {it : Addr} (ho : k.off it) {i : Nat} (hi : k.at it i s.heap) :
    ∃ (P : Nat → Value → Prop) (St : Nat → Heap → Prop), Draws X.prog X.w A it (k.fp it) vs.length P St ∧ St i s.heap ∧ (∀ j u, P j u → ∃ y, vs[j]? = some y ∧ RelV y u) ∧ ∀ j h, St j h → k.at it j h := by
  have at_len : ∀ {us : List Value}, Vals vs us → us.toArray.size = vs.length := fun r => by rw [List.size_toArray, r.length]
  have at_rel : ∀ {us : List Value}, Vals vs us → ∀ (j : Nat) (u : Value), us.toArray[j]? = some u → ∃ y, vs[j]? = some y ∧ RelV y u := fun {us} r j u e => by
    have e' : us[j]? = some u := by simpa using e
    have lt : j < vs.length := by rw [r.length]; exact (List.getElem?_eq_some_iff.mp e').1
    obtain ⟨u2, q1, q2⟩ := r.get (List.getElem?_eq_getElem lt)
    rw [e'] at q1
    cases q1
    exact ⟨_, List.getElem?_eq_getElem lt, q2⟩
  cases k with
  | l a =>
    obtain ⟨us, rv, pl, _⟩ := I.list hv
    exact ⟨_, _, at_len rv ▸ Draws.list hh it a ho us.toArray, ⟨hi, pl.isList⟩, at_rel rv, fun j h q => q.1⟩
  | t a =>
    obtain ⟨us, rv, pt, _⟩ := I.tuple hv
    exact ⟨_, _, at_len rv ▸ Draws.tuple hh it a ho us.toArray, ⟨hi, pt⟩, at_rel rv, fun j h q => q.1⟩
  | s x tk =>
    have hv' : vs = x.cps.toList.map fun c => V.str ⟨#[c]⟩ := hv
    have hs : x.cps.size = vs.length := by rw [hv', List.length_map, Array.length_toList]
    refine ⟨_, _, hs ▸ Draws.text hh it x tk, hi, fun j u hu => ?_, fun j h q => q⟩
    obtain ⟨c, t, e1, rfl⟩ := hu
    refine ⟨.str ⟨#[c]⟩, ?_, ⟨t, rfl⟩⟩
    rw [hv', List.getElem?_map, Array.getElem?_toList, e1]
    rfl
end
def ItEZ (K : PySem.W.Frag) (k1 k2 : Kd) : It :=
  ⟨fun i H => ∃ vs us : List V, k1.its K H vs ∧ k2.its K H us ∧ i < vs.length ∧ i < us.length,
   fun i H v H' => ∃ P T x y, v = .ref T ∧ H P = none ∧ H T = none ∧ T ≠ P ∧ H' = upd (upd H P (.tup [x, y])) T (.tup [.int (i : Nat), .ref P]) ∧ (∀ vs, k1.its K H vs → vs[i]? = some x) ∧ ∀ us, k2.its K H us → us[i]? = some y,
   fun i H => ∃ vs us : List V, k1.its K H vs ∧ k2.its K H us ∧ i ≤ vs.length ∧ i ≤ us.length ∧ (i = vs.length ∨ i = us.length)⟩
/-- the addresses of an enumerate over a zip lie apart -/
structure ApE (e z TI TO i1 i2 : Addr) (k1 k2 : Kd) : Prop where
  zip : ApG z TI TO i1 i2 k1 k2
  ez : e ≠ z
  eI : e ≠ TI
  eO : e ≠ TO
  e1 : e ≠ i1
  e2 : e ≠ i2
  o1 : k1.off e
  o2 : k2.off e
/-- the state of an enumerate over a zip -/
structure EzSt (e z TI TO i1 i2 : Addr) (k1 k2 : Kd) (i : Nat) (h : Heap) : Prop where
  en : ∃ old, IsEnum h e z (i : Nat) old
  zp : ZipSt (k1.at i1) (k2.at i2) z TI TO i1 i2 i h
theorem six {P : Addr → Prop} {e z TI TO i1 i2 c : Addr} (h : c ∈ [e, z, TI, TO, i1, i2]) (q0 : P e) (q1 : P z) (q2 : P TI) (q3 : P TO) (q4 : P i1) (q5 : P i2) : P c := by
  rcases List.mem_cons.mp h with rfl | h
  · exact q0
  · exact five h q1 q2 q3 q4 q5
theorem turn_enumzip {P : Program} {w : World} {K : PySem.W.Frag} {elts : List Expr} {kk : Nat} {tpos : Pos} {e z TI TO i1 i2 : Addr} {k1 k2 : Kd} (B : ApE e z TI TO i1 i2 k1 k2) :
    Turn P w K (.Tuple elts kk tpos) (ItEZ K k1 k2) [e, z, TI, TO, i1, i2] e (EzSt e z TI TO i1 i2 k1 k2) where
  mem := List.mem_cons_self ..
  obj := fun i h st c hc => by
    obtain ⟨⟨old, s0⟩, ⟨⟨f0, b, f, s1⟩, s2, ⟨x, y, s3⟩, s4, s5⟩⟩ := st
    exact six (P := fun c => ∃ o, h.get? c = some o ∧ ∀ v, o.data ≠ .cell v) hc ⟨_, s0, fun v q => nomatch q⟩ ⟨_, s1, fun v q => nomatch q⟩ ⟨_, s2, fun v q => nomatch q⟩ ⟨_, s3, fun v q => nomatch q⟩ (Kd.live s4) (Kd.live s5)
  keep := fun i h h' st kp => by
    obtain ⟨⟨old, s0⟩, ⟨⟨f0, b, f, s1⟩, s2, ⟨x, y, s3⟩, s4, s5⟩⟩ := st
    exact ⟨⟨old, kp e (by simp) _ s0⟩, ⟨f0, b, f, kp z (by simp) _ s1⟩, kp TI (by simp) _ s2, ⟨x, y, kp TO (by simp) _ s3⟩, Kd.keep s4 (kp i1 (by simp)), Kd.keep s5 (kp i2 (by simp))⟩
  item := by
    intro X h1 h2 h3 hc i pins s σ H E I hf st hg
    subst h1 h2 h3
    obtain ⟨⟨old, s0⟩, sz⟩ := st
    obtain ⟨vs, us, hvs, hus, l1, l2⟩ := hg
    have hh : X.A.in1.in1.handled = none := I.ok.hd hc
    have A := B.zip
    obtain ⟨P1, St1, D1, t1, r1, b1⟩ := Kd.drawsA I hh hvs (A.o1 i1 (by simp)) sz.s1
    obtain ⟨P2, St2, D2, t2, r2, b2⟩ := Kd.drawsA I hh hus (A.o2 i2 (by simp)) sz.s2
    have le : e < s.heap.objs.size := Heap.lt_size s0
    have lz : z < s.heap.objs.size := let ⟨_, _, _, q⟩ := sz.zo; Heap.lt_size q
    have lI : TI < s.heap.objs.size := Heap.lt_size sz.ti
    have lO : TO < s.heap.objs.size := let ⟨_, _, q⟩ := sz.to; Heap.lt_size q
    have lt1 : i1 < s.heap.objs.size := let ⟨_, q, _⟩ := Kd.live sz.s1; Heap.lt_size q
    have lt2 : i2 < s.heap.objs.size := let ⟨_, q, _⟩ := Kd.live sz.s2; Heap.lt_size q
    refine enumzip_item A.sep D1 D2 s0 ⟨sz.zo, sz.ti, sz.to, t1, t2⟩ l1 l2 B.ez B.eO B.eI (Kd.not_fp B.e1.symm B.o1) (Kd.not_fp B.e2.symm B.o2) fun u1 u2 g1 tk p1 p2 en zs n1 n2 kp => ?_
    obtain ⟨x, hx, rx⟩ := r1 i u1 p1
    obtain ⟨y, hy, ry⟩ := r2 i u2 p2
    refine ⟨_, rfl, wpAny_letOwnedTupleGo_enum (s := { s with heap := g1, toks := tk + 1 }) en fun g2 en' sb => ?_⟩
    have cut : ∀ c o, c ∉ [e, z, TI, TO, i1, i2] → s.heap.get? c = some o → g2.get? c = some o := fun c o hn q =>
      (sb.2 c fun r => hn (by simp [r])).trans (kp c o (fun r => hn (by simp [r])) (fun r => hn (by simp [r])) (fun r => hn (by simp [r])) (fun r => hn (by simp [r])) (fun r => hn (by simp [r])) q)
    have neP : s.heap.objs.size ≠ e := Nat.ne_of_gt le
    have neT : s.heap.objs.size + 1 ≠ e := Nat.ne_of_gt (Nat.lt_succ_of_lt le)
    have nP : IsTupOf2 g2 s.heap.objs.size u1 u2 := (sb.2 _ neP).trans n1
    have nT : IsTupOf2 g2 (s.heap.objs.size + 1) (.int (i : Nat) tk) (.ref s.heap.objs.size) := (sb.2 _ neT).trans n2
    -- first the pair alone, then the rest
    have IA : Inv X pins σ (upd H s.heap.objs.size (.tup [x, y])) { s with heap := s.heap.push { cls := .type "tuple", data := .seq #[u1, u2] }, toks := s.toks } := I.laid (fun b u q => Heap.get?_push_of_some _ q) (Nat.le_refl _) ⟨by show 2 ≤ sizeLine; decide, [u1, u2], .cons rx (.cons ry .nil), _, Heap.get?_push_size _ rfl, rfl, _, rfl⟩
    have hsz : (s.heap.push { cls := .type "tuple", data := .seq #[u1, u2] }).objs.size = s.heap.objs.size + 1 := Heap.size_push ..
    have fpA : ∀ b ∈ [e, z, TI, TO, i1, i2], FpOk X pins (upd H s.heap.objs.size (.tup [x, y])) b := fun b hb => by
      obtain ⟨q1, q2⟩ := hf b hb
      have lb : b < s.heap.objs.size := six (P := fun c => c < s.heap.objs.size) hb le lz lI lO lt1 lt2
      exact ⟨by rw [upd_ne (Nat.ne_of_lt lb)]; exact q1, q2⟩
    have IB : Inv X pins σ (upd (upd H s.heap.objs.size (.tup [x, y])) (s.heap.objs.size + 1) (.tup [.int (i : Nat), .ref s.heap.objs.size])) { s with heap := g2, toks := tk + 1 } := by
      refine IA.turnedNew (ch := [e, z, TI, TO, i1, i2]) (fun b o hb q => ?_) fpA (by show (s.heap.push _).objs.size ≤ _; rw [hsz]; exact Nat.le_refl _) ⟨by show 2 ≤ sizeLine; decide, [.int (i : Nat) tk, .ref s.heap.objs.size], .cons ⟨_, rfl⟩ (.cons rfl .nil), _, nT, rfl, _, rfl⟩
      by_cases hb2 : b = s.heap.objs.size
      · subst hb2
        have q' := (Heap.get?_push_size (h := s.heap) (o := { cls := .type "tuple", data := .seq #[u1, u2] }) rfl).symm.trans q
        cases q'
        exact nP
      · rcases Heap.get?_push_cases q with ⟨q1, _⟩ | q1
        · exact absurd q1 hb2
        · exact cut b _ hb q1
    have hP : H s.heap.objs.size = none := I.hok.fresh (Nat.le_refl _)
    have hT : H (s.heap.objs.size + 1) = none := I.hok.fresh (Nat.le_succ _)
    have neTP : s.heap.objs.size + 1 ≠ s.heap.objs.size := Nat.succ_ne_self _
    refine ⟨.ref (s.heap.objs.size + 1), _, IB, rfl, ⟨_, _, x, y, rfl, hP, hT, neTP, rfl, fun ws hw => by rw [Kd.its_inj I hw hvs]; exact hx, fun ws hw => by rw [Kd.its_inj I hw hus]; exact hy⟩, ⟨⟨.ref s.heap.objs.size, ?_⟩, ?_⟩, fun c hcm => ?_⟩
    · rw [show ((i + 1 : Nat) : Int) = (i : Int) + 1 by omega]
      exact en'
    · obtain ⟨⟨f0, b, f, s1⟩, s2, ⟨x3, y3, s3⟩, s4, s5⟩ := zs
      exact ⟨⟨f0, b, f, (sb.2 _ B.ez.symm).trans s1⟩, (sb.2 _ B.eI.symm).trans s2, ⟨x3, y3, (sb.2 _ B.eO.symm).trans s3⟩, Kd.keep (b1 _ _ s4) fun o q => (sb.2 _ B.e1.symm).trans q, Kd.keep (b2 _ _ s5) fun o q => (sb.2 _ B.e2.symm).trans q⟩
    · have lb : c < s.heap.objs.size := six (P := fun c => c < s.heap.objs.size) hcm le lz lI lO lt1 lt2
      rw [upd_ne (Nat.ne_of_lt (Nat.lt_succ_of_lt lb)), upd_ne (Nat.ne_of_lt lb)]
      exact (hf c hcm).1
  done := by
    intro X h1 h2 h3 hc i pins s σ H E I hf st hg
    subst h1 h2 h3
    obtain ⟨⟨old, s0⟩, sz⟩ := st
    obtain ⟨vs, us, hvs, hus, l1, l2, l3⟩ := hg
    have hh : X.A.in1.in1.handled = none := I.ok.hd hc
    have A := B.zip
    obtain ⟨P1, St1, D1, t1, r1, b1⟩ := Kd.drawsA I hh hvs (A.o1 i1 (by simp)) sz.s1
    obtain ⟨P2, St2, D2, t2, r2, b2⟩ := Kd.drawsA I hh hus (A.o2 i2 (by simp)) sz.s2
    refine enumzip_end A.sep D1 D2 s0 ⟨sz.zo, sz.ti, sz.to, t1, t2⟩ l1 l2 l3 fun g1 tk kp => ⟨rfl, ?_⟩
    exact I.turnedL (ch := [e, z, TI, TO, i1, i2]) (fun c o hn q => kp c o (fun r => hn (by simp [r])) (fun r => hn (by simp [r])) (fun r => hn (by simp [r])) (fun r => hn (by simp [r])) q) hf
  self := fun A' i s Q E st h => let ⟨_, s0⟩ := st.en; wpAny_pyIter_enum s0 h
end TS
set_option Elab.async false
set_option linter.all false
set_option maxRecDepth 100000
namespace TS
open PySem PySem.Spec PyProof.Rows L2
/-! ### dict comprehensions whose keys are tuples of integers -/
/-- what stands behind the tests: a key, a value, put into the dict at D -/
def tPutT (tk tv : TE) (D : Addr) (σ : L2.St) (H : Hp) (Nx : Hp → Prop) : Prop := tk σ H fun y H4 => tv σ H4 fun z H5 => ∃ b kvs k, y = .ref b ∧ H5 b = some (.tup (k.map kV)) ∧ H5 D = some (.dT kvs) ∧ kvs.length < sizeLine ∧ Nx (upd H5 D (.dT (putK kvs k z)))
/-- {tk: tv for g in wi if tt} -/
def tDcT (wi : TI) (g : TG) (tt : TT) (tk tv : TE) (vs : List Nat) : TE := fun σ H Q => wi σ H fun J H' => ∀ D, H' D = none → lpT J g tt vs σ (tPutT tk tv D) (upd H' D (.dT [])) fun H2 => Q (.ref D) H2
section
variable {Y : Cx} {kx vx tg iter : Expr} {ifs : List Expr} {scope : Scope} {pos : Pos} {pins : List (Addr × Obj)} {σ : L2.St} {H : Hp} {s : Shared} {D : Addr} {tk tv : TE}
theorem pair_loop (hu : Y.A.units < cLine) (hcalm : Y.calm = true) (hxe : ∀ x s, ¬ Y.xe x s) {g : TG} {tt : TT} {vs : List Nat}
    (pg : PG Y tg g) (pt : PTs Y ifs tt) (pk : PE Y kx tk) (pv : PE Y vx tv)
    {J : It} {fp : List Addr} {it : Addr} {tn : Nat → Heap → Prop} {fin : Hp → Prop} (T : Turn Y.prog Y.w Y.K tg J fp it tn)
    (hfp : ∀ (σ' : L2.St) (H' : Hp) (s' : Shared), Inv Y pins σ' H' s' → (∀ b ∈ fp, H' b = none) → ∀ b ∈ fp, FpOk Y pins H' b)
    (I : Inv Y pins (wipe σ vs) H s) (h0 : tn 0 s.heap) (hn : ∀ b ∈ fp, H b = none) (h : lpT J g tt vs σ (tPutT tk tv D) H fin) :
    codeAny (model Y.prog Y.w) Y.A (.compLoop (.DictComp kx vx [⟨tg, iter, ifs, 0⟩] scope pos) 0 (.ref it) (.ref D) Y.env) (fun r s' => r = .ok .next ∧ ∃ H', Inv Y pins (wipe σ vs) H' s' ∧ fin H') s := by
  obtain ⟨W, ⟨m, w⟩, hW⟩ := h
  refine compLoop_anyD (fun n s' => ∃ i H', W i n H' ∧ Inv Y pins (wipe σ vs) H' s' ∧ tn i s'.heap ∧ ∀ b ∈ fp, H' b = none) ?_ m ⟨0, H, w, I, h0, hn⟩
  rintro n sa ⟨i, Ha, wa, Ia, ta, na⟩
  rcases hW i n Ha wa with ⟨hstop, hfin⟩ | ⟨hgo, Nx, hN, hstep⟩
  · refine thn (T.done Y rfl rfl rfl hcalm i pins sa _ Ha _ Ia (hfp _ _ _ Ia na) ta hstop) ?_
    rintro _ sb ⟨rfl, Ib⟩
    exact ⟨rfl, Ha, Ib, hfin⟩
  · refine thn (T.item Y rfl rfl rfl hcalm i pins sa _ Ha _ Ia (hfp _ _ _ Ia na) ta hgo) ?_
    rintro _ sb ⟨u, rfl, hu'⟩
    refine thn hu' ?_
    rintro _ sc ⟨x, Hc, Ic, rx, yx, tc, nc⟩
    have up : ∀ {α : Type} {t : Sem α} {Q : α → Shared → Prop} {E : Value → Shared → Prop} {s' : Shared}, wpAny (model Y.prog Y.w) Y.A t Q Y.xe s' → wpAny (model Y.prog Y.w) Y.A t Q E s' := fun q => wpAny_mono q (fun _ _ z => z) fun x s' z => absurd z (hxe x s')
    have Ip : Inv Y (pins ++ pinsAt fp sc.heap) (wipe σ vs) Hc sc := Ic.pinned (hfp _ _ _ Ic nc) (T.obj _ _ tc)
    have back : ∀ {σ' : L2.St} {H' : Hp} {s' : Shared}, Inv Y (pins ++ pinsAt fp sc.heap) σ' H' s' → Kept vs σ σ' → Nx H' → ∃ m, m < n ∧ ∃ i H', W i m H' ∧ Inv Y pins (wipe σ vs) H' s' ∧ tn i s'.heap ∧ ∀ b ∈ fp, H' b = none := by
      intro σ' H' s' I' kp nx
      obtain ⟨m', hm, w'⟩ := hN H' nx
      have stay : ∀ b ∈ fp, ∀ o, sc.heap.get? b = some o → s'.heap.get? b = some o ∧ H' b = none := fun b hb o e => by
        have q := I'.pin (b, o) (List.mem_append_right _ (List.mem_append_right _ (mem_pinsAt hb e)))
        exact ⟨q.1, q.2.1⟩
      refine ⟨m', hm, i + 1, H', w', I'.unpinned.weak ((wipe_length σ vs).trans kp.len.symm) fun j v e => ?_, T.keep _ _ _ tc fun b hb o e => (stay b hb o e).1, fun b hb => ?_⟩
      · have q := wipe_some e
        exact kp.old j v q.2 q.1
      · obtain ⟨o, e, _⟩ := T.obj _ _ tc b hb
        exact (stay b hb o e).2
    refine up (thn (pg.run _ sc _ Hc x u _ Ip rx (hstep x Hc yx)) ?_)
    rintro _ sd ⟨σd, Hd, Id, hw, qd⟩
    have kd : Kept vs σ σd := by
      refine ⟨by rw [← wipe_length σd vs, hw, wipe_length], fun j v hj e => ?_⟩
      have q : (wipe σ vs)[j]? = some (some v) := not_wiped hj e
      rw [← hw] at q
      exact (wipe_some q).1
    refine up (thn (pt.run _ sd σd Hd _ Id qd) ?_)
    rintro b se ⟨He, Ie, qe⟩
    cases b with
    | false => exact back Ie kd qe
    | true =>
      refine up (thn (pk.run _ se σd He _ Ie qe) ?_)
      rintro _ sf ⟨y, Hf, If, ry, qf⟩
      refine up (thn (pv.run _ sf σd Hf _ If qf) ?_)
      rintro r sg ⟨z, Hg, Ig, rz, a, kvs, k, rfl, ea, eD, few, nx⟩
      cases ry
      exact put_run Ig hu eD ea few rz fun s3 I3 => back I3 kd nx
end
section
variable {X : Cx} {kx vx tg iter : Expr} {ifs : List Expr} {scope : Scope} {own : List (Str × Nat)} {pos : Pos} {wi : TI} {g : TG} {tt : TT} {tk tv : TE} {pins : List (Addr × Obj)} {s : Shared} {σ : L2.St} {H : Hp}
theorem pairs_block (hu : X.A.units < cLine) (hc : X.calm = true) (hN : X.N.Nodup) (I : Inv X pins σ H s) (ok : BlkOk X.N X.env.scope scope own) {J : It} {fp : List Addr} {it D : Addr} {tn : Nat → Heap → Prop} {fin : Hp → Prop} {R : Result → Shared → Prop}
    (pg : PG (blkX X s H scope fp) tg g) (pt : PTs (blkX X s H scope fp) ifs tt) (pk : PE (blkX X s H scope fp) kx tk) (pv : PE (blkX X s H scope fp) vx tv)
    (T : Turn X.prog X.w X.K tg J fp it tn) (t0 : tn 0 s.heap) (f : ∀ b ∈ fp, FpOk X pins H b) (lp : lpT J g tt (own.map (·.2)) σ (tPutT tk tv D) H fin)
    (hend : ∀ s' m H', Inv X pins σ H' s' → fin H' → s'.heap.Ns s.heap.objs.size m → FpOk X pins H' s.heap.objs.size → R (.ok .next) s') :
    codeAny (model X.prog X.w) X.A (.compStart (.DictComp kx vx [⟨tg, iter, ifs, 0⟩] scope pos) 0 (.ref it) (.ref D) (blkX X s H scope fp).env) R { s with heap := pushCells (s.heap.push { cls := .type "dict", data := .dict #[] }) scope.names } := by
  have more : ∀ b o, s.heap.get? b = some o → (pushCells (s.heap.push { cls := .type "dict", data := .dict #[] }) scope.names).get? b = some o := fun b o e => pushCells_keeps _ _ _ _ (Heap.get?_push_of_some _ e)
  have t1 := T.keep _ _ _ t0 fun b _ o e => more b o e
  have I1 := block_start I ok hN fun b hb => ⟨f b hb, let ⟨_, e, _⟩ := T.obj _ _ t0 b hb; Heap.lt_size e⟩
  have own' : ∀ (σ' : L2.St) (H' : Hp) (s' : Shared), Inv (blkX X s H scope fp) [] σ' H' s' → (∀ b ∈ fp, H' b = none) → ∀ b ∈ fp, FpOk (blkX X s H scope fp) [] H' b := fun σ' H' s' I' n' b hb => by
    have z := I'.ok.exf b hb
    exact ⟨n' b hb, z.1, I'.ok.exfs b hb, .inl hb, z.2, fun p hp => nomatch hp⟩
  have loop := pair_loop (Y := blkX X s H scope fp) (scope := scope) (pos := pos) (iter := iter) (D := D) hu hc (fun _ _ z => z) pg pt pk pv T own' I1 t1 (fun b hb => (f b hb).1) lp
  have loop' := codeAny_mono loop (R' := R) ?_
  · exact codeAny_compStart_dict loop' (T.self X.A 0 _ _ _ t1 loop')
  · rintro _ s' ⟨rfl, H', I', hf⟩
    obtain ⟨m, hm, _⟩ := I'.loc
    have J' : Inv X pins σ H' s' := I.call' (ch := fp) I'.os I'.base I'.hok I'.bare fun b hb => by
      obtain ⟨_, z1, _, z3, z4, z5⟩ := f b hb
      exact ⟨z3, z1, z4, z5⟩
    exact hend s' m H' J' hf hm (I.fpOk (Nat.le_refl _) I'.free)
theorem pe_dcT (hu : X.A.units < cLine) (hc : X.calm = true) (hN : X.N.Nodup) (hi : PI X tg iter wi) (ok : BlkOk X.N X.env.scope scope own)
    (hg : ∀ (s : Shared) (H : Hp) (C : Addr) (cl : List (Str × Addr)) (fp : List Addr), PG (X.blk s H scope (compEnvC scope cl C X.env) fp) tg g) (ht : ∀ (s : Shared) (H : Hp) (C : Addr) (cl : List (Str × Addr)) (fp : List Addr), PTs (X.blk s H scope (compEnvC scope cl C X.env) fp) ifs tt)
    (hk : ∀ (s : Shared) (H : Hp) (C : Addr) (cl : List (Str × Addr)) (fp : List Addr), PE (X.blk s H scope (compEnvC scope cl C X.env) fp) kx tk) (hv : ∀ (s : Shared) (H : Hp) (C : Addr) (cl : List (Str × Addr)) (fp : List Addr), PE (X.blk s H scope (compEnvC scope cl C X.env) fp) vx tv)
    (hs : ∀ x, foldedSetIterable iter X.env x = pure x) : PE X (.DictComp kx vx [⟨tg, iter, ifs, 0⟩] scope pos) (tDcT wi g tt tk tv (own.map (·.2))) := by
  constructor
  intro pins s σ H Q I h
  rw [arm_eval_DictComp]
  have cells : ∀ y ∈ scope.names, y.2 = .free → ∃ c, X.env.cells.lookup y.1 = some c := fun y hy e => I.ok.has _ ((ok.free y hy e).imp id id)
  refine wpAny_comprehension_free rfl hs (closure_ok cells) ok.kind (fun y hy e => (ok.uniq y hy).trans (congrArg some e)) (thn (hi.run pins s σ H _ I h) fun v s1 h1 => thn h1 ?_)
  rintro _ s2 ⟨it, fp, tn, J, H2, rfl, I2, T, t2, f2, q⟩
  refine wpAny_newObj_type (newEnv_comp ?_) (Nat.zero_le _)
  have lp := q _ (I2.hok.fresh (Nat.le_refl _))
  have old : ∀ b ∈ fp, b < s2.heap.objs.size := fun b hb => let ⟨_, e, _⟩ := T.obj _ _ t2 b hb; Heap.lt_size e
  have I3 : Inv X pins σ (upd H2 s2.heap.objs.size (.dT [])) { s2 with heap := s2.heap.push { cls := .type "dict", data := .dict #[] } } :=
    I2.laid (t' := s2.toks) (fun _ _ e => Heap.get?_push_of_some _ e) (Nat.le_refl _) (dt_empty s2.heap I2.big)
  refine pairs_block (fp := fp) hu hc hN I3 ok (hg _ _ _ _ _) (ht _ _ _ _ _) (hk _ _ _ _ _) (hv _ _ _ _ _) T (T.keep _ _ _ t2 fun _ _ _ e => Heap.get?_push_of_some _ e) (fun b hb => ⟨?_, (f2 b hb).2⟩) lp fun s' m H' I' hq hm hf =>
    ⟨m, hm, fun h' sb => ⟨.ref _, H', let_go I' hf sb, rfl, hq⟩⟩
  rw [upd_ne (Nat.ne_of_lt (old b hb))]
  exact (f2 b hb).1
end
/-! data -/
def putTM (k : Nat) (a d : D) : M Unit := fun S => match tupKey a, S[k]? with
  | some ks, some (.dT kvs) => if kvs.length < sizeLine then some ((), S.set k (.dT (putT kvs ks d))) else none
  | _, _ => none
noncomputable def dcTM (g : Gd) (k : Nat) (tgt : D → SEnv → M SEnv) (tt : SEnv → M Bool) (tk tv : SEnv → M D) (env : SEnv) : List D → M D
  | [] => gdM g (ret (.ref k))
  | x :: xs => gdM g (bnd (tgt x env) fun env1 => bnd (tt env1) fun b => if b then bnd (tk env1) fun a => bnd (tv env1) fun d => bnd (putTM k a d) fun _ => dcTM g k tgt tt tk tv env xs else dcTM g k tgt tt tk tv env xs)
noncomputable def eDcT (fi : SEnv → M (List D × Gd)) (tgt : D → SEnv → M SEnv) (tt : SEnv → M Bool) (tk tv : SEnv → M D) (vs : List Nat) : SEnv → M D := fun env => bnd (fi env) fun p => bnd (fun S => some (S.length, S ++ [.dT []])) fun k => dcTM p.2 k tgt tt tk tv (wipeE env vs) p.1
theorem se_dcT {K : PySem.W.Frag} {wi : TI} {g : TG} {ws : List Nat} {tt : TT} {tk tv : TE} {fi : SEnv → M (List D × Gd)} {fg : D → SEnv → M SEnv} {ft : SEnv → M Bool} {fk fv : SEnv → M D}
    (hi : ∀ ⦃m : List Addr⦄ ⦃S : Store⦄ ⦃H : Hp⦄ ⦃env : SEnv⦄ ⦃σ : L2.St⦄, Rel K m S H → RelE K m H env σ → ∀ xs g S', fi env S = some ((xs, g), S') → ∀ R : It → Hp → Prop, (∀ m' H' J, Rel K m' S' H' → Ext m H m' H' → WalkD K m' H' J xs g → R J H') → wi σ H R)
    (hg : ∀ ⦃m : List Addr⦄ ⦃S : Store⦄ ⦃H : Hp⦄ ⦃env : SEnv⦄ ⦃σ : L2.St⦄ ⦃d : D⦄ ⦃v : V⦄, Rel K m S H → RelE K m H env σ → Rep K m H d v → ∀ env' S', fg d env S = some (env', S') →
      ∀ Q : L2.St → Hp → Prop, (∀ m' H' σ', Rel K m' S' H' → Ext m H m' H' → RelE K m' H' env' σ' → Off ws σ σ' → Q σ' H') → g v σ H Q)
    (ht : ST K tt ft) (hk : SE K tk fk) (hv : SE K tv fv) : SE K (tDcT wi g tt tk tv ws) (eDcT fi fg ft fk fv ws) := fun m S H env σ rl re d S' hh Q q => by
  obtain ⟨⟨xs, gd⟩, S1, e1, h1⟩ := bnd_some hh
  refine hi rl re xs gd S1 e1 _ fun m1 H1 J rl1 x1 w => ?_
  intro Dd hD
  have h1' : dcTM gd S1.length fg ft fk fv (wipeE env ws) xs (S1 ++ [.dT []]) = some (d, S') := h1
  obtain ⟨rl1', x1', rD⟩ := rl1.new (o := .dT []) (u := .dT []) hD (.dT rfl .nil)
  have hk0 : (m1 ++ [Dd])[S1.length]? = some Dd := by
    rw [← rl1.len, List.getElem?_append_right (Nat.le_refl _), Nat.sub_self]
    rfl
  have hw1 := re.mono rl x1
  have gdS : ∀ {i : Nat} {S2 : Store}, dcTM gd S1.length fg ft fk fv (wipeE env ws) (xs.drop i) S2 = some (d, S') → gdOk S2 gd := fun {i S2} h2 => by
    cases e : xs.drop i with
    | nil => rw [e] at h2; exact (gdM_some h2).1
    | cons y ys => rw [e] at h2; exact (gdM_some h2).1
  -- the word of the loop: at turn i the rest of the list is still to be gone through
  let Pv : Nat → Hp → Prop := fun i H2 => ∃ m2 S2, Rel K m2 S2 H2 ∧ Ext (m1 ++ [Dd]) (upd H1 Dd (.dT [])) m2 H2 ∧ dcTM gd S1.length fg ft fk fv (wipeE env ws) (xs.drop i) S2 = some (d, S')
  have hG : ∀ i H2, Pv i H2 → ∃ m2 S2, Rel K m2 S2 H2 ∧ Ext m1 H1 m2 H2 ∧ gdOk S2 gd := by
    rintro i H2 ⟨m2, S2, rl2, x2, h2⟩
    exact ⟨m2, S2, rl2, x1'.trans x2, gdS h2⟩
  refine ⟨fun i left H2 => left = xs.length - i ∧ i ≤ xs.length ∧ Pv i H2, ⟨xs.length, (Nat.sub_zero _).symm, Nat.zero_le _, _, _, rl1', .refl, h1'⟩, ?_⟩
  rintro i left H2 ⟨rfl, hi, p⟩
  rcases Nat.lt_or_ge i xs.length with c | c
  · refine .inr ⟨w.goes i H2 c (hG i H2 p), Pv (i + 1), fun H' p' => ⟨xs.length - (i + 1), by omega, rfl, c, p'⟩, fun x H3 y => ?_⟩
    have hy := w.yields i H2 x H3 c (hG i H2 p) y
    obtain ⟨m2, S2, rl2, x2, h2⟩ := p
    obtain ⟨d1, hd, rl3, x3, rd⟩ := hy m2 S2 rl2 (x1'.trans x2) (gdS h2)
    rw [drop_at hd] at h2
    have h3 := (gdM_some h2).2
    obtain ⟨env3, S4, e4, h4⟩ := bnd_some h3
    obtain ⟨b, S5, e5, h5⟩ := bnd_some h4
    have rew : RelE K m2 H3 (wipeE env ws) (L2.wipe σ ws) := (hw1.mono rl1 (x1'.trans (x2.trans x3))).wipe ws
    refine hg rl3 rew rd env3 S4 e4 _ fun m4 H4 σ4 rl4 x4 re4 o4 => ⟨by rw [o4.wipe, wipe_wipe], ?_⟩
    refine ht rl4 re4 b S5 e5 _ fun m5 H5 rl5 x5 => ?_
    cases b with
    | false => exact iteF ⟨m5, S5, rl5, x2.trans (x3.trans (x4.trans x5)), h5⟩
    | true =>
      have h5' : bnd (fk env3) (fun a => bnd (fv env3) fun y => bnd (putTM S1.length a y) fun _ => dcTM gd S1.length fg ft fk fv (wipeE env ws) (xs.drop (i + 1))) S5 = some (d, S') := h5
      obtain ⟨a, S6, e6, h6⟩ := bnd_some h5'
      obtain ⟨y, S7, e7, h7⟩ := bnd_some h6
      obtain ⟨_, S8, e8, h8⟩ := bnd_some h7
      refine iteT (hk rl5 (re4.mono rl4 x5) a S6 e6 _ fun m6 H6 va rl6 x6 ra => ?_)
      refine hv rl6 (re4.mono rl4 (x5.trans x6)) y S7 e7 _ fun m7 H7 vy rl7 x7 ry => ?_
      have x27 : Ext (m1 ++ [Dd]) (upd H1 Dd (.dT [])) m7 H7 := x2.trans (x3.trans (x4.trans (x5.trans (x6.trans x7))))
      unfold putTM at e8
      split at e8
      · rename_i kk kvs hkk ek
        split at e8
        · cases e8
          rename_i few
          have hk7 := x27.at hk0
          obtain ⟨p, us, q1, q2, q3, q4, q5⟩ := rl7.dTm ek (.ref hk7)
          cases q1
          obtain ⟨pa, rfl, hp⟩ := tupKey_rep (ra.mono rl6 x7) hkk
          obtain ⟨w1, w2⟩ := putT_rep q4 q5 kk ry
          obtain ⟨a1, a2⟩ := rl7.set hk7 (.dT w1 w2)
          have hlen : us.length = kvs.length := by rw [← List.length_map (f := (·.1)), q4, List.length_map]
          exact ⟨pa, us, kk, rfl, hp, q3, by rw [hlen]; exact few, m7, _, a1, x27.trans a2, h8⟩
        · cases e8
      · cases e8
  · obtain rfl : i = xs.length := by omega
    refine .inl ⟨w.stops H2 (hG _ _ p), ?_⟩
    obtain ⟨m2, S2, rl2, x2, h2⟩ := p
    rw [List.drop_length] at h2
    cases (gdM_some h2).2
    exact q m2 H2 _ rl2 (x1.trans (x1'.trans x2)) (.ref (x2.at hk0))
section
variable {X : Cx}
theorem de_dcT {kx vx tg iter : Expr} {ifs : List Expr} {scope : Scope} {pos : Pos} (own : List (Str × Nat)) {wi : TI} {g : TG} {tt : TT} {tk tv : TE} {fi : SEnv → M (List D × Gd)} {fg : D → SEnv → M SEnv} {ft : SEnv → M Bool} {fk fv : SEnv → M D} (hu : X.A.units + 1 < cLine) (hc : X.calm = true) (hN : X.N.Nodup) (hi : DI X tg iter wi fi) (ok : BlkOk X.N X.env.scope scope own)
    (hg : ∀ (s : Shared) (H : Hp) (C : Addr) (cl : List (Str × Addr)) (fp : List Addr), DG (X.blk s H scope (compEnvC scope cl C X.env) fp) tg (own.map (·.2)) g fg) (ht : ∀ (s : Shared) (H : Hp) (C : Addr) (cl : List (Str × Addr)) (fp : List Addr), DTs (X.blk s H scope (compEnvC scope cl C X.env) fp) ifs tt ft)
    (hk : ∀ (s : Shared) (H : Hp) (C : Addr) (cl : List (Str × Addr)) (fp : List Addr), DE (X.blk s H scope (compEnvC scope cl C X.env) fp) kx tk fk) (hv : ∀ (s : Shared) (H : Hp) (C : Addr) (cl : List (Str × Addr)) (fp : List Addr), DE (X.blk s H scope (compEnvC scope cl C X.env) fp) vx tv fv) (hs : ∀ x, foldedSetIterable iter X.env x = pure x := by intro _; rfl) :
    DE X (.DictComp kx vx [⟨tg, iter, ifs, 0⟩] scope pos) (tDcT wi g tt tk tv (own.map (·.2))) (eDcT fi fg ft fk fv (own.map (·.2))) :=
  ⟨pe_dcT (by omega) hc hN hi.pi ok (fun s H C cl fp => (hg s H C cl fp).pg) (fun s H C cl fp => (ht s H C cl fp).pts) (fun s H C cl fp => (hk s H C cl fp).pe) (fun s H C cl fp => (hv s H C cl fp).pe) hs,
   se_dcT hi.si (hg X.s_0 X.H_0 0 [] []).sg (ht X.s_0 X.H_0 0 [] []).st (hk X.s_0 X.H_0 0 [] []).se (hv X.s_0 X.H_0 0 [] []).se⟩
end
end TS
set_option Elab.async false
set_option linter.all false
set_option maxRecDepth 100000
set_option maxHeartbeats 2000000
namespace TS
open PySem PySem.Spec PyProof.Rows L2 PySem.Calls PySem.Builtin
/-! ### for k, pair in enumerate(zip(x, y)) -/
def iEzG (K : PySem.W.Frag) (ta : TA) : TI := fun σ H R => ta σ H fun vs H1 => ∃ x y, vs = [x, y] ∧ ∀ u1 u2, RelV x u1 → RelV y u2 → ∃ k1 k2 ws us, OfK x u1 k1 ∧ OfK y u2 k2 ∧ k1.its K H1 ws ∧ k2.its K H1 us ∧ R (ItEZ K k1 k2) H1
theorem pi_enumzip {X : Cx} {e e2 : Expr} {ta : TA} {p p2 pos pos2 tpos : Pos} {elts : List Expr} {kk : Nat} (hm : X.mg "enumerate" = none) (hm2 : X.mg "zip" = none) (ha : PA X [e, e2] ta) (hg : Gl X "enumerate" := by rfl) (hg2 : Gl X "zip" := by rfl)
    (hs : starEach [e, e2] X.env = (false, eval e X.env) :: starEach [e2] X.env := by rfl) (hpl : (backTo pos2 (starEach [e2] X.env)).any (·.1) = false := by rfl) :
    PI X (.Tuple elts kk tpos) (.Call (.Name "enumerate" p) [.Call (.Name "zip" p2) [e, e2] [] pos2] [] pos) (iEzG X.K ta) := by
  constructor
  intro pins s σ H R I h
  refine Call_ (ld_blt I hg hm boot_enumerate (PyProof.Rows.callWith_type1 ?_ rfl rfl))
  refine Calls.spliced_cons (Call_ (ld_blt I hg2 hm2 PyProof.Rows.boot_zip (PyProof.Rows.callWith_type1 (thn (ha.run pos2 pins s σ H _ I h) fun us s1 ⟨vs, H1, I1, rv, q⟩ => ?_) hs hpl)))
  obtain ⟨x, y, rfl, q⟩ := q
  obtain ⟨u1, u2, rfl, rx, ry⟩ := vals2 rv
  obtain ⟨k1, k2, ws, us, o1, o2, i1, i2, q⟩ := q u1 u2 rx ry
  obtain ⟨G1, B1, g1, f1⟩ := Kd.begins I1 i1
  obtain ⟨G2, B2, g2, f2⟩ := Kd.begins I1 i2
  rw [o1.val, o2.val]
  refine zip_begins2 B1 B2 g1 g2 fun h' z1 z2 z3 z4 z5 z6 kp => ?_
  refine wpAny_pure (enum_ofzip (s := { s1 with heap := h' }) z1 fun h2 e2' => ?_)
  have up : ∀ b o, h'.get? b = some o → h2.get? b = some o := fun b o q => by
    rw [e2']
    exact Heap.get?_push_of_some _ q
  have en : IsEnum h2 (s1.heap.objs.size + 5) (s1.heap.objs.size + 4) ((0 : Nat) : Int) .none := by
    have q : (h'.push (eObj (s1.heap.objs.size + 4))).get? h'.objs.size = some (eObj (s1.heap.objs.size + 4)) := Heap.get?_push_size _ rfl
    rw [z6] at q
    rw [e2']
    exact q
  rw [show ({ s1 with heap := h' } : Shared).heap.objs.size = s1.heap.objs.size + 5 from z6]
  refine wpAny_pyIter_enum (s := { s1 with heap := h2 }) en ?_
  have I2 : Inv X pins σ H1 { s1 with heap := h2 } := I1.kept (t' := s1.toks) fun b o q => up b o (kp b o q)
  have ap := apG_new s1.heap.objs.size f1 f2
  have ne : ∀ j : Nat, j < 5 → s1.heap.objs.size + 5 ≠ s1.heap.objs.size + j := fun j hj => by omega
  have ape : ApE (s1.heap.objs.size + 5) (s1.heap.objs.size + 4) (s1.heap.objs.size + 2) (s1.heap.objs.size + 3) s1.heap.objs.size (s1.heap.objs.size + 1) k1 k2 :=
    ⟨ap, ne 4 (by decide), ne 2 (by decide), ne 3 (by decide), ne 0 (by decide), ne 1 (by decide), f1 _ (Nat.le_add_right _ _), f2 _ (Nat.le_add_right _ _)⟩
  refine ⟨s1.heap.objs.size + 5, [s1.heap.objs.size + 5, s1.heap.objs.size + 4, s1.heap.objs.size + 2, s1.heap.objs.size + 3, s1.heap.objs.size, s1.heap.objs.size + 1], _, _, H1, rfl, I2, turn_enumzip ape, ⟨⟨_, en⟩, ⟨⟨.none, false, .inl rfl, up _ _ z1⟩, up _ _ z2, ⟨_, _, up _ _ z3⟩, k1.at0 (up _ _ z4), k2.at0 (up _ _ z5)⟩⟩, fun c hc => ?_, q⟩
  have hle : s1.heap.objs.size ≤ c := six (P := fun c => s1.heap.objs.size ≤ c) hc (Nat.le_add_right _ _) (Nat.le_add_right _ _) (Nat.le_add_right _ _) (Nat.le_add_right _ _) (Nat.le_refl _) (Nat.le_add_right _ _)
  exact I1.fpOk hle (I1.hok.fresh hle)
section
variable {X : Cx} {K : PySem.W.Frag} {m : List Addr} {H : Hp}
theorem enzip_get {xs ys : List D} {i : Nat} {d : D} : (enD (zipD xs ys))[i]? = some d ↔ ∃ x y, xs[i]? = some x ∧ ys[i]? = some y ∧ d = .tup [.int (i : Nat), .tup [x, y]] := by
  rw [enD_get]
  unfold zipD
  simp only [List.getElem?_map, Option.map_eq_some_iff, List.getElem?_zip_eq_some]
  constructor
  · rintro ⟨_, ⟨p, ⟨h1, h2⟩, rfl⟩, rfl⟩
    exact ⟨_, _, h1, h2, rfl⟩
  · rintro ⟨x, y, h1, h2, rfl⟩
    exact ⟨_, ⟨(x, y), ⟨h1, h2⟩, rfl⟩, rfl⟩
theorem walk_ez {k1 k2 : Kd} {xs ys : List D} {g1 g2 : Gd} (w1 : KW K m H k1 xs g1) (w2 : KW K m H k2 ys g2) : WalkD K m H (ItEZ K k1 k2) (enD (zipD xs ys)) (g1 ++ g2) := by
  have hl : (enD (zipD xs ys)).length = min xs.length ys.length := by rw [enD_length]; unfold zipD; rw [List.length_map, List.length_zip]
  have sp : ∀ {S2 : Store}, gdOk S2 (g1 ++ g2) → gdOk S2 g1 ∧ gdOk S2 g2 := fun q => ⟨fun p hp => q p (List.mem_append_left _ hp), fun p hp => q p (List.mem_append_right _ hp)⟩
  refine ⟨fun i H2 hi ⟨m2, S2, rl2, x2, g⟩ => ?_, fun H2 ⟨m2, S2, rl2, x2, g⟩ => ?_, fun i H2 x H3 hi _ y m2 S2 rl2 x2 g => ?_⟩
  · obtain ⟨vs, a1, a2⟩ := w1 m2 S2 H2 rl2 x2 (sp g).1
    obtain ⟨us, b1, b2⟩ := w2 m2 S2 H2 rl2 x2 (sp g).2
    rw [hl] at hi
    exact ⟨vs, us, a1, b1, by rw [← a2.length]; omega, by rw [← b2.length]; omega⟩
  · obtain ⟨vs, a1, a2⟩ := w1 m2 S2 H2 rl2 x2 (sp g).1
    obtain ⟨us, b1, b2⟩ := w2 m2 S2 H2 rl2 x2 (sp g).2
    rw [hl]
    exact ⟨vs, us, a1, b1, by rw [← a2.length]; omega, by rw [← b2.length]; omega, by rw [← a2.length, ← b2.length]; omega⟩
  · obtain ⟨vs, a1, a2⟩ := w1 m2 S2 H2 rl2 x2 (sp g).1
    obtain ⟨us, b1, b2⟩ := w2 m2 S2 H2 rl2 x2 (sp g).2
    rw [hl] at hi
    obtain ⟨P, T, u, v, rfl, hP, hT, ne, rfl, c1, c2⟩ := y
    have hi1 : i < xs.length := by omega
    have hi2 : i < ys.length := by omega
    obtain ⟨u', d1, d2⟩ := a2.get (List.getElem?_eq_getElem hi1)
    obtain ⟨v', d3, d4⟩ := b2.get (List.getElem?_eq_getElem hi2)
    rw [c1 vs a1] at d1
    rw [c2 us b1] at d3
    cases d1
    cases d3
    obtain ⟨z1, z2, z3⟩ := rl2.tup hP (.cons d2 (.cons d4 .nil))
    have hT' : (upd H2 P (.tup [u, v])) T = none := by rw [upd_ne ne]; exact hT
    obtain ⟨y1, y2, y3⟩ := z1.tup hT' (.cons (.int (i : Nat)) (.cons z3 .nil))
    exact ⟨_, enzip_get.mpr ⟨_, _, List.getElem?_eq_getElem hi1, List.getElem?_eq_getElem hi2, rfl⟩, y1, z2.trans y2, y3⟩
def iEzM (f : SEnv → M (List D)) : SEnv → M (List D × Gd) := fun env => bnd (f env) fun ds S => match ds with
  | [a, b] => match srcOf S a, srcOf S b with
    | some (xs, g1), some (ys, g2) => some ((enD (zipD xs ys), g1 ++ g2), S)
    | _, _ => none
  | _ => none
theorem dk_ez {e e2 : Expr} {ta : TA} {f : SEnv → M (List D)} {p p2 pos pos2 tpos : Pos} {elts : List Expr} {kk : Nat} (K : PySem.W.Frag) (hK : X.K = K) (hm : X.mg "enumerate" = none) (hm2 : X.mg "zip" = none) (ha : DA X [e, e2] ta f) (hg : Gl X "enumerate" := by rfl) (hg2 : Gl X "zip" := by rfl)
    (hs : starEach [e, e2] X.env = (false, eval e X.env) :: starEach [e2] X.env := by rfl) (hpl : (backTo pos2 (starEach [e2] X.env)).any (·.1) = false := by rfl) :
    DI X (.Tuple elts kk tpos) (.Call (.Name "enumerate" p) [.Call (.Name "zip" p2) [e, e2] [] pos2] [] pos) (iEzG K ta) (iEzM f) := by
  subst hK
  refine ⟨pi_enumzip hm hm2 ha.pa hg hg2 hs hpl, fun m S H env σ rl re xs g S' hh R q => ?_⟩
  obtain ⟨ds, S1, e1, h1⟩ := bnd_some hh
  refine ha.sa rl re ds S1 e1 _ fun m1 H1 vs rl1 x1 rv => ?_
  split at h1
  · rename_i a b
    obtain ⟨v, u, rfl, r1, r2⟩ := rv.two
    cases ea : srcOf S1 a with
    | none => rw [ea] at h1; cases h1
    | some pa =>
      cases eb : srcOf S1 b with
      | none => rw [ea, eb] at h1; cases h1
      | some pb =>
        obtain ⟨xs1, g1⟩ := pa
        obtain ⟨ys1, g2⟩ := pb
        rw [ea, eb] at h1
        cases h1
        refine ⟨v, u, rfl, fun u1 u2 hu1 hu2 => ?_⟩
        obtain ⟨gk1, w1⟩ := srcOf_rep rl1 r1 ea
        obtain ⟨gk2, w2⟩ := srcOf_rep rl1 r2 eb
        obtain ⟨k1, o1, w1⟩ := w1 u1 hu1
        obtain ⟨k2, o2, w2⟩ := w2 u2 hu2
        obtain ⟨ws, a1, _⟩ := w1 m1 _ H1 rl1 .refl gk1
        obtain ⟨us, b1, _⟩ := w2 m1 _ H1 rl1 .refl gk2
        exact ⟨k1, k2, ws, us, o1, o2, a1, b1, q m1 H1 _ rl1 x1 (walk_ez w1 w2)⟩
  · cases h1
end
end TS
set_option Elab.async false
set_option linter.all false
set_option maxRecDepth 100000
set_option maxHeartbeats 2000000
namespace TS
open PySem PySem.Spec PyProof.Rows L2 PySem.Calls PySem.Builtin
/-! ### for pair in zip(x, y), the pair a plain name -/
section
variable {prog : Program} {w : World} {A : Around} {E : Value → Shared → Prop} {s : Shared} {z TI TO i1 i2 : Addr} {fp1 fp2 : List Addr} {n1 n2 i : Nat} {P1 P2 : Nat → Value → Prop} {St1 St2 : Nat → Heap → Prop}
theorem zipn_item {Q : Option Value → Shared → Prop} (S : ZipSep2 z TI TO i1 i2 fp1 fp2) (D1 : Draws prog w A.in1 i1 fp1 n1 P1 St1) (D2 : Draws prog w A.in1 i2 fp2 n2 P2 St2) (st : ZipSt St1 St2 z TI TO i1 i2 i s.heap) (l1 : i < n1) (l2 : i < n2)
    (h : ∀ x1 x2 h' tk, P1 i x1 → P2 i x2 → ZipSt St1 St2 z TI TO i1 i2 (i + 1) h' → IsTupOf2 h' s.heap.objs.size x1 x2 → (∀ c o, c ≠ z → c ≠ TO → c ≠ i1 → c ≠ i2 → s.heap.get? c = some o → h'.get? c = some o) → Q (some (.ref s.heap.objs.size)) { s with heap := h', toks := tk }) :
    wpAny (model prog w) A (pyNext (.ref z)) Q E s := by
  obtain ⟨f0, b, f, zo⟩ := st.zo
  obtain ⟨y1, y2, to⟩ := st.to
  have ty : s.TypeIs (.ref z) "zip" := ⟨_, zo, rfl⟩
  unfold pyNext
  refine wpAny_bind (wpAny_attempt (wpAny_callSpecial?_slot ty F.slot_zip_next (wpAny_call_entry F.slot_zip_next ty F.entry_zip_next (zip_turn S D1 D2 f zo st.ti to st.s1 st.s2 l1 l2 fun x1 x2 h' tk p1 p2 r => ?_) (F.args_zip_next_1 _))))
  exact wpAny_pure (h x1 x2 h' tk p1 p2 ⟨r.zo, r.kp _ _ S.TIz S.TITO S.TIi1 S.TIi2 st.ti, r.to, r.s1, r.s2⟩ r.new r.kp)
theorem zipn_end {Q : Option Value → Shared → Prop} (S : ZipSep2 z TI TO i1 i2 fp1 fp2) (D1 : Draws prog w A.in1 i1 fp1 n1 P1 St1) (D2 : Draws prog w A.in1 i2 fp2 n2 P2 St2) (st : ZipSt St1 St2 z TI TO i1 i2 i s.heap) (l1 : i ≤ n1) (l2 : i ≤ n2) (l3 : i = n1 ∨ i = n2)
    (h : ∀ h' tk, (∀ c o, c ≠ z → c ≠ TO → c ≠ i1 → c ≠ i2 → s.heap.get? c = some o → h'.get? c = some o) → Q none { s with heap := h', toks := tk }) :
    wpAny (model prog w) A (pyNext (.ref z)) Q E s := by
  obtain ⟨f0, b, f, zo⟩ := st.zo
  obtain ⟨y1, y2, to⟩ := st.to
  have ty : s.TypeIs (.ref z) "zip" := ⟨_, zo, rfl⟩
  unfold pyNext
  refine wpAny_bind (wpAny_attempt (wpAny_callSpecial?_slot ty F.slot_zip_next (wpAny_call_entry F.slot_zip_next ty F.entry_zip_next (zip_over S D1 D2 f zo st.ti to st.s1 st.s2 l1 l2 l3 fun h' tk x kp ⟨o, ho, co⟩ => ?_) (F.args_zip_next_1 _))))
  exact wpAny_bind (wpAny_isInstance (T := "StopIteration") (b := true) ⟨o, ho, co⟩ isSubtype_stop (wpAny_pure (h h' tk kp)))
theorem zipn_self {Q : Value → Shared → Prop} (st : ZipSt St1 St2 z TI TO i1 i2 i s.heap) (h : Q (.ref z) s) : wpAny (model prog w) A (pyIter (.ref z)) Q E s := by
  obtain ⟨f0, b, f, zo⟩ := st.zo
  have ty : s.TypeIs (.ref z) "zip" := ⟨_, zo, rfl⟩
  exact wpAny_pyIter_slot ty F.slot_zip_iter (wpAny_call_entry F.slot_zip_iter ty F.entry_zip_iter (wpAny_pure ⟨_, rfl, "zip", _, ty, F.slot_zip_next.lookup, h⟩) (F.args_zip_iter_1 _))
end
theorem turn_zipN {P : Program} {w : World} {K : PySem.W.Frag} {nm : Str} {tpos : Pos} {z TI TO i1 i2 : Addr} {k1 k2 : Kd} (A : ApG z TI TO i1 i2 k1 k2) :
    Turn P w K (.Name nm tpos) (ItG K k1 k2) [z, TI, TO, i1, i2] z (ZipSt (k1.at i1) (k2.at i2) z TI TO i1 i2) where
  mem := List.mem_cons_self ..
  obj := fun i h st c hc => by
    obtain ⟨⟨f0, b, f, s1⟩, s2, ⟨x, y, s3⟩, s4, s5⟩ := st
    exact five (P := fun c => ∃ o, h.get? c = some o ∧ ∀ v, o.data ≠ .cell v) hc ⟨_, s1, fun v q => nomatch q⟩ ⟨_, s2, fun v q => nomatch q⟩ ⟨_, s3, fun v q => nomatch q⟩ (Kd.live s4) (Kd.live s5)
  keep := fun i h h' st kp => by
    obtain ⟨⟨f0, b, f, s1⟩, s2, ⟨x, y, s3⟩, s4, s5⟩ := st
    exact ⟨⟨f0, b, f, kp z (by simp) _ s1⟩, kp TI (by simp) _ s2, ⟨x, y, kp TO (by simp) _ s3⟩, Kd.keep s4 (kp i1 (by simp)), Kd.keep s5 (kp i2 (by simp))⟩
  item := by
    intro X h1 h2 h3 hc i pins s σ H E I hf sz hg
    subst h1 h2 h3
    obtain ⟨vs, us, hvs, hus, l1, l2⟩ := hg
    have hh : X.A.in1.handled = none := I.ok.hd hc
    obtain ⟨P1, St1, D1, t1, r1, b1⟩ := Kd.drawsA I hh hvs (A.o1 i1 (by simp)) sz.s1
    obtain ⟨P2, St2, D2, t2, r2, b2⟩ := Kd.drawsA I hh hus (A.o2 i2 (by simp)) sz.s2
    have lz : z < s.heap.objs.size := let ⟨_, _, _, q⟩ := sz.zo; Heap.lt_size q
    have lI : TI < s.heap.objs.size := Heap.lt_size sz.ti
    have lO : TO < s.heap.objs.size := let ⟨_, _, q⟩ := sz.to; Heap.lt_size q
    have lt1 : i1 < s.heap.objs.size := let ⟨_, q, _⟩ := Kd.live sz.s1; Heap.lt_size q
    have lt2 : i2 < s.heap.objs.size := let ⟨_, q, _⟩ := Kd.live sz.s2; Heap.lt_size q
    refine zipn_item A.sep D1 D2 ⟨sz.zo, sz.ti, sz.to, t1, t2⟩ l1 l2 fun u1 u2 g1 tk p1 p2 zs nP kp => ?_
    obtain ⟨x, hx, rx⟩ := r1 i u1 p1
    obtain ⟨y, hy, ry⟩ := r2 i u2 p2
    have IB : Inv X pins σ (upd H s.heap.objs.size (.tup [x, y])) { s with heap := g1, toks := tk } :=
      I.turnedNew (ch := [z, TI, TO, i1, i2]) (fun c o hn q => kp c o (fun r => hn (by simp [r])) (fun r => hn (by simp [r])) (fun r => hn (by simp [r])) (fun r => hn (by simp [r])) q) hf (Nat.le_refl _) ⟨by show 2 ≤ sizeLine; decide, [u1, u2], .cons rx (.cons ry .nil), _, nP, rfl, _, rfl⟩
    refine ⟨_, rfl, wpAny_pure ⟨.ref s.heap.objs.size, _, IB, rfl, ⟨_, x, y, rfl, I.hok.fresh (Nat.le_refl _), rfl, fun ws hw => by rw [Kd.its_inj I hw hvs]; exact hx, fun ws hw => by rw [Kd.its_inj I hw hus]; exact hy⟩, ⟨zs.zo, zs.ti, zs.to, b1 _ _ zs.s1, b2 _ _ zs.s2⟩, fun c hcm => ?_⟩⟩
    have lb : c < s.heap.objs.size := five (P := fun c => c < s.heap.objs.size) hcm lz lI lO lt1 lt2
    rw [upd_ne (Nat.ne_of_lt lb)]
    exact (hf c hcm).1
  done := by
    intro X h1 h2 h3 hc i pins s σ H E I hf sz hg
    subst h1 h2 h3
    obtain ⟨vs, us, hvs, hus, l1, l2, l3⟩ := hg
    have hh : X.A.in1.handled = none := I.ok.hd hc
    obtain ⟨P1, St1, D1, t1, r1, b1⟩ := Kd.drawsA I hh hvs (A.o1 i1 (by simp)) sz.s1
    obtain ⟨P2, St2, D2, t2, r2, b2⟩ := Kd.drawsA I hh hus (A.o2 i2 (by simp)) sz.s2
    refine zipn_end A.sep D1 D2 ⟨sz.zo, sz.ti, sz.to, t1, t2⟩ l1 l2 l3 fun g1 tk kp => ⟨rfl, ?_⟩
    exact I.turnedL (ch := [z, TI, TO, i1, i2]) (fun c o hn q => kp c o (fun r => hn (by simp [r])) (fun r => hn (by simp [r])) (fun r => hn (by simp [r])) (fun r => hn (by simp [r])) q) hf
  self := fun A' i s Q E st h => zipn_self st h
theorem pi_zipN {X : Cx} {e e2 : Expr} {ta : TA} {p pos tpos : Pos} {nm : Str} (hm : X.mg "zip" = none) (ha : PA X [e, e2] ta) (hg : Gl X "zip" := by rfl)
    (hs : starEach [e, e2] X.env = (false, eval e X.env) :: starEach [e2] X.env := by rfl) (hpl : (backTo pos (starEach [e2] X.env)).any (·.1) = false := by rfl) :
    PI X (.Name nm tpos) (.Call (.Name "zip" p) [e, e2] [] pos) (iZipG X.K ta) := by
  constructor
  intro pins s σ H R I h
  refine Call_ (ld_blt I hg hm PyProof.Rows.boot_zip (PyProof.Rows.callWith_type1 (thn (ha.run pos pins s σ H _ I h) fun us s1 ⟨vs, H1, I1, rv, q⟩ => ?_) hs hpl))
  obtain ⟨x, y, rfl, q⟩ := q
  obtain ⟨u1, u2, rfl, rx, ry⟩ := vals2 rv
  obtain ⟨k1, k2, ws, us, o1, o2, i1, i2, q⟩ := q u1 u2 rx ry
  obtain ⟨G1, B1, g1, f1⟩ := Kd.begins I1 i1
  obtain ⟨G2, B2, g2, f2⟩ := Kd.begins I1 i2
  rw [o1.val, o2.val]
  refine zip_begins2 B1 B2 g1 g2 fun h' z1 z2 z3 z4 z5 z6 kp => wpAny_pyIter_zip z1 ?_
  have I2 : Inv X pins σ H1 { s1 with heap := h' } := I1.kept (t' := s1.toks) kp
  have ap := apG_new s1.heap.objs.size f1 f2
  refine ⟨s1.heap.objs.size + 4, [s1.heap.objs.size + 4, s1.heap.objs.size + 2, s1.heap.objs.size + 3, s1.heap.objs.size, s1.heap.objs.size + 1], _, _, H1, rfl, I2, turn_zipN ap, ⟨⟨.none, false, .inl rfl, z1⟩, z2, ⟨_, _, z3⟩, k1.at0 z4, k2.at0 z5⟩, fun c hc => ?_, q⟩
  have hle : s1.heap.objs.size ≤ c := five (P := fun c => s1.heap.objs.size ≤ c) hc (Nat.le_add_right _ _) (Nat.le_add_right _ _) (Nat.le_add_right _ _) (Nat.le_refl _) (Nat.le_add_right _ _)
  exact I1.fpOk hle (I1.hok.fresh hle)
section
variable {X : Cx}
theorem dk_zipN {e e2 : Expr} {ta : TA} {f : SEnv → M (List D)} {p pos tpos : Pos} {nm : Str} (K : PySem.W.Frag) (hK : X.K = K) (hm : X.mg "zip" = none) (ha : DA X [e, e2] ta f) (hg : Gl X "zip" := by rfl)
    (hs : starEach [e, e2] X.env = (false, eval e X.env) :: starEach [e2] X.env := by rfl) (hpl : (backTo pos (starEach [e2] X.env)).any (·.1) = false := by rfl) :
    DI X (.Name nm tpos) (.Call (.Name "zip" p) [e, e2] [] pos) (iZipG K ta) (iZipM f) := by
  subst hK
  have two : DI X (.Tuple [] 0 tpos) (.Call (.Name "zip" p) [e, e2] [] pos) (iZipG X.K ta) (iZipM f) := di_zip hm ha hg hs hpl
  exact ⟨pi_zipN hm ha.pa hg hs hpl, two.si⟩
end
end TS
set_option Elab.async false
set_option linter.all false
namespace TS
open PySem PySem.Spec PyProof.Rows L2
theorem k_sortT {X : Cx} {d : Nat} {B : Int} (K : PySem.W.Frag) (hK : X.K = K) (hd : 1 ≤ d) : DC X (.builtin "sorted") (rSortU K d B) (nSortT d B) := by subst hK; exact c_sortT hd
theorem k_sortDT {X : Cx} {d : Nat} {B : Int} (K : PySem.W.Frag) (hK : X.K = K) (hd : 1 ≤ d) (hc : X.calm = true) : DC X (.builtin "sorted") (rSortDT K d B) (nSortDT d B) := by subst hK; exact c_sortDT hd hc
end TS
set_option Elab.async false
set_option linter.all false
set_option maxRecDepth 100000
namespace TS
open PySem PySem.Spec PyProof.Rows L2
/-! ### `in` for lists and tuples of whatever data -/
section
variable {X : Cx}
/-- y, a list or a tuple of data, holds x or not -/
def rHas (neg : Bool) (K : PySem.W.Frag) : R2 := fun x y H Q => ∃ d ds, Dp K H x d ∧ (Dp K H y (.tuple ds) ∨ Dp K H y (.list ds)) ∧ d.canLay0 = true ∧ PyData.canLayAll0 ds = true ∧ min (PyData.depthAll ds) d.depth ≤ 60 ∧ Q (.bl (neg != ds.any fun z => PyData.eqv z d)) H
theorem op_has (hu : X.A.units + 64 < cLine) : OpR X (compareOp .In) (rHas false X.K) := by
  intro pins s σ H x y v u Q I rx ry h
  obtain ⟨d, ds, hd, hy, c1, c2, c3, q⟩ := h
  obtain ⟨as, r1⟩ := Dp.reads I d x v hd rx
  rw [Bool.false_bne] at q
  rcases hy with hy | hy
  · obtain ⟨bs, r2⟩ := Dp.reads I _ y u hy ry
    exact SeqAt.in_tuple_reads r2 r1 c2 c1 (by omega) ⟨.bl _, H, I, rfl, q⟩
  · obtain ⟨bs, r2⟩ := Dp.reads I _ y u hy ry
    exact SeqAt.in_list_reads r2 r1 c2 c1 (by omega) ⟨.bl _, H, I, rfl, q⟩
theorem op_hasnt (hu : X.A.units + 64 < cLine) : OpR X (compareOp .NotIn) (rHas true X.K) := by
  intro pins s σ H x y v u Q I rx ry h
  obtain ⟨d, ds, hd, hy, c1, c2, c3, q⟩ := h
  obtain ⟨as, r1⟩ := Dp.reads I d x v hd rx
  rw [Bool.true_bne] at q
  rcases hy with hy | hy
  · obtain ⟨bs, r2⟩ := Dp.reads I _ y u hy ry
    exact SeqAt.notIn_tuple_reads r2 r1 c2 c1 (by omega) ⟨.bl _, H, I, rfl, q⟩
  · obtain ⟨bs, r2⟩ := Dp.reads I _ y u hy ry
    exact SeqAt.notIn_list_reads r2 r1 c2 c1 (by omega) ⟨.bl _, H, I, rfl, q⟩
/-- the items of a list or a tuple of data -/
def pyItems : PyData → Option (List PyData)
  | .list ds => some ds
  | .tuple ds => some ds
  | _ => none
def hasB (a b : D) : M Bool := fun S => match pyS S a, (pyS S b).bind pyItems with
  | some d, some ds => if d.canLay0 = true ∧ PyData.canLayAll0 ds = true ∧ min (PyData.depthAll ds) d.depth ≤ 60 then some (ds.any fun z => PyData.eqv z d, S) else none
  | _, _ => none
def hasD2 (a b : D) : M D := bnd (hasB a b) fun k => ret (.bl k)
def hasntD (a b : D) : M D := bnd (hasB a b) fun k => ret (.bl (!k))
theorem hasB_rep {K : PySem.W.Frag} {m : List Addr} {S S' : Store} {H : Hp} {a b : D} {x y : V} {k : Bool} (rl : Rel K m S H) (ra : Rep K m H a x) (rb : Rep K m H b y) (h : hasB a b S = some (k, S')) : S' = S ∧ ∃ d ds, Dp K H x d ∧ (Dp K H y (.tuple ds) ∨ Dp K H y (.list ds)) ∧ d.canLay0 = true ∧ PyData.canLayAll0 ds = true ∧ min (PyData.depthAll ds) d.depth ≤ 60 ∧ k = ds.any fun z => PyData.eqv z d := by
  unfold hasB at h
  split at h
  · rename_i d ds e1 e2
    split at h
    · rename_i c
      cases h
      obtain ⟨p, e3, e4⟩ := Option.bind_eq_some_iff.mp e2
      refine ⟨rfl, d, ds, ra.pyS rl e1, ?_, c.1, c.2.1, c.2.2, rfl⟩
      have := rb.pyS rl e3
      cases p with
      | list es => cases e4; exact .inr this
      | tuple es => cases e4; exact .inl this
      | _ => cases e4
    · cases h
  · cases h
theorem k_has (K : PySem.W.Frag) (hK : X.K = K) (hu : X.A.units + 64 < cLine) : DO2 X (compareOp .In) (rHas false K) hasD2 := by
  subst hK
  exact ⟨op_has hu, fun m S H x y a b rl ra rb d S' h Q q => by
    obtain ⟨k, S1, h1, h2⟩ := bnd_some h
    cases h2
    obtain ⟨rfl, d, ds, z1, z2, z3, z4, z5, rfl⟩ := hasB_rep rl ra rb h1
    exact ⟨d, ds, z1, z2, z3, z4, z5, by rw [Bool.false_bne]; exact q m H _ rl .refl (.bl _)⟩⟩
theorem k_hasnt (K : PySem.W.Frag) (hK : X.K = K) (hu : X.A.units + 64 < cLine) : DO2 X (compareOp .NotIn) (rHas true K) hasntD := by
  subst hK
  exact ⟨op_hasnt hu, fun m S H x y a b rl ra rb d S' h Q q => by
    obtain ⟨k, S1, h1, h2⟩ := bnd_some h
    cases h2
    obtain ⟨rfl, d, ds, z1, z2, z3, z4, z5, rfl⟩ := hasB_rep rl ra rb h1
    exact ⟨d, ds, z1, z2, z3, z4, z5, by rw [Bool.true_bne]; exact q m H _ rl .refl (.bl _)⟩⟩
end
end TS
set_option Elab.async false
set_option linter.all false
set_option maxRecDepth 100000
namespace TS
open PySem PySem.Spec PyProof.Rows L2
/-! ### `in` for lists and tuples of data, dict comprehensions, enumerate(zip), by wp -/
section
variable {S : Store} {env : SEnv} {Q : D → Store → Prop} {QI : List D × Gd → Store → Prop}
theorem w_has {a b : D} {d : PyData} {ds : List PyData} (h1 : pyS S a = some d) (h2 : (pyS S b).bind pyItems = some ds) (c1 : d.canLay0 = true) (c2 : PyData.canLayAll0 ds = true) (c3 : min (PyData.depthAll ds) d.depth ≤ 60) : wp (hasD2 a b) S Q ↔ Q (.bl (ds.any fun z => PyData.eqv z d)) S :=
  wp_some (bnd_eq (show hasB a b S = some (_, S) by unfold hasB; rw [h1, h2]; exact if_pos ⟨c1, c2, c3⟩))
theorem w_hasnt {a b : D} {d : PyData} {ds : List PyData} (h1 : pyS S a = some d) (h2 : (pyS S b).bind pyItems = some ds) (c1 : d.canLay0 = true) (c2 : PyData.canLayAll0 ds = true) (c3 : min (PyData.depthAll ds) d.depth ≤ 60) : wp (hasntD a b) S Q ↔ Q (.bl (!ds.any fun z => PyData.eqv z d)) S :=
  wp_some (bnd_eq (show hasB a b S = some (_, S) by unfold hasB; rw [h1, h2]; exact if_pos ⟨c1, c2, c3⟩))
theorem x_ixVT {xs : List D} {b : D} : wp (ixV (.tup xs) b) S Q ↔ wp (ixU (.tup xs) b) S Q := w_ixN rfl
/-- what compares with itself is equal -/
theorem w_eqSelf {a b : D} {p : PyData} (h1 : pyS S a = some p) (h2 : pyS S b = some p) (h3 : SeqAt.shaped p = true) : wp (eqD a b) S Q ↔ Q (.bl true) S := by
  rw [w_eqB h1 h2 h3 h3, SeqAt.eqv_refl p (SeqAt.canLay_of_shaped h3)]
theorem w_neSelf {a b : D} {p : PyData} (h1 : pyS S a = some p) (h2 : pyS S b = some p) (h3 : SeqAt.shaped p = true) : wp (neD a b) S Q ↔ Q (.bl false) S := by
  rw [w_neB h1 h2 h3 h3, SeqAt.eqv_refl p (SeqAt.canLay_of_shaped h3)]
  rfl
theorem w_ez {f : SEnv → M (List D)} : wp (iEzM f env) S QI ↔ wp (f env) S fun ds S1 => ∃ a b p q, ds = [a, b] ∧ srcOf S1 a = some p ∧ srcOf S1 b = some q ∧ QI (enD (zipD p.1 q.1), p.2 ++ q.2) S1 := by
  unfold iEzM
  rw [wp_bnd]
  constructor
  · exact fun h => h.mono fun ds S1 ⟨r, S2, e, q⟩ => by
      split at e
      · rename_i _ a b h0
        dsimp only at e
        split at e
        · rename_i e1 e2
          cases e
          exact ⟨_, _, _, _, rfl, e1, e2, q⟩
        · cases e
      · cases e
  · exact fun h => h.mono fun ds S1 ⟨a, b, p, q, e, e1, e2, k⟩ => by
      subst e
      refine ⟨_, S1, ?_, k⟩
      show (match srcOf S1 a, srcOf S1 b with | some (xs, g1), some (ys, g2) => some ((enD (zipD xs ys), g1 ++ g2), S1) | _, _ => none) = _
      rw [e1, e2]
/-- a dict comprehension with tuples as keys, by a word over the turn and the store -/
theorem wp_dcT {fi : SEnv → M (List D × Gd)} {tgt : D → SEnv → M SEnv} {tk tv : SEnv → M D} {vs : List Nat} {S1 : Store} {xs : List D} {g : Gd}
    (h0 : fi env S = some ((xs, g), S1)) (I : Nat → List (List Key × D) → Store → Prop) (hI : I 0 [] (S1 ++ [.dT []])) (hk : ∀ i kvs S, I i kvs S → S[S1.length]? = some (.dT kvs)) (hg : ∀ i kvs S, I i kvs S → gdOk S g)
    (hl : ∀ i kvs S, I i kvs S → kvs.length < sizeLine)
    (step : ∀ i x kvs S, xs[i]? = some x → I i kvs S → wp (tgt x (wipeE env vs)) S fun env1 S1' => wp (tk env1) S1' fun a S2 => wp (tv env1) S2 fun d S3 => ∃ ks, tupKey a = some ks ∧ S3[S1.length]? = some (.dT kvs) ∧ I (i + 1) (putT kvs ks d) (S3.set S1.length (.dT (putT kvs ks d))))
    (fin : ∀ kvs S, I xs.length kvs S → Q (.ref S1.length) S) : wp (eDcT fi tgt bYes tk tv vs env) S Q := by
  unfold eDcT
  rw [wp_bnd, wp_some h0, wp_bnd, wp_some (a := S1.length) (S' := S1 ++ [.dT []]) rfl]
  have key : ∀ (n i : Nat) kvs S, i + n = xs.length → I i kvs S → wp (dcTM g S1.length tgt bYes tk tv (wipeE env vs) (xs.drop i)) S Q := by
    intro n
    induction n with
    | zero =>
      intro i kvs S hn hI
      rw [List.drop_eq_nil_iff.mpr (by omega)]
      show wp (gdM g (ret (.ref S1.length))) S Q
      rw [wp_gd (hg i kvs S hI), wp_ret]
      obtain rfl : i = xs.length := by omega
      exact fin kvs S hI
    | succ n ih =>
      intro i kvs S hn hI
      have hi : i < xs.length := by omega
      rw [drop_at (List.getElem?_eq_getElem hi)]
      show wp (gdM g (bnd (tgt xs[i] (wipeE env vs)) fun env1 => bnd (bYes env1) fun b => if b then bnd (tk env1) fun a => bnd (tv env1) fun d => bnd (putTM S1.length a d) fun _ => dcTM g S1.length tgt bYes tk tv (wipeE env vs) (xs.drop (i + 1)) else dcTM g S1.length tgt bYes tk tv (wipeE env vs) (xs.drop (i + 1)))) S Q
      rw [wp_gd (hg i kvs S hI), wp_bnd]
      refine (step i xs[i] kvs S (List.getElem?_eq_getElem hi) hI).mono fun env1 S1' h => ?_
      rw [wp_bnd]
      refine (wp_some (a := true) (S' := S1') rfl).mpr ?_
      rw [if_pos rfl, wp_bnd]
      refine h.mono fun a S2 h => ?_
      rw [wp_bnd]
      refine h.mono fun d S3 ⟨ks, e1, e2, h⟩ => ?_
      rw [wp_bnd]
      have e : putTM S1.length a d S3 = some ((), S3.set S1.length (.dT (putT kvs ks d))) := by
        unfold putTM
        rw [e1, e2]
        exact if_pos (hl i kvs S hI)
      rw [wp_some e]
      exact ih (i + 1) _ _ (by omega) h
  exact key xs.length 0 [] _ (by omega) hI
end
end TS
set_option Elab.async false
set_option linter.all false
set_option maxRecDepth 100000
set_option maxHeartbeats 4000000
namespace TS
open PySem PySem.Spec PyProof.Rows L2
def topS (i : Nat) : Stmt := PySem.Challenge.pw_threescribes_k63_class_pairs_and_steps.main.body.getD i (.Pass ⟨0, 0, 0, 0⟩)
structure GF (mg : Str → Option Value) : Prop where
  b_bool : mg "bool" = none
  b_enumerate : mg "enumerate" = none
  b_int : mg "int" = none
  b_isinstance : mg "isinstance" = none
  b_len : mg "len" = none
  b_min : mg "min" = none
  b_range : mg "range" = none
  b_sorted : mg "sorted" = none
  b_sum : mg "sum" = none
  b_tuple : mg "tuple" = none
  b_zip : mg "zip" = none
  c_STOPPED : ∃ t, mg "STOPPED" = some (.int (-1) t)
abbrev s_class_pairs : Stmt := topS 2
abbrev n_class_pairs : List Str := ["one", "other", "met", "waiting", "number", "other_number", "pair"]
theorem sc_class_pairs : FnScope ["one", "other", "met", "waiting", "number", "other_number", "pair"] ["one", "other"] (defScope s_class_pairs) := ⟨rfl, rfl, rfl, by decide +kernel, rfl, by decide +kernel, by decide +kernel⟩
noncomputable def f_class_pairs : SEnv → M (Fl × SEnv) := sSeq (sAsg (eOneT (eTup (aCons (eC (.int 0)) (aCons (eC (.int 0)) (aNil)))) (eC (.bl true))) (gN 2)) (sSeq (sAsg (eLst (aCons (eTup (aCons (eC (.int 0)) (aCons (eC (.int 0)) (aNil)))) (aNil))) (gN 3)) (sSeq (sWhile (fun _ _ => 1000000) (asT (eVar 3)) (sSeq (sAsg (eMt "list" mPop (eVar 3) aNil) (gTupM 2 (gsCons (gN 4) (gsCons (gN 5) (gsNil))))) (sFor (iZipM (aCons (eOp ixV (eOp ixV (eVar 0) (eC (.int 2))) (eVar 4)) (aCons (eOp ixV (eOp ixV (eVar 1) (eC (.int 2))) (eVar 5)) (aNil)))) (gN 6) (sIf (asB (eOp ninV (eVar 6) (eVar 2))) (sSeq (sAsg (eC (.bl true)) (gSubM setV (eVar 2) (eVar 6))) (sDrop (eMt "list" mAppend (eVar 3) (aCons (eVar 6) (aNil))))) (sNx))))) (sRet (eCall nTuple (aCons (eCall (nSortDT 2 100) (aCons (eVar 2) (aNil))) (aNil))))))
noncomputable def m_class_pairs : List D → M D := bodyM 7 (f_class_pairs)
theorem ok_class_pairs {P : Program} {w : World} {K : PySem.W.Frag} {mg : Str → Option Value} {base : Heap} {f : Addr} {fd : FuncData} (M : GF mg) (F : Fun K "class_pairs" "class_pairs" s_class_pairs f fd) :
    FnOk P w K mg base CX0 1 f fd ["one", "other"] (spOf K 2 m_class_pairs) :=
  fn_ok (N := n_class_pairs) F sc_class_pairs fun cdv A outer s H E hr => ⟨_, dss_cons (ds_set 2 sc_class_pairs.nd (de_oneT (hu_of hr) (de_tup (da_cons (de_int) (da_cons (de_int) (da_nil)))) (de_bl)))
 (dss_cons (ds_set 3 sc_class_pairs.nd (de_lst (da_cons (de_tup (da_cons (de_int) (da_cons (de_int) (da_nil)))) (da_nil))))
 (dss_cons (ds_while (fun _ _ => 1000000) PassesOwn.never (dk_truth K rfl (de_var 3))
 (dss_cons (ds_asg (dk_mt0 K rfl m_pop PySem.F.plainAttrs_list PySem.F.slot_list_pop PySem.F.type_list_pop (de_var 3)) (dk_tup K rfl rfl (dgs_cons (dg_name 4 sc_class_pairs.nd) (dgs_cons (dg_name 5 sc_class_pairs.nd) (dgs_nil)))))
 (dss_one (ds_for PassesOwn.never rfl (dk_zipN K rfl M.b_zip (da_cons (de_ix (k_ixV K rfl (hu_of hr)) (de_ix (k_ixV K rfl (hu_of hr)) (de_var 0) (de_int)) (de_var 4)) (da_cons (de_ix (k_ixV K rfl (hu_of hr)) (de_ix (k_ixV K rfl (hu_of hr)) (de_var 1) (de_int)) (de_var 5)) (da_nil)))) (dg_name 6 sc_class_pairs.nd)
 (dss_one (ds_if (dt_cmp (k_ninV K rfl (hu_of hr)) (de_var 6) (de_var 2))
 (dss_cons (ds_asg (de_bl) (dg_sub (de_var 2) (de_var 6) (set_v (hu_of hr))))
 (dss_one (ds_expr (dk_mt K rfl m_append PySem.F.plainAttrs_list PySem.F.slot_list_append PySem.F.type_list_append (de_var 3) (da_cons (de_var 6) (da_nil))))))
 (dss_nil)))))))
 (dss_one (ds_ret (de_callTy (k_tuple K rfl) M.b_tuple (da_cons (de_callB (k_sortDT K rfl (d := 2) (B := 100) (by decide) rfl) M.b_sorted (da_cons (de_var 2) (da_nil))) (da_nil)))))))⟩
abbrev s_steps_by_pair : Stmt := topS 3
abbrev n_steps_by_pair : List Str := ["one", "other", "pairs", "found", "number", "other_number", "k", "pair"]
theorem sc_steps_by_pair : FnScope ["one", "other", "pairs", "found", "number", "other_number", "k", "pair"] ["one", "other"] (defScope s_steps_by_pair) := ⟨rfl, rfl, rfl, by decide +kernel, rfl, by decide +kernel, by decide +kernel⟩
noncomputable def f_steps_by_pair : SEnv → M (Fl × SEnv) := sSeq (sAsg (eCall m_class_pairs (aCons (eVar 0) (aCons (eVar 1) (aNil)))) (gN 2)) (sSeq (sAsg (eDcT (iAnyM (eVar 2)) (gN 7) (bYes) (eVar 7) (eLst (aNil)) [7]) (gN 3)) (sSeq (sFor (iAnyM (eVar 2)) (gTupM 2 (gsCons (gN 4) (gsCons (gN 5) (gsNil)))) (sFor (iEzM (aCons (eOp ixV (eOp ixV (eVar 0) (eC (.int 2))) (eVar 4)) (aCons (eOp ixV (eOp ixV (eVar 1) (eC (.int 2))) (eVar 5)) (aNil)))) (gTupM 2 (gsCons (gN 6) (gsCons (gN 7) (gsNil)))) (sDrop (eMt "list" mAppend (eOp ixV (eVar 3) (eVar 7)) (aCons (eTup (aCons (eVar 6) (aCons (eVar 4) (aCons (eVar 5) (aNil))))) (aNil)))))) (sRet (eDcT (iAnyM (eVar 2)) (gN 7) (bYes) (eVar 7) (eCall (nSortT 3 1000) (aCons (eOp ixV (eVar 3) (eVar 7)) (aNil))) [7]))))
noncomputable def m_steps_by_pair : List D → M D := bodyM 8 (f_steps_by_pair)
theorem ok_steps_by_pair {P : Program} {w : World} {K : PySem.W.Frag} {mg : Str → Option Value} {base : Heap} {f : Addr} {fd : FuncData} (M : GF mg) (C_class_pairs : Callee P w K mg base "class_pairs" 1 2 ["one", "other"] m_class_pairs) (F : Fun K "steps_by_pair" "steps_by_pair" s_steps_by_pair f fd) :
    FnOk P w K mg base CX0 2 f fd ["one", "other"] (spOf K 2 m_steps_by_pair) :=
  fn_ok (N := n_steps_by_pair) F sc_steps_by_pair fun cdv A outer s H E hr => ⟨_, dss_cons (ds_set 2 sc_steps_by_pair.nd (dk_fn K rfl C_class_pairs (hr.mono (by decide)) (da_cons (de_var 0) (da_cons (de_var 1) (da_nil)))))
 (dss_cons (ds_set 3 sc_steps_by_pair.nd (de_dcT (own := [("pair", 7)]) (hu_of hr) rfl sc_steps_by_pair.nd (dk_any K rfl (de_var 2)) (blkOk_by (N := n_steps_by_pair) (sc := defScope s_steps_by_pair) (by decide +kernel)) (fun _ _ _ _ _ => dg_name 7 sc_steps_by_pair.nd) (fun _ _ _ _ _ => dts_nil) (fun _ _ _ _ _ => de_var 7) (fun _ _ _ _ _ => de_lst (da_nil))))
 (dss_cons (ds_for PassesOwn.never rfl (dk_any K rfl (de_var 2)) (dk_tup K rfl rfl (dgs_cons (dg_name 4 sc_steps_by_pair.nd) (dgs_cons (dg_name 5 sc_steps_by_pair.nd) (dgs_nil))))
 (dss_one (ds_for PassesOwn.never rfl (dk_ez K rfl M.b_enumerate M.b_zip (da_cons (de_ix (k_ixV K rfl (hu_of hr)) (de_ix (k_ixV K rfl (hu_of hr)) (de_var 0) (de_int)) (de_var 4)) (da_cons (de_ix (k_ixV K rfl (hu_of hr)) (de_ix (k_ixV K rfl (hu_of hr)) (de_var 1) (de_int)) (de_var 5)) (da_nil)))) (dk_tup K rfl rfl (dgs_cons (dg_name 6 sc_steps_by_pair.nd) (dgs_cons (dg_name 7 sc_steps_by_pair.nd) (dgs_nil))))
 (dss_one (ds_expr (dk_mt K rfl m_append PySem.F.plainAttrs_list PySem.F.slot_list_append PySem.F.type_list_append (de_ix (k_ixV K rfl (hu_of hr)) (de_var 3) (de_var 7)) (da_cons (de_tup (da_cons (de_var 6) (da_cons (de_var 4) (da_cons (de_var 5) (da_nil))))) (da_nil))))))))
 (dss_one (ds_ret (de_dcT (own := [("pair", 7)]) (hu_of hr) rfl sc_steps_by_pair.nd (dk_any K rfl (de_var 2)) (blkOk_by (N := n_steps_by_pair) (sc := defScope s_steps_by_pair) (by decide +kernel)) (fun _ _ _ _ _ => dg_name 7 sc_steps_by_pair.nd) (fun _ _ _ _ _ => dts_nil) (fun _ _ _ _ _ => de_var 7) (fun _ _ _ _ _ => de_callB (k_sortT K rfl (d := 3) (B := 1000) (by decide)) M.b_sorted (da_cons (de_ix (k_ixV K rfl (hu_of hr)) (de_var 3) (de_var 7)) (da_nil))))))))⟩
abbrev s_entry_of : Stmt := topS 4
abbrev n_entry_of : List Str := ["boxes", "state", "k", "number"]
theorem sc_entry_of : FnScope ["boxes", "state", "k", "number"] ["boxes", "state", "k", "number"] (defScope s_entry_of) := ⟨rfl, rfl, rfl, by decide +kernel, rfl, by decide +kernel, by decide +kernel⟩
noncomputable def f_entry_of : SEnv → M (Fl × SEnv) := sRet (eIf (asB (eOp eqD (eVar 1) (eC (.int (-1))))) (eC .non) (eOp ixU (eOp ixU (eOp ixU (eOp ixU (eVar 0) (eC (.int 4))) (eVar 1)) (eVar 2)) (eVar 3)))
noncomputable def m_entry_of : List D → M D := bodyM 4 (f_entry_of)
theorem ok_entry_of {P : Program} {w : World} {K : PySem.W.Frag} {mg : Str → Option Value} {base : Heap} {f : Addr} {fd : FuncData} (M : GF mg) (F : Fun K "entry_of" "entry_of" s_entry_of f fd) :
    FnOk P w K mg base CX0 1 f fd ["boxes", "state", "k", "number"] (spOf K 4 m_entry_of) :=
  fn_ok (N := n_entry_of) F sc_entry_of fun cdv A outer s H E hr => ⟨_, dss_one (ds_ret (de_if (dt_cmp (k_eq K rfl hr.units) (de_var 1) (de_glob (v := .int (-1)) (by rfl) M.c_STOPPED.choose_spec ⟨_, rfl⟩ (fun _ _ => .int _))) (de_non) (de_ix (k_ix K rfl (hu_of hr)) (de_ix (k_ix K rfl (hu_of hr)) (de_ix (k_ix K rfl (hu_of hr)) (de_ix (k_ix K rfl (hu_of hr)) (de_var 0) (de_int)) (de_var 1)) (de_var 2)) (de_var 3))))⟩
abbrev s_steps_behind : Stmt := topS 5
abbrev n_steps_behind : List Str := ["one", "other", "node", "steps", "found", "step", "k", "number", "other_number", "entry", "other_entry", "state", "other_state", "is_lost"]
theorem sc_steps_behind : FnScope ["one", "other", "node", "steps", "found", "step", "k", "number", "other_number", "entry", "other_entry", "state", "other_state", "is_lost"] ["one", "other", "node", "steps"] (defScope s_steps_behind) := ⟨rfl, rfl, rfl, by decide +kernel, rfl, by decide +kernel, by decide +kernel⟩
noncomputable def f_steps_behind : SEnv → M (Fl × SEnv) := sSeq (sAsg (eLst (aNil)) (gN 4)) (sSeq (sFor (iAnyM (eVar 3)) (gN 5) (sSeq (sAsg (eVar 5) (gTupM 3 (gsCons (gN 6) (gsCons (gN 7) (gsCons (gN 8) (gsNil)))))) (sSeq (sAsg (eCall m_entry_of (aCons (eVar 0) (aCons (eOp ixU (eVar 2) (eC (.int 0))) (aCons (eVar 6) (aCons (eVar 7) (aNil)))))) (gN 9)) (sSeq (sAsg (eCall m_entry_of (aCons (eVar 1) (aCons (eOp ixU (eVar 2) (eC (.int 2))) (aCons (eVar 6) (aCons (eVar 8) (aNil)))))) (gN 10)) (sSeq (sAsg (eIf (asB (eOp isD (eVar 9) (eC .non))) (eC (.int (-1))) (eOp ixU (eVar 9) (eC (.int 0)))) (gN 11)) (sSeq (sAsg (eIf (asB (eOp isD (eVar 10) (eC .non))) (eC (.int (-1))) (eOp ixU (eVar 10) (eC (.int 0)))) (gN 12)) (sSeq (sAsg (eAnd (eOp isD (eVar 9) (eC .non)) (eOp isD (eVar 10) (eC .non))) (gN 13)) (sDrop (eMt "list" mAppend (eVar 4) (aCons (eTup (aCons (eVar 5) (aCons (eIf (asT (eVar 13)) (eC .non) (eTup (aCons (eVar 11) (aCons (eVar 7) (aCons (eVar 12) (aCons (eVar 8) (aNil))))))) (aNil)))) (aNil))))))))))) (sRet (eCall nTuple (aCons (eVar 4) (aNil)))))
noncomputable def m_steps_behind : List D → M D := bodyM 14 (f_steps_behind)
theorem ok_steps_behind {P : Program} {w : World} {K : PySem.W.Frag} {mg : Str → Option Value} {base : Heap} {f : Addr} {fd : FuncData} (M : GF mg) (C_entry_of : Callee P w K mg base "entry_of" 1 4 ["boxes", "state", "k", "number"] m_entry_of) (F : Fun K "steps_behind" "steps_behind" s_steps_behind f fd) :
    FnOk P w K mg base CX0 2 f fd ["one", "other", "node", "steps"] (spOf K 4 m_steps_behind) :=
  fn_ok (N := n_steps_behind) F sc_steps_behind fun cdv A outer s H E hr => ⟨_, dss_cons (ds_set 4 sc_steps_behind.nd (de_lst (da_nil)))
 (dss_cons (ds_for PassesOwn.never rfl (dk_any K rfl (de_var 3)) (dg_name 5 sc_steps_behind.nd)
 (dss_cons (ds_asg (de_var 5) (dk_tup K rfl rfl (dgs_cons (dg_name 6 sc_steps_behind.nd) (dgs_cons (dg_name 7 sc_steps_behind.nd) (dgs_cons (dg_name 8 sc_steps_behind.nd) (dgs_nil))))))
 (dss_cons (ds_set 9 sc_steps_behind.nd (dk_fn K rfl C_entry_of (hr.mono (by decide)) (da_cons (de_var 0) (da_cons (de_ix (k_ix K rfl (hu_of hr)) (de_var 2) (de_int)) (da_cons (de_var 6) (da_cons (de_var 7) (da_nil)))))))
 (dss_cons (ds_set 10 sc_steps_behind.nd (dk_fn K rfl C_entry_of (hr.mono (by decide)) (da_cons (de_var 1) (da_cons (de_ix (k_ix K rfl (hu_of hr)) (de_var 2) (de_int)) (da_cons (de_var 6) (da_cons (de_var 8) (da_nil)))))))
 (dss_cons (ds_set 11 sc_steps_behind.nd (de_if (dt_cmp o_is (de_var 9) (de_non)) (de_glob (v := .int (-1)) (by rfl) M.c_STOPPED.choose_spec ⟨_, rfl⟩ (fun _ _ => .int _)) (de_ix (k_ix K rfl (hu_of hr)) (de_var 9) (de_int))))
 (dss_cons (ds_set 12 sc_steps_behind.nd (de_if (dt_cmp o_is (de_var 10) (de_non)) (de_glob (v := .int (-1)) (by rfl) M.c_STOPPED.choose_spec ⟨_, rfl⟩ (fun _ _ => .int _)) (de_ix (k_ix K rfl (hu_of hr)) (de_var 10) (de_int))))
 (dss_cons (ds_set 13 sc_steps_behind.nd (de_and (de_cmp o_is (de_var 9) (de_non)) (de_one (de_cmp o_is (de_var 10) (de_non)))))
 (dss_one (ds_expr (dk_mt K rfl m_append PySem.F.plainAttrs_list PySem.F.slot_list_append PySem.F.type_list_append (de_var 4) (da_cons (de_tup (da_cons (de_var 5) (da_cons (de_if (dk_truth K rfl (de_var 13)) (de_non) (de_tup (da_cons (de_var 11) (da_cons (de_var 7) (da_cons (de_var 12) (da_cons (de_var 8) (da_nil))))))) (da_nil)))) (da_nil))))))))))))
 (dss_one (ds_ret (de_callTy (k_tuple K rfl) M.b_tuple (da_cons (de_var 4) (da_nil))))))⟩
abbrev s_node_steps : Stmt := topS 6
abbrev n_node_steps : List Str := ["one", "other", "node"]
theorem sc_node_steps : FnScope ["one", "other", "node"] ["one", "other", "node"] (defScope s_node_steps) := ⟨rfl, rfl, rfl, by decide +kernel, rfl, by decide +kernel, by decide +kernel⟩
noncomputable def f_node_steps : SEnv → M (Fl × SEnv) := sRet (eCall m_steps_behind (aCons (eVar 0) (aCons (eVar 1) (aCons (eVar 2) (aCons (eOp ixV (eCall m_steps_by_pair (aCons (eVar 0) (aCons (eVar 1) (aNil)))) (eTup (aCons (eOp ixV (eVar 2) (eC (.int 1))) (aCons (eOp ixV (eVar 2) (eC (.int 3))) (aNil))))) (aNil))))))
noncomputable def m_node_steps : List D → M D := bodyM 3 (f_node_steps)
theorem ok_node_steps {P : Program} {w : World} {K : PySem.W.Frag} {mg : Str → Option Value} {base : Heap} {f : Addr} {fd : FuncData} (M : GF mg) (C_steps_behind : Callee P w K mg base "steps_behind" 2 4 ["one", "other", "node", "steps"] m_steps_behind) (C_steps_by_pair : Callee P w K mg base "steps_by_pair" 2 2 ["one", "other"] m_steps_by_pair) (F : Fun K "node_steps" "node_steps" s_node_steps f fd) :
    FnOk P w K mg base CX0 3 f fd ["one", "other", "node"] (spOf K 3 m_node_steps) :=
  fn_ok (N := n_node_steps) F sc_node_steps fun cdv A outer s H E hr => ⟨_, dss_one (ds_ret (dk_fn K rfl C_steps_behind (hr.mono (by decide)) (da_cons (de_var 0) (da_cons (de_var 1) (da_cons (de_var 2) (da_cons (de_ix (k_ixV K rfl (hu_of hr)) (dk_fn K rfl C_steps_by_pair (hr.mono (by decide)) (da_cons (de_var 0) (da_cons (de_var 1) (da_nil)))) (de_tup (da_cons (de_ix (k_ixV K rfl (hu_of hr)) (de_var 2) (de_int)) (da_cons (de_ix (k_ixV K rfl (hu_of hr)) (de_var 2) (de_int)) (da_nil))))) (da_nil)))))))⟩
abbrev s_law_mix : Stmt := topS 8
abbrev n_law_mix : List Str := ["cell", "k", "low"]
theorem sc_law_mix : FnScope ["cell", "k", "low"] ["cell", "k"] (defScope s_law_mix) := ⟨rfl, rfl, rfl, by decide +kernel, rfl, by decide +kernel, by decide +kernel⟩
noncomputable def f_law_mix : SEnv → M (Fl × SEnv) := sSeq (sAsg (eOp modD (eCall nInt (aCons (eOp addD (eOp addD (eOp mulU (eVar 0) (eC (.int 48271))) (eOp mulU (eVar 1) (eC (.int 69621)))) (eC (.int 11))) (aNil))) (eC (.int 2147483647))) (gN 2)) (sRet (eOp modD (eOp modD (eCall nInt (aCons (eOp addD (eOp addD (eOp addD (eOp mulU (eVar 2) (eVar 2)) (eOp mulU (eVar 0) (eC (.int 40692)))) (eOp mulU (eVar 1) (eC (.int 7)))) (eC (.int 3))) (aNil))) (eC (.int 1000003))) (eC (.int 1000))))
noncomputable def m_law_mix : List D → M D := bodyM 3 (f_law_mix)
theorem ok_law_mix {P : Program} {w : World} {K : PySem.W.Frag} {mg : Str → Option Value} {base : Heap} {f : Addr} {fd : FuncData} (M : GF mg) (F : Fun K "_law_mix" "_law_mix" s_law_mix f fd) :
    FnOk P w K mg base CX0 1 f fd ["cell", "k"] (spOf K 2 m_law_mix) :=
  fn_ok (N := n_law_mix) F sc_law_mix fun cdv A outer s H E hr => ⟨_, dss_cons (ds_set 2 sc_law_mix.nd (de_op o_mod (de_callTy c_int M.b_int (da_cons (de_op (k_add K rfl) (de_op (k_add K rfl) (de_op (k_mul K rfl) (de_var 0) (de_int)) (de_op (k_mul K rfl) (de_var 1) (de_int))) (de_int)) (da_nil))) (de_int)))
 (dss_one (ds_ret (de_op o_mod (de_op o_mod (de_callTy c_int M.b_int (da_cons (de_op (k_add K rfl) (de_op (k_add K rfl) (de_op (k_add K rfl) (de_op (k_mul K rfl) (de_var 2) (de_var 2)) (de_op (k_mul K rfl) (de_var 0) (de_int))) (de_op (k_mul K rfl) (de_var 1) (de_int))) (de_int)) (da_nil))) (de_int)) (de_int))))⟩
abbrev s_law_stream : Stmt := topS 9
abbrev n_law_stream : List Str := ["script", "most", "row", "k", "rest", "j"]
theorem sc_law_stream : FnScope ["script", "most", "row", "k", "rest", "j"] ["script", "most"] (defScope s_law_stream) := ⟨rfl, rfl, rfl, by decide +kernel, rfl, by decide +kernel, by decide +kernel⟩
noncomputable def f_law_stream : SEnv → M (Fl × SEnv) := sSeq (sAsg (eLst (aNil)) (gN 2)) (sSeq (sFor (iRg1M (aCons (eCall nMin2 (aCons (eCall nLen (aCons (eVar 0) (aNil))) (aCons (eC (.int 63)) (aNil)))) (aNil))) (gN 3) (sSeq (sAsg (eOp ixU (eVar 0) (eVar 3)) (gN 4)) (sIf (asB (eOp geD (eVar 4) (eOp powD (eC (.int 10)) (eC (.int 18))))) (sFor (iRg1M (aCons (eC (.int 60)) (aNil))) (gN 5) (sIf (bAnd (asB (eOp gtD (eVar 4) (eC (.int 0)))) (asB (eOp ltD (eCall nLen (aCons (eVar 2) (aNil))) (eVar 1)))) (sSeq (sDrop (eMt "list" mAppend (eVar 2) (aCons (eOp modD (eCall nInt (aCons (eVar 4) (aNil))) (eC (.int 1000))) (aNil)))) (sAsg (eOp fdivD (eVar 4) (eC (.int 1000))) (gN 4))) (sNx))) (sFor (iRg1M (aCons (eC (.int 3)) (aNil))) (gN 5) (sIf (asB (eOp ltD (eCall nLen (aCons (eVar 2) (aNil))) (eVar 1))) (sDrop (eMt "list" mAppend (eVar 2) (aCons (eCall m_law_mix (aCons (eVar 4) (aCons (eOp addD (eOp mulU (eC (.int 64)) (eVar 5)) (eVar 3)) (aNil)))) (aNil)))) (sNx)))))) (sRet (eDisp (kCons (eC (.str "row")) (eVar 2) (kCons (eC (.str "at")) (eC (.int 0)) (kCons (eC (.str "seed")) (eOp addD (eCall nSum (aCons (eVar 2) (aNil))) (eCall nLen (aCons (eVar 2) (aNil)))) (kNil)))))))
noncomputable def m_law_stream : List D → M D := bodyM 6 (f_law_stream)
theorem ok_law_stream {P : Program} {w : World} {K : PySem.W.Frag} {mg : Str → Option Value} {base : Heap} {f : Addr} {fd : FuncData} (M : GF mg) (C_law_mix : Callee P w K mg base "_law_mix" 1 2 ["cell", "k"] m_law_mix) (F : Fun K "_law_stream" "_law_stream" s_law_stream f fd) :
    FnOk P w K mg base CX0 2 f fd ["script", "most"] (spOf K 2 m_law_stream) :=
  fn_ok (N := n_law_stream) F sc_law_stream fun cdv A outer s H E hr => ⟨_, dss_cons (ds_set 2 sc_law_stream.nd (de_lst (da_nil)))
 (dss_cons (ds_for PassesOwn.never rfl (di_rg1 M.b_range (da_cons (de_callB (c_min2 rfl) M.b_min (da_cons (de_callB (k_len K rfl) M.b_len (da_cons (de_var 0) (da_nil))) (da_cons (de_int) (da_nil)))) (da_nil))) (dg_name 3 sc_law_stream.nd)
 (dss_cons (ds_set 4 sc_law_stream.nd (de_ix (k_ix K rfl (hu_of hr)) (de_var 0) (de_var 3)))
 (dss_one (ds_if (dt_cmp o_ge (de_var 4) (de_op o_pow (de_int) (de_int)))
 (dss_one (ds_for PassesOwn.never rfl (di_rg1 M.b_range (da_cons (de_int) (da_nil))) (dg_name 5 sc_law_stream.nd)
 (dss_one (ds_if (dt_w (dw_and (dt_cmp o_gt (de_var 4) (de_int)) (dw_and1 (dt_cmp o_lt (de_callB (k_len K rfl) M.b_len (da_cons (de_var 2) (da_nil))) (de_var 1)))))
 (dss_cons (ds_expr (dk_mt K rfl m_append PySem.F.plainAttrs_list PySem.F.slot_list_append PySem.F.type_list_append (de_var 2) (da_cons (de_op o_mod (de_callTy c_int M.b_int (da_cons (de_var 4) (da_nil))) (de_int)) (da_nil))))
 (dss_one (ds_set 4 sc_law_stream.nd (de_op o_fdiv (de_var 4) (de_int)))))
 (dss_nil)))))
 (dss_one (ds_for PassesOwn.never rfl (di_rg1 M.b_range (da_cons (de_int) (da_nil))) (dg_name 5 sc_law_stream.nd)
 (dss_one (ds_if (dt_cmp o_lt (de_callB (k_len K rfl) M.b_len (da_cons (de_var 2) (da_nil))) (de_var 1))
 (dss_one (ds_expr (dk_mt K rfl m_append PySem.F.plainAttrs_list PySem.F.slot_list_append PySem.F.type_list_append (de_var 2) (da_cons (dk_fn K rfl C_law_mix (hr.mono (by decide)) (da_cons (de_var 4) (da_cons (de_op (k_add K rfl) (de_op (k_mul K rfl) (de_int) (de_var 5)) (de_var 3)) (da_nil)))) (da_nil)))))
 (dss_nil)))))))))
 (dss_one (ds_ret (de_disp (dps_cons (de_str) (de_var 2) (dps_cons (de_str) (de_int) (dps_cons (de_str) (de_op (k_add K rfl) (de_callB (k_sum K rfl rfl) M.b_sum (da_cons (de_var 2) (da_nil))) (de_callB (k_len K rfl) M.b_len (da_cons (de_var 2) (da_nil)))) (dps_nil))))))))⟩
abbrev s_law_pick : Stmt := topS 10
abbrev n_law_pick : List Str := ["draws", "many", "at", "number"]
theorem sc_law_pick : FnScope ["draws", "many", "at", "number"] ["draws", "many"] (defScope s_law_pick) := ⟨rfl, rfl, rfl, by decide +kernel, rfl, by decide +kernel, by decide +kernel⟩
noncomputable def f_law_pick : SEnv → M (Fl × SEnv) := sSeq (sAsg (eOp ixU (eVar 0) (eC (.str "at"))) (gN 2)) (sSeq (sAsg (eOp addD (eVar 2) (eC (.int 1))) (gSubM setU (eVar 0) (eC (.str "at")))) (sSeq (sAsg (eCall m_law_mix (aCons (eOp ixU (eVar 0) (eC (.str "seed"))) (aCons (eVar 2) (aNil)))) (gN 3)) (sSeq (sIf (asB (eOp ltD (eVar 2) (eCall nLen (aCons (eOp ixU (eVar 0) (eC (.str "row"))) (aNil))))) (sAsg (eOp ixU (eOp ixU (eVar 0) (eC (.str "row"))) (eVar 2)) (gN 3)) (sNx)) (sRet (eOp modD (eCall nInt (aCons (eVar 3) (aNil))) (eVar 1))))))
noncomputable def m_law_pick : List D → M D := bodyM 4 (f_law_pick)
theorem ok_law_pick {P : Program} {w : World} {K : PySem.W.Frag} {mg : Str → Option Value} {base : Heap} {f : Addr} {fd : FuncData} (M : GF mg) (C_law_mix : Callee P w K mg base "_law_mix" 1 2 ["cell", "k"] m_law_mix) (F : Fun K "_law_pick" "_law_pick" s_law_pick f fd) :
    FnOk P w K mg base CX0 2 f fd ["draws", "many"] (spOf K 2 m_law_pick) :=
  fn_ok (N := n_law_pick) F sc_law_pick fun cdv A outer s H E hr => ⟨_, dss_cons (ds_set 2 sc_law_pick.nd (de_ix (k_ix K rfl (hu_of hr)) (de_var 0) (de_str)))
 (dss_cons (ds_asg (de_op (k_add K rfl) (de_var 2) (de_int)) (dg_sub (de_var 0) (de_str) (set_u (hu_of hr))))
 (dss_cons (ds_set 3 sc_law_pick.nd (dk_fn K rfl C_law_mix (hr.mono (by decide)) (da_cons (de_ix (k_ix K rfl (hu_of hr)) (de_var 0) (de_str)) (da_cons (de_var 2) (da_nil)))))
 (dss_cons (ds_if (dt_cmp o_lt (de_var 2) (de_callB (k_len K rfl) M.b_len (da_cons (de_ix (k_ix K rfl (hu_of hr)) (de_var 0) (de_str)) (da_nil))))
 (dss_one (ds_set 3 sc_law_pick.nd (de_ix (k_ix K rfl (hu_of hr)) (de_ix (k_ix K rfl (hu_of hr)) (de_var 0) (de_str)) (de_var 2))))
 (dss_nil))
 (dss_one (ds_ret (de_op o_mod (de_callTy c_int M.b_int (da_cons (de_var 3) (da_nil))) (de_var 1)))))))⟩
abbrev s_law_string : Stmt := topS 11
abbrev n_law_string : List Str := ["draws", "signs", "size", "k"]
theorem sc_law_string : FnScope ["draws", "signs", "size", "k"] ["draws", "signs"] (defScope s_law_string) := ⟨rfl, rfl, rfl, by decide +kernel, rfl, by decide +kernel, by decide +kernel⟩
noncomputable def f_law_string : SEnv → M (Fl × SEnv) := sSeq (sAsg (eOp ixU (eLst (aCons (eC (.int 0)) (aCons (eC (.int 0)) (aCons (eC (.int 1)) (aCons (eC (.int 1)) (aCons (eC (.int 2)) (aNil))))))) (eCall m_law_pick (aCons (eVar 0) (aCons (eC (.int 5)) (aNil))))) (gN 2)) (sRet (eMt "str" mJoin (eC (.str "")) (aCons (eLc (iRg1M (aCons (eVar 2) (aNil))) (gN 3) (bYes) (eOp ixU (eVar 1) (eCall m_law_pick (aCons (eVar 0) (aCons (eCall nLen (aCons (eVar 1) (aNil))) (aNil))))) [3]) (aNil))))
noncomputable def m_law_string : List D → M D := bodyM 4 (f_law_string)
theorem ok_law_string {P : Program} {w : World} {K : PySem.W.Frag} {mg : Str → Option Value} {base : Heap} {f : Addr} {fd : FuncData} (M : GF mg) (C_law_pick : Callee P w K mg base "_law_pick" 2 2 ["draws", "many"] m_law_pick) (F : Fun K "_law_string" "_law_string" s_law_string f fd) :
    FnOk P w K mg base CX0 3 f fd ["draws", "signs"] (spOf K 2 m_law_string) :=
  fn_ok (N := n_law_string) F sc_law_string fun cdv A outer s H E hr => ⟨_, dss_cons (ds_set 2 sc_law_string.nd (de_ix (k_ix K rfl (hu_of hr)) (de_lst (da_cons (de_int) (da_cons (de_int) (da_cons (de_int) (da_cons (de_int) (da_cons (de_int) (da_nil))))))) (dk_fn K rfl C_law_pick (hr.mono (by decide)) (da_cons (de_var 0) (da_cons (de_int) (da_nil))))))
 (dss_one (ds_ret (dk_mt K rfl m_join PySem.F.plainAttrs_str PySem.F.slot_str_join PySem.F.type_str_join (de_str) (da_cons (de_lc [("k", 3)] rfl sc_law_string.nd (di_rg1 M.b_range (da_cons (de_var 2) (da_nil))) (blkOk_by (N := n_law_string) (sc := defScope s_law_string) (by decide +kernel)) (fun _ _ _ _ _ => dg_name 3 sc_law_string.nd) (fun _ _ _ _ _ => dts_nil) (fun _ _ _ _ _ => de_ix (k_ix K rfl (hu_of hr)) (de_var 1) (dk_fn K rfl C_law_pick (hr.mono (by decide)) (da_cons (de_var 0) (da_cons (de_callB (k_len K rfl) M.b_len (da_cons (de_var 1) (da_nil))) (da_nil)))))) (da_nil)))))⟩
abbrev s_law_row : Stmt := topS 12
abbrev n_law_row : List Str := ["draws", "boxes", "signs", "row", "string", "box"]
theorem sc_law_row : FnScope ["draws", "boxes", "signs", "row", "string", "box"] ["draws", "boxes", "signs"] (defScope s_law_row) := ⟨rfl, rfl, rfl, by decide +kernel, rfl, by decide +kernel, by decide +kernel⟩
noncomputable def f_law_row : SEnv → M (Fl × SEnv) := sSeq (sAsg (eLst (aNil)) (gN 3)) (sSeq (sAsg (eCall m_law_string (aCons (eVar 0) (aCons (eVar 2) (aNil)))) (gN 4)) (sSeq (sIf (asB (eOp neD (eVar 4) (eC (.str "")))) (sDrop (eMt "list" mAppend (eVar 3) (aCons (eVar 4) (aNil)))) (sNx)) (sSeq (sFor (iAnyM (eVar 1)) (gN 5) (sSeq (sDrop (eMt "list" mAppend (eVar 3) (aCons (eVar 5) (aNil)))) (sSeq (sAsg (eCall m_law_string (aCons (eVar 0) (aCons (eVar 2) (aNil)))) (gN 4)) (sIf (asB (eOp neD (eVar 4) (eC (.str "")))) (sDrop (eMt "list" mAppend (eVar 3) (aCons (eVar 4) (aNil)))) (sNx))))) (sRet (eCall nTuple (aCons (eVar 3) (aNil)))))))
noncomputable def m_law_row : List D → M D := bodyM 6 (f_law_row)
theorem ok_law_row {P : Program} {w : World} {K : PySem.W.Frag} {mg : Str → Option Value} {base : Heap} {f : Addr} {fd : FuncData} (M : GF mg) (C_law_string : Callee P w K mg base "_law_string" 3 2 ["draws", "signs"] m_law_string) (F : Fun K "_law_row" "_law_row" s_law_row f fd) :
    FnOk P w K mg base CX0 4 f fd ["draws", "boxes", "signs"] (spOf K 3 m_law_row) :=
  fn_ok (N := n_law_row) F sc_law_row fun cdv A outer s H E hr => ⟨_, dss_cons (ds_set 3 sc_law_row.nd (de_lst (da_nil)))
 (dss_cons (ds_set 4 sc_law_row.nd (dk_fn K rfl C_law_string (hr.mono (by decide)) (da_cons (de_var 0) (da_cons (de_var 2) (da_nil)))))
 (dss_cons (ds_if (dt_cmp (k_ne K rfl hr.units) (de_var 4) (de_str))
 (dss_one (ds_expr (dk_mt K rfl m_append PySem.F.plainAttrs_list PySem.F.slot_list_append PySem.F.type_list_append (de_var 3) (da_cons (de_var 4) (da_nil)))))
 (dss_nil))
 (dss_cons (ds_for PassesOwn.never rfl (dk_any K rfl (de_var 1)) (dg_name 5 sc_law_row.nd)
 (dss_cons (ds_expr (dk_mt K rfl m_append PySem.F.plainAttrs_list PySem.F.slot_list_append PySem.F.type_list_append (de_var 3) (da_cons (de_var 5) (da_nil))))
 (dss_cons (ds_set 4 sc_law_row.nd (dk_fn K rfl C_law_string (hr.mono (by decide)) (da_cons (de_var 0) (da_cons (de_var 2) (da_nil)))))
 (dss_one (ds_if (dt_cmp (k_ne K rfl hr.units) (de_var 4) (de_str))
 (dss_one (ds_expr (dk_mt K rfl m_append PySem.F.plainAttrs_list PySem.F.slot_list_append PySem.F.type_list_append (de_var 3) (da_cons (de_var 4) (da_nil)))))
 (dss_nil))))))
 (dss_one (ds_ret (de_callTy (k_tuple K rfl) M.b_tuple (da_cons (de_var 3) (da_nil))))))))⟩
abbrev s_law_news : Stmt := topS 13
abbrev n_law_news : List Str := ["draws", "many", "signs", "rows", "turned", "k", "box", "pick", "goal", "row"]
theorem sc_law_news : FnScope ["draws", "many", "signs", "rows", "turned", "k", "box", "pick", "goal", "row"] ["draws", "many", "signs"] (defScope s_law_news) := ⟨rfl, rfl, rfl, by decide +kernel, rfl, by decide +kernel, by decide +kernel⟩
noncomputable def f_law_news : SEnv → M (Fl × SEnv) := sSeq (sAsg (eLc (iRg1M (aCons (eVar 1) (aNil))) (gN 5) (bYes) (eLst (aNil)) [5]) (gN 3)) (sSeq (sAsg (eOp eqD (eCall m_law_pick (aCons (eVar 0) (aCons (eC (.int 2)) (aNil)))) (eC (.int 1))) (gN 4)) (sSeq (sFor (iRg1M (aCons (eVar 1) (aNil))) (gN 5) (sSeq (sAsg (eIf (asT (eVar 4)) (eOp subD (eOp subD (eVar 1) (eC (.int 1))) (eVar 5)) (eVar 5)) (gN 6)) (sSeq (sAsg (eCall m_law_pick (aCons (eVar 0) (aCons (eC (.int 9)) (aNil)))) (gN 7)) (sIf (asB (eOp gtD (eVar 7) (eC (.int 0)))) (sSeq (sAsg (eIf (asB (eOp ltD (eVar 7) (eC (.int 6)))) (eVar 6) (eOp modD (eCall nInt (aCons (eOp addD (eVar 6) (eVar 7)) (aNil))) (eVar 1))) (gN 8)) (sDrop (eMt "list" mAppend (eOp ixU (eVar 3) (eVar 8)) (aCons (eVar 6) (aNil))))) (sNx))))) (sRet (eCall nTuple (aCons (eLc (iAnyM (eVar 3)) (gN 9) (bYes) (eCall m_law_row (aCons (eVar 0) (aCons (eVar 9) (aCons (eVar 2) (aNil))))) [9]) (aNil))))))
noncomputable def m_law_news : List D → M D := bodyM 10 (f_law_news)
theorem ok_law_news {P : Program} {w : World} {K : PySem.W.Frag} {mg : Str → Option Value} {base : Heap} {f : Addr} {fd : FuncData} (M : GF mg) (C_law_pick : Callee P w K mg base "_law_pick" 2 2 ["draws", "many"] m_law_pick) (C_law_row : Callee P w K mg base "_law_row" 4 3 ["draws", "boxes", "signs"] m_law_row) (F : Fun K "_law_news" "_law_news" s_law_news f fd) :
    FnOk P w K mg base CX0 5 f fd ["draws", "many", "signs"] (spOf K 3 m_law_news) :=
  fn_ok (N := n_law_news) F sc_law_news fun cdv A outer s H E hr => ⟨_, dss_cons (ds_setLc 3 [("k", 5)] rfl sc_law_news.nd (di_rg1 M.b_range (da_cons (de_var 1) (da_nil))) (blkOk_by (N := n_law_news) (sc := defScope s_law_news) (by decide +kernel)) (fun _ _ _ _ _ => dg_name 5 sc_law_news.nd) (fun _ _ _ _ _ => dts_nil) (fun _ _ _ _ _ => de_lst (da_nil)) (sw_true rfl rfl rfl (by decide +kernel)))
 (dss_cons (ds_set 4 sc_law_news.nd (de_cmp (k_eq K rfl hr.units) (dk_fn K rfl C_law_pick (hr.mono (by decide)) (da_cons (de_var 0) (da_cons (de_int) (da_nil)))) (de_int)))
 (dss_cons (ds_for PassesOwn.never rfl (di_rg1 M.b_range (da_cons (de_var 1) (da_nil))) (dg_name 5 sc_law_news.nd)
 (dss_cons (ds_set 6 sc_law_news.nd (de_if (dk_truth K rfl (de_var 4)) (de_op o_sub (de_op o_sub (de_var 1) (de_int)) (de_var 5)) (de_var 5)))
 (dss_cons (ds_set 7 sc_law_news.nd (dk_fn K rfl C_law_pick (hr.mono (by decide)) (da_cons (de_var 0) (da_cons (de_int) (da_nil)))))
 (dss_one (ds_if (dt_cmp o_gt (de_var 7) (de_int))
 (dss_cons (ds_set 8 sc_law_news.nd (de_if (dt_cmp o_lt (de_var 7) (de_int)) (de_var 6) (de_op o_mod (de_callTy c_int M.b_int (da_cons (de_op (k_add K rfl) (de_var 6) (de_var 7)) (da_nil))) (de_var 1))))
 (dss_one (ds_expr (dk_mt K rfl m_append PySem.F.plainAttrs_list PySem.F.slot_list_append PySem.F.type_list_append (de_ix (k_ix K rfl (hu_of hr)) (de_var 3) (de_var 8)) (da_cons (de_var 6) (da_nil))))))
 (dss_nil))))))
 (dss_one (ds_ret (de_callTy (k_tuple K rfl) M.b_tuple (da_cons (de_lc [("row", 9)] rfl sc_law_news.nd (dk_any K rfl (de_var 3)) (blkOk_by (N := n_law_news) (sc := defScope s_law_news) (by decide +kernel)) (fun _ _ _ _ _ => dg_name 9 sc_law_news.nd) (fun _ _ _ _ _ => dts_nil) (fun _ _ _ _ _ => dk_fn K rfl C_law_row (hr.mono (by decide)) (da_cons (de_var 0) (da_cons (de_var 9) (da_cons (de_var 2) (da_nil)))))) (da_nil)))))))⟩
abbrev s_law_cell : Stmt := topS 14
abbrev n_law_cell : List Str := ["draws", "states", "many", "signs", "stops"]
theorem sc_law_cell : FnScope ["draws", "states", "many", "signs", "stops"] ["draws", "states", "many", "signs", "stops"] (defScope s_law_cell) := ⟨rfl, rfl, rfl, by decide +kernel, rfl, by decide +kernel, by decide +kernel⟩
noncomputable def f_law_cell : SEnv → M (Fl × SEnv) := sSeq (sIf (asB (eOp ltD (eCall m_law_pick (aCons (eVar 0) (aCons (eC (.int 12)) (aNil)))) (eVar 4))) (sRet (eC .non)) (sNx)) (sRet (eTup (aCons (eCall m_law_pick (aCons (eVar 0) (aCons (eVar 1) (aNil)))) (aCons (eCall m_law_news (aCons (eVar 0) (aCons (eVar 2) (aCons (eVar 3) (aNil))))) (aNil)))))
noncomputable def m_law_cell : List D → M D := bodyM 5 (f_law_cell)
theorem ok_law_cell {P : Program} {w : World} {K : PySem.W.Frag} {mg : Str → Option Value} {base : Heap} {f : Addr} {fd : FuncData} (M : GF mg) (C_law_news : Callee P w K mg base "_law_news" 5 3 ["draws", "many", "signs"] m_law_news) (C_law_pick : Callee P w K mg base "_law_pick" 2 2 ["draws", "many"] m_law_pick) (F : Fun K "_law_cell" "_law_cell" s_law_cell f fd) :
    FnOk P w K mg base CX0 6 f fd ["draws", "states", "many", "signs", "stops"] (spOf K 5 m_law_cell) :=
  fn_ok (N := n_law_cell) F sc_law_cell fun cdv A outer s H E hr => ⟨_, dss_cons (ds_if (dt_cmp o_lt (dk_fn K rfl C_law_pick (hr.mono (by decide)) (da_cons (de_var 0) (da_cons (de_int) (da_nil)))) (de_var 4))
 (dss_one (ds_ret (de_non)))
 (dss_nil))
 (dss_one (ds_ret (de_tup (da_cons (dk_fn K rfl C_law_pick (hr.mono (by decide)) (da_cons (de_var 0) (da_cons (de_var 1) (da_nil)))) (da_cons (dk_fn K rfl C_law_news (hr.mono (by decide)) (da_cons (de_var 0) (da_cons (de_var 2) (da_cons (de_var 3) (da_nil))))) (da_nil))))))⟩
abbrev s_law_end : Stmt := topS 15
abbrev n_law_end : List Str := ["draws", "many", "signs", "stops", "boxes", "k"]
theorem sc_law_end : FnScope ["draws", "many", "signs", "stops", "boxes", "k"] ["draws", "many", "signs", "stops"] (defScope s_law_end) := ⟨rfl, rfl, rfl, by decide +kernel, rfl, by decide +kernel, by decide +kernel⟩
noncomputable def f_law_end : SEnv → M (Fl × SEnv) := sSeq (sIf (asB (eOp ltD (eCall m_law_pick (aCons (eVar 0) (aCons (eC (.int 12)) (aNil)))) (eVar 3))) (sRet (eC .non)) (sNx)) (sSeq (sAsg (eLc (iRg1M (aCons (eVar 1) (aNil))) (gN 5) (asB (eOp gtD (eCall m_law_pick (aCons (eVar 0) (aCons (eC (.int 6)) (aNil)))) (eC (.int 0)))) (eVar 5) [5]) (gN 4)) (sSeq (sIf (asB (eOp eqD (eCall m_law_pick (aCons (eVar 0) (aCons (eC (.int 2)) (aNil)))) (eC (.int 1)))) (sAsg (eRevU (eVar 4)) (gN 4)) (sNx)) (sRet (eCall m_law_row (aCons (eVar 0) (aCons (eVar 4) (aCons (eVar 2) (aNil))))))))
noncomputable def m_law_end : List D → M D := bodyM 6 (f_law_end)
theorem ok_law_end {P : Program} {w : World} {K : PySem.W.Frag} {mg : Str → Option Value} {base : Heap} {f : Addr} {fd : FuncData} (M : GF mg) (C_law_pick : Callee P w K mg base "_law_pick" 2 2 ["draws", "many"] m_law_pick) (C_law_row : Callee P w K mg base "_law_row" 4 3 ["draws", "boxes", "signs"] m_law_row) (F : Fun K "_law_end" "_law_end" s_law_end f fd) :
    FnOk P w K mg base CX0 5 f fd ["draws", "many", "signs", "stops"] (spOf K 4 m_law_end) :=
  fn_ok (N := n_law_end) F sc_law_end fun cdv A outer s H E hr => ⟨_, dss_cons (ds_if (dt_cmp o_lt (dk_fn K rfl C_law_pick (hr.mono (by decide)) (da_cons (de_var 0) (da_cons (de_int) (da_nil)))) (de_var 3))
 (dss_one (ds_ret (de_non)))
 (dss_nil))
 (dss_cons (ds_setLc 4 [("k", 5)] rfl sc_law_end.nd (di_rg1 M.b_range (da_cons (de_var 1) (da_nil))) (blkOk_by (N := n_law_end) (sc := defScope s_law_end) (by decide +kernel)) (fun _ _ _ _ _ => dg_name 5 sc_law_end.nd) (fun _ _ _ _ _ => dts_one (dt_cmp o_gt (dk_fn K rfl C_law_pick (hr.mono (by decide)) (da_cons (de_var 0) (da_cons (de_int) (da_nil)))) (de_int))) (fun _ _ _ _ _ => de_var 5) (sw_true rfl rfl rfl (by decide +kernel)))
 (dss_cons (ds_if (dt_cmp (k_eq K rfl hr.units) (dk_fn K rfl C_law_pick (hr.mono (by decide)) (da_cons (de_var 0) (da_cons (de_int) (da_nil)))) (de_int))
 (dss_one (ds_set 4 sc_law_end.nd (dk_rev K rfl (de_var 4))))
 (dss_nil))
 (dss_one (ds_ret (dk_fn K rfl C_law_row (hr.mono (by decide)) (da_cons (de_var 0) (da_cons (de_var 4) (da_cons (de_var 2) (da_nil)))))))))⟩
abbrev s_law_machine : Stmt := topS 16
abbrev n_law_machine : List Str := ["draws", "letters", "signs", "states", "many", "classes", "stops", "ahead", "rows", "q", "row", "k", "ends", "c"]
theorem sc_law_machine : FnScope ["draws", "letters", "signs", "states", "many", "classes", "stops", "ahead", "rows", "q", "row", "k", "ends", "c"] ["draws", "letters", "signs", "states", "many", "classes", "stops"] (defScope s_law_machine) := ⟨rfl, rfl, rfl, by decide +kernel, rfl, by decide +kernel, by decide +kernel⟩
noncomputable def f_law_machine : SEnv → M (Fl × SEnv) := sSeq (sAsg (eCall nTuple (aCons (eLc (iRg1M (aCons (eVar 5) (aNil))) (gN 13) (bYes) (eCall nTuple (aCons (eLc (iRg1M (aCons (eCall nLen (aCons (eVar 1) (aNil))) (aNil))) (gN 11) (bYes) (eCall m_law_pick (aCons (eVar 0) (aCons (eVar 5) (aNil)))) [11]) (aNil))) [13]) (aNil))) (gN 7)) (sSeq (sAsg (eLst (aNil)) (gN 8)) (sSeq (sFor (iRg1M (aCons (eVar 3) (aNil))) (gN 9) (sSeq (sAsg (eLst (aNil)) (gN 10)) (sSeq (sFor (iRg1M (aCons (eCall nLen (aCons (eVar 1) (aNil))) (aNil))) (gN 11) (sDrop (eMt "list" mAppend (eVar 10) (aCons (eCall nTuple (aCons (eLc (iRg1M (aCons (eVar 5) (aNil))) (gN 13) (bYes) (eCall m_law_cell (aCons (eVar 0) (aCons (eVar 3) (aCons (eVar 4) (aCons (eVar 2) (aCons (eVar 6) (aNil))))))) [13]) (aNil))) (aNil))))) (sDrop (eMt "list" mAppend (eVar 8) (aCons (eCall nTuple (aCons (eVar 10) (aNil))) (aNil))))))) (sSeq (sAsg (eCall nTuple (aCons (eLc (iRg1M (aCons (eVar 3) (aNil))) (gN 9) (bYes) (eCall m_law_end (aCons (eVar 0) (aCons (eVar 4) (aCons (eVar 2) (aCons (eVar 6) (aNil)))))) [9]) (aNil))) (gN 12)) (sRet (eTup (aCons (eC (.str "boxes")) (aCons (eVar 1) (aCons (eVar 7) (aCons (eVar 4) (aCons (eCall nTuple (aCons (eVar 8) (aNil))) (aCons (eVar 12) (aNil))))))))))))
noncomputable def m_law_machine : List D → M D := bodyM 14 (f_law_machine)
theorem ok_law_machine {P : Program} {w : World} {K : PySem.W.Frag} {mg : Str → Option Value} {base : Heap} {f : Addr} {fd : FuncData} (M : GF mg) (C_law_cell : Callee P w K mg base "_law_cell" 6 5 ["draws", "states", "many", "signs", "stops"] m_law_cell) (C_law_end : Callee P w K mg base "_law_end" 5 4 ["draws", "many", "signs", "stops"] m_law_end) (C_law_pick : Callee P w K mg base "_law_pick" 2 2 ["draws", "many"] m_law_pick) (F : Fun K "_law_machine" "_law_machine" s_law_machine f fd) :
    FnOk P w K mg base CX0 7 f fd ["draws", "letters", "signs", "states", "many", "classes", "stops"] (spOf K 7 m_law_machine) :=
  fn_ok (N := n_law_machine) F sc_law_machine fun cdv A outer s H E hr => ⟨_, dss_cons (ds_set 7 sc_law_machine.nd (de_callTy (k_tuple K rfl) M.b_tuple (da_cons (de_lc [("c", 13)] rfl sc_law_machine.nd (di_rg1 M.b_range (da_cons (de_var 5) (da_nil))) (blkOk_by (N := n_law_machine) (sc := defScope s_law_machine) (by decide +kernel)) (fun _ _ _ _ _ => dg_name 13 sc_law_machine.nd) (fun _ _ _ _ _ => dts_nil) (fun _ _ _ _ _ => de_callTy (k_tuple K rfl) M.b_tuple (da_cons (de_lc [("k", 11)] rfl sc_law_machine.nd (di_rg1 M.b_range (da_cons (de_callB (k_len K rfl) M.b_len (da_cons (de_var 1) (da_nil))) (da_nil))) (by refine blkOk_by ?_; exact rfl) (fun _ _ _ _ _ => dg_name 11 sc_law_machine.nd) (fun _ _ _ _ _ => dts_nil) (fun _ _ _ _ _ => dk_fn K rfl C_law_pick (hr.mono (by decide)) (da_cons (de_var 0) (da_cons (de_var 5) (da_nil))))) (da_nil)))) (da_nil))))
 (dss_cons (ds_set 8 sc_law_machine.nd (de_lst (da_nil)))
 (dss_cons (ds_for PassesOwn.never rfl (di_rg1 M.b_range (da_cons (de_var 3) (da_nil))) (dg_name 9 sc_law_machine.nd)
 (dss_cons (ds_set 10 sc_law_machine.nd (de_lst (da_nil)))
 (dss_cons (ds_for PassesOwn.never rfl (di_rg1 M.b_range (da_cons (de_callB (k_len K rfl) M.b_len (da_cons (de_var 1) (da_nil))) (da_nil))) (dg_name 11 sc_law_machine.nd)
 (dss_one (ds_expr (dk_mt K rfl m_append PySem.F.plainAttrs_list PySem.F.slot_list_append PySem.F.type_list_append (de_var 10) (da_cons (de_callTy (k_tuple K rfl) M.b_tuple (da_cons (de_lc [("c", 13)] rfl sc_law_machine.nd (di_rg1 M.b_range (da_cons (de_var 5) (da_nil))) (blkOk_by (N := n_law_machine) (sc := defScope s_law_machine) (by decide +kernel)) (fun _ _ _ _ _ => dg_name 13 sc_law_machine.nd) (fun _ _ _ _ _ => dts_nil) (fun _ _ _ _ _ => dk_fn K rfl C_law_cell (hr.mono (by decide)) (da_cons (de_var 0) (da_cons (de_var 3) (da_cons (de_var 4) (da_cons (de_var 2) (da_cons (de_var 6) (da_nil)))))))) (da_nil))) (da_nil))))))
 (dss_one (ds_expr (dk_mt K rfl m_append PySem.F.plainAttrs_list PySem.F.slot_list_append PySem.F.type_list_append (de_var 8) (da_cons (de_callTy (k_tuple K rfl) M.b_tuple (da_cons (de_var 10) (da_nil))) (da_nil))))))))
 (dss_cons (ds_set 12 sc_law_machine.nd (de_callTy (k_tuple K rfl) M.b_tuple (da_cons (de_lc [("q", 9)] rfl sc_law_machine.nd (di_rg1 M.b_range (da_cons (de_var 3) (da_nil))) (blkOk_by (N := n_law_machine) (sc := defScope s_law_machine) (by decide +kernel)) (fun _ _ _ _ _ => dg_name 9 sc_law_machine.nd) (fun _ _ _ _ _ => dts_nil) (fun _ _ _ _ _ => dk_fn K rfl C_law_end (hr.mono (by decide)) (da_cons (de_var 0) (da_cons (de_var 4) (da_cons (de_var 2) (da_cons (de_var 6) (da_nil))))))) (da_nil))))
 (dss_one (ds_ret (de_tup (da_cons (de_str) (da_cons (de_var 1) (da_cons (de_var 7) (da_cons (de_var 4) (da_cons (de_callTy (k_tuple K rfl) M.b_tuple (da_cons (de_var 8) (da_nil))) (da_cons (de_var 12) (da_nil)))))))))))))⟩
abbrev s_law_pairs : Stmt := topS 17
abbrev n_law_pairs : List Str := ["one", "other", "found", "at", "c", "d", "k", "pair"]
theorem sc_law_pairs : FnScope ["one", "other", "found", "at", "c", "d", "k", "pair"] ["one", "other"] (defScope s_law_pairs) := ⟨rfl, rfl, rfl, by decide +kernel, rfl, by decide +kernel, by decide +kernel⟩
noncomputable def f_law_pairs : SEnv → M (Fl × SEnv) := sSeq (sAsg (eLst (aCons (eTup (aCons (eC (.int 0)) (aCons (eC (.int 0)) (aNil)))) (aNil))) (gN 2)) (sSeq (sFor (iRg1M (aCons (eC (.int 60)) (aNil))) (gN 3) (sIf (asB (eOp ltD (eVar 3) (eCall nLen (aCons (eVar 2) (aNil))))) (sSeq (sAsg (eOp ixU (eVar 2) (eVar 3)) (gTupM 2 (gsCons (gN 4) (gsCons (gN 5) (gsNil))))) (sFor (iRg1M (aCons (eCall nLen (aCons (eOp ixU (eVar 0) (eC (.int 1))) (aNil))) (aNil))) (gN 6) (sSeq (sAsg (eTup (aCons (eOp ixU (eOp ixU (eOp ixU (eVar 0) (eC (.int 2))) (eVar 4)) (eVar 6)) (aCons (eOp ixU (eOp ixU (eOp ixU (eVar 1) (eC (.int 2))) (eVar 5)) (eVar 6)) (aNil)))) (gN 7)) (sIf (asB (eOp hasntD (eVar 7) (eVar 2))) (sDrop (eMt "list" mAppend (eVar 2) (aCons (eVar 7) (aNil)))) (sNx))))) (sNx))) (sRet (eCall (nSortT 2 100) (aCons (eVar 2) (aNil)))))
noncomputable def m_law_pairs : List D → M D := bodyM 8 (f_law_pairs)
theorem ok_law_pairs {P : Program} {w : World} {K : PySem.W.Frag} {mg : Str → Option Value} {base : Heap} {f : Addr} {fd : FuncData} (M : GF mg) (F : Fun K "_law_pairs" "_law_pairs" s_law_pairs f fd) :
    FnOk P w K mg base CX0 1 f fd ["one", "other"] (spOf K 2 m_law_pairs) :=
  fn_ok (N := n_law_pairs) F sc_law_pairs fun cdv A outer s H E hr => ⟨_, dss_cons (ds_set 2 sc_law_pairs.nd (de_lst (da_cons (de_tup (da_cons (de_int) (da_cons (de_int) (da_nil)))) (da_nil))))
 (dss_cons (ds_for PassesOwn.never rfl (di_rg1 M.b_range (da_cons (de_int) (da_nil))) (dg_name 3 sc_law_pairs.nd)
 (dss_one (ds_if (dt_cmp o_lt (de_var 3) (de_callB (k_len K rfl) M.b_len (da_cons (de_var 2) (da_nil))))
 (dss_cons (ds_asg (de_ix (k_ix K rfl (hu_of hr)) (de_var 2) (de_var 3)) (dk_tup K rfl rfl (dgs_cons (dg_name 4 sc_law_pairs.nd) (dgs_cons (dg_name 5 sc_law_pairs.nd) (dgs_nil)))))
 (dss_one (ds_for PassesOwn.never rfl (di_rg1 M.b_range (da_cons (de_callB (k_len K rfl) M.b_len (da_cons (de_ix (k_ix K rfl (hu_of hr)) (de_var 0) (de_int)) (da_nil))) (da_nil))) (dg_name 6 sc_law_pairs.nd)
 (dss_cons (ds_set 7 sc_law_pairs.nd (de_tup (da_cons (de_ix (k_ix K rfl (hu_of hr)) (de_ix (k_ix K rfl (hu_of hr)) (de_ix (k_ix K rfl (hu_of hr)) (de_var 0) (de_int)) (de_var 4)) (de_var 6)) (da_cons (de_ix (k_ix K rfl (hu_of hr)) (de_ix (k_ix K rfl (hu_of hr)) (de_ix (k_ix K rfl (hu_of hr)) (de_var 1) (de_int)) (de_var 5)) (de_var 6)) (da_nil)))))
 (dss_one (ds_if (dt_cmp (k_hasnt K rfl hr.units) (de_var 7) (de_var 2))
 (dss_one (ds_expr (dk_mt K rfl m_append PySem.F.plainAttrs_list PySem.F.slot_list_append PySem.F.type_list_append (de_var 2) (da_cons (de_var 7) (da_nil)))))
 (dss_nil)))))))
 (dss_nil))))
 (dss_one (ds_ret (de_callB (k_sortT K rfl (d := 2) (B := 100) (by decide)) M.b_sorted (da_cons (de_var 2) (da_nil))))))⟩
abbrev s_law_goal : Stmt := topS 18
abbrev n_law_goal : List Str := ["machine", "state", "k", "rest"]
theorem sc_law_goal : FnScope ["machine", "state", "k", "rest"] ["machine", "state", "k", "rest"] (defScope s_law_goal) := ⟨rfl, rfl, rfl, by decide +kernel, rfl, by decide +kernel, by decide +kernel⟩
noncomputable def f_law_goal : SEnv → M (Fl × SEnv) := sSeq (sIf (asB (eOp ltD (eVar 1) (eC (.int 0)))) (sRet (eC .non)) (sNx)) (sRet (eOp ixU (eOp ixU (eOp ixU (eOp ixU (eVar 0) (eC (.int 4))) (eVar 1)) (eVar 2)) (eVar 3)))
noncomputable def m_law_goal : List D → M D := bodyM 4 (f_law_goal)
theorem ok_law_goal {P : Program} {w : World} {K : PySem.W.Frag} {mg : Str → Option Value} {base : Heap} {f : Addr} {fd : FuncData} (M : GF mg) (F : Fun K "_law_goal" "_law_goal" s_law_goal f fd) :
    FnOk P w K mg base CX0 1 f fd ["machine", "state", "k", "rest"] (spOf K 4 m_law_goal) :=
  fn_ok (N := n_law_goal) F sc_law_goal fun cdv A outer s H E hr => ⟨_, dss_cons (ds_if (dt_cmp o_lt (de_var 1) (de_int))
 (dss_one (ds_ret (de_non)))
 (dss_nil))
 (dss_one (ds_ret (de_ix (k_ix K rfl (hu_of hr)) (de_ix (k_ix K rfl (hu_of hr)) (de_ix (k_ix K rfl (hu_of hr)) (de_ix (k_ix K rfl (hu_of hr)) (de_var 0) (de_int)) (de_var 1)) (de_var 2)) (de_var 3))))⟩
abbrev s_law_steps : Stmt := topS 19
abbrev n_law_steps : List Str := ["one", "other", "node", "found", "k", "e", "f", "left", "right", "goal"]
theorem sc_law_steps : FnScope ["one", "other", "node", "found", "k", "e", "f", "left", "right", "goal"] ["one", "other", "node"] (defScope s_law_steps) := ⟨rfl, rfl, rfl, by decide +kernel, rfl, by decide +kernel, by decide +kernel⟩
noncomputable def f_law_steps : SEnv → M (Fl × SEnv) := sSeq (sAsg (eLst (aNil)) (gN 3)) (sSeq (sFor (iRg1M (aCons (eCall nLen (aCons (eOp ixU (eVar 0) (eC (.int 1))) (aNil))) (aNil))) (gN 4) (sFor (iAnyM (eCall m_law_pairs (aCons (eVar 0) (aCons (eVar 1) (aNil))))) (gTupM 2 (gsCons (gN 5) (gsCons (gN 6) (gsNil)))) (sIf (bAnd (asB (eOp eqD (eOp ixU (eOp ixU (eOp ixU (eVar 0) (eC (.int 2))) (eVar 5)) (eVar 4)) (eOp ixU (eVar 2) (eC (.int 1))))) (asB (eOp eqD (eOp ixU (eOp ixU (eOp ixU (eVar 1) (eC (.int 2))) (eVar 6)) (eVar 4)) (eOp ixU (eVar 2) (eC (.int 3)))))) (sSeq (sAsg (eCall m_law_goal (aCons (eVar 0) (aCons (eOp ixU (eVar 2) (eC (.int 0))) (aCons (eVar 4) (aCons (eVar 5) (aNil)))))) (gN 7)) (sSeq (sAsg (eCall m_law_goal (aCons (eVar 1) (aCons (eOp ixU (eVar 2) (eC (.int 2))) (aCons (eVar 4) (aCons (eVar 6) (aNil)))))) (gN 8)) (sSeq (sAsg (eC .non) (gN 9)) (sSeq (sIf (bOr (asB (eOp notD (eVar 7) (eC .non))) (asB (eOp notD (eVar 8) (eC .non)))) (sAsg (eTup (aCons (eIf (asB (eOp isD (eVar 7) (eC .non))) (eUn negD (eC (.int 1))) (eOp ixU (eVar 7) (eC (.int 0)))) (aCons (eVar 5) (aCons (eIf (asB (eOp isD (eVar 8) (eC .non))) (eUn negD (eC (.int 1))) (eOp ixU (eVar 8) (eC (.int 0)))) (aCons (eVar 6) (aNil)))))) (gN 9)) (sNx)) (sDrop (eMt "list" mAppend (eVar 3) (aCons (eTup (aCons (eTup (aCons (eVar 4) (aCons (eVar 5) (aCons (eVar 6) (aNil))))) (aCons (eVar 9) (aNil)))) (aNil)))))))) (sNx)))) (sRet (eVar 3)))
noncomputable def m_law_steps : List D → M D := bodyM 10 (f_law_steps)
theorem ok_law_steps {P : Program} {w : World} {K : PySem.W.Frag} {mg : Str → Option Value} {base : Heap} {f : Addr} {fd : FuncData} (M : GF mg) (C_law_goal : Callee P w K mg base "_law_goal" 1 4 ["machine", "state", "k", "rest"] m_law_goal) (C_law_pairs : Callee P w K mg base "_law_pairs" 1 2 ["one", "other"] m_law_pairs) (F : Fun K "_law_steps" "_law_steps" s_law_steps f fd) :
    FnOk P w K mg base CX0 2 f fd ["one", "other", "node"] (spOf K 3 m_law_steps) :=
  fn_ok (N := n_law_steps) F sc_law_steps fun cdv A outer s H E hr => ⟨_, dss_cons (ds_set 3 sc_law_steps.nd (de_lst (da_nil)))
 (dss_cons (ds_for PassesOwn.never rfl (di_rg1 M.b_range (da_cons (de_callB (k_len K rfl) M.b_len (da_cons (de_ix (k_ix K rfl (hu_of hr)) (de_var 0) (de_int)) (da_nil))) (da_nil))) (dg_name 4 sc_law_steps.nd)
 (dss_one (ds_for PassesOwn.never rfl (dk_any K rfl (dk_fn K rfl C_law_pairs (hr.mono (by decide)) (da_cons (de_var 0) (da_cons (de_var 1) (da_nil))))) (dk_tup K rfl rfl (dgs_cons (dg_name 5 sc_law_steps.nd) (dgs_cons (dg_name 6 sc_law_steps.nd) (dgs_nil))))
 (dss_one (ds_if (dt_w (dw_and (dt_cmp (k_eq K rfl hr.units) (de_ix (k_ix K rfl (hu_of hr)) (de_ix (k_ix K rfl (hu_of hr)) (de_ix (k_ix K rfl (hu_of hr)) (de_var 0) (de_int)) (de_var 5)) (de_var 4)) (de_ix (k_ix K rfl (hu_of hr)) (de_var 2) (de_int))) (dw_and1 (dt_cmp (k_eq K rfl hr.units) (de_ix (k_ix K rfl (hu_of hr)) (de_ix (k_ix K rfl (hu_of hr)) (de_ix (k_ix K rfl (hu_of hr)) (de_var 1) (de_int)) (de_var 6)) (de_var 4)) (de_ix (k_ix K rfl (hu_of hr)) (de_var 2) (de_int))))))
 (dss_cons (ds_set 7 sc_law_steps.nd (dk_fn K rfl C_law_goal (hr.mono (by decide)) (da_cons (de_var 0) (da_cons (de_ix (k_ix K rfl (hu_of hr)) (de_var 2) (de_int)) (da_cons (de_var 4) (da_cons (de_var 5) (da_nil)))))))
 (dss_cons (ds_set 8 sc_law_steps.nd (dk_fn K rfl C_law_goal (hr.mono (by decide)) (da_cons (de_var 1) (da_cons (de_ix (k_ix K rfl (hu_of hr)) (de_var 2) (de_int)) (da_cons (de_var 4) (da_cons (de_var 6) (da_nil)))))))
 (dss_cons (ds_set 9 sc_law_steps.nd (de_non))
 (dss_cons (ds_if (dt_w (dw_or (dt_cmp o_isnot (de_var 7) (de_non)) (dw_or1 (dt_cmp o_isnot (de_var 8) (de_non)))))
 (dss_one (ds_set 9 sc_law_steps.nd (de_tup (da_cons (de_if (dt_cmp o_is (de_var 7) (de_non)) (de_un o_neg (de_int)) (de_ix (k_ix K rfl (hu_of hr)) (de_var 7) (de_int))) (da_cons (de_var 5) (da_cons (de_if (dt_cmp o_is (de_var 8) (de_non)) (de_un o_neg (de_int)) (de_ix (k_ix K rfl (hu_of hr)) (de_var 8) (de_int))) (da_cons (de_var 6) (da_nil))))))))
 (dss_nil))
 (dss_one (ds_expr (dk_mt K rfl m_append PySem.F.plainAttrs_list PySem.F.slot_list_append PySem.F.type_list_append (de_var 3) (da_cons (de_tup (da_cons (de_tup (da_cons (de_var 4) (da_cons (de_var 5) (da_cons (de_var 6) (da_nil))))) (da_cons (de_var 9) (da_nil)))) (da_nil)))))))))
 (dss_nil))))))
 (dss_one (ds_ret (de_var 3))))⟩
abbrev s_law_class : Stmt := topS 20
abbrev n_law_class : List Str := ["machine", "text", "c", "sign"]
theorem sc_law_class : FnScope ["machine", "text", "c", "sign"] ["machine", "text"] (defScope s_law_class) := ⟨rfl, rfl, rfl, by decide +kernel, rfl, by decide +kernel, by decide +kernel⟩
noncomputable def f_law_class : SEnv → M (Fl × SEnv) := sSeq (sAsg (eC (.int 0)) (gN 2)) (sSeq (sFor (iAnyM (eRevU (eVar 1))) (gN 3) (sAsg (eOp ixU (eOp ixU (eOp ixU (eVar 0) (eC (.int 2))) (eVar 2)) (eMt "str" mIndexS (eOp ixU (eVar 0) (eC (.int 1))) (aCons (eVar 3) (aNil)))) (gN 2))) (sRet (eVar 2)))
noncomputable def m_law_class : List D → M D := bodyM 4 (f_law_class)
theorem ok_law_class {P : Program} {w : World} {K : PySem.W.Frag} {mg : Str → Option Value} {base : Heap} {f : Addr} {fd : FuncData} (M : GF mg) (F : Fun K "_law_class" "_law_class" s_law_class f fd) :
    FnOk P w K mg base CX0 1 f fd ["machine", "text"] (spOf K 2 m_law_class) :=
  fn_ok (N := n_law_class) F sc_law_class fun cdv A outer s H E hr => ⟨_, dss_cons (ds_set 2 sc_law_class.nd (de_int))
 (dss_cons (ds_for PassesOwn.never rfl (dk_any K rfl (dk_rev K rfl (de_var 1))) (dg_name 3 sc_law_class.nd)
 (dss_one (ds_set 2 sc_law_class.nd (de_ix (k_ix K rfl (hu_of hr)) (de_ix (k_ix K rfl (hu_of hr)) (de_ix (k_ix K rfl (hu_of hr)) (de_var 0) (de_int)) (de_var 2)) (dk_mt K rfl m_indexS PySem.F.plainAttrs_str PySem.F.slot_str_index PySem.F.type_str_index (de_ix (k_ix K rfl (hu_of hr)) (de_var 0) (de_int)) (da_cons (de_var 3) (da_nil)))))))
 (dss_one (ds_ret (de_var 2))))⟩
abbrev s_law_is_plain_row : Stmt := topS 21
abbrev n_law_is_plain_row : List Str := ["thing", "one"]
theorem sc_law_is_plain_row : FnScope ["thing", "one"] ["thing"] (defScope s_law_is_plain_row) := ⟨rfl, rfl, rfl, by decide +kernel, rfl, by decide +kernel, by decide +kernel⟩
noncomputable def f_law_is_plain_row (g_law_is_plain_row : List D → M D) : SEnv → M (Fl × SEnv) := sSeq (sIf (asT (eCall nIsi (aCons (eVar 0) (aCons (eC (.ty "tuple")) (aNil))))) (sRet (eOp eqD (eLc (iAnyM (eVar 0)) (gN 1) (bNot (asT (eCall g_law_is_plain_row (aCons (eVar 1) (aNil))))) (eVar 1) [1]) (eLst (aNil)))) (sNx)) (sRet (eOr (eOp isD (eVar 0) (eC .non)) (eAnd (eCall nIsi (aCons (eVar 0) (aCons (eC (.ty "int")) (aNil)))) (eNot (eCall nIsi (aCons (eVar 0) (aCons (eC (.ty "bool")) (aNil))))))))
noncomputable def r_law_is_plain_row : Nat → List D → M D
  | 0 => fun _ => fail
  | k + 1 => bodyM 2 (f_law_is_plain_row (r_law_is_plain_row k))
noncomputable def m_law_is_plain_row : List D → M D := r_law_is_plain_row 12
theorem step_law_is_plain_row {P : Program} {w : World} {K : PySem.W.Frag} {mg : Str → Option Value} {base : Heap} {f : Addr} {fd : FuncData} (M : GF mg) {k : Nat} (C_law_is_plain_row : Callee P w K mg base "_law_is_plain_row" (0 + k) 1 ["thing"] (r_law_is_plain_row k)) (F : Fun K "_law_is_plain_row" "_law_is_plain_row" s_law_is_plain_row f fd) :
    FnOk P w K mg base CX0 (0 + k + 1) f fd ["thing"] (spOf K 1 (r_law_is_plain_row (k + 1))) :=
  fn_ok (N := n_law_is_plain_row) (fb := f_law_is_plain_row (r_law_is_plain_row k)) F sc_law_is_plain_row fun cdv A outer s H E hr => ⟨_, dss_cons (ds_if (dk_truth K rfl (de_callB (k_isi K rfl) M.b_isinstance (da_cons (de_var 0) (da_cons (de_ty (by rfl) M.b_tuple (by decide +kernel)) (da_nil)))))
 (dss_one (ds_ret (de_cmp (k_eq K rfl hr.units) (de_lc [("one", 1)] rfl sc_law_is_plain_row.nd (dk_any K rfl (de_var 0)) (blkOk_by (N := n_law_is_plain_row) (sc := defScope s_law_is_plain_row) (by decide +kernel)) (fun _ _ _ _ _ => dg_name 1 sc_law_is_plain_row.nd) (fun _ _ _ _ _ => dts_one (dt_not (dk_truth K rfl (dk_fn K rfl C_law_is_plain_row hr (da_cons (de_var 1) (da_nil)))))) (fun _ _ _ _ _ => de_var 1)) (de_lst (da_nil)))))
 (dss_nil))
 (dss_one (ds_ret (de_or (de_cmp o_is (de_var 0) (de_non)) (de_one (de_and (de_callB (k_isi K rfl) M.b_isinstance (da_cons (de_var 0) (da_cons (de_ty (by rfl) M.b_int (by decide +kernel)) (da_nil)))) (de_one (de_not (de_callB (k_isi K rfl) M.b_isinstance (da_cons (de_var 0) (da_cons (de_ty (by rfl) M.b_bool (by decide +kernel)) (da_nil)))))))))))⟩
theorem circle_law_is_plain_row {P : Program} {w : World} {K : PySem.W.Frag} {mg : Str → Option Value} {base : Heap} (M : GF mg) {f_law_is_plain_row1 : Addr} {fd_law_is_plain_row1 : FuncData} (F_law_is_plain_row : Fun K "_law_is_plain_row" "_law_is_plain_row" s_law_is_plain_row f_law_is_plain_row1 fd_law_is_plain_row1) (mg_law_is_plain_row : mg "_law_is_plain_row" = some (.ref f_law_is_plain_row1)) (b_law_is_plain_row : Binds K fd_law_is_plain_row1 ["thing"] []) : ∀ k : Nat, FnOk P w K mg base CX0 (0 + k) f_law_is_plain_row1 fd_law_is_plain_row1 ["thing"] (spOf K 1 (r_law_is_plain_row k))
  | 0 => fn_fail
  | k + 1 => by
    have i_law_is_plain_row := circle_law_is_plain_row (P := P) (w := w) (K := K) (mg := mg) (base := base) M F_law_is_plain_row mg_law_is_plain_row b_law_is_plain_row k
    have C_law_is_plain_row : Callee P w K mg base "_law_is_plain_row" (0 + k) 1 ["thing"] (r_law_is_plain_row k) := ⟨_, _, i_law_is_plain_row, mg_law_is_plain_row, F_law_is_plain_row.kp, b_law_is_plain_row⟩
    exact step_law_is_plain_row M C_law_is_plain_row F_law_is_plain_row
abbrev s_law : Stmt := topS 22
abbrev n_law : List Str := ["script", "draws", "letters", "one", "other", "pairs", "told", "turn", "text", "c", "d", "p", "q", "k"]
theorem sc_law : FnScope ["script", "draws", "letters", "one", "other", "pairs", "told", "turn", "text", "c", "d", "p", "q", "k"] ["script"] (defScope s_law) := ⟨rfl, rfl, rfl, by decide +kernel, rfl, by decide +kernel, by decide +kernel⟩
noncomputable def f_law : SEnv → M (Fl × SEnv) := sSeq (sAsg (eCall m_law_stream (aCons (eVar 0) (aCons (eC (.int 250)) (aNil)))) (gN 1)) (sSeq (sAsg (eOp ixU (eLst (aCons (eC (.str "a")) (aCons (eC (.str "ab")) (aCons (eC (.str "acx")) (aCons (eC (.str "mnxz")) (aNil)))))) (eCall m_law_pick (aCons (eVar 1) (aCons (eC (.int 4)) (aNil))))) (gN 2)) (sSeq (sAsg (eCall m_law_machine (aCons (eVar 1) (aCons (eVar 2) (aCons (eC (.str "ab")) (aCons (eOp addD (eC (.int 1)) (eCall m_law_pick (aCons (eVar 1) (aCons (eC (.int 3)) (aNil))))) (aCons (eCall m_law_pick (aCons (eVar 1) (aCons (eC (.int 3)) (aNil)))) (aCons (eOp addD (eC (.int 1)) (eCall m_law_pick (aCons (eVar 1) (aCons (eC (.int 5)) (aNil))))) (aCons (eC (.int 3)) (aNil))))))))) (gN 3)) (sSeq (sAsg (eCall m_law_machine (aCons (eVar 1) (aCons (eVar 2) (aCons (eC (.str "ab")) (aCons (eOp addD (eC (.int 1)) (eCall m_law_pick (aCons (eVar 1) (aCons (eC (.int 3)) (aNil))))) (aCons (eCall m_law_pick (aCons (eVar 1) (aCons (eC (.int 2)) (aNil)))) (aCons (eOp addD (eC (.int 1)) (eCall m_law_pick (aCons (eVar 1) (aCons (eC (.int 4)) (aNil))))) (aCons (eC (.int 3)) (aNil))))))))) (gN 4)) (sSeq (sAsg (eCall m_law_pairs (aCons (eVar 3) (aCons (eVar 4) (aNil)))) (gN 5)) (sSeq (sAsg (eCall m_class_pairs (aCons (eVar 3) (aCons (eVar 4) (aNil)))) (gN 6)) (sSeq (sIf (bOr (bNot (asT (eCall nIsi (aCons (eVar 6) (aCons (eC (.ty "tuple")) (aNil)))))) (bOr (bNot (asT (eCall m_law_is_plain_row (aCons (eVar 6) (aNil))))) (asB (eOp neD (eVar 6) (eCall nTuple (aCons (eVar 5) (aNil))))))) (sRet (eC (.bl false))) (sNx)) (sSeq (sFor (iRg1M (aCons (eC (.int 8)) (aNil))) (gN 7) (sSeq (sAsg (eMt "str" mJoin (eC (.str "")) (aCons (eLc (iRg1M (aCons (eCall m_law_pick (aCons (eVar 1) (aCons (eC (.int 8)) (aNil)))) (aNil))) (gN 13) (bYes) (eOp ixU (eVar 2) (eCall m_law_pick (aCons (eVar 1) (aCons (eCall nLen (aCons (eVar 2) (aNil))) (aNil))))) [13]) (aNil))) (gN 8)) (sIf (asB (eOp hasntD (eTup (aCons (eCall m_law_class (aCons (eVar 3) (aCons (eVar 8) (aNil)))) (aCons (eCall m_law_class (aCons (eVar 4) (aCons (eVar 8) (aNil)))) (aNil)))) (eCall m_class_pairs (aCons (eVar 3) (aCons (eVar 4) (aNil)))))) (sRet (eC (.bl false))) (sNx)))) (sSeq (sFor (iRg1M (aCons (eC (.int 4)) (aNil))) (gN 7) (sSeq (sAsg (eOp ixU (eVar 5) (eCall m_law_pick (aCons (eVar 1) (aCons (eCall nLen (aCons (eVar 5) (aNil))) (aNil))))) (gTupM 2 (gsCons (gN 9) (gsCons (gN 10) (gsNil))))) (sSeq (sAsg (eOp subD (eCall m_law_pick (aCons (eVar 1) (aCons (eOp addD (eCall nLen (aCons (eOp ixU (eVar 3) (eC (.int 4))) (aNil))) (eC (.int 1))) (aNil)))) (eC (.int 1))) (gN 11)) (sSeq (sAsg (eOp subD (eCall m_law_pick (aCons (eVar 1) (aCons (eOp addD (eCall nLen (aCons (eOp ixU (eVar 4) (eC (.int 4))) (aNil))) (eC (.int 1))) (aNil)))) (eC (.int 1))) (gN 12)) (sSeq (sIf (bAnd (asB (eOp eqD (eVar 11) (eUn negD (eC (.int 1))))) (asB (eOp eqD (eVar 12) (eUn negD (eC (.int 1)))))) (sAsg (eC (.int 0)) (gN 11)) (sNx)) (sSeq (sAsg (eCall m_node_steps (aCons (eVar 3) (aCons (eVar 4) (aCons (eTup (aCons (eVar 11) (aCons (eVar 9) (aCons (eVar 12) (aCons (eVar 10) (aNil)))))) (aNil))))) (gN 6)) (sIf (bOr (bNot (asT (eCall nIsi (aCons (eVar 6) (aCons (eC (.ty "tuple")) (aNil)))))) (bOr (bNot (asT (eCall m_law_is_plain_row (aCons (eVar 6) (aNil))))) (asB (eOp neD (eVar 6) (eCall nTuple (aCons (eCall m_law_steps (aCons (eVar 3) (aCons (eVar 4) (aCons (eTup (aCons (eVar 11) (aCons (eVar 9) (aCons (eVar 12) (aCons (eVar 10) (aNil)))))) (aNil))))) (aNil))))))) (sRet (eC (.bl false))) (sNx)))))))) (sRet (eC (.bl true)))))))))))
noncomputable def m_law : List D → M D := bodyM 14 (f_law)
theorem ok_law {P : Program} {w : World} {K : PySem.W.Frag} {mg : Str → Option Value} {base : Heap} {f : Addr} {fd : FuncData} (M : GF mg) (C_law_class : Callee P w K mg base "_law_class" 1 2 ["machine", "text"] m_law_class) (C_law_is_plain_row : Callee P w K mg base "_law_is_plain_row" 12 1 ["thing"] m_law_is_plain_row) (C_law_machine : Callee P w K mg base "_law_machine" 7 7 ["draws", "letters", "signs", "states", "many", "classes", "stops"] m_law_machine) (C_law_pairs : Callee P w K mg base "_law_pairs" 1 2 ["one", "other"] m_law_pairs) (C_law_pick : Callee P w K mg base "_law_pick" 2 2 ["draws", "many"] m_law_pick) (C_law_steps : Callee P w K mg base "_law_steps" 2 3 ["one", "other", "node"] m_law_steps) (C_law_stream : Callee P w K mg base "_law_stream" 2 2 ["script", "most"] m_law_stream) (C_class_pairs : Callee P w K mg base "class_pairs" 1 2 ["one", "other"] m_class_pairs) (C_node_steps : Callee P w K mg base "node_steps" 3 3 ["one", "other", "node"] m_node_steps) (F : Fun K "law" "law" s_law f fd) :
    FnOk P w K mg base CX0 13 f fd ["script"] (spOf K 1 m_law) :=
  fn_ok (N := n_law) F sc_law fun cdv A outer s H E hr => ⟨_, dss_cons (ds_set 1 sc_law.nd (dk_fn K rfl C_law_stream (hr.mono (by decide)) (da_cons (de_var 0) (da_cons (de_int) (da_nil)))))
 (dss_cons (ds_set 2 sc_law.nd (de_ix (k_ix K rfl (hu_of hr)) (de_lst (da_cons (de_str) (da_cons (de_str) (da_cons (de_str) (da_cons (de_str) (da_nil)))))) (dk_fn K rfl C_law_pick (hr.mono (by decide)) (da_cons (de_var 1) (da_cons (de_int) (da_nil))))))
 (dss_cons (ds_set 3 sc_law.nd (dk_fn K rfl C_law_machine (hr.mono (by decide)) (da_cons (de_var 1) (da_cons (de_var 2) (da_cons (de_str) (da_cons (de_op (k_add K rfl) (de_int) (dk_fn K rfl C_law_pick (hr.mono (by decide)) (da_cons (de_var 1) (da_cons (de_int) (da_nil))))) (da_cons (dk_fn K rfl C_law_pick (hr.mono (by decide)) (da_cons (de_var 1) (da_cons (de_int) (da_nil)))) (da_cons (de_op (k_add K rfl) (de_int) (dk_fn K rfl C_law_pick (hr.mono (by decide)) (da_cons (de_var 1) (da_cons (de_int) (da_nil))))) (da_cons (de_int) (da_nil)))))))) (hn := aCons_len (aCons_len (aCons_len (aCons_len (aCons_len (aCons_len (aCons_len (aNil_len))))))))))
 (dss_cons (ds_set 4 sc_law.nd (dk_fn K rfl C_law_machine (hr.mono (by decide)) (da_cons (de_var 1) (da_cons (de_var 2) (da_cons (de_str) (da_cons (de_op (k_add K rfl) (de_int) (dk_fn K rfl C_law_pick (hr.mono (by decide)) (da_cons (de_var 1) (da_cons (de_int) (da_nil))))) (da_cons (dk_fn K rfl C_law_pick (hr.mono (by decide)) (da_cons (de_var 1) (da_cons (de_int) (da_nil)))) (da_cons (de_op (k_add K rfl) (de_int) (dk_fn K rfl C_law_pick (hr.mono (by decide)) (da_cons (de_var 1) (da_cons (de_int) (da_nil))))) (da_cons (de_int) (da_nil)))))))) (hn := aCons_len (aCons_len (aCons_len (aCons_len (aCons_len (aCons_len (aCons_len (aNil_len))))))))))
 (dss_cons (ds_set 5 sc_law.nd (dk_fn K rfl C_law_pairs (hr.mono (by decide)) (da_cons (de_var 3) (da_cons (de_var 4) (da_nil)))))
 (dss_cons (ds_set 6 sc_law.nd (dk_fn K rfl C_class_pairs (hr.mono (by decide)) (da_cons (de_var 3) (da_cons (de_var 4) (da_nil)))))
 (dss_cons (ds_if (dt_w (dw_or (dt_not (dk_truth K rfl (de_callB (k_isi K rfl) M.b_isinstance (da_cons (de_var 6) (da_cons (de_ty (by rfl) M.b_tuple (by decide +kernel)) (da_nil)))))) (dw_or (dt_not (dk_truth K rfl (dk_fn K rfl C_law_is_plain_row (hr.mono (by decide)) (da_cons (de_var 6) (da_nil))))) (dw_or1 (dt_cmp (k_ne K rfl hr.units) (de_var 6) (de_callTy (k_tuple K rfl) M.b_tuple (da_cons (de_var 5) (da_nil))))))))
 (dss_one (ds_ret (de_bl)))
 (dss_nil))
 (dss_cons (ds_for PassesOwn.never rfl (di_rg1 M.b_range (da_cons (de_int) (da_nil))) (dg_name 7 sc_law.nd)
 (dss_cons (ds_set 8 sc_law.nd (dk_mt K rfl m_join PySem.F.plainAttrs_str PySem.F.slot_str_join PySem.F.type_str_join (de_str) (da_cons (de_lc [("k", 13)] rfl sc_law.nd (di_rg1 M.b_range (da_cons (dk_fn K rfl C_law_pick (hr.mono (by decide)) (da_cons (de_var 1) (da_cons (de_int) (da_nil)))) (da_nil))) (blkOk_by (N := n_law) (sc := defScope s_law) (by decide +kernel)) (fun _ _ _ _ _ => dg_name 13 sc_law.nd) (fun _ _ _ _ _ => dts_nil) (fun _ _ _ _ _ => de_ix (k_ix K rfl (hu_of hr)) (de_var 2) (dk_fn K rfl C_law_pick (hr.mono (by decide)) (da_cons (de_var 1) (da_cons (de_callB (k_len K rfl) M.b_len (da_cons (de_var 2) (da_nil))) (da_nil)))))) (da_nil))))
 (dss_one (ds_if (dt_cmp (k_hasnt K rfl hr.units) (de_tup (da_cons (dk_fn K rfl C_law_class (hr.mono (by decide)) (da_cons (de_var 3) (da_cons (de_var 8) (da_nil)))) (da_cons (dk_fn K rfl C_law_class (hr.mono (by decide)) (da_cons (de_var 4) (da_cons (de_var 8) (da_nil)))) (da_nil)))) (dk_fn K rfl C_class_pairs (hr.mono (by decide)) (da_cons (de_var 3) (da_cons (de_var 4) (da_nil)))))
 (dss_one (ds_ret (de_bl)))
 (dss_nil)))))
 (dss_cons (ds_for PassesOwn.never rfl (di_rg1 M.b_range (da_cons (de_int) (da_nil))) (dg_name 7 sc_law.nd)
 (dss_cons (ds_asg (de_ix (k_ix K rfl (hu_of hr)) (de_var 5) (dk_fn K rfl C_law_pick (hr.mono (by decide)) (da_cons (de_var 1) (da_cons (de_callB (k_len K rfl) M.b_len (da_cons (de_var 5) (da_nil))) (da_nil))))) (dk_tup K rfl rfl (dgs_cons (dg_name 9 sc_law.nd) (dgs_cons (dg_name 10 sc_law.nd) (dgs_nil)))))
 (dss_cons (ds_set 11 sc_law.nd (de_op o_sub (dk_fn K rfl C_law_pick (hr.mono (by decide)) (da_cons (de_var 1) (da_cons (de_op (k_add K rfl) (de_callB (k_len K rfl) M.b_len (da_cons (de_ix (k_ix K rfl (hu_of hr)) (de_var 3) (de_int)) (da_nil))) (de_int)) (da_nil)))) (de_int)))
 (dss_cons (ds_set 12 sc_law.nd (de_op o_sub (dk_fn K rfl C_law_pick (hr.mono (by decide)) (da_cons (de_var 1) (da_cons (de_op (k_add K rfl) (de_callB (k_len K rfl) M.b_len (da_cons (de_ix (k_ix K rfl (hu_of hr)) (de_var 4) (de_int)) (da_nil))) (de_int)) (da_nil)))) (de_int)))
 (dss_cons (ds_if (dt_w (dw_and (dt_cmp (k_eq K rfl hr.units) (de_var 11) (de_un o_neg (de_int))) (dw_and1 (dt_cmp (k_eq K rfl hr.units) (de_var 12) (de_un o_neg (de_int))))))
 (dss_one (ds_set 11 sc_law.nd (de_int)))
 (dss_nil))
 (dss_cons (ds_set 6 sc_law.nd (dk_fn K rfl C_node_steps (hr.mono (by decide)) (da_cons (de_var 3) (da_cons (de_var 4) (da_cons (de_tup (da_cons (de_var 11) (da_cons (de_var 9) (da_cons (de_var 12) (da_cons (de_var 10) (da_nil)))))) (da_nil))))))
 (dss_one (ds_if (dt_w (dw_or (dt_not (dk_truth K rfl (de_callB (k_isi K rfl) M.b_isinstance (da_cons (de_var 6) (da_cons (de_ty (by rfl) M.b_tuple (by decide +kernel)) (da_nil)))))) (dw_or (dt_not (dk_truth K rfl (dk_fn K rfl C_law_is_plain_row (hr.mono (by decide)) (da_cons (de_var 6) (da_nil))))) (dw_or1 (dt_cmp (k_ne K rfl hr.units) (de_var 6) (de_callTy (k_tuple K rfl) M.b_tuple (da_cons (dk_fn K rfl C_law_steps (hr.mono (by decide)) (da_cons (de_var 3) (da_cons (de_var 4) (da_cons (de_tup (da_cons (de_var 11) (da_cons (de_var 9) (da_cons (de_var 12) (da_cons (de_var 10) (da_nil)))))) (da_nil))))) (da_nil))))))))
 (dss_one (ds_ret (de_bl)))
 (dss_nil)))))))))
 (dss_one (ds_ret (de_bl)))))))))))⟩
theorem all_ok {P : Program} {w : World} {K : PySem.W.Frag} {h : Heap} {mg : Str → Option Value} {fa : Addr} (X : K.In h) (G : h.Ns mainGlobals mg) (hfa : mg "law" = some (.ref fa))
    {f0 : Addr} {od0 an0 : Option Addr} {sl0 : Array (Option Value)} {oc0 kV0 dc0 pm0 cd0 ct0 : Value}
    (a0 : PySem.W.nsIn K mainGlobals "class_pairs" = some (some (.ref f0))) (l0 : K.lookup f0 = some ⟨oc0, od0, .func (PySem.W.fnOf "class_pairs" "class_pairs" (defArgs s_class_pairs) (defBody s_class_pairs) (defScope s_class_pairs) .none kV0 dc0 pm0 an0 cd0 ct0), sl0⟩) (c0 : PySem.W.codeIn K cd0 "class_pairs" = true) (k0 : PySem.W.keepIn K (.ref f0) = true)
    {f1 : Addr} {od1 an1 : Option Addr} {sl1 : Array (Option Value)} {oc1 kV1 dc1 pm1 cd1 ct1 : Value}
    (a1 : PySem.W.nsIn K mainGlobals "steps_by_pair" = some (some (.ref f1))) (l1 : K.lookup f1 = some ⟨oc1, od1, .func (PySem.W.fnOf "steps_by_pair" "steps_by_pair" (defArgs s_steps_by_pair) (defBody s_steps_by_pair) (defScope s_steps_by_pair) .none kV1 dc1 pm1 an1 cd1 ct1), sl1⟩) (c1 : PySem.W.codeIn K cd1 "steps_by_pair" = true) (k1 : PySem.W.keepIn K (.ref f1) = true)
    {f2 : Addr} {od2 an2 : Option Addr} {sl2 : Array (Option Value)} {oc2 kV2 dc2 pm2 cd2 ct2 : Value}
    (a2 : PySem.W.nsIn K mainGlobals "entry_of" = some (some (.ref f2))) (l2 : K.lookup f2 = some ⟨oc2, od2, .func (PySem.W.fnOf "entry_of" "entry_of" (defArgs s_entry_of) (defBody s_entry_of) (defScope s_entry_of) .none kV2 dc2 pm2 an2 cd2 ct2), sl2⟩) (c2 : PySem.W.codeIn K cd2 "entry_of" = true) (k2 : PySem.W.keepIn K (.ref f2) = true)
    {f3 : Addr} {od3 an3 : Option Addr} {sl3 : Array (Option Value)} {oc3 kV3 dc3 pm3 cd3 ct3 : Value}
    (a3 : PySem.W.nsIn K mainGlobals "steps_behind" = some (some (.ref f3))) (l3 : K.lookup f3 = some ⟨oc3, od3, .func (PySem.W.fnOf "steps_behind" "steps_behind" (defArgs s_steps_behind) (defBody s_steps_behind) (defScope s_steps_behind) .none kV3 dc3 pm3 an3 cd3 ct3), sl3⟩) (c3 : PySem.W.codeIn K cd3 "steps_behind" = true) (k3 : PySem.W.keepIn K (.ref f3) = true)
    {f4 : Addr} {od4 an4 : Option Addr} {sl4 : Array (Option Value)} {oc4 kV4 dc4 pm4 cd4 ct4 : Value}
    (a4 : PySem.W.nsIn K mainGlobals "node_steps" = some (some (.ref f4))) (l4 : K.lookup f4 = some ⟨oc4, od4, .func (PySem.W.fnOf "node_steps" "node_steps" (defArgs s_node_steps) (defBody s_node_steps) (defScope s_node_steps) .none kV4 dc4 pm4 an4 cd4 ct4), sl4⟩) (c4 : PySem.W.codeIn K cd4 "node_steps" = true) (k4 : PySem.W.keepIn K (.ref f4) = true)
    {f5 : Addr} {od5 an5 : Option Addr} {sl5 : Array (Option Value)} {oc5 kV5 dc5 pm5 cd5 ct5 : Value}
    (a5 : PySem.W.nsIn K mainGlobals "_law_mix" = some (some (.ref f5))) (l5 : K.lookup f5 = some ⟨oc5, od5, .func (PySem.W.fnOf "_law_mix" "_law_mix" (defArgs s_law_mix) (defBody s_law_mix) (defScope s_law_mix) .none kV5 dc5 pm5 an5 cd5 ct5), sl5⟩) (c5 : PySem.W.codeIn K cd5 "_law_mix" = true) (k5 : PySem.W.keepIn K (.ref f5) = true)
    {f6 : Addr} {od6 an6 : Option Addr} {sl6 : Array (Option Value)} {oc6 kV6 dc6 pm6 cd6 ct6 : Value}
    (a6 : PySem.W.nsIn K mainGlobals "_law_stream" = some (some (.ref f6))) (l6 : K.lookup f6 = some ⟨oc6, od6, .func (PySem.W.fnOf "_law_stream" "_law_stream" (defArgs s_law_stream) (defBody s_law_stream) (defScope s_law_stream) .none kV6 dc6 pm6 an6 cd6 ct6), sl6⟩) (c6 : PySem.W.codeIn K cd6 "_law_stream" = true) (k6 : PySem.W.keepIn K (.ref f6) = true)
    {f7 : Addr} {od7 an7 : Option Addr} {sl7 : Array (Option Value)} {oc7 kV7 dc7 pm7 cd7 ct7 : Value}
    (a7 : PySem.W.nsIn K mainGlobals "_law_pick" = some (some (.ref f7))) (l7 : K.lookup f7 = some ⟨oc7, od7, .func (PySem.W.fnOf "_law_pick" "_law_pick" (defArgs s_law_pick) (defBody s_law_pick) (defScope s_law_pick) .none kV7 dc7 pm7 an7 cd7 ct7), sl7⟩) (c7 : PySem.W.codeIn K cd7 "_law_pick" = true) (k7 : PySem.W.keepIn K (.ref f7) = true)
    {f8 : Addr} {od8 an8 : Option Addr} {sl8 : Array (Option Value)} {oc8 kV8 dc8 pm8 cd8 ct8 : Value}
    (a8 : PySem.W.nsIn K mainGlobals "_law_string" = some (some (.ref f8))) (l8 : K.lookup f8 = some ⟨oc8, od8, .func (PySem.W.fnOf "_law_string" "_law_string" (defArgs s_law_string) (defBody s_law_string) (defScope s_law_string) .none kV8 dc8 pm8 an8 cd8 ct8), sl8⟩) (c8 : PySem.W.codeIn K cd8 "_law_string" = true) (k8 : PySem.W.keepIn K (.ref f8) = true)
    {f9 : Addr} {od9 an9 : Option Addr} {sl9 : Array (Option Value)} {oc9 kV9 dc9 pm9 cd9 ct9 : Value}
    (a9 : PySem.W.nsIn K mainGlobals "_law_row" = some (some (.ref f9))) (l9 : K.lookup f9 = some ⟨oc9, od9, .func (PySem.W.fnOf "_law_row" "_law_row" (defArgs s_law_row) (defBody s_law_row) (defScope s_law_row) .none kV9 dc9 pm9 an9 cd9 ct9), sl9⟩) (c9 : PySem.W.codeIn K cd9 "_law_row" = true) (k9 : PySem.W.keepIn K (.ref f9) = true)
    {f10 : Addr} {od10 an10 : Option Addr} {sl10 : Array (Option Value)} {oc10 kV10 dc10 pm10 cd10 ct10 : Value}
    (a10 : PySem.W.nsIn K mainGlobals "_law_news" = some (some (.ref f10))) (l10 : K.lookup f10 = some ⟨oc10, od10, .func (PySem.W.fnOf "_law_news" "_law_news" (defArgs s_law_news) (defBody s_law_news) (defScope s_law_news) .none kV10 dc10 pm10 an10 cd10 ct10), sl10⟩) (c10 : PySem.W.codeIn K cd10 "_law_news" = true) (k10 : PySem.W.keepIn K (.ref f10) = true)
    {f11 : Addr} {od11 an11 : Option Addr} {sl11 : Array (Option Value)} {oc11 kV11 dc11 pm11 cd11 ct11 : Value}
    (a11 : PySem.W.nsIn K mainGlobals "_law_cell" = some (some (.ref f11))) (l11 : K.lookup f11 = some ⟨oc11, od11, .func (PySem.W.fnOf "_law_cell" "_law_cell" (defArgs s_law_cell) (defBody s_law_cell) (defScope s_law_cell) .none kV11 dc11 pm11 an11 cd11 ct11), sl11⟩) (c11 : PySem.W.codeIn K cd11 "_law_cell" = true) (k11 : PySem.W.keepIn K (.ref f11) = true)
    {f12 : Addr} {od12 an12 : Option Addr} {sl12 : Array (Option Value)} {oc12 kV12 dc12 pm12 cd12 ct12 : Value}
    (a12 : PySem.W.nsIn K mainGlobals "_law_end" = some (some (.ref f12))) (l12 : K.lookup f12 = some ⟨oc12, od12, .func (PySem.W.fnOf "_law_end" "_law_end" (defArgs s_law_end) (defBody s_law_end) (defScope s_law_end) .none kV12 dc12 pm12 an12 cd12 ct12), sl12⟩) (c12 : PySem.W.codeIn K cd12 "_law_end" = true) (k12 : PySem.W.keepIn K (.ref f12) = true)
    {f13 : Addr} {od13 an13 : Option Addr} {sl13 : Array (Option Value)} {oc13 kV13 dc13 pm13 cd13 ct13 : Value}
    (a13 : PySem.W.nsIn K mainGlobals "_law_machine" = some (some (.ref f13))) (l13 : K.lookup f13 = some ⟨oc13, od13, .func (PySem.W.fnOf "_law_machine" "_law_machine" (defArgs s_law_machine) (defBody s_law_machine) (defScope s_law_machine) .none kV13 dc13 pm13 an13 cd13 ct13), sl13⟩) (c13 : PySem.W.codeIn K cd13 "_law_machine" = true) (k13 : PySem.W.keepIn K (.ref f13) = true)
    {f14 : Addr} {od14 an14 : Option Addr} {sl14 : Array (Option Value)} {oc14 kV14 dc14 pm14 cd14 ct14 : Value}
    (a14 : PySem.W.nsIn K mainGlobals "_law_pairs" = some (some (.ref f14))) (l14 : K.lookup f14 = some ⟨oc14, od14, .func (PySem.W.fnOf "_law_pairs" "_law_pairs" (defArgs s_law_pairs) (defBody s_law_pairs) (defScope s_law_pairs) .none kV14 dc14 pm14 an14 cd14 ct14), sl14⟩) (c14 : PySem.W.codeIn K cd14 "_law_pairs" = true) (k14 : PySem.W.keepIn K (.ref f14) = true)
    {f15 : Addr} {od15 an15 : Option Addr} {sl15 : Array (Option Value)} {oc15 kV15 dc15 pm15 cd15 ct15 : Value}
    (a15 : PySem.W.nsIn K mainGlobals "_law_goal" = some (some (.ref f15))) (l15 : K.lookup f15 = some ⟨oc15, od15, .func (PySem.W.fnOf "_law_goal" "_law_goal" (defArgs s_law_goal) (defBody s_law_goal) (defScope s_law_goal) .none kV15 dc15 pm15 an15 cd15 ct15), sl15⟩) (c15 : PySem.W.codeIn K cd15 "_law_goal" = true) (k15 : PySem.W.keepIn K (.ref f15) = true)
    {f16 : Addr} {od16 an16 : Option Addr} {sl16 : Array (Option Value)} {oc16 kV16 dc16 pm16 cd16 ct16 : Value}
    (a16 : PySem.W.nsIn K mainGlobals "_law_steps" = some (some (.ref f16))) (l16 : K.lookup f16 = some ⟨oc16, od16, .func (PySem.W.fnOf "_law_steps" "_law_steps" (defArgs s_law_steps) (defBody s_law_steps) (defScope s_law_steps) .none kV16 dc16 pm16 an16 cd16 ct16), sl16⟩) (c16 : PySem.W.codeIn K cd16 "_law_steps" = true) (k16 : PySem.W.keepIn K (.ref f16) = true)
    {f17 : Addr} {od17 an17 : Option Addr} {sl17 : Array (Option Value)} {oc17 kV17 dc17 pm17 cd17 ct17 : Value}
    (a17 : PySem.W.nsIn K mainGlobals "_law_class" = some (some (.ref f17))) (l17 : K.lookup f17 = some ⟨oc17, od17, .func (PySem.W.fnOf "_law_class" "_law_class" (defArgs s_law_class) (defBody s_law_class) (defScope s_law_class) .none kV17 dc17 pm17 an17 cd17 ct17), sl17⟩) (c17 : PySem.W.codeIn K cd17 "_law_class" = true) (k17 : PySem.W.keepIn K (.ref f17) = true)
    {f18 : Addr} {od18 an18 : Option Addr} {sl18 : Array (Option Value)} {oc18 kV18 dc18 pm18 cd18 ct18 : Value}
    (a18 : PySem.W.nsIn K mainGlobals "_law_is_plain_row" = some (some (.ref f18))) (l18 : K.lookup f18 = some ⟨oc18, od18, .func (PySem.W.fnOf "_law_is_plain_row" "_law_is_plain_row" (defArgs s_law_is_plain_row) (defBody s_law_is_plain_row) (defScope s_law_is_plain_row) .none kV18 dc18 pm18 an18 cd18 ct18), sl18⟩) (c18 : PySem.W.codeIn K cd18 "_law_is_plain_row" = true) (k18 : PySem.W.keepIn K (.ref f18) = true)
    {f19 : Addr} {od19 an19 : Option Addr} {sl19 : Array (Option Value)} {oc19 kV19 dc19 pm19 cd19 ct19 : Value}
    (a19 : PySem.W.nsIn K mainGlobals "law" = some (some (.ref f19))) (l19 : K.lookup f19 = some ⟨oc19, od19, .func (PySem.W.fnOf "law" "law" (defArgs s_law) (defBody s_law) (defScope s_law) .none kV19 dc19 pm19 an19 cd19 ct19), sl19⟩) (c19 : PySem.W.codeIn K cd19 "law" = true) (k19 : PySem.W.keepIn K (.ref f19) = true)
    (z0 : PySem.W.nsIn K mainGlobals "bool" = some none) (z1 : PySem.W.nsIn K mainGlobals "enumerate" = some none) (z2 : PySem.W.nsIn K mainGlobals "int" = some none) (z3 : PySem.W.nsIn K mainGlobals "isinstance" = some none) (z4 : PySem.W.nsIn K mainGlobals "len" = some none) (z5 : PySem.W.nsIn K mainGlobals "min" = some none) (z6 : PySem.W.nsIn K mainGlobals "range" = some none) (z7 : PySem.W.nsIn K mainGlobals "sorted" = some none) (z8 : PySem.W.nsIn K mainGlobals "sum" = some none) (z9 : PySem.W.nsIn K mainGlobals "tuple" = some none) (z10 : PySem.W.nsIn K mainGlobals "zip" = some none) (y0 : ∃ t, PySem.W.nsIn K mainGlobals "STOPPED" = some (some (.int (-1) t))) :
    ∃ fd : FuncData, (∀ (s : Shared) (v : Value), BindsTo s fd ⟨[v], []⟩ [("script", v)]) ∧ ∀ base : Heap, K.In base → base.Ns mainGlobals mg → FnOk P w K mg base CX0 13 fa fd ["script"] (spOf K 1 m_law) := by
  have e := hfa.symm.trans (PySem.W.mg_of X G a19)
  cases e
  have F0 := fun_mk (st := s_class_pairs) l0 c0 k0
  have b0 := F0.binds (ps := ["one", "other"]) fun _ _ _ _ _ _ us hl => match us, hl with | [_, _], _ => rfl
  have F1 := fun_mk (st := s_steps_by_pair) l1 c1 k1
  have b1 := F1.binds (ps := ["one", "other"]) fun _ _ _ _ _ _ us hl => match us, hl with | [_, _], _ => rfl
  have F2 := fun_mk (st := s_entry_of) l2 c2 k2
  have b2 := F2.binds (ps := ["boxes", "state", "k", "number"]) fun _ _ _ _ _ _ us hl => match us, hl with | [_, _, _, _], _ => rfl
  have F3 := fun_mk (st := s_steps_behind) l3 c3 k3
  have b3 := F3.binds (ps := ["one", "other", "node", "steps"]) fun _ _ _ _ _ _ us hl => match us, hl with | [_, _, _, _], _ => rfl
  have F4 := fun_mk (st := s_node_steps) l4 c4 k4
  have b4 := F4.binds (ps := ["one", "other", "node"]) fun _ _ _ _ _ _ us hl => match us, hl with | [_, _, _], _ => rfl
  have F5 := fun_mk (st := s_law_mix) l5 c5 k5
  have b5 := F5.binds (ps := ["cell", "k"]) fun _ _ _ _ _ _ us hl => match us, hl with | [_, _], _ => rfl
  have F6 := fun_mk (st := s_law_stream) l6 c6 k6
  have b6 := F6.binds (ps := ["script", "most"]) fun _ _ _ _ _ _ us hl => match us, hl with | [_, _], _ => rfl
  have F7 := fun_mk (st := s_law_pick) l7 c7 k7
  have b7 := F7.binds (ps := ["draws", "many"]) fun _ _ _ _ _ _ us hl => match us, hl with | [_, _], _ => rfl
  have F8 := fun_mk (st := s_law_string) l8 c8 k8
  have b8 := F8.binds (ps := ["draws", "signs"]) fun _ _ _ _ _ _ us hl => match us, hl with | [_, _], _ => rfl
  have F9 := fun_mk (st := s_law_row) l9 c9 k9
  have b9 := F9.binds (ps := ["draws", "boxes", "signs"]) fun _ _ _ _ _ _ us hl => match us, hl with | [_, _, _], _ => rfl
  have F10 := fun_mk (st := s_law_news) l10 c10 k10
  have b10 := F10.binds (ps := ["draws", "many", "signs"]) fun _ _ _ _ _ _ us hl => match us, hl with | [_, _, _], _ => rfl
  have F11 := fun_mk (st := s_law_cell) l11 c11 k11
  have b11 := F11.binds (ps := ["draws", "states", "many", "signs", "stops"]) fun _ _ _ _ _ _ us hl => match us, hl with | [_, _, _, _, _], _ => rfl
  have F12 := fun_mk (st := s_law_end) l12 c12 k12
  have b12 := F12.binds (ps := ["draws", "many", "signs", "stops"]) fun _ _ _ _ _ _ us hl => match us, hl with | [_, _, _, _], _ => rfl
  have F13 := fun_mk (st := s_law_machine) l13 c13 k13
  have b13 := F13.binds (ps := ["draws", "letters", "signs", "states", "many", "classes", "stops"]) fun _ _ _ _ _ _ us hl => match us, hl with | [_, _, _, _, _, _, _], _ => rfl
  have F14 := fun_mk (st := s_law_pairs) l14 c14 k14
  have b14 := F14.binds (ps := ["one", "other"]) fun _ _ _ _ _ _ us hl => match us, hl with | [_, _], _ => rfl
  have F15 := fun_mk (st := s_law_goal) l15 c15 k15
  have b15 := F15.binds (ps := ["machine", "state", "k", "rest"]) fun _ _ _ _ _ _ us hl => match us, hl with | [_, _, _, _], _ => rfl
  have F16 := fun_mk (st := s_law_steps) l16 c16 k16
  have b16 := F16.binds (ps := ["one", "other", "node"]) fun _ _ _ _ _ _ us hl => match us, hl with | [_, _, _], _ => rfl
  have F17 := fun_mk (st := s_law_class) l17 c17 k17
  have b17 := F17.binds (ps := ["machine", "text"]) fun _ _ _ _ _ _ us hl => match us, hl with | [_, _], _ => rfl
  have F18 := fun_mk (st := s_law_is_plain_row) l18 c18 k18
  have b18 := F18.binds (ps := ["thing"]) fun _ _ _ _ _ _ us hl => match us, hl with | [_], _ => rfl
  have F19 := fun_mk (st := s_law) l19 c19 k19
  have b19 := F19.binds (ps := ["script"]) fun _ _ _ _ _ _ us hl => match us, hl with | [_], _ => rfl
  refine ⟨PySem.W.fnOf "law" "law" (defArgs s_law) (defBody s_law) (defScope s_law) .none kV19 dc19 pm19 an19 cd19 ct19, fun s v => .of_eq rfl, fun base KB GB => ?_⟩
  have M : GF mg := ⟨PySem.W.mg_none_of X G z0, PySem.W.mg_none_of X G z1, PySem.W.mg_none_of X G z2, PySem.W.mg_none_of X G z3, PySem.W.mg_none_of X G z4, PySem.W.mg_none_of X G z5, PySem.W.mg_none_of X G z6, PySem.W.mg_none_of X G z7, PySem.W.mg_none_of X G z8, PySem.W.mg_none_of X G z9, PySem.W.mg_none_of X G z10, (let ⟨t, e⟩ := y0; ⟨t, PySem.W.mg_of X G e⟩)⟩
  have C_class_pairs : Callee P w K mg base "class_pairs" _ _ _ m_class_pairs := ⟨_, _, ok_class_pairs M F0, PySem.W.mg_of X G a0, F0.kp, b0⟩
  have C_steps_by_pair : Callee P w K mg base "steps_by_pair" _ _ _ m_steps_by_pair := ⟨_, _, ok_steps_by_pair M C_class_pairs F1, PySem.W.mg_of X G a1, F1.kp, b1⟩
  have C_entry_of : Callee P w K mg base "entry_of" _ _ _ m_entry_of := ⟨_, _, ok_entry_of M F2, PySem.W.mg_of X G a2, F2.kp, b2⟩
  have C_steps_behind : Callee P w K mg base "steps_behind" _ _ _ m_steps_behind := ⟨_, _, ok_steps_behind M C_entry_of F3, PySem.W.mg_of X G a3, F3.kp, b3⟩
  have C_node_steps : Callee P w K mg base "node_steps" _ _ _ m_node_steps := ⟨_, _, ok_node_steps M C_steps_behind C_steps_by_pair F4, PySem.W.mg_of X G a4, F4.kp, b4⟩
  have C_law_mix : Callee P w K mg base "_law_mix" _ _ _ m_law_mix := ⟨_, _, ok_law_mix M F5, PySem.W.mg_of X G a5, F5.kp, b5⟩
  have C_law_stream : Callee P w K mg base "_law_stream" _ _ _ m_law_stream := ⟨_, _, ok_law_stream M C_law_mix F6, PySem.W.mg_of X G a6, F6.kp, b6⟩
  have C_law_pick : Callee P w K mg base "_law_pick" _ _ _ m_law_pick := ⟨_, _, ok_law_pick M C_law_mix F7, PySem.W.mg_of X G a7, F7.kp, b7⟩
  have C_law_string : Callee P w K mg base "_law_string" _ _ _ m_law_string := ⟨_, _, ok_law_string M C_law_pick F8, PySem.W.mg_of X G a8, F8.kp, b8⟩
  have C_law_row : Callee P w K mg base "_law_row" _ _ _ m_law_row := ⟨_, _, ok_law_row M C_law_string F9, PySem.W.mg_of X G a9, F9.kp, b9⟩
  have C_law_news : Callee P w K mg base "_law_news" _ _ _ m_law_news := ⟨_, _, ok_law_news M C_law_pick C_law_row F10, PySem.W.mg_of X G a10, F10.kp, b10⟩
  have C_law_cell : Callee P w K mg base "_law_cell" _ _ _ m_law_cell := ⟨_, _, ok_law_cell M C_law_news C_law_pick F11, PySem.W.mg_of X G a11, F11.kp, b11⟩
  have C_law_end : Callee P w K mg base "_law_end" _ _ _ m_law_end := ⟨_, _, ok_law_end M C_law_pick C_law_row F12, PySem.W.mg_of X G a12, F12.kp, b12⟩
  have C_law_machine : Callee P w K mg base "_law_machine" _ _ _ m_law_machine := ⟨_, _, ok_law_machine M C_law_cell C_law_end C_law_pick F13, PySem.W.mg_of X G a13, F13.kp, b13⟩
  have C_law_pairs : Callee P w K mg base "_law_pairs" _ _ _ m_law_pairs := ⟨_, _, ok_law_pairs M F14, PySem.W.mg_of X G a14, F14.kp, b14⟩
  have C_law_goal : Callee P w K mg base "_law_goal" _ _ _ m_law_goal := ⟨_, _, ok_law_goal M F15, PySem.W.mg_of X G a15, F15.kp, b15⟩
  have C_law_steps : Callee P w K mg base "_law_steps" _ _ _ m_law_steps := ⟨_, _, ok_law_steps M C_law_goal C_law_pairs F16, PySem.W.mg_of X G a16, F16.kp, b16⟩
  have C_law_class : Callee P w K mg base "_law_class" _ _ _ m_law_class := ⟨_, _, ok_law_class M F17, PySem.W.mg_of X G a17, F17.kp, b17⟩
  have R_law_is_plain_row := circle_law_is_plain_row (P := P) (w := w) (base := base) M F18 (PySem.W.mg_of X G a18) b18 12
  have C_law_is_plain_row : Callee P w K mg base "_law_is_plain_row" _ _ _ m_law_is_plain_row := ⟨_, _, R_law_is_plain_row, PySem.W.mg_of X G a18, F18.kp, b18⟩
  exact ok_law M C_law_class C_law_is_plain_row C_law_machine C_law_pairs C_law_pick C_law_steps C_law_stream C_class_pairs C_node_steps F19
end TS
set_option Elab.async false
set_option linter.all false
set_option maxRecDepth 100000
namespace TS
open PySem PySem.Spec PyProof.Rows L2
local macro_rules | `(tactic| walk_at "w") => `(tactic| simp only [w_body, env0, w_seq, w_asg, w_sret, w_retN, w_drop, w_sIf, w_for, w_aug, w_nx, w_brk, w_cnt, w_gN, w_gTup, w_gsCons, w_gsNil, w_gSub, w_var, w_c, w_op, w_un, w_call, w_eMt, w_tup, w_lst, w_aNil, w_aCons, w_asB, w_asT, w_bAnd, w_bOr, w_bNot, w_eAnd, w_eOr, w_eNot, w_eIf, w_eSl, w_pNo, w_pSome, w_chain,
  w_add, w_addT, w_sub, w_mul, w_mod, w_fdiv, w_pow, w_lt, w_le, w_gt, w_ge, w_int, w_min, w_max, w_lenT, w_lenF, w_truB, w_isB, w_notB, w_tyS, w_slT, w_tupT, w_eqI, w_neI, w_eqBl, w_neBl, w_find, w_rg1, w_rg2, w_anyI, w_ixT, w_ixF, w_ixS, w_lenS, w_slS, w_addS, w_disp, w_kNil, w_kCons, w_yes, w_zip, w_ltS1, w_ninS, w_notN, w_isN, w_neg,
  List.map_cons, List.map_nil, List.length_cons, List.length_nil, List.replicate, List.cons_append, List.nil_append, List.getElem?_cons_zero, List.getElem?_cons_succ, List.set_cons_zero, List.set_cons_succ, Nat.reduceAdd, Nat.reduceSub, Nat.sub_self, Nat.sub_zero,
  Option.some.injEq, exists_eq_left', D.bl.injEq, D.int.injEq, rgOf_1, rgOf2_2, and_true, true_and])
def lowI (cell k : Int) : Int := (cell * 48271 + k * 69621 + 11) % 2147483647
def mixI (cell k : Int) : Int := (lowI cell k * lowI cell k + cell * 40692 + k * 7 + 3) % 1000003 % 1000
theorem mix_w (cell k : Int) {S : Store} {Q : D → Store → Prop} : wp (m_law_mix [.int cell, .int k]) S Q ↔ Q (.int (mixI cell k)) S := by
  have s1 : smallI 48271 = true := by decide
  have s2 : smallI 69621 = true := by decide
  have s3 : smallI 40692 = true := by decide
  have s4 : smallI 7 = true := by decide
  have s5 : smallI ((cell * 48271 + k * 69621 + 11) % 2147483647) = true := small_mod (by decide) (by decide)
  unfold m_law_mix f_law_mix
  walk_at "w"
  simp only [s1, s2, s3, s4, s5, or_true, true_or, true_and, show (0 : Int) < 2147483647 from by decide, show (0 : Int) < 1000003 from by decide, show (0 : Int) < 1000 from by decide]
  rfl
theorem pick_ok {r q : Nat} {S : Store} {many : Int} {Q : D → Store → Prop} (h : Dr r q S) (hm : 0 < many) (k : ∀ n S', 0 ≤ n → n < many → Dr r q S' → Kp r S S' → S'.length = S.length → Q (.int n) S') : wp (m_law_pick [.ref r, .int many]) S Q := by
  obtain ⟨row, a, seed, h1, h2, h3⟩ := h.ex
  have hl := h.lt
  unfold m_law_pick f_law_pick
  have hz : (3 : Nat) < sizeLine := by decide
  walk_at "w"
  rw [w_ixD (k := .inr "at") (d := .int a) h1 rfl (drw_at q a seed)]
  walk_at "w"
  rw [w_setD (k := .inr "at") h1 rfl hz, drw_put]
  have g1 : (S.set r (.dK (drw q ((a : Int) + 1) seed)))[r]? = some (.dK (drw q ((a : Int) + 1) seed)) := List.getElem?_set_self hl.1
  have g2 : (S.set r (.dK (drw q ((a : Int) + 1) seed)))[q]? = some (.lst (row.map .int)) := by rw [List.getElem?_set_ne h.ne]; exact h2
  rw [w_ixD (k := .inr "seed") (d := .int seed) g1 rfl (drw_seed _ _ _), mix_w, w_ixD (k := .inr "row") (d := .ref q) g1 rfl (drw_row _ _ _), w_lenL g2]
  walk_at "w"
  have D' : Dr r q (S.set r (.dK (drw q ((a : Int) + 1) seed))) := ⟨h.ne, row, a + 1, seed, by rw [g1]; rfl, g2, h3⟩
  have K' : Kp r S (S.set r (.dK (drw q ((a : Int) + 1) seed))) := ⟨by rw [List.length_set]; exact Nat.le_refl _, fun i _ hr => List.getElem?_set_ne (Ne.symm hr)⟩
  have fin : ∀ x : Int, 0 < many ∧ Q (.int (x % many)) (S.set r (.dK (drw q ((a : Int) + 1) seed))) := fun x => ⟨hm, k _ _ (Int.emod_nonneg x (Int.ne_of_gt hm)) (Int.emod_lt_of_pos x hm) D' K' (by rw [List.length_set])⟩
  split
  · rename_i c
    have c' : a < row.length := by
      have := of_decide_eq_true c
      rw [List.length_map] at this
      omega
    rw [w_ixD (k := .inr "row") (d := .ref q) g1 rfl (drw_row _ _ _), w_ixL g2]
    refine ⟨.int row[a], ints_get c', ?_⟩
    walk_at "w"
    exact fin _
  · exact fin _
theorem stream_ok {S : Store} {ns : List Int} {most : Int} {Q : D → Store → Prop} (hn : ns.length ≤ 63) (k : ∀ (row : List Int) (seed : Int), row.length ≤ 3780 → Q (.ref (S.length + 1)) (S ++ [.lst (row.map .int), .dK (drw S.length 0 seed)])) : wp (m_law_stream [.fl (ns.map .int), .int most]) S Q := by
  unfold m_law_stream f_law_stream
  have hs : (0 : Nat) ≤ sizeLine := Nat.zero_le _
  walk_at "w"
  refine ⟨hs, ⟨by split <;> omega, by rw [List.length_map]; split <;> omega⟩, ?_⟩
  have hm : (if (63 : Int) < ((ns.map D.int).length : Nat) then (63 : Int) else ((ns.map D.int).length : Nat)).toNat = ns.length := by
    rw [List.length_map]
    split <;> omega
  rw [hm]
  have gl : ∀ l, (S ++ [MO.lst l])[S.length]? = some (.lst l) := fun l => by rw [List.getElem?_append_right (Nat.le_refl _), Nat.sub_self]; rfl
  have sl : ∀ l l', (S ++ [MO.lst l]).set S.length (.lst l') = S ++ [.lst l'] := fun l l' => by rw [List.set_append_right _ _ (Nat.le_refl _), Nat.sub_self]; rfl
  refine wp_loop (fun i env S1 => ∃ (a b c : Option D) (row : List Int), env = [some (.fl (ns.map .int)), some (.int most), some (.ref S.length), a, b, c] ∧ S1 = S ++ [.lst (row.map .int)] ∧ row.length ≤ 60 * i) (fun _ _ _ _ => gdOk_nil _) ?_ ?_ ⟨none, none, none, [], rfl, rfl, Nat.zero_le _⟩
  · rintro i x env S1 hx ⟨a, b, c, row, rfl, rfl, hr⟩
    obtain ⟨hi, rfl⟩ := rng_get hx
    rw [Int.zero_add]
    walk_at "w"
    refine ⟨_, ints_get hi, ⟨by decide, by decide, by decide⟩, ?_⟩
    walk_at "w"
    split
    · refine ⟨by decide, wp_loop (fun j env S1 => ∃ (b : Int) (c : Option D) (row' : List Int), env = [some (.fl (ns.map .int)), some (.int most), some (.ref S.length), some (.int i), some (.int b), c] ∧ S1 = S ++ [.lst (row'.map .int)] ∧ row'.length ≤ 60 * i + j) (fun _ _ _ _ => gdOk_nil _) ?_ ?_ ⟨_, _, row, rfl, rfl, by omega⟩⟩
      · rintro j x env S1 hx ⟨b, c, row', rfl, rfl, hr'⟩
        obtain ⟨hj, rfl⟩ := rng_get hx
        have hj' : j < 60 := hj
        walk_at "w"
        have stay : ∃ (b' : Int) (c : Option D) (row'' : List Int), [some (D.fl (ns.map .int)), some (.int most), some (.ref S.length), some (.int (i : Int)), some (.int b), some (.int (0 + (j : Int)))] = [some (D.fl (ns.map .int)), some (.int most), some (.ref S.length), some (.int (i : Int)), some (.int b'), c] ∧ S ++ [MO.lst (row'.map .int)] = S ++ [.lst (row''.map .int)] ∧ row''.length ≤ 60 * i + (j + 1) := ⟨b, _, row', rfl, rfl, by omega⟩
        split
        · rw [w_lenL (gl _)]
          walk_at "w"
          split
          · rw [w_tyL (gl _)]
            refine ⟨by decide, ?_⟩
            rw [w_app (gl _) (sz_lt (by rw [List.length_map]; omega)), sl]
            refine ⟨by decide, b / 1000, _, row' ++ [b % 1000], rfl, by rw [List.map_append]; rfl, by rw [List.length_append, List.length_singleton]; omega⟩
          · exact stay
        · rw [if_neg Bool.false_ne_true]
          exact stay
      · rintro env S1 ⟨b, c, row', rfl, rfl, hr'⟩
        exact ⟨_, _, _, row', rfl, rfl, by have : (rng 0 (60 : Int).toNat).length = 60 := rfl; omega⟩
    · refine ⟨by decide, wp_loop (fun j env S1 => ∃ (c : Option D) (row' : List Int), env = [some (.fl (ns.map .int)), some (.int most), some (.ref S.length), some (.int i), some (.int ns[i]), c] ∧ S1 = S ++ [.lst (row'.map .int)] ∧ row'.length ≤ 60 * i + j) (fun _ _ _ _ => gdOk_nil _) ?_ ?_ ⟨_, row, rfl, rfl, by omega⟩⟩
      · rintro j x env S1 hx ⟨c, row', rfl, rfl, hr'⟩
        obtain ⟨hj, rfl⟩ := rng_get hx
        have hj' : j < 3 := hj
        walk_at "w"
        rw [w_lenL (gl _)]
        walk_at "w"
        split
        · rw [w_tyL (gl _)]
          refine ⟨.inl (by decide), ?_⟩
          rw [mix_w, w_app (gl _) (sz_lt (by rw [List.length_map]; omega)), sl]
          exact ⟨_, row' ++ [_], rfl, by rw [List.map_append]; rfl, by rw [List.length_append, List.length_singleton]; omega⟩
        · exact ⟨_, row', rfl, rfl, by omega⟩
      · rintro env S1 ⟨c, row', rfl, rfl, hr'⟩
        exact ⟨_, _, _, row', rfl, rfl, by have : (rng 0 (3 : Int).toNat).length = 3 := rfl; omega⟩
  · rintro env S1 ⟨a, b, c, row, rfl, rfl, hr⟩
    rw [rng_length] at hr
    have g2 : ∀ l, (S ++ [MO.lst l] ++ [MO.dK []])[S.length]? = some (.lst l) := fun l => by rw [List.append_assoc, List.getElem?_append_right (Nat.le_refl _), Nat.sub_self]; rfl
    have g3 : ∀ l, (S ++ [MO.lst l] ++ [MO.dK []])[(S ++ [MO.lst l]).length]? = some (.dK []) := fun l => by rw [List.getElem?_append_right (Nat.le_refl _), Nat.sub_self]; rfl
    walk_at "w"
    rw [w_sumL (g2 _), w_lenL (g2 _)]
    walk_at "w"
    refine ⟨_, rfl, _, rfl, _, rfl, ?_⟩
    rw [w_fill (g3 _) (by show 3 ≤ 15; decide)]
    have e := drw_made S.length 0 (row.sum + ((row.map D.int).length : Nat))
    have e2 : (S ++ [MO.lst (row.map .int)] ++ [MO.dK []]).set (S ++ [MO.lst (row.map .int)]).length (.dK (drw S.length 0 (row.sum + ((row.map D.int).length : Nat)))) = S ++ [.lst (row.map .int), .dK (drw S.length 0 (row.sum + ((row.map D.int).length : Nat)))] := by
      rw [List.set_append_right _ _ (Nat.le_refl _), Nat.sub_self, List.append_assoc]
      rfl
    have q := k row (row.sum + ((row.map D.int).length : Nat)) (by omega)
    rw [← e2] at q
    rw [List.length_append, List.length_singleton] at q ⊢
    rw [← e] at q
    exact q
end TS
set_option Elab.async false
set_option linter.all false
set_option maxRecDepth 100000
set_option maxHeartbeats 2000000
namespace TS
open PySem PySem.Spec PyProof.Rows L2
local macro_rules | `(tactic| walk_at "w") => `(tactic| simp only [w_mulX, w_mulXS, x_isiSS, x_isiIS, x_isiII, x_isiIB, x_isiTT, x_isiNS, x_isTN, x_isSN, x_isIN, x_notTN, x_notSN, x_notIN, x_revX, x_revV, x_revVT, w_ord, w_asBl, w_body, env0, w_seq, w_asg, w_sret, w_retN, w_drop, w_sIf, w_for, w_aug, w_nx, w_brk, w_cnt, w_gN, w_gTup, w_gsCons, w_gsNil, w_gSub, w_var, w_c, w_op, w_un, w_call, w_eMt, w_tup, w_lst, w_aNil, w_aCons, w_asB, w_asT, w_bAnd, w_bOr, w_bNot, w_eAnd, w_eOr, w_eNot, w_eIf, w_eSl, w_pNo, w_pSome, w_chain,
  w_add, w_addT, w_sub, w_mul, w_mod, w_fdiv, w_pow, w_lt, w_le, w_gt, w_ge, w_int, w_min, w_max, w_lenT, w_lenF, w_truB, w_isB, w_notB, w_tyS, w_slT, w_tupT, w_eqI, w_neI, w_eqBl, w_neBl, w_find, w_rg1, w_rg2, w_anyI, w_ixT, w_ixF, w_ixS, w_lenS, w_slS, w_addS, w_disp, w_kNil, w_kCons, w_yes, w_zip, w_ltS1, w_ninS, x_enum, x_geS1, w_par2, w_eLenSet, w_intB, w_notN, w_isN, w_neg,
  List.map_cons, List.map_nil, List.length_cons, List.length_nil, List.replicate, List.cons_append, List.nil_append, List.getElem?_cons_zero, List.getElem?_cons_succ, List.set_cons_zero, List.set_cons_succ, Nat.reduceAdd, Nat.reduceSub, Nat.sub_self, Nat.sub_zero,
  Option.some.injEq, exists_eq_left', D.bl.injEq, D.int.injEq, rgOf_1, rgOf2_2, and_true, true_and])
local macro_rules | `(tactic| walk_at "v") => `(tactic| simp only [w_mulX, w_mulXS, x_isiSS, x_isiIS, x_isiII, x_isiIB, x_isiTT, x_isiNS, x_isTN, x_isSN, x_isIN, x_notTN, x_notSN, x_notIN, x_revX, x_revV, x_revVT, w_ord, w_asBl, env0, w_asg, w_sret, w_retN, w_drop, w_for, w_aug, w_nx, w_brk, w_cnt, w_gN, w_gTup, w_gsCons, w_gsNil, w_gSub, w_var, w_c, w_op, w_un, w_call, w_eMt, w_tup, w_lst, w_aNil, w_aCons, w_asB, w_asT, w_bAnd, w_bOr, w_bNot, w_eAnd, w_eOr, w_eNot, w_eIf, w_eSl, w_pNo, w_pSome, w_chain,
  w_add, w_addT, w_sub, w_mul, w_mod, w_fdiv, w_pow, w_lt, w_le, w_gt, w_ge, w_int, w_min, w_max, w_lenT, w_lenF, w_truB, w_isB, w_notB, w_tyS, w_slT, w_tupT, w_eqI, w_neI, w_eqBl, w_neBl, w_find, w_rg1, w_rg2, w_anyI, w_ixT, w_ixF, w_ixS, w_lenS, w_slS, w_addS, w_disp, w_kNil, w_kCons, w_yes, w_zip, w_ltS1, w_ninS, x_enum, x_geS1, w_par2, w_eLenSet, w_intB, w_notN, w_isN, w_neg,
  List.map_cons, List.map_nil, List.length_cons, List.length_nil, List.replicate, List.cons_append, List.nil_append, List.getElem?_cons_zero, List.getElem?_cons_succ, List.set_cons_zero, List.set_cons_succ, Nat.reduceAdd, Nat.reduceSub, Nat.sub_self, Nat.sub_zero,
  Option.some.injEq, exists_eq_left', D.bl.injEq, D.int.injEq, rgOf_1, rgOf2_2, and_true, true_and])
def isStr (s : Str) : D → Bool
  | .str z => z == s
  | _ => false
theorem gd_grow {S S1 : Store} {r : Nat} {xs : List D} (h : S[r]? = some (.lst xs)) (g : Grow S S1) : gdOk S1 [(r, xs)] := fun p hp => by
  rw [List.mem_singleton.mp hp]
  exact g.get h
theorem srcOf_ref {S : Store} {r : Nat} {xs : List D} (h : S[r]? = some (.lst xs)) : srcOf S (.ref r) = some (xs, [(r, xs)]) := by
  unfold srcOf
  simp only [h]
theorem any_ref {S : Store} {env : SEnv} {i r : Nat} {xs : List D} (he : env[i]? = some (some (.ref r))) (h : S[r]? = some (.lst xs)) : iAnyM (eVar i) env S = some ((xs, [(r, xs)]), S) := by
  refine (bnd_eq (show eVar i env S = some (.ref r, S) by unfold eVar; rw [he])).trans ?_
  show (match srcOf S (.ref r) with | some p => some (p, S) | none => none) = _
  rw [srcOf_ref h]
def srcT : D → List D
  | .tup xs => xs
  | _ => []
def intsD : List D → List Int
  | [] => []
  | .int i :: r => i :: intsD r
  | _ :: r => intsD r
def usedOf (rs : List D) : List Int := rs.flatMap fun x => intsD (srcT x)
/-- a comprehension that draws, over what may be a list of the store -/
theorem w_lcDg {fi : SEnv → M (List D × Gd)} {tgt : D → SEnv → M SEnv} {te : SEnv → M D} {vs : List Nat} {env : SEnv} {S : Store} {Q : D → Store → Prop} {xs : List D} {g : Gd} {r q : Nat} (P : Nat → D → Prop)
    (h0 : fi env S = some ((xs, g), S)) (hg : ∀ S', Kp r S S' → gdOk S' g) (hD : Dr r q S) (hz : xs.length < sizeLine)
    (step : ∀ (i : Nat) (x : D) (S1 : Store), xs[i]? = some x → Dr r q S1 → Kp r S S1 → wp (tgt x (wipeE env vs)) S1 fun env1 S2 => wp (te env1) S2 fun d S3 => P i d ∧ Dr r q S3 ∧ Kp r S1 S3)
    (k : ∀ (ds : List D) S', ds.length = xs.length → (∀ (i : Nat) (d : D), ds[i]? = some d → P i d) → Dr r q S' → Kp r S S' → S'[S.length]? = some (.lst ds) → Q (.ref S.length) S') : wp (eLc fi tgt bYes te vs env) S Q := by
  have hr : S.length ≠ r := Nat.ne_of_gt hD.lt.1
  have hq : S.length ≠ q := Nat.ne_of_gt hD.lt.2
  refine wp_lc (xs := xs) (g := g) (S1 := S) h0 (fun j acc S3 => acc.length = j ∧ (∀ (i : Nat) (d : D), acc[i]? = some d → P i d) ∧ S3[S.length]? = some (.lst acc) ∧ Dr r q S3 ∧ Kp r S S3)
    ⟨rfl, (fun i d h => by simp at h), get_new, hD.app, Kp.app⟩ (fun _ _ _ ⟨_, _, e, _⟩ => e) (fun _ _ S3 ⟨_, _, _, _, e⟩ => hg S3 e) (fun j acc S3 ⟨e, _⟩ => by rw [e]; exact Nat.le_refl _) hz ?_ ?_
  · rintro i x acc S3 hx ⟨rfl, hp, hk, hD3, hK3⟩
    refine (step acc.length x S3 hx hD3 hK3).mono fun env1 S4 h => ?_
    rw [w_yes, if_pos rfl]
    refine h.mono fun d S5 ⟨hd, hD5, hK5⟩ => ?_
    have e5 : S5[S.length]? = some (.lst acc) := by rw [hK5.get _ (lt_of_get hk) hr]; exact hk
    refine ⟨e5, by rw [List.length_append]; rfl, fun i d' h' => ?_, by rw [List.getElem?_set_self (lt_of_get e5)], hD5.set hr hq, (hK3.trans hK5).set (Nat.le_refl _)⟩
    by_cases c : i < acc.length
    · rw [List.getElem?_append_left c] at h'
      exact hp i d' h'
    · have hl := (List.getElem?_eq_some_iff.mp h').1
      rw [List.length_append, List.length_singleton] at hl
      have : i = acc.length := by omega
      subst this
      rw [List.getElem?_append_right (Nat.le_refl _), Nat.sub_self] at h'
      cases h'
      exact hd
  · rintro acc S3 ⟨e, hp, hk, hD3, hK3⟩
    exact k acc S3 e hp hD3 hK3 hk
/-- rows of boxes as they are drawn -/
structure Rows (L base : Nat) (as : List Nat) (cs : List (List Int)) (S : Store) : Prop where
  lst : S[L]? = some (.lst (as.map .ref))
  len : as.length = cs.length
  nd : as.Nodup
  ge : ∀ a ∈ as, base ≤ a ∧ a ≠ L
  at' : ∀ (i : Nat) (a : Nat) (c : List Int), as[i]? = some a → cs[i]? = some c → S[a]? = some (.lst (c.map .int))
theorem Rows.kp {L base r : Nat} {as : List Nat} {cs : List (List Int)} {S S' : Store} (h : Rows L base as cs S) (g : Kp r S S') (hL : L ≠ r) (hr : ∀ a ∈ as, a ≠ r) : Rows L base as cs S' :=
  ⟨by rw [g.get _ (lt_of_get h.lst) hL]; exact h.lst, h.len, h.nd, h.ge, fun i a c h1 h2 => by
    have e := h.at' i a c h1 h2
    rw [g.get _ (lt_of_get e) (hr a (List.mem_of_getElem? h1))]
    exact e⟩
theorem Rows.put {L base g a : Nat} {as : List Nat} {cs : List (List Int)} {S : Store} {c' : List Int} (h : Rows L base as cs S) (ha : as[g]? = some a) : Rows L base as (cs.set g c') (S.set a (.lst (c'.map .int))) := by
  have hm := List.mem_of_getElem? ha
  have hg : g < as.length := (List.getElem?_eq_some_iff.mp ha).1
  refine ⟨by rw [List.getElem?_set_ne (h.ge a hm).2]; exact h.lst, by rw [List.length_set]; exact h.len, h.nd, h.ge, fun i a2 c2 h1 h2 => ?_⟩
  by_cases e : i = g
  · subst e
    rw [ha] at h1
    cases h1
    rw [List.getElem?_set_self (by rw [← h.len]; exact hg)] at h2
    cases h2
    have hl : i < cs.length := by rw [← h.len]; exact hg
    exact List.getElem?_set_self (lt_of_get (h.at' i a _ ha (List.getElem?_eq_getElem hl)))
  · rw [List.getElem?_set_ne (Ne.symm e)] at h2
    have hne : a ≠ a2 := fun z => by
      subst z
      obtain ⟨l1, q1⟩ := List.getElem?_eq_some_iff.mp h1
      obtain ⟨l2, q2⟩ := List.getElem?_eq_some_iff.mp ha
      exact e (nodup_get h.nd l1 l2 (q1.trans q2.symm))
    rw [List.getElem?_set_ne hne]
    exact h.at' i a2 c2 h1 h2
theorem flat_set {v : Int} : ∀ {cs : List (List Int)} {g : Nat} {c c' : List Int}, cs[g]? = some c → c'.Perm (v :: c) → (cs.set g c').flatten.Perm (v :: cs.flatten)
  | [], _, _, _, h, _ => by simp at h
  | x :: r, 0, c, c', h, p => by
    rw [List.getElem?_cons_zero] at h
    cases h
    show (c' ++ r.flatten).Perm (v :: (x ++ r.flatten))
    exact p.append_right _
  | x :: r, g + 1, c, c', h, p => by
    rw [List.getElem?_cons_succ] at h
    show (x ++ (r.set g c').flatten).Perm (v :: (x ++ r.flatten))
    exact ((flat_set h p).append_left x).trans List.perm_middle
theorem nodup_bound : ∀ (n : Nat) {l : List Int}, l.Nodup → (∀ b ∈ l, 0 ≤ b ∧ b < n) → l.length ≤ n
  | 0, l, _, h => by
    cases l with
    | nil => exact Nat.le_refl _
    | cons x r =>
      have := h x (List.mem_cons_self ..)
      omega
  | n + 1, l, hn, h => by
    have h2 : (l.erase (n : Int)).length ≤ n := nodup_bound n (hn.erase _) fun b hb => by
      have h3 := (List.Nodup.mem_erase_iff hn).mp hb
      have h4 := h b h3.2
      have h5 := h3.1
      omega
    have h3 : l.length ≤ (l.erase (n : Int)).length + 1 := by
      rw [List.length_erase]
      split <;> omega
    omega
theorem part_bound {cs : List (List Int)} {n : Nat} {c : List Int} (hn : cs.flatten.Nodup) (hb : ∀ b ∈ cs.flatten, 0 ≤ b ∧ b < (n : Int)) (hc : c ∈ cs) : c.length ≤ n :=
  nodup_bound n ((List.pairwise_flatten.mp hn).1 c hc) fun b hb2 => hb b (List.mem_flatten.mpr ⟨c, hc, hb2⟩)

def textQ : D → Bool
  | .str z => z.cps.toList.all smallQ
  | _ => false
theorem emp_q (w : Str) : (w == Str.ofString "") = isStr "" (.str w) := rfl
theorem text_plain {w : Str} (h : textQ (.str w) = true) : Plain w := fun c hc => by
  have := List.all_eq_true.mp (show w.cps.toList.all smallQ = true from h) c hc
  unfold smallQ at this
  rw [Bool.and_eq_true, decide_eq_true_iff, decide_eq_true_iff] at this
  omega
theorem small_txt {w : Str} {z : Str} (h : ∀ c ∈ w.cps.toList, c ∈ z.cps.toList) (hz : z.cps.toList.all smallQ = true) : textQ (.str w) = true := List.all_eq_true.mpr fun c hc => List.all_eq_true.mp hz c (h c hc)
def numL5 : List D := [.int 0, .int 0, .int 1, .int 1, .int 2]
/-- a drawn string -/
theorem string_ok {r q : Nat} {S : Store} {z : Str} {Q : D → Store → Prop} (h : Dr r q S) (hz : z.cps.toList.all smallQ = true) (hzl : 1 ≤ z.length ∧ z.length ≤ 7) (k : ∀ w S', textQ (.str w) = true → w.length ≤ 2 → Dr r q S' → Kp r S S' → Q (.str w) S') : wp (m_law_string [.ref r, .str z]) S Q := by
  unfold m_law_string f_law_string
  have sz : z.length ≤ sizeLine := Nat.le_of_lt (sz_lt (by omega))
  have lzt := len_toList z
  walk_at "w"
  refine ⟨by decide, ?_⟩
  refine pick_ok h.app (by decide) fun n S1 n0 n1 hD1 hK1 hL1 => ?_
  have hr : S1[S.length]? = some (.lst numL5) := by
    rw [hK1.get S.length (by rw [List.length_append]; exact Nat.lt_succ_self _) (Nat.ne_of_gt h.lt.1)]
    exact get_new
  refine menu_at hr n0 (by exact n1) fun d hd => ?_
  obtain ⟨m, rfl, hm⟩ : ∃ m : Nat, d = .int (m : Nat) ∧ m ≤ 2 := by
    unfold numL5 at hd
    simp only [List.mem_cons, List.not_mem_nil, or_false] at hd
    rcases hd with rfl | rfl | rfl | rfl | rfl
    · exact ⟨0, rfl, by decide⟩
    · exact ⟨0, rfl, by decide⟩
    · exact ⟨1, rfl, by decide⟩
    · exact ⟨1, rfl, by decide⟩
    · exact ⟨2, rfl, by decide⟩
  refine w_lcD (r := r) (q := q) (xs := rng 0 m) (fun _ d => ∃ c, c ∈ z.cps.toList ∧ d = .str ⟨#[c]⟩) (rg1_eq rfl (by omega)) hD1 (by rw [rng_length]; exact sz_lt (by omega)) (fun j y S4 hy hD4 hK4 => ?_) fun es S4 he hp hD4 hK4 hk => ?_
  · simp only [wipeE]
    walk_at "w"
    refine ⟨sz, pick_ok hD4 (by omega) fun v S5 v0 v1 hD5 hK5 hL5 => ?_⟩
    rw [w_ixS]
    have hn : v.toNat < z.cps.toList.length := by omega
    refine ⟨sz, z.cps.toList[v.toNat], ?_, ⟨_, List.getElem_mem hn, rfl⟩, hD5, hK5⟩
    have e := atI_nat (List.getElem?_eq_getElem hn)
    rw [show ((v.toNat : Nat) : Int) = v by omega] at e
    exact e
  · rw [rng_length] at he
    refine x_joinCs (fun c => c ∈ z.cps.toList) hk (mem_idx hp) (by omega) fun w hw hc => ?_
    exact k w S4 (small_txt hc hz) (by omega) hD4 ((Kp.app.trans hK1).trans hK4)
/-- an item of a drawn row: a box, or a string -/
def ItP (n : Nat) (x : D) : Prop := (∃ b : Nat, x = .int (b : Nat) ∧ b < n) ∨ ∃ w, x = .str w ∧ isStr "" (.str w) = false ∧ textQ (.str w) = true ∧ w.length ≤ 2
def RowM (n : Nat) (is : List Int) (d : D) : Prop := ∃ xs, d = .tup xs ∧ (∀ x ∈ xs, ItP n x) ∧ intsD xs = is ∧ xs.length ≤ 2 * is.length + 1
theorem ints_snoc : ∀ (a : List D) (x : D), intsD (a ++ [x]) = intsD a ++ (match x with | .int i => [i] | _ => [])
  | [], x => by cases x <;> rfl
  | y :: r, x => by
    have ih := ints_snoc r x
    cases y with
    | int i => show i :: intsD (r ++ [x]) = i :: (intsD r ++ _); rw [ih]
    | _ => exact ih
theorem law_row_ok {r q b n : Nat} {is : List Int} {z : Str} {S : Store} {Q : D → Store → Prop} (h : Dr r q S) (hz : z.cps.toList.all smallQ = true) (hzl : 1 ≤ z.length ∧ z.length ≤ 7) (hb : S[b]? = some (.lst (is.map .int))) (hbr : b ≠ r) (hil : is.length ≤ 7) (hi : ∀ b ∈ is, 0 ≤ b ∧ b < n) (k : ∀ d S', RowM n is d → Dr r q S' → Kp r S S' → Q d S') : wp (m_law_row [.ref r, .ref b, .str z]) S Q := by
  unfold m_law_row f_law_row
  have e0 : PyData.strOk (Str.ofString "") = true := by decide +kernel
  have hSr : S.length ≠ r := Nat.ne_of_gt h.lt.1
  have hSq : S.length ≠ q := Nat.ne_of_gt h.lt.2
  have hbS := lt_of_get hb
  /- a string is put behind, if it is not empty -/
  have put : ∀ (R : SEnv → M (Fl × SEnv)) (QF : Fl × SEnv → Store → Prop) (a5 : Option D) (w : Str) (S1 : Store) (xs : List D) (js : List Int), textQ (.str w) = true → w.length ≤ 2 → Dr r q S1 → Kp r S S1 → S1[S.length]? = some (.lst xs) → (∀ x ∈ xs, ItP n x) → intsD xs = js → xs.length ≤ 100 →
      (∀ S2 xs', Dr r q S2 → Kp r S S2 → S2[S.length]? = some (.lst xs') → (∀ x ∈ xs', ItP n x) → intsD xs' = js → xs'.length ≤ xs.length + 1 → QF (.nx, [some (.ref r), some (.ref b), some (.str z), some (.ref S.length), some (.str w), a5]) S2) →
      wp (sIf (asB (eOp neD (eVar 4) (eC (.str "")))) (sDrop (eMt "list" mAppend (eVar 3) (aCons (eVar 4) (aNil)))) sNx [some (.ref r), some (.ref b), some (.str z), some (.ref S.length), some (.str w), a5]) S1 QF := by
    intro R QF a5 w S1 xs js w1 w2 hD1 hK1 hL1 hx hj hl kk
    walk_at "w"
    rw [w_neS (text_plain w1).ok e0, emp_q]
    refine ⟨_, rfl, ?_⟩
    cases qe : isStr "" (.str w) with
    | true =>
      rw [if_neg (by simp)]
      exact kk S1 xs hD1 hK1 hL1 hx hj (by omega)
    | false =>
      rw [if_pos (by simp), w_tyL hL1, w_app hL1 (sz_lt (by omega))]
      refine kk _ (xs ++ [.str w]) (hD1.set hSr hSq) (hK1.set (Nat.le_refl _)) (List.getElem?_set_self (lt_of_get hL1)) (fun x hx' => ?_) (by rw [ints_snoc, hj, List.append_nil]) (by rw [List.length_append]; exact Nat.le_refl _)
      rcases List.mem_append.mp hx' with hx' | hx'
      · exact hx x hx'
      · rw [List.mem_singleton.mp hx']
        exact .inr ⟨w, rfl, qe, w1, w2⟩
  rw [w_body]
  refine w_seqA ?_
  walk_at "v"
  refine ⟨by decide, ?_⟩
  refine w_seqA ?_
  walk_at "v"
  refine string_ok h.app hz hzl fun w S1 w1 w2 hD1 hK1 => ?_
  have hL1 : S1[S.length]? = some (.lst []) := by
    rw [hK1.get S.length (by rw [List.length_append]; exact Nat.lt_succ_self _) hSr]
    exact get_new
  refine w_seqA (put sNx _ _ w S1 [] [] w1 w2 hD1 (Kp.app.trans hK1) hL1 (fun _ h => nomatch h) rfl (by decide) fun S2 xs2 hD2 hK2 hL2 hx2 hj2 hl2 => ⟨rfl, ?_⟩)
  walk_at "w"
  have hb2 : S2[b]? = some (.lst (is.map .int)) := by rw [hK2.get _ hbS hbr]; exact hb
  refine ⟨_, srcOf_ref hb2, ?_⟩
  refine wp_loop (fun i env S3 => ∃ (xs : List D) (a4 a5 : Option D), env = [some (.ref r), some (.ref b), some (.str z), some (.ref S.length), a4, a5] ∧ Dr r q S3 ∧ Kp r S S3 ∧ S3[S.length]? = some (.lst xs) ∧ (∀ x ∈ xs, ItP n x) ∧ intsD xs = is.take i ∧ xs.length ≤ 2 * i + 1) (fun i _ S3 hI p hp => ?_) ?_ ?_ ⟨xs2, _, _, rfl, hD2, hK2, hL2, hx2, hj2, hl2⟩
  · obtain ⟨_, _, _, _, _, hK3, _⟩ := hI
    rw [List.mem_singleton.mp hp]
    show S3[b]? = _
    rw [hK3.get _ hbS hbr]
    exact hb
  · rintro i x env S3 hx ⟨xs, a4, a5, rfl, hD3, hK3, hL3, hx3, hj3, hl3⟩
    have hx' : (is.map D.int)[i]? = some x := hx
    rw [List.getElem?_map] at hx'
    obtain ⟨v, hv, rfl⟩ := Option.map_eq_some_iff.mp hx'
    have hil2 : i < is.length := (List.getElem?_eq_some_iff.mp hv).1
    have htk : is.take (i + 1) = is.take i ++ [v] := by rw [List.take_add_one, hv]; rfl
    have hvn := hi v (List.mem_of_getElem? hv)
    walk_at "v"
    refine w_seqA ?_
    walk_at "v"
    rw [w_tyL hL3, w_app hL3 (sz_lt (by omega))]
    refine w_seqA ?_
    walk_at "v"
    refine string_ok (hD3.set hSr hSq) hz hzl fun w' S4 y1 y2 hD4 hK4 => ?_
    have hK4' : Kp r S S4 := (hK3.set (Nat.le_refl _)).trans hK4
    have hL4 : S4[S.length]? = some (.lst (xs ++ [.int v])) := by
      rw [hK4.get _ (by rw [List.length_set]; exact lt_of_get hL3) hSr]
      exact List.getElem?_set_self (lt_of_get hL3)
    refine put sNx _ _ w' S4 (xs ++ [.int v]) (is.take (i + 1)) y1 y2 hD4 hK4' hL4 (fun x hx' => ?_) (by rw [ints_snoc, hj3, htk]) (by rw [List.length_append]; simp only [List.length_singleton]; omega) fun S5 xs5 hD5 hK5 hL5 hx5 hj5 hl5 => ?_
    · rcases List.mem_append.mp hx' with hx' | hx'
      · exact hx3 x hx'
      · rw [List.mem_singleton.mp hx']
        exact .inl ⟨v.toNat, by rw [Int.toNat_of_nonneg hvn.1], by omega⟩
    · rw [List.length_append] at hl5
      simp only [List.length_singleton] at hl5
      exact ⟨xs5, _, _, rfl, hD5, hK5, hL5, hx5, hj5, by omega⟩
  · rintro env S3 ⟨xs, a4, a5, rfl, hD3, hK3, hL3, hx3, hj3, hl3⟩
    have hj3 : intsD xs = is.take (is.map D.int).length := hj3
    have hl3 : xs.length ≤ 2 * (is.map D.int).length + 1 := hl3
    rw [List.length_map] at hj3 hl3
    rw [List.take_length] at hj3
    walk_at "w"
    rw [w_tupL hL3]
    exact k _ S3 ⟨xs, rfl, hx3, hj3, hl3⟩ hD3 hK3
end TS
set_option Elab.async false
set_option linter.all false
set_option maxRecDepth 100000
set_option maxHeartbeats 2000000
namespace TS
open PySem PySem.Spec PyProof.Rows L2
local macro_rules | `(tactic| walk_at "w") => `(tactic| simp only [w_mulX, w_mulXS, x_isiSS, x_isiIS, x_isiII, x_isiIB, x_isiTT, x_isiNS, x_isTN, x_isSN, x_isIN, x_notTN, x_notSN, x_notIN, x_revX, x_revV, x_revVT, w_ord, w_asBl, w_body, env0, w_seq, w_asg, w_sret, w_retN, w_drop, w_sIf, w_for, w_aug, w_nx, w_brk, w_cnt, w_gN, w_gTup, w_gsCons, w_gsNil, w_gSub, w_var, w_c, w_op, w_un, w_call, w_eMt, w_tup, w_lst, w_aNil, w_aCons, w_asB, w_asT, w_bAnd, w_bOr, w_bNot, w_eAnd, w_eOr, w_eNot, w_eIf, w_eSl, w_pNo, w_pSome, w_chain,
  w_add, w_addT, w_sub, w_mul, w_mod, w_fdiv, w_pow, w_lt, w_le, w_gt, w_ge, w_int, w_min, w_max, w_lenT, w_lenF, w_truB, w_isB, w_notB, w_tyS, w_slT, w_tupT, w_eqI, w_neI, w_eqBl, w_neBl, w_find, w_rg1, w_rg2, w_anyI, w_ixT, w_ixF, w_ixS, w_lenS, w_slS, w_addS, w_disp, w_kNil, w_kCons, w_yes, w_zip, w_ltS1, w_ninS, x_enum, x_geS1, w_par2, w_eLenSet, w_intB, w_notN, w_isN, w_neg,
  List.map_cons, List.map_nil, List.length_cons, List.length_nil, List.replicate, List.cons_append, List.nil_append, List.getElem?_cons_zero, List.getElem?_cons_succ, List.set_cons_zero, List.set_cons_succ, Nat.reduceAdd, Nat.reduceSub, Nat.sub_self, Nat.sub_zero,
  Option.some.injEq, exists_eq_left', D.bl.injEq, D.int.injEq, rgOf_1, rgOf2_2, and_true, true_and])
local macro_rules | `(tactic| walk_at "v") => `(tactic| simp only [w_mulX, w_mulXS, x_isiSS, x_isiIS, x_isiII, x_isiIB, x_isiTT, x_isiNS, x_isTN, x_isSN, x_isIN, x_notTN, x_notSN, x_notIN, x_revX, x_revV, x_revVT, w_ord, w_asBl, env0, w_asg, w_sret, w_retN, w_drop, w_for, w_aug, w_nx, w_brk, w_cnt, w_gN, w_gTup, w_gsCons, w_gsNil, w_gSub, w_var, w_c, w_op, w_un, w_call, w_eMt, w_tup, w_lst, w_aNil, w_aCons, w_asB, w_asT, w_bAnd, w_bOr, w_bNot, w_eAnd, w_eOr, w_eNot, w_eIf, w_eSl, w_pNo, w_pSome, w_chain,
  w_add, w_addT, w_sub, w_mul, w_mod, w_fdiv, w_pow, w_lt, w_le, w_gt, w_ge, w_int, w_min, w_max, w_lenT, w_lenF, w_truB, w_isB, w_notB, w_tyS, w_slT, w_tupT, w_eqI, w_neI, w_eqBl, w_neBl, w_find, w_rg1, w_rg2, w_anyI, w_ixT, w_ixF, w_ixS, w_lenS, w_slS, w_addS, w_disp, w_kNil, w_kCons, w_yes, w_zip, w_ltS1, w_ninS, x_enum, x_geS1, w_par2, w_eLenSet, w_intB, w_notN, w_isN, w_neg,
  List.map_cons, List.map_nil, List.length_cons, List.length_nil, List.replicate, List.cons_append, List.nil_append, List.getElem?_cons_zero, List.getElem?_cons_succ, List.set_cons_zero, List.set_cons_succ, Nat.reduceAdd, Nat.reduceSub, Nat.sub_self, Nat.sub_zero,
  Option.some.injEq, exists_eq_left', D.bl.injEq, D.int.injEq, rgOf_1, rgOf2_2, and_true, true_and])
def boxOf (many : Nat) (t : Bool) (k : Nat) : Int := if t = true then (many : Int) - 1 - (k : Nat) else (k : Nat)
def NewsM (many : Nat) (ds : List D) : Prop := ds.length = many ∧ (∀ d ∈ ds, ∃ is, RowM many is d) ∧ (usedOf ds).Nodup ∧ ∀ b ∈ usedOf ds, 0 ≤ b ∧ b < many
theorem law_news_ok {r q many : Nat} {z : Str} {S : Store} {Q : D → Store → Prop} (h : Dr r q S) (hz : z.cps.toList.all smallQ = true) (hzl : 1 ≤ z.length ∧ z.length ≤ 7) (hm : many ≤ 7) (k : ∀ (ds : List D) S', NewsM many ds → Dr r q S' → Kp r S S' → Q (.tup ds) S') : wp (m_law_news [.ref r, .int (many : Nat), .str z]) S Q := by
  unfold m_law_news f_law_news
  have hSr : S.length ≠ r := Nat.ne_of_gt h.lt.1
  have hSq : S.length ≠ q := Nat.ne_of_gt h.lt.2
  rw [w_body]
  refine w_seqA ?_
  walk_at "v"
  refine wp_lc (xs := rng 0 many) (g := []) (S1 := S) (rg1_eq rfl (by omega)) (fun j acc S3 => ∃ as : List Nat, acc = as.map .ref ∧ as.length = j ∧ as.Nodup ∧ (∀ a ∈ as, S.length < a ∧ a < S3.length ∧ S3[a]? = some (.lst [])) ∧ S3[S.length]? = some (.lst acc) ∧ Grow S S3)
    ⟨[], rfl, rfl, List.nodup_nil, (fun _ h => nomatch h), get_new, Grow.refl.app⟩ (fun _ _ _ ⟨_, _, _, _, _, e, _⟩ => e) (fun _ _ _ _ => gdOk_nil _) (fun j acc S3 ⟨as, e, l, _⟩ => by rw [e, List.length_map, l]; exact Nat.le_refl _) (by rw [rng_length]; exact sz_lt (by omega)) ?_ ?_
  · rintro j x acc S3 hx ⟨as, rfl, hl, hnd, has, hk, hG⟩
    simp only [wipeE]
    walk_at "w"
    have hlt := lt_of_get hk
    refine ⟨Nat.zero_le _, by rw [List.getElem?_append_left hlt]; exact hk, as ++ [S3.length], by rw [List.map_append]; rfl, by rw [List.length_append, hl]; rfl, ?_, fun a ha => ?_, ?_, (hG.app).set (Nat.le_refl _)⟩
    · refine List.nodup_append.mpr ⟨hnd, List.nodup_cons.mpr ⟨List.not_mem_nil, List.nodup_nil⟩, fun a ha b hb => ?_⟩
      rw [List.mem_singleton.mp hb]
      have := (has a ha).2.1
      omega
    · rw [List.length_set, List.length_append]
      rcases List.mem_append.mp ha with ha | ha
      · obtain ⟨h1, h2, h3⟩ := has a ha
        refine ⟨h1, by omega, ?_⟩
        rw [List.getElem?_set_ne (by omega), List.getElem?_append_left h2]
        exact h3
      · rw [List.mem_singleton.mp ha]
        refine ⟨by omega, by simp, ?_⟩
        rw [List.getElem?_set_ne (by omega)]
        exact get_new
    · rw [List.getElem?_set_self (by rw [List.length_append]; omega)]
  · rintro acc S3 ⟨as, rfl, hl, hnd, has, hk, hG⟩
    rw [rng_length] at hl
    have hR0 : Rows S.length (S.length + 1) as (List.replicate many []) S3 := ⟨hk, by rw [List.length_replicate]; exact hl, hnd, fun a ha => ⟨by have := (has a ha).1; omega, by have := (has a ha).1; omega⟩, fun i a c h1 h2 => by
      rw [List.getElem?_replicate] at h2
      split at h2
      · cases h2
        exact (has a (List.mem_of_getElem? h1)).2.2
      · cases h2⟩
    have har : ∀ a ∈ as, a ≠ r := fun a ha => by have := (has a ha).1; have := h.lt.1; omega
    have haq : ∀ a ∈ as, a ≠ q := fun a ha => by have := (has a ha).1; have := h.lt.2; omega
    refine w_cut (fun env S4 => ∃ t : Bool, env = [some (.ref r), some (.int (many : Nat)), some (.str z), some (.ref S.length), some (.bl t), none, none, none, none, none] ∧ Rows S.length (S.length + 1) as (List.replicate many []) S4 ∧ Dr r q S4 ∧ Kp r S S4) ?_ ?_
    · walk_at "w"
      refine pick_ok (hG.dr h) (by decide) fun n S4 n0 n1 hD4 hK4 hL4 => ?_
      walk_at "w"
      exact ⟨_, rfl, hR0.kp hK4 hSr har, hD4, hG.kp.trans hK4⟩
    rintro _ S4 ⟨t, rfl, hR4, hD4, hK4⟩
    refine w_cut (fun env S5 => ∃ (cs : List (List Int)) (a5 a6 a7 a8 : Option D), env = [some (.ref r), some (.int (many : Nat)), some (.str z), some (.ref S.length), some (.bl t), a5, a6, a7, a8, none] ∧ Rows S.length (S.length + 1) as cs S5 ∧ (∀ b ∈ cs.flatten, 0 ≤ b ∧ b < many) ∧ cs.flatten.Nodup ∧ Dr r q S5 ∧ Kp r S S5) ?_ ?_
    · walk_at "w"
      refine ⟨⟨by omega, by omega⟩, ?_⟩
      rw [show ((many : Nat) : Int).toNat = many from rfl]
      refine wp_loop (fun i env S5 => ∃ (cs : List (List Int)) (a5 a6 a7 a8 : Option D), env = [some (.ref r), some (.int (many : Nat)), some (.str z), some (.ref S.length), some (.bl t), a5, a6, a7, a8, none] ∧ Rows S.length (S.length + 1) as cs S5 ∧ (∀ b ∈ cs.flatten, ∃ j, j < i ∧ b = boxOf many t j) ∧ cs.flatten.Nodup ∧ Dr r q S5 ∧ Kp r S S5) (fun _ _ _ _ => gdOk_nil _) ?_ ?_ ⟨_, _, _, _, _, rfl, hR4, by simp, by simp, hD4, hK4⟩
      · rintro i x env S5 hx ⟨cs, a5, a6, a7, a8, rfl, hR, hb, hn, hD5, hK5⟩
        obtain ⟨hi, rfl⟩ := rng_get hx
        walk_at "v"
        refine w_cut (fun env S6 => S6 = S5 ∧ env = [some (.ref r), some (.int (many : Nat)), some (.str z), some (.ref S.length), some (.bl t), some (.int (0 + (i : Nat))), some (.int (boxOf many t i)), a7, a8, none]) ?_ ?_
        · walk_at "w"
          cases t with
          | true => unfold boxOf; simp [Int.zero_add]
          | false => unfold boxOf; simp [Int.zero_add]
        rintro _ S6 ⟨rfl, rfl⟩
        have hbx : 0 ≤ boxOf many t i ∧ boxOf many t i < many := by unfold boxOf; split <;> omega
        refine w_seqA ?_
        walk_at "v"
        refine pick_ok hD5 (by decide) fun v S7 v0 v1 hD7 hK7 hL7 => ?_
        have hR7 := hR.kp hK7 hSr har
        have hb' : ∀ b ∈ cs.flatten, ∃ j, j < i + 1 ∧ b = boxOf many t j := fun b h => by
          obtain ⟨j, h1, h2⟩ := hb b h
          exact ⟨j, by omega, h2⟩
        rw [w_sIf]
        walk_at "v"
        split
        · refine w_cut (fun env S8 => S8 = S7 ∧ ∃ g : Nat, g < many ∧ env = [some (.ref r), some (.int (many : Nat)), some (.str z), some (.ref S.length), some (.bl t), some (.int (0 + (i : Nat))), some (.int (boxOf many t i)), some (.int v), some (.int (g : Nat)), none]) ?_ ?_
          · walk_at "w"
            split
            · exact ⟨(boxOf many t i).toNat, by omega, by rw [Int.toNat_of_nonneg hbx.1]⟩
            · have h0 := Int.emod_nonneg (boxOf many t i + v) (show ((many : Nat) : Int) ≠ 0 by omega)
              have h1 := Int.emod_lt_of_pos (boxOf many t i + v) (show (0 : Int) < ((many : Nat) : Int) by omega)
              refine ⟨by omega, ((boxOf many t i + v) % ((many : Nat) : Int)).toNat, by omega, ?_⟩
              rw [Int.toNat_of_nonneg h0]
          rintro _ S8 ⟨rfl, g, hg, rfl⟩
          walk_at "w"
          rw [w_ixL hR7.lst]
          have hga : g < as.length := by omega
          refine ⟨.ref as[g], atI_nat (by rw [List.getElem?_map, List.getElem?_eq_getElem hga]; rfl), ?_⟩
          have hgc : g < cs.length := by rw [← hR.len]; exact hga
          have e7 := hR7.at' g as[g] cs[g] (List.getElem?_eq_getElem hga) (List.getElem?_eq_getElem hgc)
          have hcl : cs[g].length ≤ 7 := Nat.le_trans (part_bound (n := many) hn (fun b hb2 => by
            obtain ⟨j, h1, rfl⟩ := hb b hb2
            unfold boxOf
            split <;> omega) (List.getElem_mem hgc)) hm
          rw [w_tyL e7, w_app e7 (sz_lt (by rw [List.length_map]; omega))]
          have em : cs[g].map D.int ++ [D.int (boxOf many t i)] = (cs[g] ++ [boxOf many t i]).map .int := by rw [List.map_append]; rfl
          rw [em]
          have hp := flat_set (v := boxOf many t i) (c' := cs[g] ++ [boxOf many t i]) (List.getElem?_eq_getElem hgc) List.perm_append_comm
          refine ⟨cs.set g _, _, _, _, _, rfl, hR7.put (List.getElem?_eq_getElem hga), fun b hb2 => ?_, hp.nodup_iff.mpr ?_, hD7.set (har _ (List.getElem_mem hga)) (haq _ (List.getElem_mem hga)), ?_⟩
          · rcases List.mem_cons.mp (hp.mem_iff.mp hb2) with rfl | hb2
            · exact ⟨i, by omega, rfl⟩
            · exact hb' b hb2
          · refine List.nodup_cons.mpr ⟨fun hm => ?_, hn⟩
            obtain ⟨j, h1, h2⟩ := hb _ hm
            unfold boxOf at h2
            split at h2 <;> omega
          · exact (hK5.trans hK7).set (Nat.le_of_lt (has _ (List.getElem_mem hga)).1)
        · exact ⟨cs, _, _, _, _, rfl, hR7, hb', hn, hD7, hK5.trans hK7⟩
      · rintro env S5 ⟨cs, a5, a6, a7, a8, rfl, hR, hb, hn, hD5, hK5⟩
        rw [rng_length] at hb
        refine ⟨rfl, cs, _, _, _, _, rfl, hR, fun b hb2 => ?_, hn, hD5, hK5⟩
        obtain ⟨j, h1, rfl⟩ := hb b hb2
        unfold boxOf
        split <;> omega
    rintro _ S5 ⟨cs, a5, a6, a7, a8, rfl, hR, hb, hn, hD5, hK5⟩
    walk_at "w"
    refine w_lcDg (r := r) (q := q) (xs := as.map .ref) (g := [(S.length, as.map .ref)]) (fun i d => ∃ c, cs[i]? = some c ∧ RowM many c d) (any_ref rfl hR.lst) (fun S' g => fun p hp => by rw [List.mem_singleton.mp hp]; show S'[S.length]? = _; rw [g.get _ (lt_of_get hR.lst) hSr]; exact hR.lst) hD5 (sz_lt (by rw [List.length_map]; omega)) (fun j x S6 hx hD6 hK6 => ?_) fun ds S6 hdl hds hD6 hK6 hk6 => ?_
    · rw [List.getElem?_map] at hx
      obtain ⟨a, ha, rfl⟩ := Option.map_eq_some_iff.mp hx
      have hja : j < as.length := (List.getElem?_eq_some_iff.mp ha).1
      have hjc : j < cs.length := by rw [← hR.len]; exact hja
      have e6 := (hR.kp hK6 hSr har).at' j a cs[j] ha (List.getElem?_eq_getElem hjc)
      simp only [wipeE]
      walk_at "w"
      refine law_row_ok hD6 hz hzl e6 (har a (List.mem_of_getElem? ha)) ?_ (fun b hb2 => hb b (List.mem_flatten.mpr ⟨_, List.getElem_mem hjc, hb2⟩)) fun d S7 hd hD7 hK7 => ⟨⟨_, List.getElem?_eq_getElem hjc, hd⟩, hD7, hK7⟩
      exact Nat.le_trans (part_bound (n := many) hn hb (List.getElem_mem hjc)) hm
    · rw [List.length_map, hl] at hdl
      rw [w_tupL hk6]
      have hcl : cs.length = many := by rw [← hR.len]; exact hl
      have hused : usedOf ds = cs.flatten := by
        have e1 : ds.map (fun x => intsD (srcT x)) = cs := by
          refine List.ext_getElem? fun i => ?_
          rw [List.getElem?_map]
          by_cases c : i < ds.length
          · obtain ⟨c2, h1, xs, rfl2, _, h3, _⟩ := hds i _ (List.getElem?_eq_getElem c)
            rw [List.getElem?_eq_getElem c, h1, rfl2]
            show some (intsD xs) = _
            rw [h3]
          · rw [List.getElem?_eq_none (by omega), List.getElem?_eq_none (by omega)]
            rfl
        unfold usedOf
        rw [List.flatMap_def, e1]
      refine k ds S6 ⟨hdl, mem_idx fun i d hd => ?_, by rw [hused]; exact hn, by rw [hused]; exact hb⟩ hD6 (hK5.trans hK6)
      obtain ⟨c, _, h2⟩ := hds i d hd
      exact ⟨c, h2⟩
/-- boxes drawn for an end -/
theorem law_end_ok {r q many : Nat} {z : Str} {S : Store} {stops : Int} {Q : D → Store → Prop} (h : Dr r q S) (hz : z.cps.toList.all smallQ = true) (hzl : 1 ≤ z.length ∧ z.length ≤ 7) (hm : many ≤ 7) (k : ∀ (d : D) S', ((d = .non ∧ 0 < stops) ∨ ∃ is, RowM many is d ∧ is.Nodup ∧ ∀ b ∈ is, 0 ≤ b ∧ b < many) → Dr r q S' → Kp r S S' → Q d S') : wp (m_law_end [.ref r, .int (many : Nat), .str z, .int stops]) S Q := by
  unfold m_law_end f_law_end
  rw [w_body, w_seq, w_sIf]
  walk_at "v"
  refine pick_ok h (by decide) fun n S1 n0 n1 hD1 hK1 hL1 => ?_
  walk_at "v"
  split
  · rename_i c
    exact k _ S1 (.inl ⟨rfl, by have := of_decide_eq_true c; omega⟩) hD1 hK1
  · have hr1 : S1.length ≠ r := Nat.ne_of_gt hD1.lt.1
    have hq1 : S1.length ≠ q := Nat.ne_of_gt hD1.lt.2
    refine w_cut (fun env S2 => ∃ (is : List Int) (a5 : Option D), env = [some (.ref r), some (.int (many : Nat)), some (.str z), some (.int stops), some (.ref S1.length), a5] ∧ is.length ≤ many ∧ is.Nodup ∧ (∀ b ∈ is, 0 ≤ b ∧ b < many) ∧ S2[S1.length]? = some (.lst (is.map .int)) ∧ Dr r q S2 ∧ Kp r S S2) ?_ ?_
    · walk_at "w"
      refine wp_lc (xs := rng 0 many) (g := []) (S1 := S1) (rg1_eq rfl (by omega)) (fun j acc S3 => ∃ is : List Int, acc = is.map .int ∧ is.length ≤ j ∧ is.Nodup ∧ (∀ g ∈ is, 0 ≤ g ∧ g < j) ∧ S3[S1.length]? = some (.lst acc) ∧ Dr r q S3 ∧ Kp r S1 S3)
        ⟨[], rfl, Nat.le_refl _, List.nodup_nil, (fun _ h => nomatch h), get_new, hD1.app, Kp.app⟩ (fun _ _ _ ⟨_, _, _, _, _, e, _⟩ => e) (fun _ _ _ _ => gdOk_nil _) (fun j acc S3 ⟨is, e, l, _⟩ => by rw [e, List.length_map]; exact l) (by rw [rng_length]; exact sz_lt (by omega)) ?_ ?_
      · rintro j x acc S3 hx ⟨is, rfl, hl, hn, hi, hk, hD3, hK3⟩
        obtain ⟨hj, rfl⟩ := rng_get hx
        simp only [wipeE]
        walk_at "w"
        refine pick_ok hD3 (by decide) fun v S4 v0 v1 hD4 hK4 hL4 => ?_
        walk_at "w"
        have hk4 : S4[S1.length]? = some (.lst (is.map .int)) := by rw [hK4.get _ (lt_of_get hk) hr1]; exact hk
        have hi' : ∀ g ∈ is, 0 ≤ g ∧ g < ((j + 1 : Nat) : Int) := fun g hg => by have := hi g hg; omega
        split
        · refine ⟨hk4, is ++ [((0 : Int) + (j : Nat))], by rw [List.map_append]; rfl, by rw [List.length_append]; simp only [List.length_singleton]; omega, ?_, fun g hg => ?_, by rw [List.getElem?_set_self (lt_of_get hk4)], hD4.set hr1 hq1, (hK3.trans hK4).set (Nat.le_refl _)⟩
          · refine List.nodup_append.mpr ⟨hn, List.nodup_cons.mpr ⟨List.not_mem_nil, List.nodup_nil⟩, fun a ha b hb => ?_⟩
            rw [List.mem_singleton.mp hb]
            have := hi a ha
            omega
          · rcases List.mem_append.mp hg with hg | hg
            · exact hi' g hg
            · rw [List.mem_singleton.mp hg]
              omega
        · exact ⟨is, rfl, by omega, hn, hi', hk4, hD4, hK3.trans hK4⟩
      · rintro acc S3 ⟨is, rfl, hl, hn, hi, hk, hD3, hK3⟩
        rw [rng_length] at hl hi
        exact ⟨is, _, rfl, hl, hn, hi, hk, hD3, hK1.trans hK3⟩
    rintro _ S2 ⟨is, a5, rfl, hl, hn, hi, hk, hD2, hK2⟩
    have hr2 : S2.length ≠ r := Nat.ne_of_gt hD2.lt.1
    refine w_join (fun env S3 => ∃ (is : List Int) (L : Nat), L ≠ r ∧ env = [some (.ref r), some (.int (many : Nat)), some (.str z), some (.int stops), some (.ref L), a5] ∧ is.length ≤ many ∧ is.Nodup ∧ (∀ b ∈ is, 0 ≤ b ∧ b < many) ∧ S3[L]? = some (.lst (is.map .int)) ∧ Dr r q S3 ∧ Kp r S S3) ?_ ?_
    · walk_at "w"
      refine pick_ok hD2 (by decide) fun v S4 v0 v1 hD4 hK4 hL4 => ?_
      have hk4 : S4[S1.length]? = some (.lst (is.map .int)) := by rw [hK4.get _ (lt_of_get hk) hr1]; exact hk
      walk_at "w"
      split
      · rw [x_revL hk4]
        refine ⟨is.reverse, S4.length, Nat.ne_of_gt hD4.lt.1, rfl, by rw [List.length_reverse]; exact hl, List.pairwise_reverse.mpr (hn.imp Ne.symm), fun b hb => hi b (List.mem_reverse.mp hb), ?_, hD4.app, (hK2.trans hK4).trans Kp.app⟩
        rw [List.map_reverse]
        exact get_new
      · exact ⟨is, S1.length, hr1, rfl, hl, hn, hi, hk4, hD4, hK2.trans hK4⟩
    rintro _ S3 ⟨is, L, hLr, rfl, hl, hn, hi, hk, hD3, hK3⟩
    walk_at "w"
    exact law_row_ok hD3 hz hzl hk hLr (by omega) hi fun d S4 hd hD4 hK4 => k d S4 (.inr ⟨is, hd, hn, hi⟩) hD4 (hK3.trans hK4)
end TS
set_option Elab.async false
set_option linter.all false
set_option maxRecDepth 100000
set_option maxHeartbeats 2000000
namespace TS
open PySem PySem.Spec PyProof.Rows L2
local macro_rules | `(tactic| walk_at "w") => `(tactic| simp only [w_mulX, w_mulXS, x_isiSS, x_isiIS, x_isiII, x_isiIB, x_isiTT, x_isiNS, x_isTN, x_isSN, x_isIN, x_notTN, x_notSN, x_notIN, x_revX, x_revV, x_revVT, w_ord, w_asBl, w_body, env0, w_seq, w_asg, w_sret, w_retN, w_drop, w_sIf, w_for, w_aug, w_nx, w_brk, w_cnt, w_gN, w_gTup, w_gsCons, w_gsNil, w_gSub, w_var, w_c, w_op, w_un, w_call, w_eMt, w_tup, w_lst, w_aNil, w_aCons, w_asB, w_asT, w_bAnd, w_bOr, w_bNot, w_eAnd, w_eOr, w_eNot, w_eIf, w_eSl, w_pNo, w_pSome, w_chain,
  w_add, w_addT, w_sub, w_mul, w_mod, w_fdiv, w_pow, w_lt, w_le, w_gt, w_ge, w_int, w_min, w_max, w_lenT, w_lenF, w_truB, w_isB, w_notB, w_tyS, w_slT, w_tupT, w_eqI, w_neI, w_eqBl, w_neBl, w_find, w_rg1, w_rg2, w_anyI, w_ixT, w_ixF, w_ixS, w_lenS, w_slS, w_addS, w_disp, w_kNil, w_kCons, w_yes, w_zip, w_ltS1, w_ninS, x_enum, x_geS1, w_par2, w_eLenSet, w_intB, w_notN, w_isN, w_neg, w_kget, w_kin, w_get2, w_fld, w_sFld, w_sFldAdd, w_meth, w_make, w_optS, w_non, w_addI,
  List.map_cons, List.map_nil, List.length_cons, List.length_nil, List.replicate, List.cons_append, List.nil_append, List.getElem?_cons_zero, List.getElem?_cons_succ, List.set_cons_zero, List.set_cons_succ, Nat.reduceAdd, Nat.reduceSub, Nat.sub_self, Nat.sub_zero,
  Option.some.injEq, exists_eq_left', D.bl.injEq, D.int.injEq, rgOf_1, rgOf2_2, and_true, true_and])
local macro_rules | `(tactic| walk_at "v") => `(tactic| simp only [w_mulX, w_mulXS, x_isiSS, x_isiIS, x_isiII, x_isiIB, x_isiTT, x_isiNS, x_isTN, x_isSN, x_isIN, x_notTN, x_notSN, x_notIN, x_revX, x_revV, x_revVT, w_ord, w_asBl, env0, w_asg, w_sret, w_retN, w_drop, w_for, w_aug, w_nx, w_brk, w_cnt, w_gN, w_gTup, w_gsCons, w_gsNil, w_gSub, w_var, w_c, w_op, w_un, w_call, w_eMt, w_tup, w_lst, w_aNil, w_aCons, w_asB, w_asT, w_bAnd, w_bOr, w_bNot, w_eAnd, w_eOr, w_eNot, w_eIf, w_eSl, w_pNo, w_pSome, w_chain,
  w_add, w_addT, w_sub, w_mul, w_mod, w_fdiv, w_pow, w_lt, w_le, w_gt, w_ge, w_int, w_min, w_max, w_lenT, w_lenF, w_truB, w_isB, w_notB, w_tyS, w_slT, w_tupT, w_eqI, w_neI, w_eqBl, w_neBl, w_find, w_rg1, w_rg2, w_anyI, w_ixT, w_ixF, w_ixS, w_lenS, w_slS, w_addS, w_disp, w_kNil, w_kCons, w_yes, w_zip, w_ltS1, w_ninS, x_enum, x_geS1, w_par2, w_eLenSet, w_intB, w_notN, w_isN, w_neg, w_kget, w_kin, w_get2, w_fld, w_sFld, w_sFldAdd, w_meth, w_make, w_optS, w_non, w_addI,
  List.map_cons, List.map_nil, List.length_cons, List.length_nil, List.replicate, List.cons_append, List.nil_append, List.getElem?_cons_zero, List.getElem?_cons_succ, List.set_cons_zero, List.set_cons_succ, Nat.reduceAdd, Nat.reduceSub, Nat.sub_self, Nat.sub_zero,
  Option.some.injEq, exists_eq_left', D.bl.injEq, D.int.injEq, rgOf_1, rgOf2_2, and_true, true_and])
local macro_rules | `(tactic| walk_at "l") => `(tactic| simp only [w_eqL, w_neL, w_inT1, w_inT2, w_inT3, at0, at1, at2, Option.some.injEq, String.reduceBEq, Bool.or_false, Bool.or_true, Bool.false_or, Bool.true_or, Bool.not_true, Bool.not_false, Bool.false_eq_true, if_true, if_false, D.bl.injEq, D.str.injEq, exists_eq_left', and_true, true_and])
abbrev natD (n : Nat) : D := .int (n : Nat)
/-- an entry of a machine -/
def CellM (st many : Nat) (c : D) : Prop := c = .non ∨ ∃ (g : Nat) (ns : List D), g < st ∧ NewsM many ns ∧ c = .tup [.int (g : Nat), .tup ns]
def PairM (nc st many : Nat) (p : D) : Prop := ∃ cs, p = .tup cs ∧ cs.length = nc ∧ ∀ c ∈ cs, CellM st many c
def StateM (L nc st many : Nat) (d : D) : Prop := ∃ ps, d = .tup ps ∧ ps.length = L ∧ ∀ p ∈ ps, PairM nc st many p
def EndM (many : Nat) (d : D) : Prop := d = .non ∨ ∃ is, RowM many is d ∧ is.Nodup ∧ ∀ b ∈ is, 0 ≤ b ∧ b < many
def aheadD (A : List (List Nat)) : List D := A.map fun r => .tup (r.map natD)
/-- a machine: its classes by A, its rows, its ends -/
structure MC (L nc st many : Nat) (A : List (List Nat)) (rs es : List D) : Prop where
  la : A.length = nc
  ra : ∀ r ∈ A, r.length = L ∧ ∀ k ∈ r, k < nc
  lr : rs.length = st
  le : es.length = st
  rr : ∀ d ∈ rs, StateM L nc st many d
  ee : ∀ d ∈ es, EndM many d
theorem nats_list {m : Nat} {l : List D} (h : ∀ d ∈ l, ∃ v : Nat, v < m ∧ d = natD v) : ∃ ns : List Nat, l = ns.map natD ∧ ∀ v ∈ ns, v < m := by
  induction l with
  | nil => exact ⟨[], rfl, fun _ h => nomatch h⟩
  | cons d r ih =>
    obtain ⟨v, h1, rfl⟩ := h d (List.mem_cons_self ..)
    obtain ⟨ns, rfl, h2⟩ := ih fun d hd => h d (List.mem_cons_of_mem _ hd)
    exact ⟨v :: ns, rfl, fun x hx => (List.mem_cons.mp hx).elim (fun e => e ▸ h1) (h2 x)⟩
theorem rows_list {L m : Nat} {l : List D} (h : ∀ d ∈ l, ∃ ns : List Nat, d = .tup (ns.map natD) ∧ ns.length = L ∧ ∀ v ∈ ns, v < m) : ∃ A : List (List Nat), l = aheadD A ∧ ∀ r ∈ A, r.length = L ∧ ∀ k ∈ r, k < m := by
  induction l with
  | nil => exact ⟨[], rfl, fun _ h => nomatch h⟩
  | cons d r ih =>
    obtain ⟨ns, rfl, h1⟩ := h d (List.mem_cons_self ..)
    obtain ⟨A, rfl, h2⟩ := ih fun d hd => h d (List.mem_cons_of_mem _ hd)
    exact ⟨ns :: A, rfl, fun x hx => (List.mem_cons.mp hx).elim (fun e => e ▸ h1) (h2 x)⟩
theorem law_cell_ok {r q many : Nat} {z : Str} {S : Store} {st : Nat} {stops : Int} {Q : D → Store → Prop} (h : Dr r q S) (hz : z.cps.toList.all smallQ = true) (hzl : 1 ≤ z.length ∧ z.length ≤ 7) (hm : many ≤ 7) (hst : 1 ≤ st) (k : ∀ (d : D) S', CellM st many d → Dr r q S' → Kp r S S' → Q d S') : wp (m_law_cell [.ref r, .int (st : Nat), .int (many : Nat), .str z, .int stops]) S Q := by
  unfold m_law_cell f_law_cell
  rw [w_body, w_seq, w_sIf]
  walk_at "v"
  refine pick_ok h (by decide) fun n S1 n0 n1 hD1 hK1 hL1 => ?_
  walk_at "v"
  split
  · exact k _ S1 (.inl rfl) hD1 hK1
  · refine pick_ok hD1 (by omega) fun v S2 v0 v1 hD2 hK2 hL2 => ?_
    refine law_news_ok hD2 hz hzl hm fun ds S3 hN hD3 hK3 => ?_
    obtain ⟨g, rfl⟩ := int_nat v0
    exact ⟨by decide, k _ S3 (.inr ⟨g, ds, by omega, hN, rfl⟩) hD3 ((hK1.trans hK2).trans hK3)⟩
theorem law_machine_ok {r q st nc many : Nat} {S : Store} {z sg : Str} {stops : Int} {Q : D → Store → Prop} (h : Dr r q S) (hz : 1 ≤ z.length ∧ z.length ≤ 7) (hg : sg.cps.toList.all smallQ = true) (hgl : 1 ≤ sg.length ∧ sg.length ≤ 7) (hs : 1 ≤ st ∧ st ≤ 3) (hnc : 1 ≤ nc ∧ nc ≤ 9) (hm : many ≤ 7)
    (k : ∀ (A : List (List Nat)) (rs es : List D) S', MC z.length nc st many A rs es → Dr r q S' → Kp r S S' → Q (.tup [.str "boxes", .str z, .tup (aheadD A), .int (many : Nat), .tup rs, .tup es]) S') :
    wp (m_law_machine [.ref r, .str z, .str sg, .int (st : Nat), .int (many : Nat), .int (nc : Nat), .int stops]) S Q := by
  unfold m_law_machine f_law_machine
  have sz : z.length ≤ sizeLine := Nat.le_of_lt (sz_lt (by omega))
  rw [w_body]
  refine w_cut (fun env S1 => ∃ A : List (List Nat), env = [some (.ref r), some (.str z), some (.str sg), some (.int (st : Nat)), some (.int (many : Nat)), some (.int (nc : Nat)), some (.int stops), some (.tup (aheadD A)), none, none, none, none, none, none] ∧ A.length = nc ∧ (∀ r ∈ A, r.length = z.length ∧ ∀ k ∈ r, k < nc) ∧ Dr r q S1 ∧ Kp r S S1) ?_ ?_
  · walk_at "w"
    refine w_lcD (r := r) (q := q) (xs := rng 0 nc) (fun _ d => ∃ ns : List Nat, d = .tup (ns.map natD) ∧ ns.length = z.length ∧ ∀ v ∈ ns, v < nc) (rg1_eq rfl (by omega)) h (by rw [rng_length]; exact sz_lt (by omega)) (fun j y S4 hy hD4 hK4 => ?_) fun es S4 he hp hD4 hK4 hk => ?_
    · simp only [wipeE]
      walk_at "w"
      rw [w_lcF]
      walk_at "w"
      refine ⟨sz, ⟨by omega, by omega⟩, ?_⟩
      rw [show ((z.length : Nat) : Int).toNat = z.length from rfl]
      refine w_lcD (r := r) (q := q) (xs := rng 0 z.length) (fun _ d => ∃ v : Nat, v < nc ∧ d = natD v) rfl hD4 (by rw [rng_length]; exact sz_lt (by omega)) (fun j y S5 hy hD5 hK5 => ?_) fun es S5 he hp hD5 hK5 hk => ?_
      · simp only [wipeE]
        walk_at "w"
        refine pick_ok hD5 (by omega) fun v S6 v0 v1 hD6 hK6 hL6 => ?_
        obtain ⟨n, rfl⟩ := int_nat v0
        exact ⟨⟨n, by omega, rfl⟩, hD6, hK6⟩
      · rw [w_tupL hk]
        rw [rng_length] at he
        obtain ⟨ns, rfl, hv⟩ := nats_list (mem_idx hp)
        exact ⟨⟨ns, rfl, by rw [← he, List.length_map], hv⟩, hD5, hK5⟩
    · rw [w_tupL hk]
      rw [rng_length] at he
      obtain ⟨A, rfl, hA⟩ := rows_list (mem_idx hp)
      exact ⟨A, rfl, by rw [← he]; unfold aheadD; rw [List.length_map], hA, hD4, hK4⟩
  rintro _ S1 ⟨A, rfl, ha1, ha2, hD1, hK1⟩
  have hr1 : S1.length ≠ r := Nat.ne_of_gt hD1.lt.1
  have hq1 : S1.length ≠ q := Nat.ne_of_gt hD1.lt.2
  refine w_seqA ?_
  walk_at "v"
  refine ⟨by decide, ?_⟩
  refine w_cut (fun env S2 => ∃ (rs : List D) (a8 a9 a10 a11 a12 a13 : Option D), env = [some (.ref r), some (.str z), some (.str sg), some (.int (st : Nat)), some (.int (many : Nat)), some (.int (nc : Nat)), some (.int stops), some (.tup (aheadD A)), some (.ref S1.length), a9, a10, a11, none, a13] ∧ S2[S1.length]? = some (.lst rs) ∧ rs.length = st ∧ (∀ d ∈ rs, StateM z.length nc st many d) ∧ Dr r q S2 ∧ Kp r S S2) ?_ ?_
  · walk_at "w"
    refine ⟨⟨by omega, by omega⟩, ?_⟩
    rw [show ((st : Nat) : Int).toNat = st from rfl]
    refine wp_appD (S0 := S1) (r := r) (q := q) (L := S1.length) (fun _ d => StateM z.length nc st many d) (fun env => ∃ (a9 a10 a11 a13 : Option D), env = [some (.ref r), some (.str z), some (.str sg), some (.int (st : Nat)), some (.int (many : Nat)), some (.int (nc : Nat)), some (.int stops), some (.tup (aheadD A)), some (.ref S1.length), a9, a10, a11, none, a13]) ⟨_, _, _, _, rfl⟩ Kp.app hD1.app get_new ?_ ?_
    · rintro i x env1 S6 ds hx ⟨a9, a10, a11, a13, rfl⟩ hK6 hD6 hL6 hl6
      obtain ⟨hi, rfl⟩ := rng_get hx
      have hr6 : S6.length ≠ r := Nat.ne_of_gt hD6.lt.1
      have hq6 : S6.length ≠ q := Nat.ne_of_gt hD6.lt.2
      walk_at "w"
      refine ⟨by decide, sz, ⟨by omega, by omega⟩, ?_⟩
      rw [show ((z.length : Nat) : Int).toNat = z.length from rfl]
      refine wp_appD (S0 := S6) (r := r) (q := q) (L := S6.length) (fun _ p => PairM nc st many p) (fun env => ∃ (a11 a13 : Option D), env = [some (.ref r), some (.str z), some (.str sg), some (.int (st : Nat)), some (.int (many : Nat)), some (.int (nc : Nat)), some (.int stops), some (.tup (aheadD A)), some (.ref S1.length), some (.int (0 + (i : Nat))), some (.ref S6.length), a11, none, a13]) ⟨_, _, rfl⟩ Kp.app hD6.app get_new ?_ ?_
      · rintro j x env1 S7 ps hx7 ⟨a11, a13, rfl⟩ hK7 hD7 hL7 hl7
        obtain ⟨hj, rfl⟩ := rng_get hx7
        walk_at "w"
        rw [w_tyL hL7]
        refine w_lcD (r := r) (q := q) (xs := rng 0 nc) (fun _ d => CellM st many d) (rg1_eq rfl (by omega)) hD7 (by rw [rng_length]; exact sz_lt (by omega)) (fun l y S8 hy hD8 hK8 => ?_) fun cs S8 hcs hp hD8 hK8 hk8 => ?_
        · simp only [wipeE]
          walk_at "w"
          exact law_cell_ok hD8 hg hgl hm (by omega) fun d S9 hd hD9 hK9 => ⟨hd, hD9, hK9⟩
        · rw [rng_length] at hcs
          have hL8 : S8[S6.length]? = some (.lst ps) := by rw [hK8.get _ (lt_of_get hL7) hr6]; exact hL7
          rw [w_tupL hk8, w_app hL8 (sz_lt (by omega))]
          obtain ⟨b1, b2, b3⟩ := app_step (d := .tup cs) (Nat.le_refl _) hD8 hr6 hq6 hL8 (hK7.trans hK8)
          exact ⟨⟨_, _, rfl⟩, b1, b2, _, ⟨cs, rfl, hcs, mem_idx hp⟩, b3⟩
      · rintro env' S7 ps ⟨a11, a13, rfl⟩ hK7 hD7 hl7 hp hL7
        rw [rng_length] at hl7
        walk_at "w"
        have hL7' : S7[S1.length]? = some (.lst ds) := by rw [hK7.get _ (lt_of_get hL6) hr1]; exact hL6
        rw [w_tyL hL7', w_tupL hL7, w_app hL7' (sz_lt (by omega))]
        obtain ⟨b1, b2, b3⟩ := app_step (d := .tup ps) (Nat.le_refl _) hD7 hr1 hq1 hL7' (hK6.trans hK7)
        exact ⟨⟨_, _, _, _, rfl⟩, b1, b2, _, ⟨ps, rfl, hl7, mem_idx hp⟩, b3⟩
    · rintro env' S6 rs ⟨a9, a10, a11, a13, rfl⟩ hK6 hD6 hl6 hp hL6
      rw [rng_length] at hl6
      exact ⟨rfl, rs, none, _, _, _, none, _, rfl, hL6, hl6, mem_idx hp, hD6, hK1.trans hK6⟩
  rintro _ S2 ⟨rs, a8, a9, a10, a11, a12, a13, rfl, hrs, hrl, hrp, hD2, hK2⟩
  walk_at "w"
  refine w_lcD (r := r) (q := q) (xs := rng 0 st) (fun _ d => EndM many d) (rg1_eq rfl (by omega)) hD2 (by rw [rng_length]; exact sz_lt (by omega)) (fun j y S4 hy hD4 hK4 => ?_) fun es S4 he hp hD4 hK4 hk => ?_
  · simp only [wipeE]
    walk_at "w"
    exact law_end_ok hD4 hg hgl hm fun d S5 hd hD5 hK5 => ⟨hd.imp (fun h => h.1) id, hD5, hK5⟩
  · rw [rng_length] at he
    have hrs4 : S4[S1.length]? = some (.lst rs) := by rw [hK4.get _ (lt_of_get hrs) hr1]; exact hrs
    rw [w_tupL hk]
    rw [w_tupL hrs4]
    exact ⟨by decide, k A rs es S4 ⟨ha1, ha2, hrl, he, hrp, mem_idx hp⟩ hD4 (hK2.trans hK4)⟩
end TS
set_option Elab.async false
set_option linter.all false
set_option maxRecDepth 100000
set_option maxHeartbeats 1000000
namespace TS
open PySem PySem.Spec PyProof.Rows L2 RT
/-! ### pairs of classes, as they are -/
abbrev PR := Nat × Nat
def nxt (A B : List (List Nat)) (e : PR) (k : Nat) : PR := ((A.getD e.1 []).getD k 0, (B.getD e.2 []).getD k 0)
inductive Rch (A B : List (List Nat)) (L : Nat) : PR → Prop
  | base : Rch A B L (0, 0)
  | step {e : PR} (k : Nat) : k < L → Rch A B L e → Rch A B L (nxt A B e k)
/-- the classes of a machine: so many rows, each as long as the letters, of classes -/
structure AOk (L n : Nat) (A : List (List Nat)) : Prop where
  pos : 0 < n
  len : A.length = n
  row : ∀ r ∈ A, r.length = L ∧ ∀ k ∈ r, k < n
section
variable {A B : List (List Nat)} {L nc nd : Nat}
theorem AOk.at (h : AOk L nc A) {c : Nat} (hc : c < nc) : ∃ r, A[c]? = some r ∧ A.getD c [] = r ∧ r.length = L ∧ ∀ k ∈ r, k < nc := by
  have hl : c < A.length := by rw [h.len]; exact hc
  refine ⟨A[c], List.getElem?_eq_getElem hl, by rw [List.getD_eq_getElem?_getD, List.getElem?_eq_getElem hl]; rfl, h.row _ (List.getElem_mem hl)⟩
theorem AOk.lt (h : AOk L nc A) {c k : Nat} (hc : c < nc) (hk : k < L) : (A.getD c []).getD k 0 < nc := by
  obtain ⟨r, _, e, h1, h2⟩ := h.at hc
  rw [e, List.getD_eq_getElem?_getD, List.getElem?_eq_getElem (by rw [h1]; exact hk)]
  exact h2 _ (List.getElem_mem _)
theorem Rch.lt (ha : AOk L nc A) (hb : AOk L nd B) {e : PR} (h : Rch A B L e) : e.1 < nc ∧ e.2 < nd := by
  induction h with
  | base => exact ⟨ha.pos, hb.pos⟩
  | step k hk _ ih => exact ⟨ha.lt ih.1 hk, hb.lt ih.2 hk⟩
theorem sum_rep (n m : Nat) : (List.replicate n m).sum = n * m := by
  induction n with
  | zero => simp
  | succ n ih => rw [List.replicate_succ, List.sum_cons, ih, Nat.succ_mul, Nat.add_comm]
def grid (nc nd : Nat) : List PR := (List.range nc).flatMap fun c => (List.range nd).map fun d => (c, d)
def lexP (a b : PR) : Prop := a.1 < b.1 ∨ a.1 = b.1 ∧ a.2 < b.2
theorem grid_sorted (nc nd : Nat) : (grid nc nd).Pairwise lexP := by
  unfold grid
  refine List.pairwise_flatMap.mpr ⟨fun c _ => ?_, ?_⟩
  · rw [List.pairwise_map]
    exact List.pairwise_lt_range.imp fun h => .inr ⟨rfl, h⟩
  · refine List.pairwise_lt_range.imp fun {a b} h x hx y hy => ?_
    obtain ⟨_, _, rfl⟩ := List.mem_map.mp hx
    obtain ⟨_, _, rfl⟩ := List.mem_map.mp hy
    exact .inl h
theorem mem_grid {nc nd : Nat} {e : PR} : e ∈ grid nc nd ↔ e.1 < nc ∧ e.2 < nd := by
  unfold grid
  simp only [List.mem_flatMap, List.mem_range, List.mem_map]
  constructor
  · rintro ⟨c, hc, d, hd, rfl⟩
    exact ⟨hc, hd⟩
  · rintro ⟨h1, h2⟩
    exact ⟨e.1, h1, e.2, h2, rfl⟩
theorem grid_len (nc nd : Nat) : (grid nc nd).length = nc * nd := by
  unfold grid
  rw [List.length_flatMap]
  have : (List.map (fun a => (List.map (fun d => (a, d)) (List.range nd)).length) (List.range nc)) = List.replicate nc nd := by
    rw [List.eq_replicate_iff]
    exact ⟨by simp, fun x hx => by
      obtain ⟨_, _, rfl⟩ := List.mem_map.mp hx
      simp⟩
  rw [this, sum_rep]
theorem lexP_ne {a b : PR} (h : lexP a b) : a ≠ b := fun e => by
  subst e
  rcases h with h | ⟨_, h⟩ <;> exact Nat.lt_irrefl _ h
open Classical in
/-- all pairs of classes that texts have, in order -/
noncomputable def allP (A B : List (List Nat)) (L nc nd : Nat) : List PR := (grid nc nd).filter fun e => decide (Rch A B L e)
theorem allP_sorted : (allP A B L nc nd).Pairwise lexP := (grid_sorted nc nd).filter _
theorem allP_nodup : (allP A B L nc nd).Nodup := allP_sorted.imp lexP_ne
theorem mem_allP (ha : AOk L nc A) (hb : AOk L nd B) {e : PR} : e ∈ allP A B L nc nd ↔ Rch A B L e := by
  classical
  unfold allP
  rw [List.mem_filter, mem_grid, decide_eq_true_iff]
  exact ⟨fun h => h.2, fun h => ⟨h.lt ha hb, h⟩⟩
theorem allP_len : (allP A B L nc nd).length ≤ nc * nd := by
  unfold allP
  rw [← grid_len nc nd]
  exact List.length_filter_le _ _
/-- a pair, a step as data -/
abbrev pD (e : PR) : D := .tup [natD e.1, natD e.2]
abbrev sD (s : Nat × PR) : D := .tup [natD s.1, natD s.2.1, natD s.2.2]
theorem pD_inj {a b : PR} (h : pD a = pD b) : a = b := by
  injection h with h
  simp only [List.cons.injEq, D.int.injEq, and_true] at h
  exact Prod.ext (by omega) (by omega)
theorem sD_inj {a b : Nat × PR} (h : sD a = sD b) : a = b := by
  injection h with h
  simp only [List.cons.injEq, D.int.injEq, and_true] at h
  exact Prod.ext (by omega) (Prod.ext (by omega) (by omega))
theorem keyT_p (M : Int) (e : PR) : keyT M (pD e) = code M [(e.1 : Int), (e.2 : Int)] := rfl
theorem keyT_s (M : Int) (s : Nat × PR) : keyT M (sD s) = code M [(s.1 : Int), (s.2.1 : Int), (s.2.2 : Int)] := rfl
theorem sort_is {α : Type} {f : α → D} {k : D → Int} {l m : List α} (hf : ∀ a b, f a = f b → a = b) (hl : l.Nodup) (hm : m.Nodup) (h : ∀ a, a ∈ l ↔ a ∈ m) (hk : ∀ a ∈ m, ∀ b ∈ m, k (f a) = k (f b) → a = b) (hs : m.Pairwise fun a b => k (f a) ≤ k (f b)) : sortK k (l.map f) = m.map f := by
  have p : (l.map f).Perm (m.map f) := ((List.perm_ext_iff_of_nodup hl hm).mpr h).map f
  refine sorted_one ((sortK_perm k _).trans p) (fun a ha b hb e => ?_) (sortK_sorted k _) (by rw [List.pairwise_map]; exact hs)
  have ha' := (p.mem_iff).mp ((sortK_perm k _).mem_iff.mp ha)
  have hb' := (p.mem_iff).mp ((sortK_perm k _).mem_iff.mp hb)
  obtain ⟨x, hx, rfl⟩ := List.mem_map.mp ha'
  obtain ⟨y, hy, rfl⟩ := List.mem_map.mp hb'
  rw [hk x hx y hy e]
theorem code2 (M a b : Int) : code M [a, b] = a * M + b := by simp [code, Int.pow_succ]
theorem code3 (M a b c : Int) : code M [a, b, c] = (a * M + b) * M + c := by simp [code, Int.pow_succ]; grind
theorem sort_pairs (ha : AOk L nc A) (hb : AOk L nd B) (hd : nd ≤ 100) {l : List PR} (hl : l.Nodup) (h : ∀ e, e ∈ l ↔ Rch A B L e) : sortK (keyT 100) (l.map pD) = (allP A B L nc nd).map pD := by
  refine sort_is (fun _ _ => pD_inj) hl allP_nodup (fun a => by rw [h, mem_allP ha hb]) (fun a ham b hbm e => ?_) ?_
  · have h1 := ((mem_allP ha hb).mp ham).lt ha hb
    have h2 := ((mem_allP ha hb).mp hbm).lt ha hb
    rw [keyT_p, keyT_p, code2, code2] at e
    exact Prod.ext (by omega) (by omega)
  · refine allP_sorted.imp_of_mem fun {a b} ham hbm h => ?_
    have h1 := ((mem_allP ha hb).mp ham).lt ha hb
    have h2 := ((mem_allP ha hb).mp hbm).lt ha hb
    rw [keyT_p, keyT_p, code2, code2]
    rcases h with h | ⟨h, h'⟩ <;> omega
/-! steps ahead of a pair -/
/-- in the order of the law: by letters, then by the pairs behind -/
noncomputable def stG (A B : List (List Nat)) (L nc nd : Nat) (p : PR) : List (Nat × PR) := (List.range L).flatMap fun k => ((allP A B L nc nd).filter fun e => decide (nxt A B e k = p)).map fun e => (k, e)
/-- in the order of the program: by the pairs behind, then by letters -/
def stF (A B : List (List Nat)) (L : Nat) (ps : List PR) (p : PR) : List (Nat × PR) := ps.flatMap fun e => ((List.range L).filter fun k => decide (nxt A B e k = p)).map fun k => (k, e)
theorem mem_stG {p : PR} {s : Nat × PR} : s ∈ stG A B L nc nd p ↔ s.1 < L ∧ s.2 ∈ allP A B L nc nd ∧ nxt A B s.2 s.1 = p := by
  unfold stG
  simp only [List.mem_flatMap, List.mem_range, List.mem_map, List.mem_filter, decide_eq_true_iff]
  constructor
  · rintro ⟨k, hk, e, ⟨h1, h2⟩, rfl⟩
    exact ⟨hk, h1, h2⟩
  · rintro ⟨h1, h2, h3⟩
    exact ⟨s.1, h1, s.2, ⟨h2, h3⟩, rfl⟩
theorem mem_stF {p : PR} {s : Nat × PR} {ps : List PR} : s ∈ stF A B L ps p ↔ s.1 < L ∧ s.2 ∈ ps ∧ nxt A B s.2 s.1 = p := by
  unfold stF
  simp only [List.mem_flatMap, List.mem_range, List.mem_map, List.mem_filter, decide_eq_true_iff]
  constructor
  · rintro ⟨e, he, k, ⟨h1, h2⟩, rfl⟩
    exact ⟨h1, he, h2⟩
  · rintro ⟨h1, h2, h3⟩
    exact ⟨s.2, h2, s.1, ⟨h1, h3⟩, rfl⟩
def lexS (a b : Nat × PR) : Prop := a.1 < b.1 ∨ a.1 = b.1 ∧ lexP a.2 b.2
theorem stG_sorted {p : PR} : (stG A B L nc nd p).Pairwise lexS := by
  unfold stG
  refine List.pairwise_flatMap.mpr ⟨fun k _ => ?_, ?_⟩
  · rw [List.pairwise_map]
    exact (allP_sorted.filter _).imp fun h => .inr ⟨rfl, h⟩
  · refine List.pairwise_lt_range.imp fun {a b} h x hx y hy => ?_
    obtain ⟨_, _, rfl⟩ := List.mem_map.mp hx
    obtain ⟨_, _, rfl⟩ := List.mem_map.mp hy
    exact .inl h
theorem lexS_ne {a b : Nat × PR} (h : lexS a b) : a ≠ b := fun e => by
  subst e
  rcases h with h | ⟨_, h⟩
  · exact Nat.lt_irrefl _ h
  · exact lexP_ne h rfl
theorem stF_nodup {ps : List PR} (h : ps.Nodup) {p : PR} : (stF A B L ps p).Nodup := by
  unfold stF
  refine List.pairwise_flatMap.mpr ⟨fun e _ => ?_, ?_⟩
  · rw [List.pairwise_map]
    exact ((List.nodup_range (n := L)).filter _).imp fun h e => h (congrArg Prod.fst e)
  · refine List.Pairwise.imp (fun {a b} h x hx y hy e => ?_) h
    obtain ⟨_, _, rfl⟩ := List.mem_map.mp hx
    obtain ⟨_, _, rfl⟩ := List.mem_map.mp hy
    exact h (congrArg Prod.snd e)
theorem sort_steps (ha : AOk L nc A) (hb : AOk L nd B) (hn : nc ≤ 1000) (hd : nd ≤ 1000) {p : PR} : sortK (keyT 1000) ((stF A B L (allP A B L nc nd) p).map sD) = (stG A B L nc nd p).map sD := by
  refine sort_is (fun _ _ => sD_inj) (stF_nodup allP_nodup) (stG_sorted.imp lexS_ne) (fun a => by rw [mem_stF, mem_stG]) (fun a ham b hbm e => ?_) ?_
  · have h1 := ((mem_allP ha hb).mp (mem_stG.mp ham).2.1).lt ha hb
    have h2 := ((mem_allP ha hb).mp (mem_stG.mp hbm).2.1).lt ha hb
    rw [keyT_s, keyT_s, code3, code3] at e
    exact Prod.ext (by omega) (Prod.ext (by omega) (by omega))
  · refine stG_sorted.imp_of_mem fun {a b} ham hbm h => ?_
    have h1 := ((mem_allP ha hb).mp (mem_stG.mp ham).2.1).lt ha hb
    have h2 := ((mem_allP ha hb).mp (mem_stG.mp hbm).2.1).lt ha hb
    rw [keyT_s, keyT_s, code3, code3]
    rcases h with h | ⟨h, h' | ⟨h', h''⟩⟩ <;> omega
/-- each pair but the first one is met by a step: so few steps are left for one pair -/
theorem stF_few (ha : AOk L nc A) (hb : AOk L nd B) (p : PR) : (stF A B L (allP A B L nc nd) p).length + (allP A B L nc nd).length ≤ L * (allP A B L nc nd).length + 2 := by
  let ps := allP A B L nc nd
  let T : List (Nat × PR) := ps.flatMap fun e => (List.range L).map fun k => (k, e)
  have hT : T.length = L * ps.length := by
    show (ps.flatMap fun e => (List.range L).map fun k => (k, e)).length = _
    rw [List.length_flatMap]
    have : (List.map (fun (e : PR) => (List.map (fun k => (k, e)) (List.range L)).length) ps) = List.replicate ps.length L := by
      rw [List.eq_replicate_iff]
      exact ⟨by simp, fun x hx => by
        obtain ⟨_, _, rfl⟩ := List.mem_map.mp hx
        simp⟩
    rw [this, sum_rep, Nat.mul_comm]
  have memT : ∀ s : Nat × PR, s.1 < L → s.2 ∈ ps → s ∈ T := fun s h1 h2 => List.mem_flatMap.mpr ⟨s.2, h2, List.mem_map.mpr ⟨s.1, List.mem_range.mpr h1, rfl⟩⟩
  have wit : ∀ q : PR, q ∈ ps → q ≠ (0, 0) → ∃ s : Nat × PR, s.1 < L ∧ s.2 ∈ ps ∧ nxt A B s.2 s.1 = q := fun q hq h0 => by
    cases (mem_allP ha hb).mp hq with
    | base => exact absurd rfl h0
    | @step e k hk he => exact ⟨(k, e), hk, (mem_allP ha hb).mpr he, rfl⟩
  let w : PR → Nat × PR := fun q => if h : q ∈ ps ∧ q ≠ (0, 0) then Classical.choose (wit q h.1 h.2) else (0, q)
  have hw : ∀ q, q ∈ ps → q ≠ (0, 0) → (w q).1 < L ∧ (w q).2 ∈ ps ∧ nxt A B (w q).2 (w q).1 = q := fun q h1 h2 => by
    show (dite _ _ _ : Nat × PR).1 < L ∧ (dite _ _ _ : Nat × PR).2 ∈ ps ∧ nxt A B (dite _ _ _ : Nat × PR).2 (dite _ _ _ : Nat × PR).1 = q
    rw [dif_pos ⟨h1, h2⟩]
    exact Classical.choose_spec (wit q h1 h2)
  let R := ps.filter fun q => decide (q ≠ p ∧ q ≠ (0, 0))
  have hR : ∀ q, q ∈ R → q ∈ ps ∧ q ≠ p ∧ q ≠ (0, 0) := fun q h => by
    obtain ⟨h1, h2⟩ := List.mem_filter.mp h
    exact ⟨h1, of_decide_eq_true h2⟩
  have nR : R.Nodup := allP_nodup.filter _
  have lR : ps.length ≤ R.length + 2 := by
    have := List.Nodup.length_le_of_subset (l₁ := ps) (l₂ := R ++ [p, (0, 0)]) allP_nodup fun q hq => by
      by_cases h1 : q = p
      · exact List.mem_append_right _ (by rw [h1]; exact List.mem_cons_self ..)
      · by_cases h2 : q = (0, 0)
        · exact List.mem_append_right _ (by rw [h2]; exact List.mem_cons_of_mem _ (List.mem_cons_self ..))
        · exact List.mem_append_left _ (List.mem_filter.mpr ⟨hq, decide_eq_true ⟨h1, h2⟩⟩)
    rw [List.length_append] at this
    exact this
  have nW : (R.map w).Nodup := by
    rw [List.Nodup, List.pairwise_map]
    refine List.Pairwise.imp_of_mem (fun {a b} h1 h2 hne e => ?_) nR
    have e1 := (hw a (hR a h1).1 (hR a h1).2.2).2.2
    have e2 := (hw b (hR b h2).1 (hR b h2).2.2).2.2
    rw [e] at e1
    exact hne (e1.symm.trans e2)
  have nU : (stF A B L ps p ++ R.map w).Nodup := List.nodup_append.mpr ⟨stF_nodup allP_nodup, nW, fun a h1 b h2 e => by
    subst e
    obtain ⟨q, hq, rfl⟩ := List.mem_map.mp h2
    have e1 := (hw q (hR q hq).1 (hR q hq).2.2).2.2
    exact (hR q hq).2.1 (e1.symm.trans (mem_stF.mp h1).2.2)⟩
  have := List.Nodup.length_le_of_subset nU (l₂ := T) fun s hs => by
    rcases List.mem_append.mp hs with h | h
    · exact memT s (mem_stF.mp h).1 (mem_stF.mp h).2.1
    · obtain ⟨q, hq, rfl⟩ := List.mem_map.mp h
      have := hw q (hR q hq).1 (hR q hq).2.2
      exact memT _ this.1 this.2.1
  rw [List.length_append, List.length_map, hT] at this
  show (stF A B L ps p).length + ps.length ≤ L * ps.length + 2
  omega
end
end TS
set_option Elab.async false
set_option linter.all false
set_option maxRecDepth 100000
set_option maxHeartbeats 2000000
namespace TS
open PySem PySem.Spec PyProof.Rows L2 RT
local macro_rules | `(tactic| walk_at "w") => `(tactic| simp only [w_mulX, w_mulXS, x_isiSS, x_isiIS, x_isiII, x_isiIB, x_isiTT, x_isiNS, x_isTN, x_isSN, x_isIN, x_notTN, x_notSN, x_notIN, x_revX, x_revV, x_revVT, w_ord, w_asBl, w_body, env0, w_seq, w_asg, w_sret, w_retN, w_drop, w_sIf, w_for, w_aug, w_nx, w_brk, w_cnt, w_gN, w_gTup, w_gsCons, w_gsNil, w_gSub, w_var, w_c, w_op, w_un, w_call, w_eMt, w_tup, w_lst, w_aNil, w_aCons, w_asB, w_asT, w_bAnd, w_bOr, w_bNot, w_eAnd, w_eOr, w_eNot, w_eIf, w_eSl, w_pNo, w_pSome, w_chain,
  w_add, w_addT, w_sub, w_mul, w_mod, w_fdiv, w_pow, w_lt, w_le, w_gt, w_ge, w_int, w_min, w_max, w_lenT, w_lenF, w_truB, w_isB, w_notB, w_tyS, w_slT, w_tupT, w_eqI, w_neI, w_eqBl, w_neBl, w_find, w_rg1, w_rg2, w_anyI, w_ixT, w_ixF, w_ixS, w_lenS, w_slS, w_addS, w_disp, w_kNil, w_kCons, w_yes, w_zip, w_ltS1, w_ninS, x_enum, x_geS1, w_par2, w_eLenSet, w_intB, w_notN, w_isN, w_neg, w_kget, w_kin, w_get2, w_fld, w_sFld, w_sFldAdd, w_meth, w_make, w_optS, w_non, w_addI, x_ixVT, w_ez,
  List.map_cons, List.map_nil, List.length_cons, List.length_nil, List.replicate, List.cons_append, List.nil_append, List.getElem?_cons_zero, List.getElem?_cons_succ, List.set_cons_zero, List.set_cons_succ, Nat.reduceAdd, Nat.reduceSub, Nat.sub_self, Nat.sub_zero,
  Option.some.injEq, exists_eq_left', D.bl.injEq, D.int.injEq, rgOf_1, rgOf2_2, and_true, true_and])
local macro_rules | `(tactic| walk_at "v") => `(tactic| simp only [w_mulX, w_mulXS, x_isiSS, x_isiIS, x_isiII, x_isiIB, x_isiTT, x_isiNS, x_isTN, x_isSN, x_isIN, x_notTN, x_notSN, x_notIN, x_revX, x_revV, x_revVT, w_ord, w_asBl, env0, w_asg, w_sret, w_retN, w_drop, w_for, w_aug, w_nx, w_brk, w_cnt, w_gN, w_gTup, w_gsCons, w_gsNil, w_gSub, w_var, w_c, w_op, w_un, w_call, w_eMt, w_tup, w_lst, w_aNil, w_aCons, w_asB, w_asT, w_bAnd, w_bOr, w_bNot, w_eAnd, w_eOr, w_eNot, w_eIf, w_eSl, w_pNo, w_pSome, w_chain,
  w_add, w_addT, w_sub, w_mul, w_mod, w_fdiv, w_pow, w_lt, w_le, w_gt, w_ge, w_int, w_min, w_max, w_lenT, w_lenF, w_truB, w_isB, w_notB, w_tyS, w_slT, w_tupT, w_eqI, w_neI, w_eqBl, w_neBl, w_find, w_rg1, w_rg2, w_anyI, w_ixT, w_ixF, w_ixS, w_lenS, w_slS, w_addS, w_disp, w_kNil, w_kCons, w_yes, w_zip, w_ltS1, w_ninS, x_enum, x_geS1, w_par2, w_eLenSet, w_intB, w_notN, w_isN, w_neg, w_kget, w_kin, w_get2, w_fld, w_sFld, w_sFldAdd, w_meth, w_make, w_optS, w_non, w_addI, x_ixVT, w_ez,
  List.map_cons, List.map_nil, List.length_cons, List.length_nil, List.replicate, List.cons_append, List.nil_append, List.getElem?_cons_zero, List.getElem?_cons_succ, List.set_cons_zero, List.set_cons_succ, Nat.reduceAdd, Nat.reduceSub, Nat.sub_self, Nat.sub_zero,
  Option.some.injEq, exists_eq_left', D.bl.injEq, D.int.injEq, rgOf_1, rgOf2_2, and_true, true_and])
local macro_rules | `(tactic| walk_at "l") => `(tactic| simp only [w_eqL, w_neL, w_inT1, w_inT2, w_inT3, at0, at1, at2, Option.some.injEq, String.reduceBEq, Bool.or_false, Bool.or_true, Bool.false_or, Bool.true_or, Bool.not_true, Bool.not_false, Bool.false_eq_true, if_true, if_false, D.bl.injEq, D.str.injEq, exists_eq_left', and_true, true_and])
/-! ### class_pairs -/
def keyP (e : PR) : List Key := [.inl (e.1 : Nat), .inl (e.2 : Nat)]
theorem keyP_inj {a b : PR} (h : keyP a = keyP b) : a = b := by
  unfold keyP at h
  simp only [List.cons.injEq, Sum.inl.injEq, and_true] at h
  exact Prod.ext (by omega) (by omega)
theorem tupKey_pD (e : PR) : tupKey (pD e) = some (keyP e) := rfl
def kvP {α : Type} (f : α → D) (ks : List (PR × α)) : List (List Key × D) := ks.map fun e => (keyP e.1, f e.2)
def setP (ks : List PR) : List (List Key × D) := ks.map fun e => (keyP e, .bl true)
theorem hasT_setP (ks : List PR) (e : PR) : hasT (setP ks) (keyP e) = decide (e ∈ ks) := by
  unfold hasT setP
  rw [List.map_map, Bool.eq_iff_iff, List.any_map, List.any_eq_true, decide_eq_true_iff]
  constructor
  · rintro ⟨x, hx, h⟩
    rw [← keyP_inj (of_decide_eq_true h)]
    exact hx
  · exact fun h => ⟨e, h, decide_eq_true rfl⟩
theorem putT_setP {ks : List PR} {e : PR} (h : e ∉ ks) : putT (setP ks) (keyP e) (.bl true) = setP (ks ++ [e]) := by
  unfold putT
  rw [hasT_setP, decide_eq_false h, if_neg Bool.false_ne_true]
  unfold setP
  rw [List.map_append]
  rfl
theorem setP_len (ks : List PR) : (setP ks).length = ks.length := List.length_map _
theorem at_nat {xs : List D} {c : Nat} {d : D} (h : xs[c]? = some d) : atI xs (c : Int) = some d := atI_nat h
theorem ahead_at {A : List (List Nat)} {L n c : Nat} (h : AOk L n A) (hc : c < n) : (aheadD A)[c]? = some (.tup ((A.getD c []).map natD)) := by
  obtain ⟨r, e1, e2, _⟩ := h.at hc
  unfold aheadD
  rw [List.getElem?_map, e1, e2]
  rfl
theorem row_len {A : List (List Nat)} {L n c : Nat} (h : AOk L n A) (hc : c < n) : (A.getD c []).length = L := by
  obtain ⟨r, e1, e2, e3, _⟩ := h.at hc
  rw [e2, e3]
section
variable {A B : List (List Nat)} {L nc nd : Nat}
/-- the successors of a pair, one for each letter -/
theorem nxt_zip (ha : AOk L nc A) (hb : AOk L nd B) {e : PR} (h1 : e.1 < nc) (h2 : e.2 < nd) {i : Nat} {x : D} (h : (zipD ((A.getD e.1 []).map natD) ((B.getD e.2 []).map natD))[i]? = some x) : i < L ∧ x = pD (nxt A B e i) := by
  unfold zipD at h
  obtain ⟨p, hp, rfl⟩ := Option.map_eq_some_iff.mp ((List.getElem?_map ..) ▸ h)
  obtain ⟨g1, g2⟩ := List.getElem?_zip_eq_some.mp hp
  obtain ⟨u, hu, e1⟩ := Option.map_eq_some_iff.mp ((List.getElem?_map ..) ▸ g1)
  obtain ⟨v, hv, e2⟩ := Option.map_eq_some_iff.mp ((List.getElem?_map ..) ▸ g2)
  have hi := (List.getElem?_eq_some_iff.mp hu).1
  rw [row_len ha h1] at hi
  refine ⟨hi, ?_⟩
  rw [← e1, ← e2]
  show D.tup [natD u, natD v] = D.tup [natD _, natD _]
  unfold nxt
  rw [List.getD_eq_getElem?_getD (l := A.getD e.1 []), List.getD_eq_getElem?_getD (l := B.getD e.2 []), hu, hv]
  rfl
theorem zip_len (ha : AOk L nc A) (hb : AOk L nd B) {e : PR} (h1 : e.1 < nc) (h2 : e.2 < nd) : (zipD ((A.getD e.1 []).map natD) ((B.getD e.2 []).map natD)).length = L := by
  unfold zipD
  rw [List.length_map, List.length_zip, List.length_map, List.length_map, row_len ha h1, row_len hb h2, Nat.min_self]
/-- what the search knows: ks met, of which ws wait -/
structure Sch (A B : List (List Nat)) (L : Nat) (ks ws : List PR) : Prop where
  nd : ks.Nodup
  b0 : (0, 0) ∈ ks
  rc : ∀ e ∈ ks, Rch A B L e
  sb : ∀ e ∈ ws, e ∈ ks
  le : ws.length ≤ ks.length
theorem few_pairs (ha : AOk L nc A) (hb : AOk L nd B) {ks : List PR} (h1 : ks.Nodup) (h2 : ∀ e ∈ ks, Rch A B L e) : ks.length ≤ nc * nd := by
  rw [← grid_len nc nd]
  exact List.Nodup.length_le_of_subset h1 fun e he => mem_grid.mpr ((h2 e he).lt ha hb)
theorem class_pairs_ok (ha : AOk L nc A) (hb : AOk L nd B) (hs : nc * nd < 64) (hc : nc ≤ 64) (hd : nd ≤ 64) {u0 u1 v0 v1 : D} {us vs : List D} {S : Store} {Q : D → Store → Prop} (k : ∀ S', Grow S S' → Q (.tup ((allP A B L nc nd).map pD)) S') :
    wp (m_class_pairs [.tup (u0 :: u1 :: .tup (aheadD A) :: us), .tup (v0 :: v1 :: .tup (aheadD B) :: vs)]) S Q := by
  unfold m_class_pairs f_class_pairs
  rw [w_body]
  refine w_cut (fun env S1 => env = [some (.tup (u0 :: u1 :: .tup (aheadD A) :: us)), some (.tup (v0 :: v1 :: .tup (aheadD B) :: vs)), some (.ref S.length), none, none, none, none] ∧ S1 = S ++ [.dT (setP [(0, 0)])]) ?_ ?_
  · simp only [w_asg, env0]
    refine w_oneT ?_
    walk_at "w"
    refine ⟨by decide, keyP (0, 0), rfl, get_new, ?_⟩
    rw [List.set_append_right _ _ (Nat.le_refl _), Nat.sub_self]
    rfl
  rintro _ S1 ⟨rfl, rfl⟩
  have l1 : (S ++ [MO.dT (setP [(0, 0)])]).length = S.length + 1 := by rw [List.length_append]; rfl
  refine w_cut (fun env S1 => env = [some (.tup (u0 :: u1 :: .tup (aheadD A) :: us)), some (.tup (v0 :: v1 :: .tup (aheadD B) :: vs)), some (.ref S.length), some (.ref (S.length + 1)), none, none, none] ∧ Grow S S1 ∧ S1[S.length]? = some (.dT (setP [(0, 0)])) ∧ S1[S.length + 1]? = some (.lst ([(0, 0)].map pD))) ?_ ?_
  · walk_at "w"
    refine ⟨by decide, by decide, ?_⟩
    refine ⟨by rw [l1], Grow.refl.app.app, ?_, ?_⟩
    · rw [List.getElem?_append_left (by rw [l1]; omega)]
      exact get_new
    · rw [← l1]
      exact get_new
  rintro _ S1 ⟨rfl, g1, m1, q1⟩
  -- the search
  refine w_cut (fun env S2 => ∃ a4 a5 a6 ks, env = [some (.tup (u0 :: u1 :: .tup (aheadD A) :: us)), some (.tup (v0 :: v1 :: .tup (aheadD B) :: vs)), some (.ref S.length), some (.ref (S.length + 1)), a4, a5, a6] ∧ Grow S S2 ∧ S2[S.length]? = some (.dT (setP ks)) ∧ Sch A B L ks [] ∧ ∀ e ∈ ks, ∀ i < L, nxt A B e i ∈ ks) ?_ ?_
  · rw [w_while]
    refine wp_while (fun m env S2 => ∃ a4 a5 a6 ks ws, env = [some (.tup (u0 :: u1 :: .tup (aheadD A) :: us)), some (.tup (v0 :: v1 :: .tup (aheadD B) :: vs)), some (.ref S.length), some (.ref (S.length + 1)), a4, a5, a6] ∧ Grow S S2 ∧ S2[S.length]? = some (.dT (setP ks)) ∧ S2[S.length + 1]? = some (.lst (ws.map pD)) ∧ Sch A B L ks ws ∧ (∀ e ∈ ks, e ∉ ws → ∀ i < L, nxt A B e i ∈ ks) ∧ m + 2 * ks.length = 2 * (nc * nd) + ws.length) ?_ 1000000 (2 * (nc * nd) + 1 - 2) _ _ (by omega) ⟨none, none, none, [(0, 0)], [(0, 0)], rfl, g1, m1, q1, ⟨by simp, by simp, fun e he => by rw [List.mem_singleton.mp he]; exact .base, fun e he => he, Nat.le_refl _⟩, fun e he hn => absurd he hn, ?_⟩
    · rintro m _ S2 ⟨a4, a5, a6, ks, ws, rfl, g2, m2, q2, sc, cl, hm⟩
      walk_at "v"
      rw [w_truL q2]
      cases hw : ws.reverse with
      | nil =>
        have hw' : ws = [] := List.reverse_eq_nil_iff.mp hw
        subst hw'
        simp only [List.map_nil, List.isEmpty_nil, Bool.not_true, Bool.false_eq_true, if_false]
        exact ⟨a4, a5, a6, ks, rfl, g2, m2, sc, fun e he => cl e he (List.not_mem_nil)⟩
      | cons e wr =>
        have hw' : ws = wr.reverse ++ [e] := by rw [← List.reverse_reverse ws, hw, List.reverse_cons]
        subst hw'
        have ne : ((wr.reverse ++ [e]).map pD).isEmpty = false := by simp
        rw [ne]
        simp only [Bool.not_false, if_true]
        have he : e ∈ ks := sc.sb e (List.mem_append_right _ (List.mem_singleton.mpr rfl))
        obtain ⟨h1, h2⟩ := (sc.rc e he).lt ha hb
        rw [List.map_append] at q2
        refine w_cut (fun env S3 => ∃ a6, env = [some (.tup (u0 :: u1 :: .tup (aheadD A) :: us)), some (.tup (v0 :: v1 :: .tup (aheadD B) :: vs)), some (.ref S.length), some (.ref (S.length + 1)), some (natD e.1), some (natD e.2), a6] ∧ Grow S S3 ∧ S3[S.length]? = some (.dT (setP ks)) ∧ S3[S.length + 1]? = some (.lst (wr.reverse.map pD))) ?_ ?_
        · walk_at "w"
          rw [w_tyL q2]
          rw [w_pop q2]
          walk_at "w"
          have lt := lt_of_get q2
          refine ⟨a6, rfl, g2.set (by omega), ?_, ?_⟩
          · rw [List.getElem?_set_ne (by omega)]
            exact m2
          · rw [List.getElem?_set_self lt]
        rintro _ S3 ⟨a6, rfl, g3, m3, q3⟩
        have bound := few_pairs ha hb sc.nd sc.rc
        walk_at "w"
        refine ⟨_, at_nat (c := 2) rfl, ?_⟩
        walk_at "w"
        refine ⟨_, at_nat (ahead_at ha h1), _, at_nat (c := 2) rfl, ?_⟩
        walk_at "w"
        refine ⟨_, at_nat (ahead_at hb h2), _, _, _, _, rfl, rfl, rfl, ?_⟩
        refine wp_loop (fun i env S4 => ∃ a6 ks' ws', env = [some (.tup (u0 :: u1 :: .tup (aheadD A) :: us)), some (.tup (v0 :: v1 :: .tup (aheadD B) :: vs)), some (.ref S.length), some (.ref (S.length + 1)), some (natD e.1), some (natD e.2), a6] ∧ Grow S S4 ∧ S4[S.length]? = some (.dT (setP ks')) ∧ S4[S.length + 1]? = some (.lst (ws'.map pD)) ∧ Sch A B L ks' ws' ∧ (∀ x ∈ ks, x ∈ ks') ∧ (∀ x ∈ ks', x ∉ ws' → x = e ∨ ∀ j < L, nxt A B x j ∈ ks') ∧ (∀ j < i, nxt A B e j ∈ ks') ∧ ks'.length + wr.length = ks.length + ws'.length) (fun _ _ _ _ => gdOk_nil _) ?_ ?_ ⟨a6, ks, wr.reverse, rfl, g3, m3, q3, ⟨sc.nd, sc.b0, sc.rc, fun x hx => sc.sb x (List.mem_append_left _ hx), by have := sc.le; rw [List.length_append] at this; omega⟩, fun _ h => h, fun x hx hn => ?_, fun j hj => absurd hj (Nat.not_lt_zero _), by rw [List.length_reverse]⟩
        · rintro i x _ S4 hx ⟨a6, ks', ws', rfl, g4, m4, q4, sc', sub, cl', pre, hlen⟩
          obtain ⟨hi, rfl⟩ := nxt_zip ha hb h1 h2 hx
          walk_at "w"
          rw [w_ninV m4 (tupKey_pD _), hasT_setP]
          refine ⟨_, rfl, ?_⟩
          have bound' := few_pairs ha hb sc'.nd sc'.rc
          by_cases c : nxt A B e i ∈ ks'
          · rw [decide_eq_true c]
            simp only [Bool.not_true, Bool.false_eq_true, if_false]
            exact ⟨_, ks', ws', rfl, g4, m4, q4, sc', sub, cl', fun j hj => (Nat.lt_succ_iff_lt_or_eq.mp hj).elim (pre j) fun z => z ▸ c, hlen⟩
          · rw [decide_eq_false c]
            simp only [Bool.not_false, if_true]
            rw [w_setV m4 (tupKey_pD _) (sz_lt (by rw [setP_len]; omega)), putT_setP c]
            have q5 : (S4.set S.length (.dT (setP (ks' ++ [nxt A B e i]))))[S.length + 1]? = some (.lst (ws'.map pD)) := by
              rw [List.getElem?_set_ne (by omega)]
              exact q4
            have ltm := lt_of_get m4
            rw [w_tyL q5, w_app q5 (sz_lt ?_)]
            · refine ⟨_, ks' ++ [nxt A B e i], ws' ++ [nxt A B e i], rfl, (g4.set (Nat.le_refl _)).set (by omega), ?_, ?_, ⟨?_, ?_, ?_, ?_, by have := sc'.le; simp only [List.length_append, List.length_singleton]; omega⟩, ?_, ?_, ?_, ?_⟩
              · rw [List.getElem?_set_ne (by omega), List.getElem?_set_self ltm]
              · rw [List.getElem?_set_self (lt_of_get q5), List.map_append]
                rfl
              · exact List.nodup_append.mpr ⟨sc'.nd, by simp, fun x hx y hy z => c (by rw [← List.mem_singleton.mp hy, ← z]; exact hx)⟩
              · exact List.mem_append_left _ sc'.b0
              · intro x hx
                rcases List.mem_append.mp hx with hx | hx
                · exact sc'.rc x hx
                · rw [List.mem_singleton.mp hx]
                  exact .step i hi (sc.rc e he)
              · intro x hx
                rcases List.mem_append.mp hx with hx | hx
                · exact List.mem_append_left _ (sc'.sb x hx)
                · exact List.mem_append_right _ hx
              · exact fun x hx => List.mem_append_left _ (sub x hx)
              · intro x hx hn
                rcases List.mem_append.mp hx with hx | hx
                · exact (cl' x hx fun z => hn (List.mem_append_left _ z)).imp id fun z j hj => List.mem_append_left _ (z j hj)
                · exact absurd (List.mem_append_right _ hx) hn
              · exact fun j hj => (Nat.lt_succ_iff_lt_or_eq.mp hj).elim (fun z => List.mem_append_left _ (pre j z)) fun z => List.mem_append_right _ (by rw [z]; exact List.mem_singleton.mpr rfl)
              · simp only [List.length_append, List.length_singleton]
                omega
            · rw [List.length_map]
              have := hm
              have := sc'.le
              omega
        · rintro _ S4 ⟨a6, ks', ws', rfl, g4, m4, q4, sc', sub, cl', pre, hlen⟩
          rw [zip_len ha hb h1 h2] at pre
          have bound' := few_pairs ha hb sc'.nd sc'.rc
          refine ⟨m - 1 - (ks'.length - ks.length), ?_, _, _, a6, ks', ws', rfl, g4, m4, q4, sc', fun x hx hn => (cl' x hx hn).elim (fun z => by rw [z]; exact pre) id, ?_⟩
          · simp only [List.length_append, List.length_reverse, List.length_singleton] at hm
            omega
          · have : ks.length ≤ ks'.length := List.Nodup.length_le_of_subset sc.nd sub
            simp only [List.length_append, List.length_reverse, List.length_singleton] at hm
            omega
        · by_cases z : x = e
          · exact .inl z
          · refine .inr (cl x hx fun w => ?_)
            rcases List.mem_append.mp w with w | w
            · exact hn w
            · exact z (List.mem_singleton.mp w)
    · have : 0 < nc * nd := Nat.mul_pos ha.pos hb.pos
      simp only [List.length_singleton]
      omega
  rintro _ S2 ⟨a4, a5, a6, ks, rfl, g2, m2, sc, cl⟩
  have all : ∀ e, e ∈ ks ↔ Rch A B L e := fun e => ⟨sc.rc e, fun h => by
    induction h with
    | base => exact sc.b0
    | step i hi _ ih => exact cl _ ih i hi⟩
  have bound := few_pairs ha hb sc.nd sc.rc
  walk_at "w"
  rw [w_sortDT m2 (by rw [setP_len]; omega) ?_]
  · have e1 : (setP ks).map (fun p => keyTup p.1) = ks.map pD := by
      unfold setP
      rw [List.map_map]
      rfl
    rw [e1, sort_pairs ha hb (by omega) sc.nd all]
    rw [w_tupL get_new]
    exact k _ g2.app
  · unfold setP
    rw [List.all_map, List.all_eq_true]
    intro e he
    have := (sc.rc e he).lt ha hb
    show okK 2 100 (keyP e) = true
    show (decide (2 = 2) && ([((e.1 : Nat) : Int), ((e.2 : Nat) : Int)].all fun n => decide (0 ≤ n ∧ n < 100))) = true
    simp only [decide_true, Bool.true_and, List.all_cons, List.all_nil, Bool.and_true, Bool.and_eq_true, decide_eq_true_iff]
    omega
end
end TS
set_option Elab.async false
set_option linter.all false
set_option maxRecDepth 100000
set_option maxHeartbeats 2000000
namespace TS
open PySem PySem.Spec PyProof.Rows L2 RT
local macro_rules | `(tactic| walk_at "w") => `(tactic| simp only [w_mulX, w_mulXS, x_isiSS, x_isiIS, x_isiII, x_isiIB, x_isiTT, x_isiNS, x_isTN, x_isSN, x_isIN, x_notTN, x_notSN, x_notIN, x_revX, x_revV, x_revVT, w_ord, w_asBl, w_body, env0, w_seq, w_asg, w_sret, w_retN, w_drop, w_sIf, w_for, w_aug, w_nx, w_brk, w_cnt, w_gN, w_gTup, w_gsCons, w_gsNil, w_gSub, w_var, w_c, w_op, w_un, w_call, w_eMt, w_tup, w_lst, w_aNil, w_aCons, w_asB, w_asT, w_bAnd, w_bOr, w_bNot, w_eAnd, w_eOr, w_eNot, w_eIf, w_eSl, w_pNo, w_pSome, w_chain,
  w_add, w_addT, w_sub, w_mul, w_mod, w_fdiv, w_pow, w_lt, w_le, w_gt, w_ge, w_int, w_min, w_max, w_lenT, w_lenF, w_truB, w_isB, w_notB, w_tyS, w_slT, w_tupT, w_eqI, w_neI, w_eqBl, w_neBl, w_find, w_rg1, w_rg2, w_anyI, w_ixT, w_ixF, w_ixS, w_lenS, w_slS, w_addS, w_disp, w_kNil, w_kCons, w_yes, w_zip, w_ltS1, w_ninS, x_enum, x_geS1, w_par2, w_eLenSet, w_intB, w_notN, w_isN, w_neg, w_kget, w_kin, w_get2, w_fld, w_sFld, w_sFldAdd, w_meth, w_make, w_optS, w_non, w_addI, x_ixVT, w_ez,
  List.map_cons, List.map_nil, List.length_cons, List.length_nil, List.replicate, List.cons_append, List.nil_append, List.getElem?_cons_zero, List.getElem?_cons_succ, List.set_cons_zero, List.set_cons_succ, Nat.reduceAdd, Nat.reduceSub, Nat.sub_self, Nat.sub_zero,
  Option.some.injEq, exists_eq_left', D.bl.injEq, D.int.injEq, rgOf_1, rgOf2_2, and_true, true_and])
local macro_rules | `(tactic| walk_at "v") => `(tactic| simp only [w_mulX, w_mulXS, x_isiSS, x_isiIS, x_isiII, x_isiIB, x_isiTT, x_isiNS, x_isTN, x_isSN, x_isIN, x_notTN, x_notSN, x_notIN, x_revX, x_revV, x_revVT, w_ord, w_asBl, env0, w_asg, w_sret, w_retN, w_drop, w_for, w_aug, w_nx, w_brk, w_cnt, w_gN, w_gTup, w_gsCons, w_gsNil, w_gSub, w_var, w_c, w_op, w_un, w_call, w_eMt, w_tup, w_lst, w_aNil, w_aCons, w_asB, w_asT, w_bAnd, w_bOr, w_bNot, w_eAnd, w_eOr, w_eNot, w_eIf, w_eSl, w_pNo, w_pSome, w_chain,
  w_add, w_addT, w_sub, w_mul, w_mod, w_fdiv, w_pow, w_lt, w_le, w_gt, w_ge, w_int, w_min, w_max, w_lenT, w_lenF, w_truB, w_isB, w_notB, w_tyS, w_slT, w_tupT, w_eqI, w_neI, w_eqBl, w_neBl, w_find, w_rg1, w_rg2, w_anyI, w_ixT, w_ixF, w_ixS, w_lenS, w_slS, w_addS, w_disp, w_kNil, w_kCons, w_yes, w_zip, w_ltS1, w_ninS, x_enum, x_geS1, w_par2, w_eLenSet, w_intB, w_notN, w_isN, w_neg, w_kget, w_kin, w_get2, w_fld, w_sFld, w_sFldAdd, w_meth, w_make, w_optS, w_non, w_addI, x_ixVT, w_ez,
  List.map_cons, List.map_nil, List.length_cons, List.length_nil, List.replicate, List.cons_append, List.nil_append, List.getElem?_cons_zero, List.getElem?_cons_succ, List.set_cons_zero, List.set_cons_succ, Nat.reduceAdd, Nat.reduceSub, Nat.sub_self, Nat.sub_zero,
  Option.some.injEq, exists_eq_left', D.bl.injEq, D.int.injEq, rgOf_1, rgOf2_2, and_true, true_and])
local macro_rules | `(tactic| walk_at "l") => `(tactic| simp only [w_eqL, w_neL, w_inT1, w_inT2, w_inT3, at0, at1, at2, Option.some.injEq, String.reduceBEq, Bool.or_false, Bool.or_true, Bool.false_or, Bool.true_or, Bool.not_true, Bool.not_false, Bool.false_eq_true, if_true, if_false, D.bl.injEq, D.str.injEq, exists_eq_left', and_true, true_and])
/-! ### steps_by_pair -/
/-- pairs, each with a list of its own: the lists stand one behind the other from b on -/
def kvI (b : Nat) : List PR → List (List Key × D)
  | [] => []
  | e :: r => (keyP e, .ref b) :: kvI (b + 1) r
theorem kvI_len (b : Nat) : ∀ ps : List PR, (kvI b ps).length = ps.length
  | [] => rfl
  | e :: r => by show (kvI (b + 1) r).length + 1 = r.length + 1; rw [kvI_len]
theorem kvI_app (b : Nat) : ∀ (ps : List PR) (e : PR), kvI b (ps ++ [e]) = kvI b ps ++ [(keyP e, .ref (b + ps.length))]
  | [], e => rfl
  | x :: r, e => by
    show (keyP x, D.ref b) :: kvI (b + 1) (r ++ [e]) = (keyP x, D.ref b) :: (kvI (b + 1) r ++ _)
    rw [kvI_app (b + 1) r e, List.length_cons, Nat.add_assoc, Nat.add_comm 1]
theorem kvI_has (b : Nat) : ∀ (ps : List PR) (e : PR), hasT (kvI b ps) (keyP e) = decide (e ∈ ps)
  | [], e => rfl
  | x :: r, e => by
    have ih := kvI_has (b + 1) r e
    unfold hasT at ih ⊢
    show (decide (keyP x = keyP e) || _) = _
    rw [ih, Bool.eq_iff_iff, Bool.or_eq_true, decide_eq_true_iff, decide_eq_true_iff, decide_eq_true_iff, List.mem_cons]
    exact ⟨fun h => h.imp (fun z => (keyP_inj z).symm) id, fun h => h.imp (fun z => by rw [z]) id⟩
theorem kvI_put {b : Nat} {ps : List PR} {e : PR} (h : e ∉ ps) : putT (kvI b ps) (keyP e) (.ref (b + ps.length)) = kvI b (ps ++ [e]) := by
  unfold putT
  rw [kvI_has, decide_eq_false h, if_neg Bool.false_ne_true, kvI_app]
theorem kvI_at {b : Nat} : ∀ {ps : List PR} {i : Nat} {e : PR}, ps.Nodup → ps[i]? = some e → atT (kvI b ps) (keyP e) = some (.ref (b + i))
  | [], i, e, _, h => by simp at h
  | x :: r, 0, e, _, h => by
    rw [List.getElem?_cons_zero] at h
    cases h
    show ((List.find? _ ((keyP x, D.ref b) :: kvI (b + 1) r)).map _) = _
    rw [List.find?_cons, decide_eq_true rfl]
    rfl
  | x :: r, i + 1, e, hn, h => by
    rw [List.getElem?_cons_succ] at h
    obtain ⟨h1, h2⟩ := List.nodup_cons.mp hn
    have ih := kvI_at (b := b + 1) h2 h
    have ne : ¬ keyP x = keyP e := fun z => h1 (by rw [keyP_inj z]; exact List.mem_of_getElem? h)
    show ((List.find? _ ((keyP x, D.ref b) :: kvI (b + 1) r)).map _) = _
    rw [List.find?_cons, decide_eq_false ne]
    refine Eq.trans ih ?_
    congr 2
    omega
section
variable {A B : List (List Nat)} {L nc nd : Nat}
/-- what a list holds behind all pairs of ps, and behind the first j letters of e -/
def stJ (A B : List (List Nat)) (L : Nat) (ps : List PR) (e : PR) (j : Nat) (p : PR) : List (Nat × PR) := stF A B L ps p ++ ((List.range j).filter fun k => decide (nxt A B e k = p)).map fun k => (k, e)
theorem stJ_zero (ps : List PR) (e p : PR) : stJ A B L ps e 0 p = stF A B L ps p := by simp [stJ]
theorem stJ_full (ps : List PR) (e p : PR) : stJ A B L ps e L p = stF A B L (ps ++ [e]) p := by simp [stJ, stF]
theorem stJ_succ (ps : List PR) (e p : PR) (j : Nat) : stJ A B L ps e (j + 1) p = if nxt A B e j = p then stJ A B L ps e j p ++ [(j, e)] else stJ A B L ps e j p := by
  unfold stJ
  rw [List.range_succ, List.filter_append]
  by_cases c : nxt A B e j = p
  · rw [if_pos c]
    simp [c]
  · rw [if_neg c]
    simp [c]
theorem stF_len (ps : List PR) (p : PR) : (stF A B L ps p).length ≤ ps.length * L := by
  induction ps with
  | nil => simp [stF]
  | cons e r ih =>
    have : stF A B L (e :: r) p = ((List.range L).filter fun k => decide (nxt A B e k = p)).map (fun k => (k, e)) ++ stF A B L r p := rfl
    rw [this, List.length_append, List.length_map, List.length_cons, Nat.succ_mul]
    have := List.length_filter_le (fun k => decide (nxt A B e k = p)) (List.range L)
    rw [List.length_range] at this
    omega
theorem stJ_len (ps : List PR) (e p : PR) (j : Nat) : (stJ A B L ps e j p).length ≤ ps.length * L + j := by
  unfold stJ
  rw [List.length_append, List.length_map]
  have h1 := stF_len (A := A) (B := B) (L := L) ps p
  have h2 := List.length_filter_le (fun k => decide (nxt A B e k = p)) (List.range j)
  rw [List.length_range] at h2
  omega
theorem enz (ha : AOk L nc A) (hb : AOk L nd B) {e : PR} (h1 : e.1 < nc) (h2 : e.2 < nd) {i : Nat} {x : D} (h : (enD (zipD ((A.getD e.1 []).map natD) ((B.getD e.2 []).map natD)))[i]? = some x) : i < L ∧ x = .tup [natD i, pD (nxt A B e i)] := by
  obtain ⟨y, hy, rfl⟩ := enD_get.mp h
  obtain ⟨hi, rfl⟩ := nxt_zip ha hb h1 h2 hy
  exact ⟨hi, rfl⟩
theorem enz_len (ha : AOk L nc A) (hb : AOk L nd B) {e : PR} (h1 : e.1 < nc) (h2 : e.2 < nd) : (enD (zipD ((A.getD e.1 []).map natD) ((B.getD e.2 []).map natD))).length = L := by rw [enD_length, zip_len ha hb h1 h2]
theorem steps_by_pair_ok (ha : AOk L nc A) (hb : AOk L nd B) (hs : nc * nd ≤ 20) (hL : L ≤ 4) (hc : nc ≤ 64) (hd : nd ≤ 64) {u0 u1 v0 v1 : D} {us vs : List D} {S : Store} {Q : D → Store → Prop}
    (k : ∀ r b S', Grow S S' → S'[r]? = some (.dT (kvI b (allP A B L nc nd))) → (∀ i e, (allP A B L nc nd)[i]? = some e → S'[b + i]? = some (.lst ((stG A B L nc nd e).map sD))) → Q (.ref r) S') :
    wp (m_steps_by_pair [.tup (u0 :: u1 :: .tup (aheadD A) :: us), .tup (v0 :: v1 :: .tup (aheadD B) :: vs)]) S Q := by
  unfold m_steps_by_pair f_steps_by_pair
  let P := allP A B L nc nd
  have pn : P.Nodup := allP_nodup
  have pl : P.length ≤ 20 := Nat.le_trans allP_len hs
  have pm : ∀ {i : Nat} {e : PR}, P[i]? = some e → e.1 < nc ∧ e.2 < nd := fun h => ((mem_allP ha hb).mp (List.mem_of_getElem? h)).lt ha hb
  have src : ∀ S', srcOf S' (.tup (P.map pD)) = some (P.map pD, []) := fun _ => rfl
  have geP : ∀ {i : Nat} {x : D}, (P.map pD)[i]? = some x → ∃ e, P[i]? = some e ∧ x = pD e := fun {i x} h => by
    rw [List.getElem?_map] at h
    obtain ⟨e, h1, h2⟩ := Option.map_eq_some_iff.mp h
    exact ⟨e, h1, h2.symm⟩
  rw [w_body]
  refine w_seqA ?_
  walk_at "v"
  refine class_pairs_ok ha hb (by omega) hc hd fun S1 g1 => ?_
  show wp _ S1 _
  -- an empty list for each pair
  refine w_cut (fun env S2 => env = [some (.tup (u0 :: u1 :: .tup (aheadD A) :: us)), some (.tup (v0 :: v1 :: .tup (aheadD B) :: vs)), some (.tup (P.map pD)), some (.ref S1.length), none, none, none, none] ∧ Grow S S2 ∧ S2[S1.length]? = some (.dT (kvI (S1.length + 1) P)) ∧ ∀ i, i < P.length → S2[S1.length + 1 + i]? = some (.lst [])) ?_ ?_
  · simp only [w_asg, w_gN]
    refine wp_dcT (xs := P.map pD) (g := []) (S1 := S1) rfl (fun i kvs S2 => kvs = kvI (S1.length + 1) (P.take i) ∧ S2[S1.length]? = some (.dT kvs) ∧ S2.length = S1.length + 1 + min i P.length ∧ Grow S S2 ∧ ∀ j, j < i → j < P.length → S2[S1.length + 1 + j]? = some (.lst [])) ⟨rfl, get_new, by rw [List.length_append]; simp, g1.app, fun j hj => absurd hj (Nat.not_lt_zero _)⟩ (fun _ _ _ h => h.2.1) (fun _ _ _ _ => gdOk_nil _) (fun i kvs S2 h => by rw [h.1, kvI_len, List.length_take]; exact sz_lt (by omega)) ?_ ?_
    · rintro i x _ S2 hx ⟨rfl, m2, l2, g2, e2⟩
      obtain ⟨e, he, rfl⟩ := geP hx
      have hi : i < P.length := (List.getElem?_eq_some_iff.mp he).1
      simp only [wipeE]
      walk_at "w"
      have tk : P.take (i + 1) = P.take i ++ [e] := by rw [List.take_succ, he]; rfl
      have tl : (P.take i).length = i := by rw [List.length_take]; omega
      have l2' : S2.length = S1.length + 1 + i := by omega
      have nin : e ∉ P.take i := fun h => by
        have := pn
        rw [← List.take_append_drop i P] at this
        refine (List.nodup_append.mp this).2.2 e h e ?_ rfl
        rw [drop_at he]
        exact List.mem_cons_self ..
      refine ⟨Nat.zero_le _, keyP e, rfl, ?_, ?_, ?_, ?_, ?_, ?_⟩
      · rw [List.getElem?_append_left (by omega)]
        exact m2
      · rw [l2', tk, ← kvI_put nin, tl]
      · rw [List.getElem?_set_self (by rw [List.length_append]; omega)]
      · rw [List.length_set, List.length_append, List.length_singleton]
        omega
      · exact g2.app.set (by have := g1.le; omega)
      · intro j hj hj2
        rw [List.getElem?_set_ne (by omega)]
        rcases Nat.lt_succ_iff_lt_or_eq.mp hj with h | h
        · rw [List.getElem?_append_left (by omega)]
          exact e2 j h hj2
        · rw [h, ← l2']
          exact get_new
    · rintro _ S2 ⟨rfl, m2, l2, g2, e2⟩
      rw [List.length_map, List.take_length] at m2
      rw [List.length_map] at e2
      exact ⟨trivial, rfl, g2, m2, fun i hi => e2 i hi hi⟩
  rintro _ S2 ⟨rfl, g2, m2, e2⟩
  have b0 : S.length ≤ S1.length := g1.le
  -- the lists are filled
  refine w_cut (fun env S3 => ∃ a4 a5 a6 a7, env = [some (.tup (u0 :: u1 :: .tup (aheadD A) :: us)), some (.tup (v0 :: v1 :: .tup (aheadD B) :: vs)), some (.tup (P.map pD)), some (.ref S1.length), a4, a5, a6, a7] ∧ Grow S S3 ∧ S3[S1.length]? = some (.dT (kvI (S1.length + 1) P)) ∧ ∀ i p, P[i]? = some p → S3[S1.length + 1 + i]? = some (.lst ((stF A B L P p).map sD))) ?_ ?_
  · walk_at "w"
    refine ⟨_, src S2, ?_⟩
    refine wp_loop (fun i env S3 => ∃ a4 a5 a6 a7, env = [some (.tup (u0 :: u1 :: .tup (aheadD A) :: us)), some (.tup (v0 :: v1 :: .tup (aheadD B) :: vs)), some (.tup (P.map pD)), some (.ref S1.length), a4, a5, a6, a7] ∧ Grow S S3 ∧ S3[S1.length]? = some (.dT (kvI (S1.length + 1) P)) ∧ ∀ l p, P[l]? = some p → S3[S1.length + 1 + l]? = some (.lst ((stF A B L (P.take i) p).map sD))) (fun _ _ _ _ => gdOk_nil _) ?_ ?_ ⟨_, _, _, _, rfl, g2, m2, fun l p hp => e2 l (List.getElem?_eq_some_iff.mp hp).1⟩
    · rintro i x _ S3 hx ⟨a4, a5, a6, a7, rfl, g3, m3, e3⟩
      obtain ⟨e, he, rfl⟩ := geP hx
      have hi : i < P.length := (List.getElem?_eq_some_iff.mp he).1
      obtain ⟨h1, h2⟩ := pm he
      walk_at "w"
      refine ⟨_, at_nat (c := 2) rfl, ?_⟩
      walk_at "w"
      refine ⟨_, at_nat (ahead_at ha h1), _, at_nat (c := 2) rfl, ?_⟩
      walk_at "w"
      refine ⟨_, at_nat (ahead_at hb h2), _, _, _, _, rfl, rfl, rfl, ?_⟩
      refine wp_loop (fun j env S4 => ∃ a6 a7, env = [some (.tup (u0 :: u1 :: .tup (aheadD A) :: us)), some (.tup (v0 :: v1 :: .tup (aheadD B) :: vs)), some (.tup (P.map pD)), some (.ref S1.length), some (natD e.1), some (natD e.2), a6, a7] ∧ Grow S S4 ∧ S4[S1.length]? = some (.dT (kvI (S1.length + 1) P)) ∧ ∀ l p, P[l]? = some p → S4[S1.length + 1 + l]? = some (.lst ((stJ A B L (P.take i) e j p).map sD))) (fun _ _ _ _ => gdOk_nil _) ?_ ?_ ⟨a6, a7, rfl, g3, m3, fun l p hp => by rw [stJ_zero]; exact e3 l p hp⟩
      · rintro j x _ S4 hx ⟨a6, a7, rfl, g4, m4, e4⟩
        obtain ⟨hj, rfl⟩ := enz ha hb h1 h2 hx
        have hq : nxt A B e j ∈ P := (mem_allP ha hb).mpr (.step j hj ((mem_allP ha hb).mp (List.mem_of_getElem? he)))
        obtain ⟨l, hl⟩ := List.getElem?_of_mem hq
        walk_at "w"
        rw [w_ixV m4 (tupKey_pD _) (kvI_at pn hl)]
        have q4 := e4 l _ hl
        rw [w_tyL q4]
        refine ⟨by decide, ?_⟩
        rw [w_app q4 (sz_lt (by
          rw [List.length_map]
          have := stJ_len (A := A) (B := B) (L := L) (P.take i) e (nxt A B e j) j
          have t1 : (P.take i).length ≤ 20 := by rw [List.length_take]; omega
          have t2 : (P.take i).length * L ≤ 20 * 4 := Nat.mul_le_mul t1 hL
          omega))]
        refine ⟨_, _, rfl, g4.set (by omega), ?_, ?_⟩
        · rw [List.getElem?_set_ne (by omega)]
          exact m4
        · intro l' p hp
          rw [stJ_succ]
          by_cases c : l = l'
          · subst c
            rw [hl] at hp
            cases hp
            rw [if_pos rfl, List.getElem?_set_self (lt_of_get q4), List.map_append]
            rfl
          · have ne : ¬ nxt A B e j = p := fun z => c (by
              subst z
              have i1 := (List.getElem?_eq_some_iff.mp hl)
              have i2 := (List.getElem?_eq_some_iff.mp hp)
              obtain ⟨i1, z1⟩ := i1
              obtain ⟨i2, z2⟩ := i2
              exact nodup_get pn i1 i2 (z1.trans z2.symm))
            rw [if_neg ne, List.getElem?_set_ne (by omega)]
            exact e4 l' p hp
      · rintro _ S4 ⟨a6, a7, rfl, g4, m4, e4⟩
        refine ⟨_, _, _, _, rfl, g4, m4, fun l p hp => ?_⟩
        rw [e4 l p hp, enz_len ha hb h1 h2, stJ_full, List.take_succ, he]
        rfl
    · rintro _ S3 ⟨a4, a5, a6, a7, rfl, g3, m3, e3⟩
      rw [List.length_map, List.take_length] at e3
      exact ⟨rfl, _, _, _, _, rfl, g3, m3, e3⟩
  rintro _ S3 ⟨a4, a5, a6, a7, rfl, g3, m3, e3⟩
  -- and sorted
  simp only [w_sret]
  refine wp_dcT (xs := P.map pD) (g := []) (S1 := S3) rfl (fun i kvs S4 => kvs = kvI (S3.length + 1) (P.take i) ∧ S4[S3.length]? = some (.dT kvs) ∧ S4.length = S3.length + 1 + min i P.length ∧ Grow S3 S4 ∧ ∀ j e, j < i → P[j]? = some e → S4[S3.length + 1 + j]? = some (.lst ((stG A B L nc nd e).map sD))) ⟨rfl, get_new, by rw [List.length_append]; simp, Grow.refl.app, fun j e hj => absurd hj (Nat.not_lt_zero _)⟩ (fun _ _ _ h => h.2.1) (fun _ _ _ _ => gdOk_nil _) (fun i kvs S2 h => by rw [h.1, kvI_len, List.length_take]; exact sz_lt (by omega)) ?_ ?_
  · rintro i x _ S4 hx ⟨rfl, m4, l4, g4, e4⟩
    obtain ⟨e, he, rfl⟩ := geP hx
    have hi : i < P.length := (List.getElem?_eq_some_iff.mp he).1
    simp only [wipeE]
    walk_at "w"
    rw [w_ixV (g4.get m3) (tupKey_pD _) (kvI_at pn he)]
    have q4 := g4.get (e3 i e he)
    have few := stF_few (L := L) ha hb e
    have t3 : L * P.length ≤ 3 * P.length + P.length := by
      have := Nat.mul_le_mul_right P.length hL
      omega
    rw [w_sortT q4 (by
      rw [List.length_map]
      show (stF A B L (allP A B L nc nd) e).length < 64
      have : (stF A B L (allP A B L nc nd) e).length + P.length ≤ L * P.length + 2 := few
      omega) (by
      rw [List.all_map, List.all_eq_true]
      intro s hs'
      have m := mem_stF.mp hs'
      have := ((mem_allP ha hb).mp m.2.1).lt ha hb
      show (decide (3 = 3) && ([((s.1 : Nat) : Int), ((s.2.1 : Nat) : Int), ((s.2.2 : Nat) : Int)].all fun n => decide (0 ≤ n ∧ n < 1000))) = true
      simp only [decide_true, Bool.true_and, List.all_cons, List.all_nil, Bool.and_true, Bool.and_eq_true, decide_eq_true_iff]
      have := m.1
      omega), sort_steps ha hb (by omega) (by omega)]
    have tk : P.take (i + 1) = P.take i ++ [e] := by rw [List.take_succ, he]; rfl
    have tl : (P.take i).length = i := by rw [List.length_take]; omega
    have l4' : S4.length = S3.length + 1 + i := by omega
    have nin : e ∉ P.take i := fun h => by
      have := pn
      rw [← List.take_append_drop i P] at this
      refine (List.nodup_append.mp this).2.2 e h e ?_ rfl
      rw [drop_at he]
      exact List.mem_cons_self ..
    refine ⟨keyP e, rfl, ?_, ?_, ?_, ?_, ?_, ?_⟩
    · rw [List.getElem?_append_left (by omega)]
      exact m4
    · rw [l4', tk, ← kvI_put nin, tl]
    · rw [List.getElem?_set_self (by rw [List.length_append]; omega)]
    · rw [List.length_set, List.length_append, List.length_singleton]
      omega
    · exact g4.app.set (by omega)
    · intro j e' hj hj2
      rw [List.getElem?_set_ne (by omega)]
      rcases Nat.lt_succ_iff_lt_or_eq.mp hj with h | h
      · have := (List.getElem?_eq_some_iff.mp hj2).1
        rw [List.getElem?_append_left (by omega)]
        exact e4 j e' h hj2
      · subst h
        rw [he] at hj2
        cases hj2
        rw [← l4']
        exact get_new
  · rintro _ S4 ⟨rfl, m4, l4, g4, e4⟩
    rw [List.length_map, List.take_length] at m4
    rw [List.length_map] at e4
    exact k _ _ S4 (g3.trans g4) m4 fun i e he => e4 i e (List.getElem?_eq_some_iff.mp he).1 he
end
end TS
set_option Elab.async false
set_option linter.all false
set_option maxRecDepth 100000
set_option maxHeartbeats 2000000
namespace TS
open PySem PySem.Spec PyProof.Rows L2 RT
local macro_rules | `(tactic| walk_at "w") => `(tactic| simp only [w_mulX, w_mulXS, x_isiSS, x_isiIS, x_isiII, x_isiIB, x_isiTT, x_isiNS, x_isTN, x_isSN, x_isIN, x_notTN, x_notSN, x_notIN, x_revX, x_revV, x_revVT, w_ord, w_asBl, w_body, env0, w_seq, w_asg, w_sret, w_retN, w_drop, w_sIf, w_for, w_aug, w_nx, w_brk, w_cnt, w_gN, w_gTup, w_gsCons, w_gsNil, w_gSub, w_var, w_c, w_op, w_un, w_call, w_eMt, w_tup, w_lst, w_aNil, w_aCons, w_asB, w_asT, w_bAnd, w_bOr, w_bNot, w_eAnd, w_eOr, w_eNot, w_eIf, w_eSl, w_pNo, w_pSome, w_chain,
  w_add, w_addT, w_sub, w_mul, w_mod, w_fdiv, w_pow, w_lt, w_le, w_gt, w_ge, w_int, w_min, w_max, w_lenT, w_lenF, w_truB, w_isB, w_notB, w_tyS, w_slT, w_tupT, w_eqI, w_neI, w_eqBl, w_neBl, w_find, w_rg1, w_rg2, w_anyI, w_ixT, w_ixF, w_ixS, w_lenS, w_slS, w_addS, w_disp, w_kNil, w_kCons, w_yes, w_zip, w_ltS1, w_ninS, x_enum, x_geS1, w_par2, w_eLenSet, w_intB, w_notN, w_isN, w_neg, w_kget, w_kin, w_get2, w_fld, w_sFld, w_sFldAdd, w_meth, w_make, w_optS, w_non, w_addI, x_ixVT, w_ez,
  List.map_cons, List.map_nil, List.length_cons, List.length_nil, List.replicate, List.cons_append, List.nil_append, List.getElem?_cons_zero, List.getElem?_cons_succ, List.set_cons_zero, List.set_cons_succ, Nat.reduceAdd, Nat.reduceSub, Nat.sub_self, Nat.sub_zero,
  Option.some.injEq, exists_eq_left', D.bl.injEq, D.int.injEq, rgOf_1, rgOf2_2, and_true, true_and])
local macro_rules | `(tactic| walk_at "v") => `(tactic| simp only [w_mulX, w_mulXS, x_isiSS, x_isiIS, x_isiII, x_isiIB, x_isiTT, x_isiNS, x_isTN, x_isSN, x_isIN, x_notTN, x_notSN, x_notIN, x_revX, x_revV, x_revVT, w_ord, w_asBl, env0, w_asg, w_sret, w_retN, w_drop, w_for, w_aug, w_nx, w_brk, w_cnt, w_gN, w_gTup, w_gsCons, w_gsNil, w_gSub, w_var, w_c, w_op, w_un, w_call, w_eMt, w_tup, w_lst, w_aNil, w_aCons, w_asB, w_asT, w_bAnd, w_bOr, w_bNot, w_eAnd, w_eOr, w_eNot, w_eIf, w_eSl, w_pNo, w_pSome, w_chain,
  w_add, w_addT, w_sub, w_mul, w_mod, w_fdiv, w_pow, w_lt, w_le, w_gt, w_ge, w_int, w_min, w_max, w_lenT, w_lenF, w_truB, w_isB, w_notB, w_tyS, w_slT, w_tupT, w_eqI, w_neI, w_eqBl, w_neBl, w_find, w_rg1, w_rg2, w_anyI, w_ixT, w_ixF, w_ixS, w_lenS, w_slS, w_addS, w_disp, w_kNil, w_kCons, w_yes, w_zip, w_ltS1, w_ninS, x_enum, x_geS1, w_par2, w_eLenSet, w_intB, w_notN, w_isN, w_neg, w_kget, w_kin, w_get2, w_fld, w_sFld, w_sFldAdd, w_meth, w_make, w_optS, w_non, w_addI, x_ixVT, w_ez,
  List.map_cons, List.map_nil, List.length_cons, List.length_nil, List.replicate, List.cons_append, List.nil_append, List.getElem?_cons_zero, List.getElem?_cons_succ, List.set_cons_zero, List.set_cons_succ, Nat.reduceAdd, Nat.reduceSub, Nat.sub_self, Nat.sub_zero,
  Option.some.injEq, exists_eq_left', D.bl.injEq, D.int.injEq, rgOf_1, rgOf2_2, and_true, true_and])
local macro_rules | `(tactic| walk_at "l") => `(tactic| simp only [w_eqL, w_neL, w_inT1, w_inT2, w_inT3, at0, at1, at2, Option.some.injEq, String.reduceBEq, Bool.or_false, Bool.or_true, Bool.false_or, Bool.true_or, Bool.not_true, Bool.not_false, Bool.false_eq_true, if_true, if_false, D.bl.injEq, D.str.injEq, exists_eq_left', and_true, true_and])
/-! ### the steps of a node -/
def tupL : D → List D
  | .tup xs => xs
  | _ => []
def cellAt (rs : List D) (p k c : Nat) : D := (tupL ((tupL (rs.getD p .non)).getD k .non)).getD c .non
/-- the entry of a machine that stands in the state p, or has stopped -/
def entD (rs : List D) (p : Int) (k c : Nat) : D := if p = -1 then .non else cellAt rs p.toNat k c
def stOf : D → D
  | .tup (g :: _) => g
  | _ => .int (-1)
def nonB : D → Bool
  | .non => true
  | _ => false
def goalD (rs rs' : List D) (p q : Int) (s : Nat × PR) : D :=
  if nonB (entD rs p s.1 s.2.1) = true ∧ nonB (entD rs' q s.1 s.2.2) = true then .non
  else .tup [stOf (entD rs p s.1 s.2.1), natD s.2.1, stOf (entD rs' q s.1 s.2.2), natD s.2.2]
def stepD (rs rs' : List D) (p q : Int) (s : Nat × PR) : D := .tup [sD s, goalD rs rs' p q s]
section
variable {L nc st many : Nat} {A : List (List Nat)} {rs es : List D}
theorem cell_at (h : MC L nc st many A rs es) {p k c : Nat} (hp : p < st) (hk : k < L) (hc : c < nc) : ∃ ps cs, rs[p]? = some (.tup ps) ∧ ps[k]? = some (.tup cs) ∧ cs[c]? = some (cellAt rs p k c) ∧ CellM st many (cellAt rs p k c) := by
  have hp' : p < rs.length := by rw [h.lr]; exact hp
  obtain ⟨ps, e1, l1, m1⟩ := h.rr _ (List.getElem_mem hp')
  have hk' : k < ps.length := by rw [l1]; exact hk
  obtain ⟨cs, e2, l2, m2⟩ := m1 _ (List.getElem_mem hk')
  have hc' : c < cs.length := by rw [l2]; exact hc
  have q1 : rs[p]? = some (.tup ps) := by rw [List.getElem?_eq_getElem hp', e1]
  have q2 : ps[k]? = some (.tup cs) := by rw [List.getElem?_eq_getElem hk', e2]
  have q3 : cellAt rs p k c = cs[c] := by
    unfold cellAt
    simp only [List.getD_eq_getElem?_getD, q1, q2, Option.getD_some, tupL, List.getElem?_eq_getElem hc']
  exact ⟨ps, cs, q1, q2, by rw [q3, List.getElem?_eq_getElem hc'], by rw [q3]; exact m2 _ (List.getElem_mem hc')⟩
/-- a state, or -1 -/
def StQ (st : Nat) (p : Int) : Prop := -1 ≤ p ∧ p < st
theorem entD_cell (h : MC L nc st many A rs es) {p : Int} {k c : Nat} (hp : StQ st p) (hk : k < L) (hc : c < nc) : CellM st many (entD rs p k c) := by
  unfold entD
  split
  · exact .inl rfl
  · rename_i n
    obtain ⟨_, _, _, _, _, h4⟩ := cell_at h (p := p.toNat) (by have := hp.1; have := hp.2; omega) hk hc
    exact h4
theorem entry_of_ok (h : MC L nc st many A rs es) {p : Int} {k c : Nat} (hp : StQ st p) (hk : k < L) (hc : c < nc) {u0 u1 u2 u3 : D} {us : List D} {S : Store} {Q : D → Store → Prop} (kk : Q (entD rs p k c) S) :
    wp (m_entry_of [.tup (u0 :: u1 :: u2 :: u3 :: .tup rs :: us), .int p, natD k, natD c]) S Q := by
  unfold m_entry_of f_entry_of
  walk_at "w"
  unfold entD at kk
  by_cases e : p = -1
  · subst e
    simpa using kk
  · rw [if_neg e] at kk
    have e' : (p == -1) = false := by simpa using e
    rw [e']
    simp only [Bool.false_eq_true, if_false]
    obtain ⟨pn, rfl⟩ := int_nat (show 0 ≤ p by have := hp.1; omega)
    obtain ⟨ps, cs, q1, q2, q3, _⟩ := cell_at h (p := pn) (k := k) (c := c) (by have := hp.2; omega) hk hc
    refine ⟨_, at_nat (c := 4) rfl, ?_⟩
    walk_at "w"
    refine ⟨_, at_nat q1, ?_⟩
    walk_at "w"
    refine ⟨_, at_nat q2, ?_⟩
    walk_at "w"
    exact ⟨_, at_nat q3, kk⟩
end
section
variable {L nc nd st st' many many' : Nat} {A B : List (List Nat)} {rs rs' es es' : List D}
theorem steps_behind_ok (h : MC L nc st many A rs es) (h' : MC L nd st' many' B rs' es') {p q : Int} (hp : StQ st p) (hq : StQ st' q) {u0 u1 u2 u3 v0 v1 v2 v3 : D} {us vs : List D} {n1 n3 : D} {ss : List (Nat × PR)} {r : Nat}
    (hs : ∀ s ∈ ss, s.1 < L ∧ s.2.1 < nc ∧ s.2.2 < nd) (hl : ss.length < 1000) {S : Store} {Q : D → Store → Prop} (hr : S[r]? = some (.lst (ss.map sD))) (k : ∀ S', Grow S S' → Q (.tup (ss.map (stepD rs rs' p q))) S') :
    wp (m_steps_behind [.tup (u0 :: u1 :: u2 :: u3 :: .tup rs :: us), .tup (v0 :: v1 :: v2 :: v3 :: .tup rs' :: vs), .tup [.int p, n1, .int q, n3], .ref r]) S Q := by
  unfold m_steps_behind f_steps_behind
  rw [w_body]
  refine w_seqA ?_
  walk_at "v"
  refine ⟨Nat.zero_le _, ?_⟩
  have hr' : (S ++ [MO.lst []])[r]? = some (.lst (ss.map sD)) := by rw [List.getElem?_append_left (lt_of_get hr)]; exact hr
  refine w_cut (fun env S2 => ∃ a5 a6 a7 a8 a9 a10 a11 a12 a13, env = [some (.tup (u0 :: u1 :: u2 :: u3 :: .tup rs :: us)), some (.tup (v0 :: v1 :: v2 :: v3 :: .tup rs' :: vs)), some (.tup [.int p, n1, .int q, n3]), some (.ref r), some (.ref S.length), a5, a6, a7, a8, a9, a10, a11, a12, a13] ∧ Grow S S2 ∧ S2[S.length]? = some (.lst (ss.map (stepD rs rs' p q)))) ?_ ?_
  · walk_at "w"
    refine ⟨(ss.map sD, [(r, ss.map sD)]), by unfold srcOf; simp only [hr'], ?_⟩
    refine wp_loop (fun i env S2 => ∃ a5 a6 a7 a8 a9 a10 a11 a12 a13, env = [some (.tup (u0 :: u1 :: u2 :: u3 :: .tup rs :: us)), some (.tup (v0 :: v1 :: v2 :: v3 :: .tup rs' :: vs)), some (.tup [.int p, n1, .int q, n3]), some (.ref r), some (.ref S.length), a5, a6, a7, a8, a9, a10, a11, a12, a13] ∧ Grow S S2 ∧ S2[S.length]? = some (.lst ((ss.take i).map (stepD rs rs' p q)))) (fun i env S2 ⟨_, _, _, _, _, _, _, _, _, _, g, _⟩ => fun z hz => by rw [List.mem_singleton.mp hz]; exact g.get hr) ?_ ?_ ⟨_, _, _, _, _, _, _, _, _, rfl, Grow.refl.app, get_new⟩
    · rintro i x _ S2 hx ⟨a5, a6, a7, a8, a9, a10, a11, a12, a13, rfl, g2, m2⟩
      rw [List.getElem?_map] at hx
      obtain ⟨s, hs1, rfl⟩ := Option.map_eq_some_iff.mp hx
      obtain ⟨b1, b2, b3⟩ := hs s (List.mem_of_getElem? hs1)
      have c1 := entD_cell h (p := p) hp b1 b2
      have c2 := entD_cell h' (p := q) hq b1 b3
      have tk : (ss.take (i + 1)).map (stepD rs rs' p q) = (ss.take i).map (stepD rs rs' p q) ++ [stepD rs rs' p q s] := by
        rw [List.take_succ, hs1, List.map_append]
        rfl
      have hi := (List.getElem?_eq_some_iff.mp hs1).1
      have few : ((ss.take i).map (stepD rs rs' p q)).length < sizeLine := sz_lt (by rw [List.length_map, List.length_take]; omega)
      walk_at "w"
      refine ⟨_, at_nat (c := 0) rfl, ?_⟩
      refine entry_of_ok h hp b1 b2 ?_
      refine ⟨_, at_nat (c := 2) rfl, ?_⟩
      refine entry_of_ok h' hq b1 b3 ?_
      have fin : ∀ d, d = stepD rs rs' p q s → (S2.set S.length (.lst ((ss.take i).map (stepD rs rs' p q) ++ [d])))[S.length]? = some (.lst ((ss.take (i + 1)).map (stepD rs rs' p q))) := fun d e => by
        rw [e, List.getElem?_set_self (lt_of_get m2), tk]
      have gs : ∀ o, Grow S (S2.set S.length o) := fun o => g2.set (Nat.le_refl _)
      have un : stepD rs rs' p q s = .tup [sD s, if nonB (entD rs p s.1 s.2.1) = true ∧ nonB (entD rs' q s.1 s.2.2) = true then .non else .tup [stOf (entD rs p s.1 s.2.1), natD s.2.1, stOf (entD rs' q s.1 s.2.2), natD s.2.2]] := rfl
      rw [un] at fin
      rcases c1 with e1 | ⟨g, ns, _, _, e1⟩ <;> rcases c2 with e2 | ⟨g', ns', _, _, e2⟩ <;> rw [e1, e2] at fin ⊢ <;> walk_at "w" <;> simp only [Bool.false_eq_true, if_true, if_false]
      · rw [w_tyL m2]
        refine ⟨by decide, ?_⟩
        rw [w_app m2 few]
        exact ⟨_, _, _, _, _, _, _, _, _, rfl, gs _, fin _ (by simp [nonB])⟩
      · refine ⟨_, at_nat (c := 0) rfl, ?_⟩
        rw [w_tyL m2]
        refine ⟨by decide, by decide, ?_⟩
        rw [w_app m2 few]
        exact ⟨_, _, _, _, _, _, _, _, _, rfl, gs _, fin _ (by simp [nonB, stOf])⟩
      · refine ⟨_, at_nat (c := 0) rfl, ?_⟩
        rw [w_tyL m2]
        refine ⟨by decide, by decide, ?_⟩
        rw [w_app m2 few]
        exact ⟨_, _, _, _, _, _, _, _, _, rfl, gs _, fin _ (by simp [nonB, stOf])⟩
      · refine ⟨_, at_nat (c := 0) rfl, _, at_nat (c := 0) rfl, ?_⟩
        rw [w_tyL m2]
        refine ⟨by decide, by decide, ?_⟩
        rw [w_app m2 few]
        exact ⟨_, _, _, _, _, _, _, _, _, rfl, gs _, fin _ (by simp [nonB, stOf])⟩
    · rintro _ S2 ⟨a5, a6, a7, a8, a9, a10, a11, a12, a13, rfl, g2, m2⟩
      rw [List.length_map, List.take_length] at m2
      exact ⟨rfl, _, _, _, _, _, _, _, _, _, rfl, g2, m2⟩
  rintro _ S2 ⟨a5, a6, a7, a8, a9, a10, a11, a12, a13, rfl, g2, m2⟩
  walk_at "w"
  rw [w_tupL m2]
  exact k S2 g2
theorem node_steps_ok (h : MC L nc st many A rs es) (h' : MC L nd st' many' B rs' es') (ha : AOk L nc A) (hb : AOk L nd B) (hs : nc * nd ≤ 20) (hL : L ≤ 4) (hc : nc ≤ 64) (hd : nd ≤ 64) {p q : Int} (hp : StQ st p) (hq : StQ st' q) {e : PR} (he : e ∈ allP A B L nc nd) {u0 u1 u3 v0 v1 v3 : D} {us vs : List D}
    {S : Store} {Q : D → Store → Prop} (k : ∀ S', Grow S S' → Q (.tup ((stG A B L nc nd e).map (stepD rs rs' p q))) S') :
    wp (m_node_steps [.tup (u0 :: u1 :: .tup (aheadD A) :: u3 :: .tup rs :: us), .tup (v0 :: v1 :: .tup (aheadD B) :: v3 :: .tup rs' :: vs), .tup [.int p, natD e.1, .int q, natD e.2]]) S Q := by
  unfold m_node_steps f_node_steps
  walk_at "w"
  refine steps_by_pair_ok ha hb hs hL hc hd fun r b S1 g1 m1 e1 => ?_
  refine ⟨_, at_nat (c := 1) rfl, ?_⟩
  refine ⟨_, at_nat (c := 3) rfl, by decide, ?_⟩
  obtain ⟨i, hi⟩ := List.getElem?_of_mem he
  rw [w_ixV m1 (tupKey_pD e) (kvI_at allP_nodup hi)]
  refine steps_behind_ok h h' hp hq (fun s hs' => ?_) ?_ (e1 i e hi) fun S2 g2 => k S2 (g1.trans g2)
  · have m := mem_stG.mp hs'
    have := ((mem_allP ha hb).mp m.2.1).lt ha hb
    exact ⟨m.1, this.1, this.2⟩
  · have e2 : ((stG A B L nc nd e).map sD).length = ((stF A B L (allP A B L nc nd) e).map sD).length := by
      rw [← sort_steps ha hb (by omega) (by omega), (sortK_perm _ _).length_eq]
    rw [List.length_map, List.length_map] at e2
    rw [e2]
    have t := stF_len (A := A) (B := B) (L := L) (allP A B L nc nd) e
    have t1 := allP_len (A := A) (B := B) (L := L) (nc := nc) (nd := nd)
    have t2 : (allP A B L nc nd).length * L ≤ 20 * 4 := Nat.mul_le_mul (Nat.le_trans t1 hs) hL
    omega
end
end TS
set_option Elab.async false
set_option linter.all false
set_option maxRecDepth 100000
set_option maxHeartbeats 2000000
namespace TS
open PySem PySem.Spec PyProof.Rows L2 RT
local macro_rules | `(tactic| walk_at "w") => `(tactic| simp only [w_mulX, w_mulXS, x_isiSS, x_isiIS, x_isiII, x_isiIB, x_isiTT, x_isiNS, x_isTN, x_isSN, x_isIN, x_notTN, x_notSN, x_notIN, x_revX, x_revV, x_revVT, w_ord, w_asBl, w_body, env0, w_seq, w_asg, w_sret, w_retN, w_drop, w_sIf, w_for, w_aug, w_nx, w_brk, w_cnt, w_gN, w_gTup, w_gsCons, w_gsNil, w_gSub, w_var, w_c, w_op, w_un, w_call, w_eMt, w_tup, w_lst, w_aNil, w_aCons, w_asB, w_asT, w_bAnd, w_bOr, w_bNot, w_eAnd, w_eOr, w_eNot, w_eIf, w_eSl, w_pNo, w_pSome, w_chain,
  w_add, w_addT, w_sub, w_mul, w_mod, w_fdiv, w_pow, w_lt, w_le, w_gt, w_ge, w_int, w_min, w_max, w_lenT, w_lenF, w_truB, w_isB, w_notB, w_tyS, w_slT, w_tupT, w_eqI, w_neI, w_eqBl, w_neBl, w_find, w_rg1, w_rg2, w_anyI, w_ixT, w_ixF, w_ixS, w_lenS, w_slS, w_addS, w_disp, w_kNil, w_kCons, w_yes, w_zip, w_ltS1, w_ninS, x_enum, x_geS1, w_par2, w_eLenSet, w_intB, w_notN, w_isN, w_neg, w_kget, w_kin, w_get2, w_fld, w_sFld, w_sFldAdd, w_meth, w_make, w_optS, w_non, w_addI, x_ixVT, w_ez,
  List.map_cons, List.map_nil, List.length_cons, List.length_nil, List.replicate, List.cons_append, List.nil_append, List.getElem?_cons_zero, List.getElem?_cons_succ, List.set_cons_zero, List.set_cons_succ, Nat.reduceAdd, Nat.reduceSub, Nat.sub_self, Nat.sub_zero,
  Option.some.injEq, exists_eq_left', D.bl.injEq, D.int.injEq, rgOf_1, rgOf2_2, and_true, true_and])
local macro_rules | `(tactic| walk_at "v") => `(tactic| simp only [w_mulX, w_mulXS, x_isiSS, x_isiIS, x_isiII, x_isiIB, x_isiTT, x_isiNS, x_isTN, x_isSN, x_isIN, x_notTN, x_notSN, x_notIN, x_revX, x_revV, x_revVT, w_ord, w_asBl, env0, w_asg, w_sret, w_retN, w_drop, w_for, w_aug, w_nx, w_brk, w_cnt, w_gN, w_gTup, w_gsCons, w_gsNil, w_gSub, w_var, w_c, w_op, w_un, w_call, w_eMt, w_tup, w_lst, w_aNil, w_aCons, w_asB, w_asT, w_bAnd, w_bOr, w_bNot, w_eAnd, w_eOr, w_eNot, w_eIf, w_eSl, w_pNo, w_pSome, w_chain,
  w_add, w_addT, w_sub, w_mul, w_mod, w_fdiv, w_pow, w_lt, w_le, w_gt, w_ge, w_int, w_min, w_max, w_lenT, w_lenF, w_truB, w_isB, w_notB, w_tyS, w_slT, w_tupT, w_eqI, w_neI, w_eqBl, w_neBl, w_find, w_rg1, w_rg2, w_anyI, w_ixT, w_ixF, w_ixS, w_lenS, w_slS, w_addS, w_disp, w_kNil, w_kCons, w_yes, w_zip, w_ltS1, w_ninS, x_enum, x_geS1, w_par2, w_eLenSet, w_intB, w_notN, w_isN, w_neg, w_kget, w_kin, w_get2, w_fld, w_sFld, w_sFldAdd, w_meth, w_make, w_optS, w_non, w_addI, x_ixVT, w_ez,
  List.map_cons, List.map_nil, List.length_cons, List.length_nil, List.replicate, List.cons_append, List.nil_append, List.getElem?_cons_zero, List.getElem?_cons_succ, List.set_cons_zero, List.set_cons_succ, Nat.reduceAdd, Nat.reduceSub, Nat.sub_self, Nat.sub_zero,
  Option.some.injEq, exists_eq_left', D.bl.injEq, D.int.injEq, rgOf_1, rgOf2_2, and_true, true_and])
local macro_rules | `(tactic| walk_at "l") => `(tactic| simp only [w_eqL, w_neL, w_inT1, w_inT2, w_inT3, at0, at1, at2, Option.some.injEq, String.reduceBEq, Bool.or_false, Bool.or_true, Bool.false_or, Bool.true_or, Bool.not_true, Bool.not_false, Bool.false_eq_true, if_true, if_false, D.bl.injEq, D.str.injEq, exists_eq_left', and_true, true_and])
/-! ### the law's own pairs -/
def pyP (e : PR) : PyData := .tuple [.int (e.1 : Nat), .int (e.2 : Nat)]
theorem pys_pD : ∀ l : List PR, pys (l.map pD) = some (l.map pyP)
  | [] => rfl
  | e :: r => by
    show (match py (pD e), pys (r.map pD) with
      | some p, some ps => some (p :: ps)
      | _, _ => none) = _
    rw [pys_pD r]
    rfl
theorem eqv_pyP (a b : PR) : PyData.eqv (pyP a) (pyP b) = decide (a = b) := by
  have : PyData.eqv (pyP a) (pyP b) = decide (([(a.1 : Int), (a.2 : Int)] : List Int) = [(b.1 : Int), (b.2 : Int)]) := eqv_ints [(a.1 : Int), (a.2 : Int)] [(b.1 : Int), (b.2 : Int)]
  rw [this, decide_eq_decide]
  simp only [List.cons.injEq, and_true]
  exact ⟨fun h => Prod.ext (by omega) (by omega), fun h => by rw [h]; exact ⟨rfl, rfl⟩⟩
theorem any_pyP (l : List PR) (e : PR) : ((l.map pyP).any fun z => PyData.eqv z (pyP e)) = decide (e ∈ l) := by
  rw [Bool.eq_iff_iff, List.any_map, List.any_eq_true, decide_eq_true_iff]
  constructor
  · rintro ⟨x, hx, h⟩
    have := of_decide_eq_true ((eqv_pyP x e).symm.trans h)
    rw [← this]
    exact hx
  · exact fun h => ⟨e, h, (eqv_pyP e e).trans (decide_eq_true rfl)⟩
theorem lay_pyP : ∀ l : List PR, PyData.canLayAll0 (l.map pyP) = true
  | [] => rfl
  | _ :: r => lay_pyP r
theorem dep_pyP (l : List PR) (e : PR) : min (PyData.depthAll (l.map pyP)) (pyP e).depth ≤ 60 := Nat.le_trans (Nat.min_le_right _ _) (by show (1 : Nat) ≤ 60; decide)
section
variable {S : Store} {Q : D → Store → Prop}
theorem w_hasntP {r : Nat} {l : List PR} {e : PR} (h : S[r]? = some (.lst (l.map pD))) : wp (hasntD (pD e) (.ref r)) S Q ↔ Q (.bl (!decide (e ∈ l))) S := by
  rw [w_hasnt (d := pyP e) (ds := l.map pyP) rfl (by unfold pyS; simp only [h, pys_pD]; rfl) rfl (lay_pyP l) (dep_pyP l e), any_pyP]
theorem w_hasntPT {l : List PR} {e : PR} : wp (hasntD (pD e) (.tup (l.map pD))) S Q ↔ Q (.bl (!decide (e ∈ l))) S := by
  rw [w_hasnt (d := pyP e) (ds := l.map pyP) rfl (by show ((pys (l.map pD)).map PyData.tuple).bind pyItems = _; rw [pys_pD]; rfl) rfl (lay_pyP l) (dep_pyP l e), any_pyP]
end
section
variable {A B : List (List Nat)} {L nc nd : Nat}
theorem row_at {A : List (List Nat)} {n c k : Nat} (h : AOk L n A) (hc : c < n) (hk : k < L) : ((A.getD c []).map natD)[k]? = some (natD ((A.getD c []).getD k 0)) := by
  have hl : k < (A.getD c []).length := by rw [row_len h hc]; exact hk
  have e : (A.getD c [])[k]? = some ((A.getD c []).getD k 0) := by
    rw [List.getD_eq_getElem?_getD (l := A.getD c [])]
    rw [List.getElem?_eq_getElem hl]
    rfl
  rw [List.getElem?_map, e]
  rfl
theorem law_pairs_ok (ha : AOk L nc A) (hb : AOk L nd B) (hs : nc * nd ≤ 60) (hc : nc ≤ 64) (hd : nd ≤ 64) (hL : L ≤ 7) {u0 v0 v1 : D} {us vs : List D} {z : Str} (hz : z.length = L) {S : Store} {Q : D → Store → Prop} (k : ∀ r S', S.length ≤ r → Grow S S' → S'[r]? = some (.lst ((allP A B L nc nd).map pD)) → Q (.ref r) S') :
    wp (m_law_pairs [.tup (u0 :: .str z :: .tup (aheadD A) :: us), .tup (v0 :: v1 :: .tup (aheadD B) :: vs)]) S Q := by
  unfold m_law_pairs f_law_pairs
  have sz : z.length ≤ sizeLine := Nat.le_of_lt (sz_lt (by omega))
  rw [w_body]
  refine w_seqA ?_
  walk_at "v"
  refine ⟨by decide, by decide, ?_⟩
  refine w_cut (fun env S2 => ∃ (a3 a4 a5 a6 a7 : Option D) (fs : List PR), env = [some (.tup (u0 :: .str z :: .tup (aheadD A) :: us)), some (.tup (v0 :: v1 :: .tup (aheadD B) :: vs)), some (.ref S.length), a3, a4, a5, a6, a7] ∧ Grow S S2 ∧ S2[S.length]? = some (.lst (fs.map pD)) ∧ fs.Nodup ∧ ∀ e, e ∈ fs ↔ Rch A B L e) ?_ ?_
  · walk_at "w"
    refine ⟨by decide, ?_⟩
    refine wp_loop (fun i env S2 => ∃ (a3 a4 a5 a6 a7 : Option D) (fs : List PR), env = [some (.tup (u0 :: .str z :: .tup (aheadD A) :: us)), some (.tup (v0 :: v1 :: .tup (aheadD B) :: vs)), some (.ref S.length), a3, a4, a5, a6, a7] ∧ Grow S S2 ∧ S2[S.length]? = some (.lst (fs.map pD)) ∧ fs.Nodup ∧ (0, 0) ∈ fs ∧ (∀ e ∈ fs, Rch A B L e) ∧ ∀ l < i, ∀ e, fs[l]? = some e → ∀ j < L, nxt A B e j ∈ fs) (fun _ _ _ _ => gdOk_nil _) ?_ ?_ ⟨_, _, _, _, _, [(0, 0)], rfl, Grow.refl.app, get_new, by simp, by simp, fun e he => by rw [List.mem_singleton.mp he]; exact .base, fun l hl => absurd hl (Nat.not_lt_zero _)⟩
    · rintro i x _ S2 hx ⟨a3, a4, a5, a6, a7, fs, rfl, g2, m2, nf, f0, rf, cl⟩
      obtain ⟨hi, rfl⟩ := rng_get hx
      walk_at "w"
      rw [w_lenL m2]
      walk_at "w"
      simp only [decide_eq_true_eq, List.length_map, Int.zero_add]
      split
      · rename_i c
        have c' : i < fs.length := by omega
        have bound := few_pairs ha hb nf rf
        let e := fs[i]
        have he : fs[i]? = some e := List.getElem?_eq_getElem c'
        obtain ⟨h1, h2⟩ := (rf e (List.mem_of_getElem? he)).lt ha hb
        rw [w_ixL m2]
        refine ⟨pD e, at_nat (by rw [List.getElem?_map, he]; rfl), ?_⟩
        walk_at "w"
        refine ⟨_, at_nat (c := 1) rfl, ?_⟩
        walk_at "w"
        refine ⟨sz, ⟨by omega, by omega⟩, ?_⟩
        rw [show ((z.length : Nat) : Int).toNat = z.length from rfl]
        refine wp_loop (fun j env S3 => ∃ (a6 a7 : Option D) (fs' : List PR), env = [some (.tup (u0 :: .str z :: .tup (aheadD A) :: us)), some (.tup (v0 :: v1 :: .tup (aheadD B) :: vs)), some (.ref S.length), some (natD i), some (natD e.1), some (natD e.2), a6, a7] ∧ Grow S S3 ∧ S3[S.length]? = some (.lst (fs'.map pD)) ∧ fs'.Nodup ∧ (∃ l, fs' = fs ++ l) ∧ (∀ e ∈ fs', Rch A B L e) ∧ ∀ l < j, nxt A B e l ∈ fs') (fun _ _ _ _ => gdOk_nil _) ?_ ?_ ⟨_, _, fs, rfl, g2, m2, nf, ⟨[], (List.append_nil _).symm⟩, rf, fun l hl => absurd hl (Nat.not_lt_zero _)⟩
        · rintro j x _ S3 hx ⟨a6, a7, fs', rfl, g3, m3, nf', ⟨l', hl'⟩, rf', pre⟩
          obtain ⟨hj, rfl⟩ := rng_get hx
          rw [hz] at hj
          have bound' := few_pairs ha hb nf' rf'
          simp only [Int.zero_add]
          walk_at "w"
          refine ⟨_, at_nat (c := 2) rfl, ?_⟩
          walk_at "w"
          refine ⟨_, at_nat (ahead_at ha h1), ?_⟩
          walk_at "w"
          refine ⟨_, at_nat (row_at ha h1 hj), _, at_nat (c := 2) rfl, ?_⟩
          walk_at "w"
          refine ⟨_, at_nat (ahead_at hb h2), ?_⟩
          walk_at "w"
          refine ⟨_, at_nat (row_at hb h2 hj), by decide, ?_⟩
          show wp (hasntD (pD (nxt A B e j)) (.ref S.length)) S3 _
          rw [w_hasntP m3]
          refine ⟨_, rfl, ?_⟩
          by_cases c2 : nxt A B e j ∈ fs'
          · rw [decide_eq_true c2]
            simp only [Bool.not_true, Bool.false_eq_true, if_false]
            exact ⟨_, _, fs', rfl, g3, m3, nf', ⟨l', hl'⟩, rf', fun l hl => (Nat.lt_succ_iff_lt_or_eq.mp hl).elim (pre l) fun w => w ▸ c2⟩
          · rw [decide_eq_false c2]
            simp only [Bool.not_false, if_true]
            rw [w_tyL m3, w_app m3 (sz_lt (by rw [List.length_map]; omega))]
            refine ⟨_, _, fs' ++ [nxt A B e j], rfl, g3.set (Nat.le_refl _), ?_, ?_, ⟨l' ++ [nxt A B e j], by rw [hl', List.append_assoc]⟩, ?_, ?_⟩
            · rw [List.getElem?_set_self (lt_of_get m3), List.map_append]
              rfl
            · exact List.nodup_append.mpr ⟨nf', by simp, fun x hx y hy w => c2 (by rw [← List.mem_singleton.mp hy, ← w]; exact hx)⟩
            · intro x hx
              rcases List.mem_append.mp hx with hx | hx
              · exact rf' x hx
              · rw [List.mem_singleton.mp hx]
                exact .step j hj (rf e (List.mem_of_getElem? he))
            · exact fun l hl => (Nat.lt_succ_iff_lt_or_eq.mp hl).elim (fun w => List.mem_append_left _ (pre l w)) fun w => List.mem_append_right _ (by rw [w]; exact List.mem_singleton.mpr rfl)
        · rintro _ S3 ⟨a6, a7, fs', rfl, g3, m3, nf', ⟨l', hl'⟩, rf', pre⟩
          rw [rng_length, hz] at pre
          have hfs : ∀ y ∈ fs, y ∈ fs' := fun y hy => by rw [hl']; exact List.mem_append_left _ hy
          refine ⟨_, _, _, _, _, fs', rfl, g3, m3, nf', hfs _ f0, rf', fun l hl y hy j hj => ?_⟩
          have hl2 : l < fs.length := by omega
          rw [hl', List.getElem?_append_left hl2] at hy
          rcases Nat.lt_succ_iff_lt_or_eq.mp hl with w | w
          · exact hfs _ (cl l w y hy j hj)
          · subst w
            have : y = e := Option.some.inj (hy.symm.trans he)
            rw [this]
            exact pre j hj
      · rename_i c
        refine ⟨_, _, _, _, _, fs, rfl, g2, m2, nf, f0, rf, fun l hl y hy j hj => ?_⟩
        have hl2 := (List.getElem?_eq_some_iff.mp hy).1
        exact cl l (by omega) y hy j hj
    · rintro _ S2 ⟨a3, a4, a5, a6, a7, fs, rfl, g2, m2, nf, f0, rf, cl⟩
      refine ⟨rfl, _, _, _, _, _, fs, rfl, g2, m2, nf, fun e => ⟨rf e, fun h => ?_⟩⟩
      have bound := few_pairs ha hb nf rf
      induction h with
      | base => exact f0
      | step j hj _ ih =>
        obtain ⟨l, hl⟩ := List.getElem?_of_mem ih
        have := (List.getElem?_eq_some_iff.mp hl).1
        exact cl l (by rw [rng_length]; show l < 60; omega) _ hl j hj
  rintro _ S2 ⟨a3, a4, a5, a6, a7, fs, rfl, g2, m2, nf, all⟩
  have bound := few_pairs ha hb nf fun e => (all e).mp
  walk_at "w"
  rw [w_sortT m2 (by rw [List.length_map]; omega) (by
    rw [List.all_map, List.all_eq_true]
    intro e he
    have := ((all e).mp he).lt ha hb
    show (decide (2 = 2) && ([((e.1 : Nat) : Int), ((e.2 : Nat) : Int)].all fun n => decide (0 ≤ n ∧ n < 100))) = true
    simp only [decide_true, Bool.true_and, List.all_cons, List.all_nil, Bool.and_true, Bool.and_eq_true, decide_eq_true_iff]
    omega), sort_pairs ha hb (by omega) nf all]
  exact k _ _ g2.le g2.app get_new
end
end TS
set_option Elab.async false
set_option linter.all false
set_option maxRecDepth 100000
set_option maxHeartbeats 2000000
namespace TS
open PySem PySem.Spec PyProof.Rows L2 RT
local macro_rules | `(tactic| walk_at "w") => `(tactic| simp only [w_mulX, w_mulXS, x_isiSS, x_isiIS, x_isiII, x_isiIB, x_isiTT, x_isiNS, x_isTN, x_isSN, x_isIN, x_notTN, x_notSN, x_notIN, x_revX, x_revV, x_revVT, w_ord, w_asBl, w_body, env0, w_seq, w_asg, w_sret, w_retN, w_drop, w_sIf, w_for, w_aug, w_nx, w_brk, w_cnt, w_gN, w_gTup, w_gsCons, w_gsNil, w_gSub, w_var, w_c, w_op, w_un, w_call, w_eMt, w_tup, w_lst, w_aNil, w_aCons, w_asB, w_asT, w_bAnd, w_bOr, w_bNot, w_eAnd, w_eOr, w_eNot, w_eIf, w_eSl, w_pNo, w_pSome, w_chain,
  w_add, w_addT, w_sub, w_mul, w_mod, w_fdiv, w_pow, w_lt, w_le, w_gt, w_ge, w_int, w_min, w_max, w_lenT, w_lenF, w_truB, w_isB, w_notB, w_tyS, w_slT, w_tupT, w_eqI, w_neI, w_eqBl, w_neBl, w_find, w_rg1, w_rg2, w_anyI, w_ixT, w_ixF, w_ixS, w_lenS, w_slS, w_addS, w_disp, w_kNil, w_kCons, w_yes, w_zip, w_ltS1, w_ninS, x_enum, x_geS1, w_par2, w_eLenSet, w_intB, w_notN, w_isN, w_neg, w_kget, w_kin, w_get2, w_fld, w_sFld, w_sFldAdd, w_meth, w_make, w_optS, w_non, w_addI, x_ixVT, w_ez,
  List.map_cons, List.map_nil, List.length_cons, List.length_nil, List.replicate, List.cons_append, List.nil_append, List.getElem?_cons_zero, List.getElem?_cons_succ, List.set_cons_zero, List.set_cons_succ, Nat.reduceAdd, Nat.reduceSub, Nat.sub_self, Nat.sub_zero,
  Option.some.injEq, exists_eq_left', D.bl.injEq, D.int.injEq, rgOf_1, rgOf2_2, and_true, true_and])
local macro_rules | `(tactic| walk_at "v") => `(tactic| simp only [w_mulX, w_mulXS, x_isiSS, x_isiIS, x_isiII, x_isiIB, x_isiTT, x_isiNS, x_isTN, x_isSN, x_isIN, x_notTN, x_notSN, x_notIN, x_revX, x_revV, x_revVT, w_ord, w_asBl, env0, w_asg, w_sret, w_retN, w_drop, w_for, w_aug, w_nx, w_brk, w_cnt, w_gN, w_gTup, w_gsCons, w_gsNil, w_gSub, w_var, w_c, w_op, w_un, w_call, w_eMt, w_tup, w_lst, w_aNil, w_aCons, w_asB, w_asT, w_bAnd, w_bOr, w_bNot, w_eAnd, w_eOr, w_eNot, w_eIf, w_eSl, w_pNo, w_pSome, w_chain,
  w_add, w_addT, w_sub, w_mul, w_mod, w_fdiv, w_pow, w_lt, w_le, w_gt, w_ge, w_int, w_min, w_max, w_lenT, w_lenF, w_truB, w_isB, w_notB, w_tyS, w_slT, w_tupT, w_eqI, w_neI, w_eqBl, w_neBl, w_find, w_rg1, w_rg2, w_anyI, w_ixT, w_ixF, w_ixS, w_lenS, w_slS, w_addS, w_disp, w_kNil, w_kCons, w_yes, w_zip, w_ltS1, w_ninS, x_enum, x_geS1, w_par2, w_eLenSet, w_intB, w_notN, w_isN, w_neg, w_kget, w_kin, w_get2, w_fld, w_sFld, w_sFldAdd, w_meth, w_make, w_optS, w_non, w_addI, x_ixVT, w_ez,
  List.map_cons, List.map_nil, List.length_cons, List.length_nil, List.replicate, List.cons_append, List.nil_append, List.getElem?_cons_zero, List.getElem?_cons_succ, List.set_cons_zero, List.set_cons_succ, Nat.reduceAdd, Nat.reduceSub, Nat.sub_self, Nat.sub_zero,
  Option.some.injEq, exists_eq_left', D.bl.injEq, D.int.injEq, rgOf_1, rgOf2_2, and_true, true_and])
local macro_rules | `(tactic| walk_at "l") => `(tactic| simp only [w_eqL, w_neL, w_inT1, w_inT2, w_inT3, at0, at1, at2, Option.some.injEq, String.reduceBEq, Bool.or_false, Bool.or_true, Bool.false_or, Bool.true_or, Bool.not_true, Bool.not_false, Bool.false_eq_true, if_true, if_false, D.bl.injEq, D.str.injEq, exists_eq_left', and_true, true_and])
/-! ### the law's own steps, classes of texts, plain rows -/
section
variable {L nc nd st st' many many' : Nat} {A B : List (List Nat)} {rs rs' es es' : List D}
theorem law_goal_ok (h : MC L nc st many A rs es) {p : Int} {k c : Nat} (hp : StQ st p) (hk : k < L) (hc : c < nc) {u0 u1 u2 u3 : D} {us : List D} {S : Store} {Q : D → Store → Prop} (kk : Q (entD rs p k c) S) :
    wp (m_law_goal [.tup (u0 :: u1 :: u2 :: u3 :: .tup rs :: us), .int p, natD k, natD c]) S Q := by
  unfold m_law_goal f_law_goal
  walk_at "w"
  unfold entD at kk
  by_cases e : p = -1
  · subst e
    simpa using kk
  · rw [if_neg e] at kk
    have e' : ¬ p < 0 := by have := hp.1; omega
    simp only [e', decide_false, Bool.false_eq_true, if_false]
    obtain ⟨pn, rfl⟩ := int_nat (show 0 ≤ p by omega)
    obtain ⟨ps, cs, q1, q2, q3, _⟩ := cell_at h (p := pn) (k := k) (c := c) (by have := hp.2; omega) hk hc
    refine ⟨_, at_nat (c := 4) rfl, ?_⟩
    walk_at "w"
    refine ⟨_, at_nat q1, ?_⟩
    walk_at "w"
    refine ⟨_, at_nat q2, ?_⟩
    walk_at "w"
    exact ⟨_, at_nat q3, kk⟩
/-- the steps by the first j letters, and by the letter j from the first i pairs -/
noncomputable def stK (A B : List (List Nat)) (nc nd L : Nat) (p : PR) (j i : Nat) : List (Nat × PR) :=
  ((List.range j).flatMap fun k => ((allP A B L nc nd).filter fun e => decide (nxt A B e k = p)).map fun e => (k, e)) ++ (((allP A B L nc nd).take i).filter fun e => decide (nxt A B e j = p)).map fun e => (j, e)
theorem stK_zero (p : PR) (j : Nat) : stK A B nc nd L p j (allP A B L nc nd).length = stK A B nc nd L p (j + 1) 0 := by
  unfold stK
  rw [List.take_length, List.take_zero, List.range_succ, List.flatMap_append]
  simp
theorem stK_all (p : PR) : stK A B nc nd L p L 0 = stG A B L nc nd p := by
  unfold stK stG
  simp
theorem stK_succ {p e : PR} {j i : Nat} (h : (allP A B L nc nd)[i]? = some e) : stK A B nc nd L p j (i + 1) = if nxt A B e j = p then stK A B nc nd L p j i ++ [(j, e)] else stK A B nc nd L p j i := by
  unfold stK
  rw [List.take_succ, h]
  by_cases c : nxt A B e j = p
  · rw [if_pos c]
    simp [c]
  · rw [if_neg c]
    simp [c]
theorem stK_len (p : PR) (j i : Nat) : (stK A B nc nd L p j i).length ≤ (j + 1) * (allP A B L nc nd).length := by
  unfold stK
  rw [List.length_append, List.length_map]
  have h1 := List.length_filter_le (fun e => decide (nxt A B e j = p)) ((allP A B L nc nd).take i)
  have h2 : ((allP A B L nc nd).take i).length ≤ (allP A B L nc nd).length := List.length_take_le' ..
  have h3 : ∀ l : List Nat, (l.flatMap fun k => ((allP A B L nc nd).filter fun e => decide (nxt A B e k = p)).map fun e => (k, e)).length ≤ l.length * (allP A B L nc nd).length := by
    intro l
    induction l with
    | nil => simp
    | cons k r ih =>
      rw [List.flatMap_cons, List.length_append, List.length_map, List.length_cons, Nat.succ_mul]
      have := List.length_filter_le (fun e => decide (nxt A B e k = p)) (allP A B L nc nd)
      omega
  have h4 := h3 (List.range j)
  rw [List.length_range] at h4
  rw [Nat.succ_mul]
  omega
theorem law_steps_ok (h : MC L nc st many A rs es) (h' : MC L nd st' many' B rs' es') (ha : AOk L nc A) (hb : AOk L nd B) (hs : nc * nd ≤ 20) (hL : L ≤ 4) (hc : nc ≤ 64) (hd : nd ≤ 64) {p q : Int} (hp : StQ st p) (hq : StQ st' q) {e : PR} {z : Str} (hz : z.length = L) {u0 u3 v0 v1 v3 : D} {us vs : List D}
    {S : Store} {Q : D → Store → Prop} (k : ∀ r S', S.length ≤ r → Grow S S' → S'[r]? = some (.lst ((stG A B L nc nd e).map (stepD rs rs' p q))) → Q (.ref r) S') :
    wp (m_law_steps [.tup (u0 :: .str z :: .tup (aheadD A) :: u3 :: .tup rs :: us), .tup (v0 :: v1 :: .tup (aheadD B) :: v3 :: .tup rs' :: vs), .tup [.int p, natD e.1, .int q, natD e.2]]) S Q := by
  unfold m_law_steps f_law_steps
  have sz : z.length ≤ sizeLine := Nat.le_of_lt (sz_lt (by omega))
  have pl : (allP A B L nc nd).length ≤ 20 := Nat.le_trans allP_len hs
  rw [w_body]
  refine w_seqA ?_
  walk_at "v"
  refine ⟨Nat.zero_le _, ?_⟩
  let E : List (Option D) → SEnv := fun as => some (.tup (u0 :: .str z :: .tup (aheadD A) :: u3 :: .tup rs :: us)) :: some (.tup (v0 :: v1 :: .tup (aheadD B) :: v3 :: .tup rs' :: vs)) :: some (.tup [.int p, natD e.1, .int q, natD e.2]) :: some (.ref S.length) :: as
  refine w_cut (fun env S2 => ∃ a4 a5 a6 a7 a8 a9 : Option D, env = [some (.tup (u0 :: .str z :: .tup (aheadD A) :: u3 :: .tup rs :: us)), some (.tup (v0 :: v1 :: .tup (aheadD B) :: v3 :: .tup rs' :: vs)), some (.tup [.int p, natD e.1, .int q, natD e.2]), some (.ref S.length), a4, a5, a6, a7, a8, a9] ∧ Grow S S2 ∧ S2[S.length]? = some (.lst ((stG A B L nc nd e).map (stepD rs rs' p q)))) ?_ ?_
  · walk_at "w"
    refine ⟨_, at_nat (c := 1) rfl, ?_⟩
    walk_at "w"
    refine ⟨sz, ⟨by omega, by omega⟩, ?_⟩
    rw [show ((z.length : Nat) : Int).toNat = z.length from rfl]
    refine wp_loop (fun j env S2 => ∃ a4 a5 a6 a7 a8 a9 : Option D, env = [some (.tup (u0 :: .str z :: .tup (aheadD A) :: u3 :: .tup rs :: us)), some (.tup (v0 :: v1 :: .tup (aheadD B) :: v3 :: .tup rs' :: vs)), some (.tup [.int p, natD e.1, .int q, natD e.2]), some (.ref S.length), a4, a5, a6, a7, a8, a9] ∧ Grow S S2 ∧ S2[S.length]? = some (.lst ((stK A B nc nd L e j 0).map (stepD rs rs' p q)))) (fun _ _ _ _ => gdOk_nil _) ?_ ?_ ⟨_, _, _, _, _, _, rfl, Grow.refl.app, by rw [show stK A B nc nd L e 0 0 = [] by simp [stK]]; exact get_new⟩
    · rintro j x _ S2 hx ⟨a4, a5, a6, a7, a8, a9, rfl, g2, m2⟩
      obtain ⟨hj, rfl⟩ := rng_get hx
      rw [hz] at hj
      simp only [Int.zero_add]
      walk_at "w"
      refine law_pairs_ok ha hb (by omega) hc hd (by omega) hz fun r S3 hr g3 m3 => ?_
      refine ⟨((allP A B L nc nd).map pD, [(r, (allP A B L nc nd).map pD)]), by unfold srcOf; simp only [m3], ?_⟩
      have hrS : r ≠ S.length := by have := lt_of_get m2; omega
      refine wp_loop (fun i env S4 => ∃ a5 a6 a7 a8 a9 : Option D, env = [some (.tup (u0 :: .str z :: .tup (aheadD A) :: u3 :: .tup rs :: us)), some (.tup (v0 :: v1 :: .tup (aheadD B) :: v3 :: .tup rs' :: vs)), some (.tup [.int p, natD e.1, .int q, natD e.2]), some (.ref S.length), some (natD j), a5, a6, a7, a8, a9] ∧ Grow S S4 ∧ S4[r]? = some (.lst ((allP A B L nc nd).map pD)) ∧ S4[S.length]? = some (.lst ((stK A B nc nd L e j i).map (stepD rs rs' p q)))) (fun i env S4 ⟨_, _, _, _, _, _, _, g, _⟩ => fun w hw => by rw [List.mem_singleton.mp hw]; exact g) ?_ ?_ ⟨_, _, _, _, _, rfl, g2.trans g3, m3, g3.get m2⟩
      · rintro i x _ S4 hx ⟨a5, a6, a7, a8, a9, rfl, g4, r4, m4⟩
        rw [List.getElem?_map] at hx
        obtain ⟨f, hf, rfl⟩ := Option.map_eq_some_iff.mp hx
        obtain ⟨h1, h2⟩ := ((mem_allP ha hb).mp (List.mem_of_getElem? hf)).lt ha hb
        rw [stK_succ hf]
        have few : ((stK A B nc nd L e j i).map (stepD rs rs' p q)).length < sizeLine := sz_lt (by
          rw [List.length_map]
          have t := stK_len (A := A) (B := B) (nc := nc) (nd := nd) (L := L) e j i
          have : (j + 1) * (allP A B L nc nd).length ≤ 4 * 20 := Nat.mul_le_mul (by omega) pl
          omega)
        have same : ((A.getD f.1 []).getD j 0 = e.1 ∧ (B.getD f.2 []).getD j 0 = e.2) ↔ nxt A B f j = e := ⟨fun w => Prod.ext w.1 w.2, fun w => by rw [← w]; exact ⟨rfl, rfl⟩⟩
        have stay : ∀ b7 b8 b9 : Option D, ¬ nxt A B f j = e → ∃ a5 a6 a7 a8 a9 : Option D, [some (.tup (u0 :: .str z :: .tup (aheadD A) :: u3 :: .tup rs :: us)), some (.tup (v0 :: v1 :: .tup (aheadD B) :: v3 :: .tup rs' :: vs)), some (.tup [.int p, natD e.1, .int q, natD e.2]), some (.ref S.length), some (natD j), some (natD f.1), some (natD f.2), b7, b8, b9] = [some (.tup (u0 :: .str z :: .tup (aheadD A) :: u3 :: .tup rs :: us)), some (.tup (v0 :: v1 :: .tup (aheadD B) :: v3 :: .tup rs' :: vs)), some (.tup [.int p, natD e.1, .int q, natD e.2]), some (.ref S.length), some (natD j), a5, a6, a7, a8, a9] ∧ Grow S S4 ∧ S4[r]? = some (.lst ((allP A B L nc nd).map pD)) ∧ S4[S.length]? = some (.lst ((if nxt A B f j = e then stK A B nc nd L e j i ++ [(j, f)] else stK A B nc nd L e j i).map (stepD rs rs' p q))) := fun b7 b8 b9 w => ⟨_, _, _, _, _, rfl, g4, r4, by rw [if_neg w]; exact m4⟩
        walk_at "w"
        refine ⟨_, at_nat (c := 2) rfl, ?_⟩
        walk_at "w"
        refine ⟨_, at_nat (ahead_at ha h1), ?_⟩
        walk_at "w"
        refine ⟨_, at_nat (row_at ha h1 hj), _, at_nat (c := 1) rfl, ?_⟩
        walk_at "w"
        by_cases c1 : (A.getD f.1 []).getD j 0 = e.1
        · have c1' : (((((A.getD f.1 []).getD j 0 : Nat) : Int)) == ((e.1 : Nat) : Int)) = true := by rw [c1]; exact beq_self_eq_true _
          rw [c1']
          simp only [if_true]
          refine ⟨_, at_nat (c := 2) rfl, ?_⟩
          walk_at "w"
          refine ⟨_, at_nat (ahead_at hb h2), ?_⟩
          walk_at "w"
          refine ⟨_, at_nat (row_at hb h2 hj), _, at_nat (c := 3) rfl, ?_⟩
          walk_at "w"
          by_cases c2 : (B.getD f.2 []).getD j 0 = e.2
          · have c2' : (((((B.getD f.2 []).getD j 0 : Nat) : Int)) == ((e.2 : Nat) : Int)) = true := by rw [c2]; exact beq_self_eq_true _
            rw [c2']
            simp only [if_true]
            have hn : nxt A B f j = e := same.mp ⟨c1, c2⟩
            refine ⟨_, at_nat (c := 0) rfl, ?_⟩
            refine law_goal_ok h hp hj h1 ?_
            refine ⟨_, at_nat (c := 2) rfl, ?_⟩
            refine law_goal_ok h' hq hj h2 ?_
            have fin : ∀ d, d = stepD rs rs' p q (j, f) → (S4.set S.length (.lst ((stK A B nc nd L e j i).map (stepD rs rs' p q) ++ [d])))[S.length]? = some (.lst ((if nxt A B f j = e then stK A B nc nd L e j i ++ [(j, f)] else stK A B nc nd L e j i).map (stepD rs rs' p q))) := fun d w => by
              rw [List.getElem?_set_self (lt_of_get m4), if_pos hn, List.map_append, w]
              rfl
            have gs : ∀ o, Grow S (S4.set S.length o) := fun o => g4.set (Nat.le_refl _)
            have rs4 : ∀ o, (S4.set S.length o)[r]? = some (.lst ((allP A B L nc nd).map pD)) := fun o => by
              rw [List.getElem?_set_ne (Ne.symm hrS)]
              exact r4
            have un : stepD rs rs' p q (j, f) = .tup [sD (j, f), if nonB (entD rs p j f.1) = true ∧ nonB (entD rs' q j f.2) = true then .non else .tup [stOf (entD rs p j f.1), natD f.1, stOf (entD rs' q j f.2), natD f.2]] := rfl
            rw [un] at fin
            have c1 := entD_cell h (p := p) hp hj h1
            have c2 := entD_cell h' (p := q) hq hj h2
            rcases c1 with e1 | ⟨g, ns, _, _, e1⟩ <;> rcases c2 with e2 | ⟨g', ns', _, _, e2⟩ <;> rw [e1, e2] at fin ⊢ <;> walk_at "w" <;> simp only [Bool.false_eq_true, if_true, if_false]
            · skip
              rw [w_tyL m4]
              refine ⟨by decide, by decide, ?_⟩
              rw [w_app m4 few]
              exact ⟨_, _, _, _, _, rfl, gs _, rs4 _, fin _ (by simp [nonB, stOf])⟩
            · refine ⟨_, at_nat (c := 0) rfl, by decide, ?_⟩
              rw [w_tyL m4]
              refine ⟨by decide, by decide, ?_⟩
              rw [w_app m4 few]
              exact ⟨_, _, _, _, _, rfl, gs _, rs4 _, fin _ (by simp [nonB, stOf])⟩
            · refine ⟨_, at_nat (c := 0) rfl, by decide, ?_⟩
              rw [w_tyL m4]
              refine ⟨by decide, by decide, ?_⟩
              rw [w_app m4 few]
              exact ⟨_, _, _, _, _, rfl, gs _, rs4 _, fin _ (by simp [nonB, stOf])⟩
            · refine ⟨_, at_nat (c := 0) rfl, _, at_nat (c := 0) rfl, by decide, ?_⟩
              rw [w_tyL m4]
              refine ⟨by decide, by decide, ?_⟩
              rw [w_app m4 few]
              exact ⟨_, _, _, _, _, rfl, gs _, rs4 _, fin _ (by simp [nonB, stOf])⟩
          · have c2' : (((((B.getD f.2 []).getD j 0 : Nat) : Int)) == ((e.2 : Nat) : Int)) = false := beq_eq_false_iff_ne.mpr fun w => c2 (by omega)
            rw [c2']
            simp only [Bool.false_eq_true, if_false]
            exact stay _ _ _ fun w => c2 (same.mpr w).2
        · have c1' : (((((A.getD f.1 []).getD j 0 : Nat) : Int)) == ((e.1 : Nat) : Int)) = false := beq_eq_false_iff_ne.mpr fun w => c1 (by omega)
          rw [c1']
          simp only [Bool.false_eq_true, if_false]
          exact stay _ _ _ fun w => c1 (same.mpr w).1
      · rintro _ S4 ⟨a5, a6, a7, a8, a9, rfl, g4, r4, m4⟩
        rw [List.length_map, stK_zero] at m4
        exact ⟨_, _, _, _, _, _, rfl, g4, m4⟩
    · rintro _ S2 ⟨a4, a5, a6, a7, a8, a9, rfl, g2, m2⟩
      rw [rng_length, hz, stK_all] at m2
      exact ⟨rfl, _, _, _, _, _, _, rfl, g2, m2⟩
  rintro _ S2 ⟨a4, a5, a6, a7, a8, a9, rfl, g2, m2⟩
  walk_at "w"
  exact k _ S2 (Nat.le_refl _) g2 m2
end
end TS
set_option Elab.async false
set_option linter.all false
set_option maxRecDepth 100000
set_option maxHeartbeats 2000000
namespace TS
open PySem PySem.Spec PyProof.Rows L2 RT
local macro_rules | `(tactic| walk_at "w") => `(tactic| simp only [w_mulX, w_mulXS, x_isiSS, x_isiIS, x_isiII, x_isiIB, x_isiTT, x_isiNS, x_isTN, x_isSN, x_isIN, x_notTN, x_notSN, x_notIN, x_revX, x_revV, x_revVT, w_ord, w_asBl, w_body, env0, w_seq, w_asg, w_sret, w_retN, w_drop, w_sIf, w_for, w_aug, w_nx, w_brk, w_cnt, w_gN, w_gTup, w_gsCons, w_gsNil, w_gSub, w_var, w_c, w_op, w_un, w_call, w_eMt, w_tup, w_lst, w_aNil, w_aCons, w_asB, w_asT, w_bAnd, w_bOr, w_bNot, w_eAnd, w_eOr, w_eNot, w_eIf, w_eSl, w_pNo, w_pSome, w_chain,
  w_add, w_addT, w_sub, w_mul, w_mod, w_fdiv, w_pow, w_lt, w_le, w_gt, w_ge, w_int, w_min, w_max, w_lenT, w_lenF, w_truB, w_isB, w_notB, w_tyS, w_slT, w_tupT, w_eqI, w_neI, w_eqBl, w_neBl, w_find, w_rg1, w_rg2, w_anyI, w_ixT, w_ixF, w_ixS, w_lenS, w_slS, w_addS, w_disp, w_kNil, w_kCons, w_yes, w_zip, w_ltS1, w_ninS, x_enum, x_geS1, w_par2, w_eLenSet, w_intB, w_notN, w_isN, w_neg, w_kget, w_kin, w_get2, w_fld, w_sFld, w_sFldAdd, w_meth, w_make, w_optS, w_non, w_addI, x_ixVT, w_ez,
  List.map_cons, List.map_nil, List.length_cons, List.length_nil, List.replicate, List.cons_append, List.nil_append, List.getElem?_cons_zero, List.getElem?_cons_succ, List.set_cons_zero, List.set_cons_succ, Nat.reduceAdd, Nat.reduceSub, Nat.sub_self, Nat.sub_zero,
  Option.some.injEq, exists_eq_left', D.bl.injEq, D.int.injEq, rgOf_1, rgOf2_2, and_true, true_and])
local macro_rules | `(tactic| walk_at "v") => `(tactic| simp only [w_mulX, w_mulXS, x_isiSS, x_isiIS, x_isiII, x_isiIB, x_isiTT, x_isiNS, x_isTN, x_isSN, x_isIN, x_notTN, x_notSN, x_notIN, x_revX, x_revV, x_revVT, w_ord, w_asBl, env0, w_asg, w_sret, w_retN, w_drop, w_for, w_aug, w_nx, w_brk, w_cnt, w_gN, w_gTup, w_gsCons, w_gsNil, w_gSub, w_var, w_c, w_op, w_un, w_call, w_eMt, w_tup, w_lst, w_aNil, w_aCons, w_asB, w_asT, w_bAnd, w_bOr, w_bNot, w_eAnd, w_eOr, w_eNot, w_eIf, w_eSl, w_pNo, w_pSome, w_chain,
  w_add, w_addT, w_sub, w_mul, w_mod, w_fdiv, w_pow, w_lt, w_le, w_gt, w_ge, w_int, w_min, w_max, w_lenT, w_lenF, w_truB, w_isB, w_notB, w_tyS, w_slT, w_tupT, w_eqI, w_neI, w_eqBl, w_neBl, w_find, w_rg1, w_rg2, w_anyI, w_ixT, w_ixF, w_ixS, w_lenS, w_slS, w_addS, w_disp, w_kNil, w_kCons, w_yes, w_zip, w_ltS1, w_ninS, x_enum, x_geS1, w_par2, w_eLenSet, w_intB, w_notN, w_isN, w_neg, w_kget, w_kin, w_get2, w_fld, w_sFld, w_sFldAdd, w_meth, w_make, w_optS, w_non, w_addI, x_ixVT, w_ez,
  List.map_cons, List.map_nil, List.length_cons, List.length_nil, List.replicate, List.cons_append, List.nil_append, List.getElem?_cons_zero, List.getElem?_cons_succ, List.set_cons_zero, List.set_cons_succ, Nat.reduceAdd, Nat.reduceSub, Nat.sub_self, Nat.sub_zero,
  Option.some.injEq, exists_eq_left', D.bl.injEq, D.int.injEq, rgOf_1, rgOf2_2, and_true, true_and])
local macro_rules | `(tactic| walk_at "l") => `(tactic| simp only [w_eqL, w_neL, w_inT1, w_inT2, w_inT3, at0, at1, at2, Option.some.injEq, String.reduceBEq, Bool.or_false, Bool.or_true, Bool.false_or, Bool.true_or, Bool.not_true, Bool.not_false, Bool.false_eq_true, if_true, if_false, D.bl.injEq, D.str.injEq, exists_eq_left', and_true, true_and])
section
variable {S : Store} {Q : D → Store → Prop}
theorem x_isiIT {i : Int} : wp (nIsi [.int i, .ty "tuple"]) S Q ↔ Q (.bl false) S := wp_some rfl
theorem x_isiNT : wp (nIsi [.non, .ty "tuple"]) S Q ↔ Q (.bl false) S := wp_some rfl
theorem pyS_ref {i : Nat} {xs : List D} (h : S[i]? = some (.lst xs)) : pyS S (.ref i) = (pys xs).map PyData.list := by unfold pyS; simp only [h]
/-- a thing of integers, None and tuples, so deep at most -/
def PlD : Nat → D → Prop
  | 0, d => d = .non ∨ ∃ i, d = .int i
  | n + 1, d => d = .non ∨ (∃ i, d = .int i) ∨ ∃ xs, d = .tup xs ∧ xs.length ≤ 1000 ∧ ∀ x ∈ xs, PlD n x
theorem plain_ok : ∀ (n k : Nat) (d : D) (S : Store) (Q : D → Store → Prop), PlD n d → n < k → (∀ S', Grow S S' → Q (.bl true) S') → wp (r_law_is_plain_row k [d]) S Q := by
  intro n
  induction n with
  | zero =>
    intro k d S Q h hk q
    cases k with
    | zero => omega
    | succ k =>
      show wp (bodyM 2 (f_law_is_plain_row (r_law_is_plain_row k)) [d]) S Q
      unfold f_law_is_plain_row
      rcases h with rfl | ⟨i, rfl⟩ <;> walk_at "w" <;> simp only [x_isiIT, x_isiNT, w_truB, Bool.false_eq_true, if_false]
      · skip
        exact q S .refl
      · skip
        exact q S .refl
  | succ n ih =>
    intro k d S Q h hk q
    cases k with
    | zero => omega
    | succ k =>
      show wp (bodyM 2 (f_law_is_plain_row (r_law_is_plain_row k)) [d]) S Q
      unfold f_law_is_plain_row
      rcases h with rfl | ⟨i, rfl⟩ | ⟨xs, rfl, hl, hx⟩
      · walk_at "w"
        simp only [x_isiIT, x_isiNT, w_truB, Bool.false_eq_true, if_false]
        exact q S .refl
      · walk_at "w"
        simp only [x_isiIT, x_isiNT, w_truB, Bool.false_eq_true, if_false]
        exact q S .refl
      · walk_at "w"
        simp only [w_truB, if_true]
        refine wp_lc (xs := xs) (g := []) (S1 := S) rfl (fun i acc S2 => acc = [] ∧ S2[S.length]? = some (.lst []) ∧ Grow S S2) ⟨rfl, get_new, Grow.refl.app⟩ (fun _ _ _ ⟨e, h, _⟩ => by rw [e]; exact h) (fun _ _ _ _ => gdOk_nil _) (fun _ _ _ h => by rw [h.1]; exact Nat.zero_le _) (sz_lt (by omega)) ?_ ?_
        · rintro i x _ S2 hx2 ⟨rfl, h2, g2⟩
          simp only [wipeE]
          walk_at "w"
          refine ih k x S2 _ (hx x (List.mem_of_getElem? hx2)) (by omega) fun S3 g3 => ?_
          rw [w_truB]
          simp only [Bool.not_true, Bool.false_eq_true, if_false]
          exact ⟨g3.get h2, g2.trans g3⟩
        · rintro _ S2 ⟨rfl, h2, g2⟩
          refine ⟨Nat.zero_le _, ?_⟩
          rw [w_eqSelf (p := .list []) ((pyS_ref (by rw [List.getElem?_append_left (lt_of_get h2)]; exact h2)).trans rfl) ((pyS_ref get_new).trans rfl) rfl]
          exact q _ g2.app
end
/-! classes of texts -/
def clsF (A : List (List Nat)) (z : List Nat) (c : Nat) : List Nat → Nat
  | [] => c
  | s :: r => clsF A z ((A.getD c []).getD ((place s z).getD 0) 0) r
theorem cls_rch {A B : List (List Nat)} {z : List Nat} : ∀ (cs : List Nat) (e : PR), (∀ s ∈ cs, s ∈ z) → Rch A B z.length e → Rch A B z.length (clsF A z e.1 cs, clsF B z e.2 cs)
  | [], e, _, h => h
  | s :: r, e, hs, h => by
    have hm := hs s (List.mem_cons_self ..)
    cases hp : place s z with
    | none => exact absurd hm (place_none.mp hp)
    | some i =>
      have hi : i < z.length := (List.getElem?_eq_some_iff.mp (place_some hp).1).1
      have := cls_rch r (nxt A B e i) (fun x hx => hs x (List.mem_cons_of_mem _ hx)) (.step i hi h)
      unfold clsF
      rw [hp]
      exact this
theorem cls_lt {A : List (List Nat)} {n : Nat} {z : List Nat} (ha : AOk z.length n A) : ∀ (cs : List Nat) (c : Nat), (∀ s ∈ cs, s ∈ z) → c < n → clsF A z c cs < n
  | [], c, _, h => h
  | s :: r, c, hs, h => by
    have hm := hs s (List.mem_cons_self ..)
    cases hp : place s z with
    | none => exact absurd hm (place_none.mp hp)
    | some i =>
      have hi : i < z.length := (List.getElem?_eq_some_iff.mp (place_some hp).1).1
      unfold clsF
      rw [hp]
      exact cls_lt ha r _ (fun x hx => hs x (List.mem_cons_of_mem _ hx)) (ha.lt h hi)
theorem cls_take {A : List (List Nat)} {z : List Nat} : ∀ (cs : List Nat) (c i s : Nat), cs[i]? = some s → clsF A z c (cs.take (i + 1)) = (A.getD (clsF A z c (cs.take i)) []).getD ((place s z).getD 0) 0
  | [], c, i, s, h => by simp at h
  | x :: r, c, 0, s, h => by
    rw [List.getElem?_cons_zero] at h
    cases h
    rfl
  | x :: r, c, i + 1, s, h => by
    rw [List.getElem?_cons_succ] at h
    exact cls_take r _ i s h
theorem law_class_ok {A : List (List Nat)} {n : Nat} {z : Str} (ha : AOk z.length n A) {w : Str} (hw : ∀ s ∈ w.cps.toList, s ∈ z.cps.toList) (hl : w.length ≤ 1000) {u0 : D} {us : List D} {S : Store} {Q : D → Store → Prop} (k : Q (natD (clsF A z.cps.toList 0 w.cps.toList.reverse)) S) :
    wp (m_law_class [.tup (u0 :: .str z :: .tup (aheadD A) :: us), .str w]) S Q := by
  unfold m_law_class f_law_class
  have lz := len_toList z
  have ha' : AOk z.cps.toList.length n A := by rw [lz]; exact ha
  rw [w_body]
  refine w_cut (fun env S2 => env = [some (.tup (u0 :: .str z :: .tup (aheadD A) :: us)), some (.str w), some (natD 0), none] ∧ S2 = S) ?_ ?_
  · walk_at "w"
    trivial
  rintro _ S1 ⟨rfl, rfl⟩
  let cs := w.cps.toList.reverse
  refine w_cut (fun env S2 => ∃ a3 : Option D, env = [some (.tup (u0 :: .str z :: .tup (aheadD A) :: us)), some (.str w), some (natD (clsF A z.cps.toList 0 cs)), a3] ∧ S2 = S1) ?_ ?_
  · walk_at "w"
    rw [x_revS (by omega)]
    refine ⟨(signs (turnS w), []), rfl, ?_⟩
    refine wp_loop (fun i env S2 => ∃ a3 : Option D, env = [some (.tup (u0 :: .str z :: .tup (aheadD A) :: us)), some (.str w), some (natD (clsF A z.cps.toList 0 (cs.take i))), a3] ∧ S2 = S1) (fun _ _ _ _ => gdOk_nil _) ?_ ?_ ⟨none, rfl, rfl⟩
    · rintro i x _ S2 hx ⟨a3, rfl, rfl⟩
      have hx' : (cs.map fun c => D.str ⟨#[c]⟩)[i]? = some x := hx
      rw [List.getElem?_map] at hx'
      obtain ⟨s, hs, rfl⟩ := Option.map_eq_some_iff.mp hx'
      have hmem : ∀ y ∈ cs, y ∈ z.cps.toList := fun y hy => hw y (List.mem_reverse.mp hy)
      have hm : s ∈ z.cps.toList := hmem s (List.mem_of_getElem? hs)
      have hc : clsF A z.cps.toList 0 (cs.take i) < n := cls_lt ha' _ _ (fun y hy => hmem y (List.mem_of_mem_take hy)) ha.pos
      rw [cls_take cs 0 i s hs]
      cases hp : place s z.cps.toList with
      | none => exact absurd hm (place_none.mp hp)
      | some j =>
        have hj : j < z.length := by rw [← lz]; exact (List.getElem?_eq_some_iff.mp (place_some hp).1).1
        walk_at "w"
        refine ⟨_, at_nat (c := 2) rfl, ?_⟩
        walk_at "w"
        refine ⟨_, at_nat (ahead_at ha hc), _, at_nat (c := 1) rfl, ?_⟩
        walk_at "w"
        rw [w_indexS hp]
        walk_at "w"
        exact ⟨_, at_nat (row_at ha hc hj), _, rfl⟩
    · rintro _ S2 ⟨a3, rfl, rfl⟩
      have e : (signs (turnS w)).length = cs.length := by
        show ((turnS w).cps.toList.map _).length = _
        rw [List.length_map]
        rfl
      rw [e, List.take_length]
      exact ⟨rfl, a3, rfl, rfl⟩
  rintro _ _ ⟨a3, rfl, rfl⟩
  walk_at "w"
  exact k
end TS
set_option Elab.async false
set_option linter.all false
set_option maxRecDepth 100000
set_option maxHeartbeats 4000000
namespace TS
open PySem PySem.Spec PyProof.Rows L2 RT
local macro_rules | `(tactic| walk_at "w") => `(tactic| simp only [w_mulX, w_mulXS, x_isiSS, x_isiIS, x_isiII, x_isiIB, x_isiTT, x_isiNS, x_isTN, x_isSN, x_isIN, x_notTN, x_notSN, x_notIN, x_revX, x_revV, x_revVT, w_ord, w_asBl, w_body, env0, w_seq, w_asg, w_sret, w_retN, w_drop, w_sIf, w_for, w_aug, w_nx, w_brk, w_cnt, w_gN, w_gTup, w_gsCons, w_gsNil, w_gSub, w_var, w_c, w_op, w_un, w_call, w_eMt, w_tup, w_lst, w_aNil, w_aCons, w_asB, w_asT, w_bAnd, w_bOr, w_bNot, w_eAnd, w_eOr, w_eNot, w_eIf, w_eSl, w_pNo, w_pSome, w_chain,
  w_add, w_addT, w_sub, w_mul, w_mod, w_fdiv, w_pow, w_lt, w_le, w_gt, w_ge, w_int, w_min, w_max, w_lenT, w_lenF, w_truB, w_isB, w_notB, w_tyS, w_slT, w_tupT, w_eqI, w_neI, w_eqBl, w_neBl, w_find, w_rg1, w_rg2, w_anyI, w_ixT, w_ixF, w_ixS, w_lenS, w_slS, w_addS, w_disp, w_kNil, w_kCons, w_yes, w_zip, w_ltS1, w_ninS, x_enum, x_geS1, w_par2, w_eLenSet, w_intB, w_notN, w_isN, w_neg, w_kget, w_kin, w_get2, w_fld, w_sFld, w_sFldAdd, w_meth, w_make, w_optS, w_non, w_addI, x_ixVT, w_ez,
  List.map_cons, List.map_nil, List.length_cons, List.length_nil, List.replicate, List.cons_append, List.nil_append, List.getElem?_cons_zero, List.getElem?_cons_succ, List.set_cons_zero, List.set_cons_succ, Nat.reduceAdd, Nat.reduceSub, Nat.sub_self, Nat.sub_zero,
  Option.some.injEq, exists_eq_left', D.bl.injEq, D.int.injEq, rgOf_1, rgOf2_2, and_true, true_and])
local macro_rules | `(tactic| walk_at "v") => `(tactic| simp only [w_mulX, w_mulXS, x_isiSS, x_isiIS, x_isiII, x_isiIB, x_isiTT, x_isiNS, x_isTN, x_isSN, x_isIN, x_notTN, x_notSN, x_notIN, x_revX, x_revV, x_revVT, w_ord, w_asBl, env0, w_asg, w_sret, w_retN, w_drop, w_for, w_aug, w_nx, w_brk, w_cnt, w_gN, w_gTup, w_gsCons, w_gsNil, w_gSub, w_var, w_c, w_op, w_un, w_call, w_eMt, w_tup, w_lst, w_aNil, w_aCons, w_asB, w_asT, w_bAnd, w_bOr, w_bNot, w_eAnd, w_eOr, w_eNot, w_eIf, w_eSl, w_pNo, w_pSome, w_chain,
  w_add, w_addT, w_sub, w_mul, w_mod, w_fdiv, w_pow, w_lt, w_le, w_gt, w_ge, w_int, w_min, w_max, w_lenT, w_lenF, w_truB, w_isB, w_notB, w_tyS, w_slT, w_tupT, w_eqI, w_neI, w_eqBl, w_neBl, w_find, w_rg1, w_rg2, w_anyI, w_ixT, w_ixF, w_ixS, w_lenS, w_slS, w_addS, w_disp, w_kNil, w_kCons, w_yes, w_zip, w_ltS1, w_ninS, x_enum, x_geS1, w_par2, w_eLenSet, w_intB, w_notN, w_isN, w_neg, w_kget, w_kin, w_get2, w_fld, w_sFld, w_sFldAdd, w_meth, w_make, w_optS, w_non, w_addI, x_ixVT, w_ez,
  List.map_cons, List.map_nil, List.length_cons, List.length_nil, List.replicate, List.cons_append, List.nil_append, List.getElem?_cons_zero, List.getElem?_cons_succ, List.set_cons_zero, List.set_cons_succ, Nat.reduceAdd, Nat.reduceSub, Nat.sub_self, Nat.sub_zero,
  Option.some.injEq, exists_eq_left', D.bl.injEq, D.int.injEq, rgOf_1, rgOf2_2, and_true, true_and])
local macro_rules | `(tactic| walk_at "l") => `(tactic| simp only [w_eqL, w_neL, w_inT1, w_inT2, w_inT3, at0, at1, at2, Option.some.injEq, String.reduceBEq, Bool.or_false, Bool.or_true, Bool.false_or, Bool.true_or, Bool.not_true, Bool.not_false, Bool.false_eq_true, if_true, if_false, D.bl.injEq, D.str.injEq, exists_eq_left', and_true, true_and])
/-! ### what is plain is data -/
theorem plain_py : ∀ (n : Nat) (d : D), PlD n d → ∃ p, py d = some p ∧ p.canLay0 = true ∧ p.depth ≤ n := by
  intro n
  induction n with
  | zero =>
    rintro d (rfl | ⟨i, rfl⟩)
    · exact ⟨.none, rfl, rfl, Nat.le_refl _⟩
    · exact ⟨.int i, rfl, rfl, Nat.le_refl _⟩
  | succ n ih =>
    rintro d (rfl | ⟨i, rfl⟩ | ⟨xs, rfl, hl, hx⟩)
    · exact ⟨.none, rfl, rfl, Nat.zero_le _⟩
    · exact ⟨.int i, rfl, rfl, Nat.zero_le _⟩
    · have key : ∀ l : List D, (∀ x ∈ l, PlD n x) → ∃ ps, pys l = some ps ∧ PyData.canLayAll0 ps = true ∧ PyData.depthAll ps ≤ n := by
        intro l
        induction l with
        | nil => exact fun _ => ⟨[], rfl, rfl, Nat.zero_le _⟩
        | cons x r ih2 =>
          intro h
          obtain ⟨p, e1, e2, e3⟩ := ih x (h x (List.mem_cons_self ..))
          obtain ⟨ps, f1, f2, f3⟩ := ih2 fun y hy => h y (List.mem_cons_of_mem _ hy)
          refine ⟨p :: ps, ?_, ?_, ?_⟩
          · show (match py x, pys r with
              | some p, some ps => some (p :: ps)
              | _, _ => none) = _
            rw [e1, f1]
          · show (p.canLay0 && PyData.canLayAll0 ps) = true
            rw [e2, f2]
            rfl
          · show max p.depth (PyData.depthAll ps) ≤ n
            exact Nat.max_le.mpr ⟨e3, f3⟩
      obtain ⟨ps, f1, f2, f3⟩ := key xs hx
      refine ⟨.tuple ps, ?_, f2, ?_⟩
      · show (pys xs).map PyData.tuple = _
        rw [f1]
        rfl
      · show PyData.depthAll ps + 1 ≤ n + 1
        omega
theorem plain_ne {n : Nat} {xs : List D} {S : Store} {Q : D → Store → Prop} (h : PlD n (.tup xs)) (hn : n ≤ 60) (q : Q (.bl false) S) : wp (neD (.tup xs) (.tup xs)) S Q := by
  obtain ⟨p, e1, e2, e3⟩ := plain_py n _ h
  rw [w_neSelf (p := p) (show pyS S (.tup xs) = some p from e1) (show pyS S (.tup xs) = some p from e1) (by unfold SeqAt.shaped; rw [e2, Bool.true_and]; exact decide_eq_true (by omega))]
  exact q
theorem pl_pD (e : PR) : PlD 1 (pD e) := .inr (.inr ⟨_, rfl, by show (2 : Nat) ≤ 1000; decide, fun x hx => by
  simp only [List.mem_cons, List.not_mem_nil, or_false] at hx
  rcases hx with rfl | rfl <;> exact .inr ⟨_, rfl⟩⟩)
theorem pl_pairs {l : List PR} (h : l.length ≤ 1000) : PlD 2 (.tup (l.map pD)) := .inr (.inr ⟨_, rfl, by rw [List.length_map]; exact h, fun x hx => by
  obtain ⟨e, _, rfl⟩ := List.mem_map.mp hx
  exact pl_pD e⟩)
theorem pl_st {st many : Nat} {c : D} (h : CellM st many c) : ∃ i, stOf c = .int i := by
  rcases h with rfl | ⟨g, ns, _, _, rfl⟩
  · exact ⟨-1, rfl⟩
  · exact ⟨_, rfl⟩
section
variable {L nc nd st st' many many' : Nat} {A B : List (List Nat)} {rs rs' es es' : List D}
theorem pl_step (h : MC L nc st many A rs es) (h' : MC L nd st' many' B rs' es') {p q : Int} (hp : StQ st p) (hq : StQ st' q) {s : Nat × PR} (h1 : s.1 < L) (h2 : s.2.1 < nc) (h3 : s.2.2 < nd) : PlD 2 (stepD rs rs' p q s) := by
  obtain ⟨i, hi⟩ := pl_st (entD_cell h hp h1 h2)
  obtain ⟨j, hj⟩ := pl_st (entD_cell h' hq h1 h3)
  refine .inr (.inr ⟨_, rfl, by show (2 : Nat) ≤ 1000; decide, fun x hx => ?_⟩)
  simp only [List.mem_cons, List.not_mem_nil, or_false] at hx
  rcases hx with rfl | rfl
  · refine .inr (.inr ⟨_, rfl, by show (3 : Nat) ≤ 1000; decide, fun x hx => ?_⟩)
    simp only [List.mem_cons, List.not_mem_nil, or_false] at hx
    rcases hx with rfl | rfl | rfl <;> exact .inr ⟨_, rfl⟩
  · unfold goalD
    split
    · exact .inl rfl
    · rw [hi, hj]
      refine .inr (.inr ⟨_, rfl, by show (4 : Nat) ≤ 1000; decide, fun x hx => ?_⟩)
      simp only [List.mem_cons, List.not_mem_nil, or_false] at hx
      rcases hx with rfl | rfl | rfl | rfl <;> exact .inr ⟨_, rfl⟩
theorem stG_len (ha : AOk L nc A) (hb : AOk L nd B) (hn : nc ≤ 64) (hd : nd ≤ 64) (hs : nc * nd ≤ 20) (hL : L ≤ 4) (e : PR) : (stG A B L nc nd e).length ≤ 100 := by
  have e2 : ((stG A B L nc nd e).map sD).length = ((stF A B L (allP A B L nc nd) e).map sD).length := by
    rw [← sort_steps ha hb (by omega) (by omega), (sortK_perm _ _).length_eq]
  rw [List.length_map, List.length_map] at e2
  rw [e2]
  have t := stF_len (A := A) (B := B) (L := L) (allP A B L nc nd) e
  have t1 := allP_len (A := A) (B := B) (L := L) (nc := nc) (nd := nd)
  have t2 : (allP A B L nc nd).length * L ≤ 20 * 4 := Nat.mul_le_mul (Nat.le_trans t1 hs) hL
  omega
theorem pl_steps (h : MC L nc st many A rs es) (h' : MC L nd st' many' B rs' es') (ha : AOk L nc A) (hb : AOk L nd B) (hn : nc ≤ 64) (hd : nd ≤ 64) (hs : nc * nd ≤ 20) (hL : L ≤ 4) {p q : Int} (hp : StQ st p) (hq : StQ st' q) (e : PR) : PlD 3 (.tup ((stG A B L nc nd e).map (stepD rs rs' p q))) := by
  refine .inr (.inr ⟨_, rfl, ?_, fun x hx => ?_⟩)
  · rw [List.length_map]
    have := stG_len ha hb hn hd hs hL e
    omega
  · obtain ⟨s, hs', rfl⟩ := List.mem_map.mp hx
    have m := mem_stG.mp hs'
    have := ((mem_allP ha hb).mp m.2.1).lt ha hb
    exact pl_step h h' hp hq m.1 this.1 this.2
end
abbrev machE (z : Str) (A : List (List Nat)) (many : Nat) (rs es : List D) : D := .tup [.str "boxes", .str z, .tup (aheadD A), .int (many : Nat), .tup rs, .tup es]
def zL63 : List D := [.str "a", .str "ab", .str "acx", .str "mnxz"]
theorem z63 {d : D} (h : d ∈ zL63) : ∃ z : Str, d = .str z ∧ 1 ≤ z.length ∧ z.length ≤ 4 := by
  unfold zL63 at h
  simp only [List.mem_cons, List.not_mem_nil, or_false] at h
  rcases h with rfl | rfl | rfl | rfl <;> exact ⟨_, rfl, by decide +kernel, by decide +kernel⟩
end TS
set_option Elab.async false
set_option linter.all false
set_option maxRecDepth 100000
set_option maxHeartbeats 4000000
namespace TS
open PySem PySem.Spec PyProof.Rows L2 RT
local macro_rules | `(tactic| walk_at "w") => `(tactic| simp only [w_mulX, w_mulXS, x_isiSS, x_isiIS, x_isiII, x_isiIB, x_isiTT, x_isiNS, x_isTN, x_isSN, x_isIN, x_notTN, x_notSN, x_notIN, x_revX, x_revV, x_revVT, w_ord, w_asBl, w_body, env0, w_seq, w_asg, w_sret, w_retN, w_drop, w_sIf, w_for, w_aug, w_nx, w_brk, w_cnt, w_gN, w_gTup, w_gsCons, w_gsNil, w_gSub, w_var, w_c, w_op, w_un, w_call, w_eMt, w_tup, w_lst, w_aNil, w_aCons, w_asB, w_asT, w_bAnd, w_bOr, w_bNot, w_eAnd, w_eOr, w_eNot, w_eIf, w_eSl, w_pNo, w_pSome, w_chain,
  w_add, w_addT, w_sub, w_mul, w_mod, w_fdiv, w_pow, w_lt, w_le, w_gt, w_ge, w_int, w_min, w_max, w_lenT, w_lenF, w_truB, w_isB, w_notB, w_tyS, w_slT, w_tupT, w_eqI, w_neI, w_eqBl, w_neBl, w_find, w_rg1, w_rg2, w_anyI, w_ixT, w_ixF, w_ixS, w_lenS, w_slS, w_addS, w_disp, w_kNil, w_kCons, w_yes, w_zip, w_ltS1, w_ninS, x_enum, x_geS1, w_par2, w_eLenSet, w_intB, w_notN, w_isN, w_neg, w_kget, w_kin, w_get2, w_fld, w_sFld, w_sFldAdd, w_meth, w_make, w_optS, w_non, w_addI, x_ixVT, w_ez,
  List.map_cons, List.map_nil, List.length_cons, List.length_nil, List.replicate, List.cons_append, List.nil_append, List.getElem?_cons_zero, List.getElem?_cons_succ, List.set_cons_zero, List.set_cons_succ, Nat.reduceAdd, Nat.reduceSub, Nat.sub_self, Nat.sub_zero,
  Option.some.injEq, exists_eq_left', D.bl.injEq, D.int.injEq, rgOf_1, rgOf2_2, and_true, true_and])
local macro_rules | `(tactic| walk_at "v") => `(tactic| simp only [w_mulX, w_mulXS, x_isiSS, x_isiIS, x_isiII, x_isiIB, x_isiTT, x_isiNS, x_isTN, x_isSN, x_isIN, x_notTN, x_notSN, x_notIN, x_revX, x_revV, x_revVT, w_ord, w_asBl, env0, w_asg, w_sret, w_retN, w_drop, w_for, w_aug, w_nx, w_brk, w_cnt, w_gN, w_gTup, w_gsCons, w_gsNil, w_gSub, w_var, w_c, w_op, w_un, w_call, w_eMt, w_tup, w_lst, w_aNil, w_aCons, w_asB, w_asT, w_bAnd, w_bOr, w_bNot, w_eAnd, w_eOr, w_eNot, w_eIf, w_eSl, w_pNo, w_pSome, w_chain,
  w_add, w_addT, w_sub, w_mul, w_mod, w_fdiv, w_pow, w_lt, w_le, w_gt, w_ge, w_int, w_min, w_max, w_lenT, w_lenF, w_truB, w_isB, w_notB, w_tyS, w_slT, w_tupT, w_eqI, w_neI, w_eqBl, w_neBl, w_find, w_rg1, w_rg2, w_anyI, w_ixT, w_ixF, w_ixS, w_lenS, w_slS, w_addS, w_disp, w_kNil, w_kCons, w_yes, w_zip, w_ltS1, w_ninS, x_enum, x_geS1, w_par2, w_eLenSet, w_intB, w_notN, w_isN, w_neg, w_kget, w_kin, w_get2, w_fld, w_sFld, w_sFldAdd, w_meth, w_make, w_optS, w_non, w_addI, x_ixVT, w_ez,
  List.map_cons, List.map_nil, List.length_cons, List.length_nil, List.replicate, List.cons_append, List.nil_append, List.getElem?_cons_zero, List.getElem?_cons_succ, List.set_cons_zero, List.set_cons_succ, Nat.reduceAdd, Nat.reduceSub, Nat.sub_self, Nat.sub_zero,
  Option.some.injEq, exists_eq_left', D.bl.injEq, D.int.injEq, rgOf_1, rgOf2_2, and_true, true_and])
local macro_rules | `(tactic| walk_at "l") => `(tactic| simp only [w_eqL, w_neL, w_inT1, w_inT2, w_inT3, at0, at1, at2, Option.some.injEq, String.reduceBEq, Bool.or_false, Bool.or_true, Bool.false_or, Bool.true_or, Bool.not_true, Bool.not_false, Bool.false_eq_true, if_true, if_false, D.bl.injEq, D.str.injEq, exists_eq_left', and_true, true_and])
theorem law_true : ∀ ns : List Int, ns.length ≤ 63 → ∃ S, m_law [.fl (ns.map .int)] [] = some (.bl true, S) := by
  intro ns hn
  suffices h : wp (m_law [.fl (ns.map .int)]) [] fun d _ => d = .bl true by
    obtain ⟨a, S, e, rfl⟩ := h
    exact ⟨S, e⟩
  unfold m_law f_law
  rw [w_body]
  refine w_seqA ?_
  walk_at "v"
  refine stream_ok hn fun row seed hrow => ?_
  have hD0 : Dr (([] : Store).length + 1) ([] : Store).length (([] : Store) ++ [MO.lst (row.map .int), .dK (drw ([] : Store).length 0 seed)]) := ⟨by decide, row, 0, seed, rfl, rfl, by omega⟩
  generalize ([] : Store).length + 1 = r at hD0 ⊢
  generalize ([] : Store).length = q at hD0 ⊢
  generalize ([] : Store) ++ [MO.lst (row.map .int), .dK (drw q 0 seed)] = S0 at hD0 ⊢
  refine w_seqA ?_
  walk_at "v"
  refine ⟨by decide, ?_⟩
  refine pick_ok hD0.app (by decide) fun n S1 n0 n1 hD1 hK1 hL1 => ?_
  have hr : S1[S0.length]? = some (.lst zL63) := by
    rw [hK1.get S0.length (by rw [List.length_append]; exact Nat.lt_succ_self _) (Nat.ne_of_gt hD0.lt.1)]
    exact get_new
  refine menu_at hr n0 (by exact n1) fun d hd => ?_
  obtain ⟨z, rfl, z1, z2⟩ := z63 hd
  have sz : z.length ≤ sizeLine := Nat.le_of_lt (sz_lt (by omega))
  have lz := len_toList z
  -- the machines
  refine w_seqA ?_
  walk_at "v"
  refine pick_ok hD1 (by decide) fun s0 S2 s1 s2 hD2 hK2 hL2 => ?_
  walk_at "v"
  refine pick_ok hD2 (by decide) fun m0 S3 m1 m2 hD3 hK3 hL3 => ?_
  refine pick_ok hD3 (by decide) fun c0 S4 c1 c2 hD4 hK4 hL4 => ?_
  walk_at "v"
  obtain ⟨st, hst⟩ : ∃ st : Nat, (1 : Int) + s0 = (st : Nat) := ⟨(1 + s0).toNat, by omega⟩
  obtain ⟨many, hmany⟩ := int_nat m1
  obtain ⟨nc, hnc⟩ : ∃ nc : Nat, (1 : Int) + c0 = (nc : Nat) := ⟨(1 + c0).toNat, by omega⟩
  rw [hst, hmany, hnc]
  refine law_machine_ok hD4 ⟨z1, by omega⟩ (by decide +kernel) (by decide +kernel) (by omega) (by omega) (by omega) fun A rs es S5 hM hD5 hK5 => ?_
  refine w_seqA ?_
  walk_at "v"
  refine pick_ok hD5 (by decide) fun s0' S6 s1' s2' hD6 hK6 hL6 => ?_
  walk_at "v"
  refine pick_ok hD6 (by decide) fun m0' S7 m1' m2' hD7 hK7 hL7 => ?_
  refine pick_ok hD7 (by decide) fun c0' S8 c1' c2' hD8 hK8 hL8 => ?_
  walk_at "v"
  obtain ⟨st', hst'⟩ : ∃ st : Nat, (1 : Int) + s0' = (st : Nat) := ⟨(1 + s0').toNat, by omega⟩
  obtain ⟨many', hmany'⟩ := int_nat m1'
  obtain ⟨nd, hnd⟩ : ∃ nc : Nat, (1 : Int) + c0' = (nc : Nat) := ⟨(1 + c0').toNat, by omega⟩
  rw [hst', hmany', hnd]
  refine law_machine_ok hD8 ⟨z1, by omega⟩ (by decide +kernel) (by decide +kernel) (by omega) (by omega) (by omega) fun B rs' es' S9 hM' hD9 hK9 => ?_
  have ha : AOk z.length nc A := ⟨by omega, hM.la, hM.ra⟩
  have hb : AOk z.length nd B := ⟨by omega, hM'.la, hM'.ra⟩
  have hs : nc * nd ≤ 20 := Nat.mul_le_mul (show nc ≤ 5 by omega) (show nd ≤ 4 by omega)
  have hc : nc ≤ 64 := by omega
  have hd' : nd ≤ 64 := by omega
  have pl : (allP A B z.length nc nd).length ≤ 20 := Nat.le_trans allP_len hs
  have p0 : (0, 0) ∈ allP A B z.length nc nd := (mem_allP ha hb).mpr .base
  -- the pairs
  refine w_seqA ?_
  walk_at "v"
  refine law_pairs_ok ha hb (by omega) hc hd' (by omega) rfl fun t S10 ht hG10 hP10 => ?_
  have hD10 := hG10.dr hD9
  have htr : t ≠ r := by have := hD9.lt.1; omega
  refine w_seqA ?_
  walk_at "v"
  refine class_pairs_ok ha hb (by omega) hc hd' fun S11 hG11 => ?_
  have hD11 := hG11.dr hD10
  have hP11 := hG11.get hP10
  refine w_cut (fun env S12 => env = [some (.fl (ns.map .int)), some (.ref r), some (.str z), some (machE z A many rs es), some (machE z B many' rs' es'), some (.ref t), some (.tup ((allP A B z.length nc nd).map pD)), none, none, none, none, none, none, none] ∧ Dr r q S12 ∧ S12[t]? = some (.lst ((allP A B z.length nc nd).map pD))) ?_ ?_
  · rw [w_sIf]
    walk_at "v"
    simp only [Bool.not_true, Bool.false_eq_true, if_false]
    refine plain_ok 2 12 _ _ _ (pl_pairs (by omega)) (by decide) fun S12 hG12 => ?_
    rw [w_truB]
    simp only [Bool.not_true, Bool.false_eq_true, if_false]
    have hP12 := hG12.get hP11
    rw [w_tupL hP12]
    refine plain_ne (pl_pairs (by omega)) (by decide) ?_
    refine ⟨_, rfl, ?_⟩
    simp only [Bool.false_eq_true, if_false]
    exact ⟨hG12.dr hD11, hP12⟩
  rintro _ S12 ⟨rfl, hD12, hP12⟩
  -- the texts
  refine w_cut (fun env S13 => ∃ a7 a8 a13 : Option D, env = [some (.fl (ns.map .int)), some (.ref r), some (.str z), some (machE z A many rs es), some (machE z B many' rs' es'), some (.ref t), some (.tup ((allP A B z.length nc nd).map pD)), a7, a8, none, none, none, none, a13] ∧ Dr r q S13 ∧ S13[t]? = some (.lst ((allP A B z.length nc nd).map pD))) ?_ ?_
  · walk_at "w"
    refine ⟨by decide, ?_⟩
    refine wp_loop (fun i env S13 => ∃ a7 a8 a13 : Option D, env = [some (.fl (ns.map .int)), some (.ref r), some (.str z), some (machE z A many rs es), some (machE z B many' rs' es'), some (.ref t), some (.tup ((allP A B z.length nc nd).map pD)), a7, a8, none, none, none, none, a13] ∧ Dr r q S13 ∧ S13[t]? = some (.lst ((allP A B z.length nc nd).map pD))) (fun _ _ _ _ => gdOk_nil _) ?_ ?_ ⟨_, _, _, rfl, hD12, hP12⟩
    · rintro i x _ S13 hx ⟨a7, a8, a13, rfl, hD13, hP13⟩
      walk_at "v"
      refine w_cut (fun env S14 => ∃ w : Str, env = [some (.fl (ns.map .int)), some (.ref r), some (.str z), some (machE z A many rs es), some (machE z B many' rs' es'), some (.ref t), some (.tup ((allP A B z.length nc nd).map pD)), some x, some (.str w), none, none, none, none, a13] ∧ w.length ≤ 7 ∧ (∀ c ∈ w.cps.toList, c ∈ z.cps.toList) ∧ Dr r q S14 ∧ S14[t]? = some (.lst ((allP A B z.length nc nd).map pD))) ?_ ?_
      · walk_at "w"
        rw [w_lcF]
        walk_at "w"
        refine pick_ok hD13 (by decide) fun m S14 m0 m1 hD14 hK14 hL14 => ?_
        obtain ⟨mn, rfl⟩ := int_nat m0
        refine ⟨_, rfl, ⟨by omega, by omega⟩, ?_⟩
        rw [show ((mn : Nat) : Int).toNat = mn from rfl]
        have hP14 : S14[t]? = some (.lst ((allP A B z.length nc nd).map pD)) := by rw [hK14.get t (lt_of_get hP13) htr]; exact hP13
        refine w_lcD (r := r) (q := q) (xs := rng 0 mn) (fun _ d => ∃ c, c ∈ z.cps.toList ∧ d = .str ⟨#[c]⟩) rfl hD14 (by rw [rng_length]; exact sz_lt (by omega)) (fun j y S15 hy hD15 hK15 => ?_) fun ds S15 he hp hD15 hK15 hk => ?_
        · simp only [wipeE]
          walk_at "w"
          refine ⟨sz, pick_ok hD15 (by omega) fun v S16 v0 v1 hD16 hK16 hL16 => ?_⟩
          rw [w_ixS]
          have hn : v.toNat < z.cps.toList.length := by omega
          refine ⟨sz, z.cps.toList[v.toNat], ?_, ⟨_, List.getElem_mem hn, rfl⟩, hD16, hK16⟩
          have e := atI_nat (List.getElem?_eq_getElem hn)
          rw [show ((v.toNat : Nat) : Int) = v by omega] at e
          exact e
        · rw [rng_length] at he
          refine x_joinCs (fun c => c ∈ z.cps.toList) hk (mem_idx hp) (by omega) fun w hw hcs => ?_
          exact ⟨w, rfl, by omega, hcs, hD15, by rw [hK15.get t (lt_of_get hP14) htr]; exact hP14⟩
      · rintro _ S14 ⟨w, rfl, w1, w2, hD14, hP14⟩
        rw [w_sIf]
        walk_at "v"
        refine law_class_ok ha w2 (by omega) ?_
        refine law_class_ok hb w2 (by omega) ?_
        refine ⟨by decide, ?_⟩
        refine class_pairs_ok ha hb (by omega) hc hd' fun S15 hG15 => ?_
        have hin : (clsF A z.cps.toList 0 w.cps.toList.reverse, clsF B z.cps.toList 0 w.cps.toList.reverse) ∈ allP A B z.length nc nd := by
          refine (mem_allP ha hb).mpr ?_
          rw [← lz]
          exact cls_rch _ (0, 0) (fun s hs => w2 s (List.mem_reverse.mp hs)) .base
        show wp (hasntD (pD (clsF A z.cps.toList 0 w.cps.toList.reverse, clsF B z.cps.toList 0 w.cps.toList.reverse)) _) S15 _
        rw [w_hasntPT, decide_eq_true hin]
        refine ⟨_, rfl, ?_⟩
        simp only [Bool.not_true, Bool.false_eq_true, if_false]
        exact ⟨_, _, _, rfl, hG15.dr hD14, hG15.get hP14⟩
    · rintro _ S13 ⟨a7, a8, a13, rfl, hD13, hP13⟩
      exact ⟨rfl, _, _, _, rfl, hD13, hP13⟩
  rintro _ S13 ⟨a7, a8, a13, rfl, hD13, hP13⟩
  -- the nodes
  refine w_cut (fun env S14 => True) ?_ ?_
  · walk_at "w"
    refine ⟨by decide, ?_⟩
    refine wp_loop (fun i env S14 => ∃ a6 a7 a9 a10 a11 a12 : Option D, env = [some (.fl (ns.map .int)), some (.ref r), some (.str z), some (machE z A many rs es), some (machE z B many' rs' es'), some (.ref t), a6, a7, a8, a9, a10, a11, a12, a13] ∧ Dr r q S14 ∧ S14[t]? = some (.lst ((allP A B z.length nc nd).map pD))) (fun _ _ _ _ => gdOk_nil _) ?_ ?_ ⟨_, _, _, _, _, _, rfl, hD13, hP13⟩
    · rintro i x _ S14 hx ⟨a6, a7, a9, a10, a11, a12, rfl, hD14, hP14⟩
      walk_at "v"
      refine w_seqA ?_
      walk_at "v"
      rw [w_lenL hP14]
      refine pick_ok hD14 (by rw [List.length_map]; have := List.length_pos_of_mem p0; omega) fun v S15 v0 v1 hD15 hK15 hL15 => ?_
      have hP15 : S15[t]? = some (.lst ((allP A B z.length nc nd).map pD)) := by rw [hK15.get t (lt_of_get hP14) htr]; exact hP14
      refine menu_at hP15 v0 v1 fun d hd => ?_
      obtain ⟨e, he, rfl⟩ := List.mem_map.mp hd
      walk_at "v"
      refine w_seqA ?_
      walk_at "v"
      refine ⟨_, at_nat (c := 4) rfl, ?_⟩
      walk_at "v"
      rw [hM.lr]
      refine pick_ok hD15 (by omega) fun p S16 p0 p1 hD16 hK16 hL16 => ?_
      walk_at "v"
      refine w_seqA ?_
      walk_at "v"
      refine ⟨_, at_nat (c := 4) rfl, ?_⟩
      walk_at "v"
      rw [hM'.lr]
      refine pick_ok hD16 (by omega) fun u S17 u0 u1 hD17 hK17 hL17 => ?_
      walk_at "v"
      have hP17 : S17[t]? = some (.lst ((allP A B z.length nc nd).map pD)) := by
        rw [hK17.get t (by have := lt_of_get hP15; have := hK16.le; omega) htr, hK16.get t (lt_of_get hP15) htr]
        exact hP15
      have hq : StQ st' (u - 1) := ⟨by omega, by omega⟩
      have p3 := p0
      refine w_cut (fun env S18 => ∃ (p' : Int), StQ st p' ∧ env = [some (.fl (ns.map .int)), some (.ref r), some (.str z), some (machE z A many rs es), some (machE z B many' rs' es'), some (.ref t), a6, some x, a8, some (natD e.1), some (natD e.2), some (.int p'), some (.int (u - 1)), a13] ∧ S18 = S17) ?_ ?_
      · rw [w_sIf]
        walk_at "v"
        have zero : StQ st 0 := ⟨by decide, by omega⟩
        have gone : StQ st (p - 1) := ⟨by omega, by omega⟩
        simp only [Bool.false_eq_true, if_false]
        repeat' split
        · exact ⟨_, zero, rfl⟩
        · exact ⟨_, gone, rfl⟩
        · exact ⟨_, gone, rfl⟩
      · rintro _ _ ⟨p', hp', rfl, rfl⟩
        refine w_seqA ?_
        walk_at "v"
        refine ⟨by decide, ?_⟩
        refine node_steps_ok hM hM' ha hb hs (by omega) hc hd' hp' hq he fun S18 hG18 => ?_
        rw [w_sIf]
        walk_at "v"
        simp only [Bool.not_true, Bool.false_eq_true, if_false]
        have pls := pl_steps hM hM' ha hb hc hd' hs (by omega) hp' hq e
        refine plain_ok 3 12 _ _ _ pls (by decide) fun S19 hG19 => ?_
        rw [w_truB]
        simp only [Bool.not_true, Bool.false_eq_true, if_false]
        refine ⟨by decide, ?_⟩
        refine law_steps_ok hM hM' ha hb hs (by omega) hc hd' hp' hq rfl fun w S20 hw hG20 hP20 => ?_
        rw [w_tupL hP20]
        refine plain_ne pls (by decide) ?_
        refine ⟨_, rfl, ?_⟩
        simp only [Bool.false_eq_true, if_false]
        have g := (hG18.trans hG19).trans hG20
        exact ⟨_, _, _, _, _, _, rfl, g.dr hD17, g.get hP17⟩
    · rintro _ S14 _
      rfl
  · rintro _ S14 _
    walk_at "w"
end TS
open PySem PySem.W PyProof.Rows
set_option Elab.async false
set_option maxRecDepth 100000 in
set_option maxHeartbeats 0 in
theorem PySem.Challenge.cw_threescribes_k63_class_pairs_and_steps_holds : PySem.Challenge.rw_threescribes_k63_class_pairs_and_steps.Holds := by
  w_on; o_law; k_head; (case hw => w_witness2)
  k_fill
  refine L2.walk_of (l := PySem.Challenge.rw_threescribes_k63_class_pairs_and_steps) (n := 63) (k := 13) (x := "script") (CX := fun _ => L2.CX0) (sp := fun w => TS.spOf _ 1 TS.m_law) rfl (by decide) rfl ⟨rfl, by decide, by decide⟩ (fun w h Y => PySem.W.kIn_of Y) ?F (fun w H a ns hl hO hS => TS.law_end hl hO hS TS.law_true) (fun _ _ _ _ _ h => h)
  case F =>
    intro w mg fa h KX G hmg
    refine' TS.all_ok KX G hmg ?a0 ?l0 ?c0 ?k0 ?a1 ?l1 ?c1 ?k1 ?a2 ?l2 ?c2 ?k2 ?a3 ?l3 ?c3 ?k3 ?a4 ?l4 ?c4 ?k4 ?a5 ?l5 ?c5 ?k5 ?a6 ?l6 ?c6 ?k6 ?a7 ?l7 ?c7 ?k7 ?a8 ?l8 ?c8 ?k8 ?a9 ?l9 ?c9 ?k9 ?a10 ?l10 ?c10 ?k10 ?a11 ?l11 ?c11 ?k11 ?a12 ?l12 ?c12 ?k12 ?a13 ?l13 ?c13 ?k13 ?a14 ?l14 ?c14 ?k14 ?a15 ?l15 ?c15 ?k15 ?a16 ?l16 ?c16 ?k16 ?a17 ?l17 ?c17 ?k17 ?a18 ?l18 ?c18 ?k18 ?a19 ?l19 ?c19 ?k19 ?z0 ?z1 ?z2 ?z3 ?z4 ?z5 ?z6 ?z7 ?z8 ?z9 ?z10 ?y0
    (case a0 => k_is); (case l0 => k_is); (case c0 => k_is); (case k0 => k_is); (case a1 => k_is); (case l1 => k_is); (case c1 => k_is); (case k1 => k_is); (case a2 => k_is); (case l2 => k_is); (case c2 => k_is); (case k2 => k_is); (case a3 => k_is); (case l3 => k_is); (case c3 => k_is); (case k3 => k_is); (case a4 => k_is); (case l4 => k_is); (case c4 => k_is); (case k4 => k_is); (case a5 => k_is); (case l5 => k_is); (case c5 => k_is); (case k5 => k_is); (case a6 => k_is); (case l6 => k_is); (case c6 => k_is); (case k6 => k_is); (case a7 => k_is); (case l7 => k_is); (case c7 => k_is); (case k7 => k_is); (case a8 => k_is); (case l8 => k_is); (case c8 => k_is); (case k8 => k_is); (case a9 => k_is); (case l9 => k_is); (case c9 => k_is); (case k9 => k_is); (case a10 => k_is); (case l10 => k_is); (case c10 => k_is); (case k10 => k_is); (case a11 => k_is); (case l11 => k_is); (case c11 => k_is); (case k11 => k_is); (case a12 => k_is); (case l12 => k_is); (case c12 => k_is); (case k12 => k_is); (case a13 => k_is); (case l13 => k_is); (case c13 => k_is); (case k13 => k_is); (case a14 => k_is); (case l14 => k_is); (case c14 => k_is); (case k14 => k_is); (case a15 => k_is); (case l15 => k_is); (case c15 => k_is); (case k15 => k_is); (case a16 => k_is); (case l16 => k_is); (case c16 => k_is); (case k16 => k_is); (case a17 => k_is); (case l17 => k_is); (case c17 => k_is); (case k17 => k_is); (case a18 => k_is); (case l18 => k_is); (case c18 => k_is); (case k18 => k_is); (case a19 => k_is); (case l19 => k_is); (case c19 => k_is); (case k19 => k_is); (case z0 => k_is); (case z1 => k_is); (case z2 => k_is); (case z3 => k_is); (case z4 => k_is); (case z5 => k_is); (case z6 => k_is); (case z7 => k_is); (case z8 => k_is); (case z9 => k_is); (case z10 => k_is); (case y0 => exact ⟨_, by k_is⟩)
