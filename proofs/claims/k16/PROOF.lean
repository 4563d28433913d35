import PyProof.Rows.All
import Wide.All
import OpenK.AllK
import Wide.FinOn
import HandS.ForMost
import HandS.Gcd
import HandS.Wide
import HandS.IsInst
import HandS.Zip
import HandS.TupAny
import HandS.Flow
import HandS.Lambda
import HandS.DictSub
import KE.GoesEnum
import HandS.Conv
import HandS.Style
import HandS.Deep
import HandS.EndTab
import KE.SortKeyHeap
import KE.KDictSum
import HandS.EndOwn
import HandS.RevRange
import HandS.Rev
import HandS.SetFor
import HandS.Strs
import KE.KRevSl
import KE.DataMinKey
import HandS.WordsExc
import HandS.ExcOwn
import HandS.TryOnly
import PyProof.Rows.SortShellAny
import HandS.Dict
import HandS.Iter
import HandS.FStr
import HandS.Text
import HandS.StrMore
import KE.KExcSuper
import HandS.ExcInit
import HandS.ExcIs
import HandS.ExcField
import HandS.Steps
import PySem.Challenge.RW_saidroad_k16_texts_refused
set_option Elab.async false
set_option linter.all false
set_option maxRecDepth 100000
set_option maxHeartbeats 1000000
/-! A layer of our own over HandS: tuples by value, what may change by its address, readings that reduce. -/
namespace Sd
open PySem PySem.Spec PyProof.Rows L2

/-! ## values -/
inductive D where
  | non | bl (b : Bool) | int (i : Int) | str (x : Str) | ty (n : String) | ref (a : Addr) | tup (xs : List D) | lck (xs : List D) | tph (xs : List D)
  /-- the exception at a, its dict, the numbers that it keeps -/
  | exc (a : Addr) (d : Option Addr) (fs : List (Str × Int))
/-- what an exception keeps: nothing, or these numbers by name -/
def ExD (H : Hp) (d : Option Addr) : List (Str × Int) → Prop
  | [] => d = none
  | p :: fs => ∃ dd, d = some dd ∧ H dd = some (.xd ((p :: fs).map fun p => (p.1, V.int p.2)))

/-- a list that is never written: locked, or of the top -/
def SqK (K : PySem.W.Frag) (H : Hp) (a : Addr) (xs : List V) : Prop :=
  (∃ o, H a = some (.frz o (.lst xs))) ∨ ∃ (o : Obj) (its : Array Value) (n : Nat), K.lookup a = some o ∧ o.cls = .type "list" ∧ o.dict = none ∧ o.data = .seq its n ∧ its.size ≤ sizeLine ∧ Vals xs its.toList
theorem SqK.l {K : PySem.W.Frag} {H : Hp} {a : Addr} {xs : List V} (h : SqK K H a xs) : SqL K H a xs := by
  rcases h with ⟨o, h⟩ | h
  · exact .inl (.inr ⟨o, h⟩)
  · exact .inr h

mutual
def Rep (K : PySem.W.Frag) (H : Hp) : D → V → Prop
  | .non, v => v = .non
  | .bl b, v => v = .bl b
  | .int i, v => v = .int i
  | .str x, v => v = .str x
  | .ty n, v => v = .ty n
  | .ref a, v => v = .ref a
  | .tup ds, v => ∃ a xs, v = .ref a ∧ SqT K H a xs ∧ Reps K H ds xs
  | .lck ds, v => ∃ a xs, v = .ref a ∧ SqK K H a xs ∧ Reps K H ds xs
  | .tph ds, v => ∃ a xs, v = .ref a ∧ H a = some (.tup xs) ∧ Reps K H ds xs
  | .exc a d fs, v => v = .ref a ∧ ExD H d fs
def Reps (K : PySem.W.Frag) (H : Hp) : List D → List V → Prop
  | [], xs => xs = []
  | d :: ds, xs => ∃ v vs, xs = v :: vs ∧ Rep K H d v ∧ Reps K H ds vs
end

def Imm : HO → Prop
  | .tup _ => True
  | .frz _ _ => True
  | .ext _ => True
  | .xd _ => True
  | _ => False

inductive O where
  | lst (ds : List D)
  | ins (C : Addr) (fs : List (Str × D))
  | dK (kvs : List (Key × D))
  | dT (kvs : List (List Key × D))
  /-- a table of code objects of this name -/
  | tab (q : Str)
  /-- a dict that is locked for good -/
  | fK (kvs : List (Key × D))

def RepF {κ : Type} (K : PySem.W.Frag) (H : Hp) : List (κ × D) → List (κ × V) → Prop
  | [], xs => xs = []
  | (f, d) :: ds, xs => ∃ v vs, xs = (f, v) :: vs ∧ Rep K H d v ∧ RepF K H ds vs

def RepO (K : PySem.W.Frag) (H : Hp) : O → HO → Prop
  | .lst ds, o => ∃ xs, o = .lst xs ∧ Reps K H ds xs
  | .ins C fs, o => ∃ dx vs, o = .ins C dx vs ∧ RepF K H fs vs
  | .dK kvs, o => ∃ vs, o = .dK vs ∧ RepF K H kvs vs
  | .dT kvs, o => ∃ vs, o = .dT vs ∧ RepF K H kvs vs
  | .tab q, o => ∃ ps : Array Value, o = .tbl ps ∧ TriplesOk ps.toList ∧ ∀ (pos : Pos) (cv : Value), codeAmong pos ps.toList = some cv → ∃ c, cv = .ref c ∧ H c = some (LamX.CodeO c q)
  | .fK kvs, o => ∃ ob vs, o = .frz ob (.dK vs) ∧ RepF K H kvs vs

abbrev M := Addr → Option O
def updM (m : M) (a : Addr) (o : O) : M := fun b => if b = a then some o else m b
theorem updM_same {m : M} {a : Addr} {o : O} : updM m a o a = some o := by unfold updM; rw [if_pos rfl]
theorem updM_ne {m : M} {a b : Addr} {o : O} (h : b ≠ a) : updM m a o b = m b := by unfold updM; rw [if_neg h]

def RepM (K : PySem.W.Frag) (H : Hp) (m : M) : Prop := ∀ a o, m a = some o → ∃ ho, H a = some ho ∧ RepO K H o ho

abbrev En := List (Option D)
def RepS (K : PySem.W.Frag) (H : Hp) (e : En) (σ : L2.St) : Prop := e.length = σ.length ∧ ∀ (i : Nat) (d : D), e[i]? = some (some d) → ∃ v, σ[i]? = some (some v) ∧ Rep K H d v

/-- no table -/
def NT (o : HO) : Prop := ∀ ps, o ≠ .tbl ps
theorem Imm.nt {o : HO} (h : Imm o) : NT o := fun ps z => by subst z; exact h
/-- a step: nothing fixed is lost, what is not known stays, and the known grows by new things alone -/
structure Stp (H : Hp) (m : M) (H' : Hp) (m' : M) : Prop where
  imm : ∀ a o, H a = some o → Imm o → H' a = some o
  fr : ∀ a o, H a = some o → m a = none → NT o → H' a = some o
  stay : ∀ a o, H a = some o → NT o → ∃ u, H' a = some u ∧ NT u
  dom : ∀ a o, H a = some o → NT o → m a = none → m' a = none
theorem Stp.refl {H : Hp} {m : M} : Stp H m H m := ⟨fun _ _ h _ => h, fun _ _ h _ _ => h, fun _ o h t => ⟨o, h, t⟩, fun _ _ _ _ h => h⟩
theorem Stp.trans {H H1 H2 : Hp} {m m1 m2 : M} (a : Stp H m H1 m1) (b : Stp H1 m1 H2 m2) : Stp H m H2 m2 :=
  ⟨fun x o h i => b.imm x o (a.imm x o h i) i, fun x o h n t => b.fr x o (a.fr x o h n t) (a.dom x o h t n) t, fun x o h t => let ⟨u, h1, t1⟩ := a.stay x o h t; b.stay x u h1 t1,
    fun x o h t n => let ⟨u, h1, t1⟩ := a.stay x o h t; b.dom x u h1 t1 (a.dom x o h t n)⟩
theorem Stp.sub {H H1 : Hp} {m m1 m2 : M} (a : Stp H m H1 m1) (s : ∀ x o, m2 x = some o → m1 x = some o) : Stp H m H1 m2 :=
  ⟨a.imm, a.fr, a.stay, fun x u h t n => by
    cases q : m2 x with
    | none => rfl
    | some o =>
      have := s x o q
      rw [a.dom x u h t n] at this
      cases this⟩
theorem Stp.new {H : Hp} {m : M} {p : Addr} {o : HO} (h : H p = none) : Stp H m (upd H p o) m := by
  refine ⟨fun a u e _ => ?_, fun a u e _ _ => ?_, fun a u e t => ⟨u, ?_, t⟩, fun _ _ _ _ n => n⟩
  · rw [upd_ne (ne_of_none e h)]; exact e
  · rw [upd_ne (ne_of_none e h)]; exact e
  · rw [upd_ne (ne_of_none e h)]; exact e
theorem Stp.newM {H : Hp} {m : M} {p : Addr} {o : HO} {u : O} (h : H p = none) : Stp H m (upd H p o) (updM m p u) := by
  refine ⟨(Stp.new (m := m) h).imm, (Stp.new (m := m) h).fr, (Stp.new (m := m) h).stay, fun a w e _ n => ?_⟩
  rw [updM_ne (ne_of_none e h)]; exact n
/-- a tracked thing that may change is changed -/
theorem Stp.write {H : Hp} {m : M} {p : Addr} {o o' : HO} {u u' : O} (h : H p = some o) (hi : ¬ Imm o) (hm : m p = some u) (ht : NT o' := by exact fun _ z => nomatch z) : Stp H m (upd H p o') (updM m p u') := by
  refine ⟨fun a w e i => ?_, fun a w e i _ => ?_, fun a w e t => ?_, fun a w e _ n => ?_⟩
  · by_cases z : a = p
    · subst z; rw [h] at e; cases e; exact absurd i hi
    · rw [upd_ne z]; exact e
  · by_cases z : a = p
    · subst z; rw [hm] at i; cases i
    · rw [upd_ne z]; exact e
  · by_cases z : a = p
    · subst z; exact ⟨o', upd_same, ht⟩
    · exact ⟨w, by rw [upd_ne z]; exact e, t⟩
  · by_cases z : a = p
    · subst z; rw [hm] at n; cases n
    · rw [updM_ne z]; exact n

section
variable {K : PySem.W.Frag} {H H' : Hp}
def ImmX (H H' : Hp) : Prop := ∀ a o, H a = some o → Imm o → H' a = some o
theorem ImmX.seq (x : ImmX H H') {a : Addr} {xs : List V} (h : SqT K H a xs) : SqT K H' a xs := by
  rcases h with (h | ⟨o, h⟩) | h
  · exact .inl (.inl (x _ _ h True.intro))
  · exact .inl (.inr ⟨o, x _ _ h True.intro⟩)
  · exact .inr h
theorem ImmX.lck (x : ImmX H H') {a : Addr} {xs : List V} (h : SqK K H a xs) : SqK K H' a xs := by
  rcases h with ⟨o, h⟩ | h
  · exact .inl ⟨o, x _ _ h True.intro⟩
  · exact .inr h
mutual
theorem Rep.ext (x : ImmX H H') : ∀ {d : D} {v : V}, Rep K H d v → Rep K H' d v
  | .non, _, h => by simp only [Rep] at h ⊢; exact h
  | .bl _, _, h => by simp only [Rep] at h ⊢; exact h
  | .int _, _, h => by simp only [Rep] at h ⊢; exact h
  | .str _, _, h => by simp only [Rep] at h ⊢; exact h
  | .ty _, _, h => by simp only [Rep] at h ⊢; exact h
  | .ref _, _, h => by simp only [Rep] at h ⊢; exact h
  | .tup ds, _, h => by
    simp only [Rep] at h ⊢
    obtain ⟨a, xs, e, s, r⟩ := h
    exact ⟨a, xs, e, x.seq s, Reps.ext x r⟩
  | .lck ds, _, h => by
    simp only [Rep] at h ⊢
    obtain ⟨a, xs, e, s, r⟩ := h
    exact ⟨a, xs, e, x.lck s, Reps.ext x r⟩
  | .exc _ d fs, _, h => by
    simp only [Rep] at h ⊢
    refine ⟨h.1, ?_⟩
    cases fs with
    | nil => exact h.2
    | cons p fs => obtain ⟨dd, e1, e2⟩ := h.2; exact ⟨dd, e1, x _ _ e2 True.intro⟩
  | .tph ds, _, h => by
    simp only [Rep] at h ⊢
    obtain ⟨a, xs, e, s, r⟩ := h
    exact ⟨a, xs, e, x _ _ s True.intro, Reps.ext x r⟩
theorem Reps.ext (x : ImmX H H') : ∀ {ds : List D} {vs : List V}, Reps K H ds vs → Reps K H' ds vs
  | [], _, h => by simp only [Reps] at h ⊢; exact h
  | d :: ds, _, h => by
    simp only [Reps] at h ⊢
    obtain ⟨v, vs, e, r, rs⟩ := h
    exact ⟨v, vs, e, Rep.ext x r, Reps.ext x rs⟩
end
theorem RepF.ext {κ : Type} (x : ImmX H H') : ∀ {ds : List (κ × D)} {vs : List (κ × V)}, RepF K H ds vs → RepF K H' ds vs
  | [], _, h => h
  | (f, d) :: ds, _, h => by
    obtain ⟨v, vs, e, r, rs⟩ := h
    exact ⟨v, vs, e, Rep.ext x r, RepF.ext x rs⟩
theorem RepO.ext (x : ImmX H H') : ∀ {o : O} {ho : HO}, RepO K H o ho → RepO K H' o ho
  | .lst _, _, ⟨xs, e, r⟩ => ⟨xs, e, Reps.ext x r⟩
  | .ins _ _, _, ⟨dx, vs, e, r⟩ => ⟨dx, vs, e, RepF.ext x r⟩
  | .dK _, _, ⟨vs, e, r⟩ => ⟨vs, e, RepF.ext x r⟩
  | .dT _, _, ⟨vs, e, r⟩ => ⟨vs, e, RepF.ext x r⟩
  | .fK _, _, ⟨ob, vs, e, r⟩ => ⟨ob, vs, e, RepF.ext x r⟩
  | .tab _, _, ⟨ps, e, t, r⟩ => ⟨ps, e, t, fun pos cv h => let ⟨c, a, b⟩ := r pos cv h; ⟨c, a, x _ _ b True.intro⟩⟩
theorem RepS.ext (x : ImmX H H') {e : En} {σ : L2.St} (r : RepS K H e σ) : RepS K H' e σ := ⟨r.1, fun i d h => let ⟨v, a, b⟩ := r.2 i d h; ⟨v, a, Rep.ext x b⟩⟩
theorem RepM.sub {m m' : M} (r : RepM K H m) (s : ∀ x o, m' x = some o → m x = some o) : RepM K H m' := fun a o h => r a o (s a o h)
theorem RepM.upd {m : M} {p : Addr} {o : HO} {u : O} (r : RepM K H m) (x : ImmX H (upd H p o)) (ru : RepO K (upd H p o) u o) : RepM K (L2.upd H p o) (updM m p u) := fun a w e => by
  by_cases z : a = p
  · subst z; rw [updM_same] at e; cases e; exact ⟨o, upd_same, ru⟩
  · rw [updM_ne z] at e
    obtain ⟨ho, h1, h2⟩ := r a w e
    exact ⟨ho, by rw [upd_ne z]; exact h1, RepO.ext x h2⟩
/-- a new thing that is not written down -/
theorem RepM.new {m : M} {p : Addr} {o : HO} (r : RepM K H m) (h : H p = none) : RepM K (L2.upd H p o) m := fun a w e => by
  obtain ⟨ho, h1, h2⟩ := r a w e
  exact ⟨ho, by rw [upd_ne (ne_of_none h1 h)]; exact h1, RepO.ext (Stp.new (m := m) h).imm h2⟩
theorem RepM.none {m : M} (r : RepM K H m) {p : Addr} (h : H p = none) : m p = none := by
  cases q : m p with
  | none => rfl
  | some o =>
    obtain ⟨ho, h1, _⟩ := r p o q
    rw [h] at h1; cases h1
theorem RepS.set {e : En} {σ : L2.St} {d : D} {v : V} (r : RepS K H e σ) (i : Nat) (rv : Rep K H d v) : RepS K H (e.set i (some d)) (σ.set i (some v)) := by
  refine ⟨by rw [List.length_set, List.length_set]; exact r.1, fun j w h => ?_⟩
  by_cases z : i = j
  · subst z
    by_cases hl : i < e.length
    · rw [List.getElem?_set_self hl] at h; cases h
      exact ⟨v, List.getElem?_set_self (by rw [← r.1]; exact hl), rv⟩
    · rw [List.getElem?_eq_none (by rw [List.length_set]; omega)] at h; cases h
  · rw [List.getElem?_set_ne z] at h
    obtain ⟨u, h1, h2⟩ := r.2 j w h
    exact ⟨u, by rw [List.getElem?_set_ne z]; exact h1, h2⟩
theorem Reps.len : ∀ {ds : List D} {vs : List V}, Reps K H ds vs → ds.length = vs.length
  | [], _, h => by simp only [Reps] at h; subst h; rfl
  | d :: ds, _, h => by
    simp only [Reps] at h
    obtain ⟨v, vs, e, r, rs⟩ := h
    subst e
    rw [List.length_cons, List.length_cons, Reps.len rs]
theorem Reps.get : ∀ {ds : List D} {vs : List V} {i : Nat} {d : D}, Reps K H ds vs → ds[i]? = some d → ∃ v, vs[i]? = some v ∧ Rep K H d v
  | [], _, _, _, _, h => by simp at h
  | d :: ds, _, 0, _, r, h => by
    simp only [Reps] at r
    obtain ⟨v, vs, e, r, rs⟩ := r
    subst e
    simp at h; subst h
    exact ⟨v, rfl, r⟩
  | d :: ds, _, i + 1, _, r, h => by
    simp only [Reps] at r
    obtain ⟨v, vs, e, r, rs⟩ := r
    subst e
    obtain ⟨u, h1, h2⟩ := Reps.get (i := i) rs (by simpa using h)
    exact ⟨u, by simpa using h1, h2⟩
theorem Reps.append : ∀ {ds es : List D} {vs us : List V}, Reps K H ds vs → Reps K H es us → Reps K H (ds ++ es) (vs ++ us)
  | [], _, _, _, r, s => by simp only [Reps] at r; subst r; exact s
  | d :: ds, _, _, _, r, s => by
    simp only [Reps] at r
    obtain ⟨v, vs, e, r, rs⟩ := r
    subst e
    show Reps K H (d :: (ds ++ _)) (v :: (vs ++ _))
    simp only [Reps]
    exact ⟨v, _, rfl, r, Reps.append rs s⟩
theorem Reps.set : ∀ {ds : List D} {vs : List V} {d : D} {v : V} (i : Nat), Reps K H ds vs → Rep K H d v → Reps K H (ds.set i d) (vs.set i v)
  | [], _, _, _, _, r, _ => by simp only [Reps] at r; subst r; simp only [List.set_nil, Reps]
  | d :: ds, _, _, _, 0, r, rv => by
    simp only [Reps] at r
    obtain ⟨v, vs, e, r, rs⟩ := r
    subst e
    simp only [List.set_cons_zero, Reps]
    exact ⟨_, _, rfl, rv, rs⟩
  | d :: ds, _, _, _, i + 1, r, rv => by
    simp only [Reps] at r
    obtain ⟨v, vs, e, r, rs⟩ := r
    subst e
    simp only [List.set_cons_succ, Reps]
    exact ⟨_, _, rfl, r, Reps.set i rs rv⟩
theorem Reps.drop : ∀ {ds : List D} {vs : List V} (i : Nat), Reps K H ds vs → Reps K H (ds.drop i) (vs.drop i)
  | _, _, 0, r => by simpa using r
  | [], _, _ + 1, r => by simp only [Reps] at r; subst r; simp [Reps]
  | d :: ds, _, i + 1, r => by
    simp only [Reps] at r
    obtain ⟨v, vs, e, r, rs⟩ := r
    subst e
    simpa using Reps.drop i rs
theorem Reps.take : ∀ {ds : List D} {vs : List V} (i : Nat), Reps K H ds vs → Reps K H (ds.take i) (vs.take i)
  | _, _, 0, r => by simp [Reps]
  | [], _, _ + 1, r => by simp only [Reps] at r; subst r; simp [Reps]
  | d :: ds, _, i + 1, r => by
    simp only [Reps] at r
    obtain ⟨v, vs, e, r, rs⟩ := r
    subst e
    simp only [List.take_succ_cons, Reps]
    exact ⟨_, _, rfl, r, Reps.take i rs⟩
theorem RepF.look {fs : List (Str × D)} : ∀ {vs : List (Str × V)} {f : Str}, RepF K H fs vs → (∀ d, fs.lookup f = some d → ∃ v, vs.lookup f = some v ∧ Rep K H d v) ∧ (fs.lookup f = none → vs.lookup f = none) := by
  induction fs with
  | nil => intro vs f r; simp only [RepF] at r; subst r; exact ⟨fun d h => by simp at h, fun _ => rfl⟩
  | cons p fs ih =>
    intro vs f r
    obtain ⟨g, d⟩ := p
    obtain ⟨v, vs', e, r, rs⟩ := r
    subst e
    by_cases z : f == g
    · simp only [List.lookup_cons, z]
      exact ⟨fun d' h => ⟨v, rfl, by cases h; exact r⟩, fun h => nomatch h⟩
    · simp only [List.lookup_cons, z]
      exact ih rs
theorem RepF.len {κ : Type} {fs : List (κ × D)} : ∀ {vs : List (κ × V)}, RepF K H fs vs → fs.length = vs.length := by
  induction fs with
  | nil => intro vs r; simp only [RepF] at r; subst r; rfl
  | cons p fs ih =>
    intro vs r
    obtain ⟨v, vs', e, r, rs⟩ := r
    subst e
    rw [List.length_cons, List.length_cons, ih rs]
def putD (f : Str) (d : D) : List (Str × D) → List (Str × D)
  | [] => [(f, d)]
  | (g, e) :: r => if g = f then (f, d) :: r else (g, e) :: putD f d r
end
end Sd

set_option Elab.async false
set_option linter.all false
set_option maxRecDepth 100000
set_option maxHeartbeats 1000000
namespace Sd
open PySem PySem.Spec PyProof.Rows L2
/-! ## judgements -/
abbrev XE := En → M → (D → M → Prop) → Prop
abbrev XT := En → M → (Bool → M → Prop) → Prop
abbrev XA := En → M → (List D → M → Prop) → Prop
structure Xnds where
  nx : En → M → Prop
  rt : D → M → Prop
  bk : En → M → Prop := fun _ _ => False
  ct : En → M → Prop := fun _ _ => False
abbrev XS := Xnds → En → M → Prop
abbrev XG := D → En → M → (En → M → Prop) → Prop
abbrev XGs := List D → En → M → (En → M → Prop) → Prop
abbrev XO := D → D → M → (D → M → Prop) → Prop

def low (K : PySem.W.Frag) (t : XE) : TE := fun σ H QV => ∃ e m Q, RepS K H e σ ∧ RepM K H m ∧ t e m Q ∧ ∀ v H' d m', Stp H m H' m' → Rep K H' d v → RepM K H' m' → Q d m' → QV v H'
def lowT (K : PySem.W.Frag) (t : XT) : TT := fun σ H QV => ∃ e m Q, RepS K H e σ ∧ RepM K H m ∧ t e m Q ∧ ∀ (b : Bool) H' m', Stp H m H' m' → RepM K H' m' → Q b m' → QV b H'
def lowA (K : PySem.W.Frag) (t : XA) : TA := fun σ H QV => ∃ e m Q, RepS K H e σ ∧ RepM K H m ∧ t e m Q ∧ ∀ vs H' ds m', Stp H m H' m' → Reps K H' ds vs → RepM K H' m' → Q ds m' → QV vs H'
structure ER (K : PySem.W.Frag) (H : Hp) (m : M) (D' : Xnds) (D : Ends) : Prop where
  nx : ∀ σ H' e m', Stp H m H' m' → RepS K H' e σ → RepM K H' m' → D'.nx e m' → D.nx σ H'
  rt : ∀ v H' d m', Stp H m H' m' → Rep K H' d v → RepM K H' m' → D'.rt d m' → D.rt v H'
  bk : ∀ σ H' e m', Stp H m H' m' → RepS K H' e σ → RepM K H' m' → D'.bk e m' → D.bk σ H'
  ct : ∀ σ H' e m', Stp H m H' m' → RepS K H' e σ → RepM K H' m' → D'.ct e m' → D.ct σ H'
def lowS (K : PySem.W.Frag) (t : XS) : TS := fun D σ H => ∃ e m D', RepS K H e σ ∧ RepM K H m ∧ t D' e m ∧ ER K H m D' D
def lowG (K : PySem.W.Frag) (vs : List Nat) (t : XG) : TG := fun v σ H QV => ∃ d e m Q, Rep K H d v ∧ RepS K H e σ ∧ RepM K H m ∧ t d e m Q ∧ ∀ σ' H' e' m', wipe σ' vs = wipe σ vs → Stp H m H' m' → RepS K H' e' σ' → RepM K H' m' → Q e' m' → QV σ' H'
def lowGs (K : PySem.W.Frag) (vs : List Nat) (t : XGs) : TGs := fun us σ H QV => ∃ ds e m Q, Reps K H ds us ∧ RepS K H e σ ∧ RepM K H m ∧ t ds e m Q ∧ ∀ σ' H' e' m', wipe σ' vs = wipe σ vs → Stp H m H' m' → RepS K H' e' σ' → RepM K H' m' → Q e' m' → QV σ' H'
def lowR (K : PySem.W.Frag) (r : XO) : R2 := fun x y H QV => ∃ d e m Q, Rep K H d x ∧ Rep K H e y ∧ RepM K H m ∧ r d e m Q ∧ ∀ v H' d' m', Stp H m H' m' → Rep K H' d' v → RepM K H' m' → Q d' m' → QV v H'
abbrev XC := List D → M → (D → M → Prop) → Prop
def lowC (K : PySem.W.Frag) (r : XC) : List V → Hp → VK → Prop := fun xs H QV => ∃ ds m Q, Reps K H ds xs ∧ RepM K H m ∧ r ds m Q ∧ ∀ v H' d' m', Stp H m H' m' → Rep K H' d' v → RepM K H' m' → Q d' m' → QV v H'

theorem ER.step {K : PySem.W.Frag} {H H1 : Hp} {m m1 : M} {D' : Xnds} {D : Ends} (x : ER K H m D' D) (s : Stp H m H1 m1) : ER K H1 m1 D' D :=
  ⟨fun σ H' e m' t => x.nx σ H' e m' (s.trans t), fun v H' d m' t => x.rt v H' d m' (s.trans t), fun σ H' e m' t => x.bk σ H' e m' (s.trans t), fun σ H' e m' t => x.ct σ H' e m' (s.trans t)⟩

section
variable {X : Cx}
theorem PE.imp {e : Expr} {t u : TE} (h : PE X e t) (i : ∀ σ H Q, u σ H Q → t σ H Q) : PE X e u := ⟨fun pins s σ H Q I q => h.run pins s σ H Q I (i σ H Q q)⟩
theorem PT.imp {e : Expr} {t u : TT} (h : PT X e t) (i : ∀ σ H Q, u σ H Q → t σ H Q) : PT X e u := ⟨fun pins s σ H Q I q => h.run pins s σ H Q I (i σ H Q q)⟩
theorem PW.imp {e : Expr} {t u : TT} (h : PW X e t) (i : ∀ σ H Q, u σ H Q → t σ H Q) : PW X e u := ⟨fun w pins s σ H Q I q => h.run w pins s σ H Q I (i σ H Q q)⟩
theorem PA.imp {e : List Expr} {t u : TA} (h : PA X e t) (i : ∀ σ H Q, u σ H Q → t σ H Q) : PA X e u := ⟨fun pos pins s σ H Q I q => h.run pos pins s σ H Q I (i σ H Q q)⟩
theorem PS.imp {e : Stmt} {t u : TS} (h : PS X e t) (i : ∀ D σ H, u D σ H → t D σ H) : PS X e u := ⟨fun pins s σ H Q I q => h.run pins s σ H Q I (i Q σ H q)⟩
theorem PSs.imp {e : List Stmt} {t u : TS} (h : PSs X e t) (i : ∀ D σ H, u D σ H → t D σ H) : PSs X e u := ⟨fun pins s σ H Q I q => h.run pins s σ H Q I (i Q σ H q)⟩
theorem PG.imp {e : Expr} {t u : TG} (h : PG X e t) (i : ∀ v σ H Q, u v σ H Q → t v σ H Q) : PG X e u := ⟨fun pins s σ H v w Q I r q => h.run pins s σ H v w Q I r (i v σ H Q q)⟩
theorem PGs.imp {e : List Expr} {t u : TGs} (h : PGs X e t) (i : ∀ v σ H Q, u v σ H Q → t v σ H Q) : PGs X e u := ⟨fun pins s σ H v w Q I r q => h.run pins s σ H v w Q I r (i v σ H Q q)⟩
theorem OpR.imp {f : Value → Value → Sem Value} {r u : R2} (h : OpR X f r) (i : ∀ x y H Q, u x y H Q → r x y H Q) : OpR X f u := fun pins s σ H x y v w Q I rx ry q => h pins s σ H x y v w Q I rx ry (i x y H Q q)
theorem CallR.imp {f : Value} {r u : List V → Hp → VK → Prop} (h : CallR X f r) (i : ∀ xs H Q, u xs H Q → r xs H Q) : CallR X f u := fun pins s σ H xs us Q I rx q => h pins s σ H xs us Q I rx (i xs H Q q)

/-! ## expressions -/
def oget (o : Option (Option D)) (k : D → Prop) : Prop := match o with | some (some d) => k d | _ => False
@[simp] theorem oget_some {d : D} {k : D → Prop} : oget (some (some d)) k = k d := rfl
def xVar (i : Nat) : XE := fun e m Q => oget e[i]? fun d => Q d m
def xC (d : D) : XE := fun _ m Q => Q d m
theorem xe_var (i : Nat) {x : Str} {pos : Pos} (hN : X.N[i]? = some x := by rfl) (hv : Vis X.env.scope x := by first | exact Or.inl rfl | exact Or.inr (Or.inl rfl) | exact Or.inr (Or.inr rfl)) (hd : (x == ("__debug__" : Str)) = false := by decide)
    (hcd : (x == ("__classdict__" : Str)) = false := by decide) : PE X (.Name x pos) (low X.K (xVar i)) := by
  refine PE.imp (pe_var hN hv hd hcd) fun σ H QV ⟨e, m, Q, rs, rm, h, q⟩ => ?_
  unfold xVar oget at h
  split at h
  · rename_i d hd
    obtain ⟨v, h1, h2⟩ := rs.2 i d hd
    exact ⟨v, h1, q v H d m .refl h2 rm h⟩
  · exact h.elim
theorem xe_const {ex : Expr} {v : V} {d : D} (h : PE X ex (tC v)) (r : ∀ H, Rep X.K H d v) : PE X ex (low X.K (xC d)) :=
  PE.imp h fun σ H QV ⟨e, m, Q, rs, rm, h, q⟩ => q _ H d m .refl (r H) rm h
theorem xe_int {i j pos} : PE X (.Constant (.int i) j pos) (low X.K (xC (.int i))) := xe_const pe_int fun _ => by simp only [Rep]
theorem xe_bl {b j pos} : PE X (.Constant (.bool b) j pos) (low X.K (xC (.bl b))) := xe_const pe_bl fun _ => by simp only [Rep]
theorem xe_non {j pos} : PE X (.Constant .none j pos) (low X.K (xC .non)) := xe_const pe_non fun _ => by simp only [Rep]
theorem xe_str {x j pos} : PE X (.Constant (.str x) j pos) (low X.K (xC (.str x))) := xe_const pe_str fun _ => by simp only [Rep]
theorem xe_gint {x : Str} {i : Int} {t : Tok} {pos : Pos} (hg : Gl X x) (hm : X.mg x = some (.int i t)) (hd : (x == ("__debug__" : Str)) = false := by decide) : PE X (.Name x pos) (low X.K (xC (.int i))) :=
  xe_const (v := .int i) (pe_glob hg hm ⟨_, rfl⟩ hd) fun _ => by simp only [Rep]
/-- a tuple of the top -/
theorem xe_gtup {x : Str} {a : Addr} {ds : List D} {xs : List V} {pos : Pos} (hg : Gl X x) (hm : X.mg x = some (.ref a)) (hs : ∀ H, SqT X.K H a xs) (hr : ∀ H, Reps X.K H ds xs) (hd : (x == ("__debug__" : Str)) = false := by decide) : PE X (.Name x pos) (low X.K (xC (.tup ds))) :=
  xe_const (v := .ref a) (pe_glob hg hm (show L2.RelV (.ref a) (.ref a) from rfl) hd) fun H => by simp only [Rep]; exact ⟨a, xs, rfl, hs H, hr H⟩
theorem xe_bty {x : Str} {n : String} {pos : Pos} (hg : Gl X x) (hm : X.mg x = none) (hv : bootBuiltins x = some (.type n)) (hn : x ≠ "__name__" := by decide) (hd : (x == ("__debug__" : Str)) = false := by decide) : PE X (.Name x pos) (low X.K (xC (.ty n))) :=
  xe_const (v := .ty n) (pe_bltn hg hm hv (show L2.RelV (.ty n) (.type n) from rfl) hn hd) fun _ => by simp only [Rep]

def xOp (r : XO) (ta tb : XE) : XE := fun e m Q => ta e m fun x m1 => tb e m1 fun y m2 => r x y m2 Q
theorem low_op {r : XO} {ta tb : XE} {σ H QV} (h : low X.K (xOp r ta tb) σ H QV) : tOp (lowR X.K r) (low X.K ta) (low X.K tb) σ H QV := by
  obtain ⟨e, m, Q, rs, rm, h, q⟩ := h
  refine ⟨e, m, _, rs, rm, h, fun x H1 d m1 s1 r1 rm1 h1 => ?_⟩
  refine ⟨e, m1, _, rs.ext s1.imm, rm1, h1, fun y H2 d2 m2 s2 r2 rm2 h2 => ?_⟩
  exact ⟨d, d2, m2, Q, r1.ext s2.imm, r2, rm2, h2, fun v H3 d3 m3 s3 r3 rm3 h3 => q v H3 d3 m3 (s1.trans (s2.trans s3)) r3 rm3 h3⟩
theorem xe_op {op : Operator} {r : XO} {a b : Expr} {ta tb : XE} {pos : Pos} (ho : OpR X (binaryOp op) (lowR X.K r)) (ha : PE X a (low X.K ta)) (hb : PE X b (low X.K tb)) : PE X (.BinOp a op b pos) (low X.K (xOp r ta tb)) :=
  PE.imp (pe_op ho ha hb) fun σ H Q h => low_op h
theorem xe_cmp {op : CmpOp} {r : XO} {a b : Expr} {ta tb : XE} {pos : Pos} (ho : OpR X (compareOp op) (lowR X.K r)) (ha : PE X a (low X.K ta)) (hb : PE X b (low X.K tb)) (hm : behindInMarks op b = false) : PE X (.Compare a [op] [b] pos) (low X.K (xOp r ta tb)) :=
  PE.imp (pe_cmpR ho ha hb hm) fun σ H Q h => low_op h
def asI (d : D) (k : Int → Prop) : Prop := match d with | .int i => k i | _ => False
def asB (d : D) (k : Bool → Prop) : Prop := match d with | .bl b => k b | _ => False
@[simp] theorem asI_int {i : Int} {k : Int → Prop} : asI (.int i) k = k i := rfl
@[simp] theorem asB_bl {b : Bool} {k : Bool → Prop} : asB (.bl b) k = k b := rfl
/-- an operator on two ints -/
def xI (C : Int → Int → Prop) (g : Int → Int → D) : XO := fun x y m Q => asI x fun i => asI y fun j => C i j ∧ Q (g i j) m
def xI0 (g : Int → Int → D) : XO := fun x y m Q => asI x fun i => asI y fun j => Q (g i j) m
theorem asI_out {d : D} {k : Int → Prop} (h : asI d k) : ∃ i, d = .int i ∧ k i := by
  unfold asI at h
  split at h
  · exact ⟨_, rfl, h⟩
  · exact h.elim
theorem asB_out {d : D} {k : Bool → Prop} (h : asB d k) : ∃ i, d = .bl i ∧ k i := by
  unfold asB at h
  split at h
  · exact ⟨_, rfl, h⟩
  · exact h.elim
theorem opX {f : Value → Value → Sem Value} {C : Int → Int → Prop} {gv : Int → Int → V} {g : Int → Int → D} (h : OpR X f (rI C gv)) (hg : ∀ H i j, Rep X.K H (g i j) (gv i j)) : OpR X f (lowR X.K (xI C g)) :=
  OpR.imp h fun x y H QV ⟨d, e, m, Q, rx, ry, rm, h, q⟩ => by
    unfold xI at h
    obtain ⟨i, ei, h1⟩ := asI_out h
    obtain ⟨j, ej, h2⟩ := asI_out h1
    subst ei ej
    simp only [Rep] at rx ry
    exact ⟨i, j, rx, ry, h2.1, q _ H _ m .refl (hg H i j) rm h2.2⟩
theorem opX0 {f : Value → Value → Sem Value} {gv : Int → Int → V} {g : Int → Int → D} (h : OpR X f (rI0 gv)) (hg : ∀ H i j, Rep X.K H (g i j) (gv i j)) : OpR X f (lowR X.K (xI0 g)) :=
  OpR.imp h fun x y H QV ⟨d, e, m, Q, rx, ry, rm, h, q⟩ => by
    unfold xI0 at h
    obtain ⟨i, ei, h1⟩ := asI_out h
    obtain ⟨j, ej, h2⟩ := asI_out h1
    subst ei ej
    simp only [Rep] at rx ry
    exact ⟨i, j, rx, ry, q _ H _ m .refl (hg H i j) rm h2⟩
abbrev xAdd : XO := xI0 fun i j => .int (i + j)
abbrev xSub : XO := xI0 fun i j => .int (i - j)
abbrev xMul : XO := xI CMul fun i j => .int (i * j)
abbrev xLt : XO := xI0 fun i j => .bl (decide (i < j))
abbrev xLe : XO := xI0 fun i j => .bl (decide (i ≤ j))
abbrev xGt : XO := xI0 fun i j => .bl (decide (j < i))
abbrev xGe : XO := xI0 fun i j => .bl (decide (j ≤ i))
theorem xo_add : OpR X (binaryOp .Add) (lowR X.K xAdd) := opX0 op_add fun _ _ _ => by simp only [Rep]
theorem xo_sub : OpR X (binaryOp .Sub) (lowR X.K xSub) := opX0 op_sub fun _ _ _ => by simp only [Rep]
theorem xo_mul : OpR X (binaryOp .Mult) (lowR X.K xMul) := opX op_mul fun _ _ _ => by simp only [Rep]
theorem xo_lt : OpR X (compareOp .Lt) (lowR X.K xLt) := opX0 op_lt fun _ _ _ => by simp only [Rep]
theorem xo_le : OpR X (compareOp .LtE) (lowR X.K xLe) := opX0 op_le fun _ _ _ => by simp only [Rep]
theorem xo_gt : OpR X (compareOp .Gt) (lowR X.K xGt) := opX0 op_gt fun _ _ _ => by simp only [Rep]
theorem xo_ge : OpR X (compareOp .GtE) (lowR X.K xGe) := opX0 op_ge fun _ _ _ => by simp only [Rep]
/-- // by any small divisor; % by a positive one -/
def CDivX (_ j : Int) : Prop := j ≠ 0 ∧ j.natAbs.log2 < 9000
theorem op_fdivX : OpR X (binaryOp .FloorDiv) (rI CDivX fun i j => .int (i.fdiv j)) := opI fun i j _ _ _ _ _ hc q => floordiv_int hc.1 q (.inl (PyProof.noPylong_of_log2 hc.2))
abbrev xFdiv : XO := xI CDivX fun i j => .int (i.fdiv j)
abbrev xMod : XO := xI (fun _ j => 0 < j) fun i j => .int (i % j)
abbrev xPow : XO := xI CPow fun i j => .int (i ^ j.toNat)
theorem xo_fdiv : OpR X (binaryOp .FloorDiv) (lowR X.K xFdiv) := opX op_fdivX fun _ _ _ => by simp only [Rep]
theorem xo_mod : OpR X (binaryOp .Mod) (lowR X.K xMod) := opX op_mod fun _ _ _ => by simp only [Rep]
theorem xo_pow : OpR X (binaryOp .Pow) (lowR X.K xPow) := opX op_pow fun _ _ _ => by simp only [Rep]

def xNeg (ta : XE) : XE := fun e m Q => ta e m fun x m1 => asI x fun i => Q (.int (-i)) m1
theorem xe_neg {a : Expr} {ta : XE} {pos : Pos} (ha : PE X a (low X.K ta)) : PE X (.UnaryOp .USub a pos) (low X.K (xNeg ta)) :=
  PE.imp (pe_un un_neg ha) fun σ H QV ⟨e, m, Q, rs, rm, h, q⟩ => ⟨e, m, _, rs, rm, h, fun x H1 d m1 s1 r1 rm1 h1 => by
    obtain ⟨i, rfl, h1⟩ := asI_out h1
    simp only [Rep] at r1
    exact ⟨i, r1, q _ H1 _ m1 s1 (by simp only [Rep]) rm1 h1⟩⟩

/-! ### == of data -/
mutual
def toPy : D → Option PyData
  | .non => some .none
  | .bl b => some (.bool b)
  | .int i => some (.int i)
  | .str x => some (.str x)
  | .tup ds => (toPys ds).map PyData.tuple
  | .lck ds => (toPys ds).map PyData.list
  | _ => none
def toPys : List D → Option (List PyData)
  | [] => some []
  | d :: ds => (toPy d).bind fun p => (toPys ds).map fun ps => p :: ps
end
/-- a list by its address too -/
def toPyM (m : M) : D → Option PyData
  | .ref a => match m a with
    | some (.lst ds) => (toPys ds).map PyData.list
    | _ => none
  | d => toPy d
section
variable {K : PySem.W.Frag} {H : Hp}
mutual
theorem toPy_dp : ∀ {d : D} {v : V} {p : PyData}, Rep K H d v → toPy d = some p → Dp K H v p
  | .non, _, _, r, h => by simp only [Rep] at r; simp only [toPy] at h; cases h; subst r; exact .non
  | .bl _, _, _, r, h => by simp only [Rep] at r; simp only [toPy] at h; cases h; subst r; exact .bl _
  | .int _, _, _, r, h => by simp only [Rep] at r; simp only [toPy] at h; cases h; subst r; exact .int _
  | .str _, _, _, r, h => by simp only [Rep] at r; simp only [toPy] at h; cases h; subst r; exact .str _
  | .ty _, _, _, r, h => by simp only [toPy] at h; cases h
  | .ref _, _, _, r, h => by simp only [toPy] at h; cases h
  | .tup ds, _, _, r, h => by
    simp only [Rep] at r
    simp only [toPy, Option.map_eq_some_iff] at h
    obtain ⟨ps, h, rfl⟩ := h
    obtain ⟨a, xs, rfl, s, rs⟩ := r
    exact .tup s (toPys_dp rs h)
  | .lck ds, _, _, r, h => by
    simp only [Rep] at r
    simp only [toPy, Option.map_eq_some_iff] at h
    obtain ⟨ps, h, rfl⟩ := h
    obtain ⟨a, xs, rfl, s, rs⟩ := r
    exact .lst s.l (toPys_dp rs h)
theorem toPys_dp : ∀ {ds : List D} {vs : List V} {ps : List PyData}, Reps K H ds vs → toPys ds = some ps → DpAll K H vs ps
  | [], _, _, r, h => by simp only [Reps] at r; simp only [toPys] at h; cases h; subst r; exact .nil
  | d :: ds, _, _, r, h => by
    simp only [Reps] at r
    obtain ⟨v, vs, rfl, r, rs⟩ := r
    simp only [toPys, Option.bind_eq_some_iff, Option.map_eq_some_iff] at h
    obtain ⟨p, h1, ps, h2, rfl⟩ := h
    exact .cons (toPy_dp r h1) (toPys_dp rs h2)
end
theorem toPyM_dp {m : M} (rm : RepM K H m) : ∀ {d : D} {v : V} {p : PyData}, Rep K H d v → toPyM m d = some p → Dp K H v p := by
  intro d v p r h
  cases d with
  | ref a =>
    simp only [Rep] at r
    subst r
    simp only [toPyM] at h
    split at h
    · rename_i ds hm
      simp only [Option.map_eq_some_iff] at h
      obtain ⟨ps, h, rfl⟩ := h
      obtain ⟨ho, h1, xs, rfl, rs⟩ := rm a _ hm
      exact .lst (.inl (.inl h1)) (toPys_dp rs h)
    · cases h
  | _ => exact toPy_dp r (by simpa only [toPyM] using h)
end
def eqD (m : M) (x y : D) (k : Bool → Prop) : Prop := ∃ p q, toPyM m x = some p ∧ toPyM m y = some q ∧ SeqAt.shaped p = true ∧ SeqAt.shaped q = true ∧ k (PyData.eqv p q)
def xEq : XO := fun x y m Q => eqD m x y fun b => Q (.bl b) m
def xNe : XO := fun x y m Q => eqD m x y fun b => Q (.bl (!b)) m
theorem xo_eq (hu : X.A.units + 64 < cLine) : OpR X (compareOp .Eq) (lowR X.K xEq) :=
  OpR.imp (op_eqD hu) fun x y H QV ⟨d, e, m, Q, rx, ry, rm, ⟨p, q', h1, h2, s1, s2, h⟩, q⟩ => ⟨p, q', toPyM_dp rm rx h1, toPyM_dp rm ry h2, s1, s2, q _ H _ m .refl (by simp only [Rep]) rm h⟩
theorem xo_ne (hu : X.A.units + 64 < cLine) : OpR X (compareOp .NotEq) (lowR X.K xNe) :=
  OpR.imp (op_neD hu) fun x y H QV ⟨d, e, m, Q, rx, ry, rm, ⟨p, q', h1, h2, s1, s2, h⟩, q⟩ => ⟨p, q', toPyM_dp rm rx h1, toPyM_dp rm ry h2, s1, s2, q _ H _ m .refl (by simp only [Rep]) rm h⟩
/-! == of two ints, and of scalars, plainly -/
def isNon : D → Bool
  | .non => true
  | _ => false
theorem Rep.non_iff {K : PySem.W.Frag} {H : Hp} {d : D} {v : V} (r : Rep K H d v) : decide (v = .non) = isNon d := by
  cases d <;> simp only [Rep] at r
  case tup ds => obtain ⟨a, xs, rfl, _⟩ := r; rfl
  case lck ds => obtain ⟨a, xs, rfl, _⟩ := r; rfl
  case tph ds => obtain ⟨a, xs, rfl, _⟩ := r; rfl
  case exc a d fs => obtain ⟨rfl, _⟩ := r; rfl
  all_goals (subst r; rfl)
def xIs : XO := fun x y m Q => y = .non ∧ Q (.bl (isNon x)) m
def xIsNot : XO := fun x y m Q => y = .non ∧ Q (.bl (!isNon x)) m
theorem xo_is : OpR X (compareOp .Is) (lowR X.K xIs) :=
  OpR.imp op_isN fun x y H QV ⟨d, e, m, Q, rx, ry, rm, ⟨h1, h⟩, q⟩ => ⟨by subst h1; simpa only [Rep] using ry, by rw [rx.non_iff]; exact q _ H _ m .refl (by simp only [Rep]) rm h⟩
theorem xo_isnot : OpR X (compareOp .IsNot) (lowR X.K xIsNot) :=
  OpR.imp op_notN fun x y H QV ⟨d, e, m, Q, rx, ry, rm, ⟨h1, h⟩, q⟩ => ⟨by subst h1; simpa only [Rep] using ry, by rw [rx.non_iff]; exact q _ H _ m .refl (by simp only [Rep]) rm h⟩
end
end Sd

set_option Elab.async false
set_option linter.all false
set_option maxRecDepth 100000
set_option maxHeartbeats 1000000
namespace Sd
open PySem PySem.Spec PyProof.Rows L2
section
variable {X : Cx}
/-! ## tests -/
def xB (t : XE) : XT := fun e m Q => t e m fun d m1 => asB d fun b => Q b m1
def xAndT (t u : XT) : XT := fun e m Q => t e m fun c m1 => if c = true then u e m1 Q else Q false m1
def xOrT (t u : XT) : XT := fun e m Q => t e m fun c m1 => if c = true then Q true m1 else u e m1 Q
def xNotT (t : XT) : XT := fun e m Q => t e m fun c m1 => Q (!c) m1
theorem low_B {t : XE} {σ H QV} (h : lowT X.K (xB t) σ H QV) : tB (low X.K t) σ H QV := by
  obtain ⟨e, m, Q, rs, rm, h, q⟩ := h
  refine ⟨e, m, _, rs, rm, h, fun v H1 d m1 s1 r1 rm1 h1 => ?_⟩
  obtain ⟨b, rfl, h1⟩ := asB_out h1
  simp only [Rep] at r1
  exact ⟨b, r1, q b H1 m1 s1 rm1 h1⟩
theorem xt_val {ex : Expr} {t : XE} (h : PE X ex (low X.K t)) (he : ∀ whole, isTrue ex X.env whole = (do let v ← whole; standAt ex.pos; holding [v] (truthy v)) := by intro _; rfl) : PT X ex (lowT X.K (xB t)) :=
  PT.imp (pt_val h he) fun σ H Q h => low_B h
theorem xt_cmp {op : CmpOp} {r : XO} {a b : Expr} {ta tb : XE} {pos : Pos} (ho : OpR X (compareOp op) (lowR X.K r)) (ha : PE X a (low X.K ta)) (hb : PE X b (low X.K tb)) (hm : behindInMarks op b = false) : PT X (.Compare a [op] [b] pos) (lowT X.K (xB (xOp r ta tb))) := by
  refine PT.imp (pt_cmpR ho ha hb hm) fun σ H QV h => ?_
  obtain ⟨e, m, Q, rs, rm, h, q⟩ := h
  refine low_op ⟨e, m, _, rs, rm, h, fun v H1 d m1 s1 r1 rm1 h1 => ?_⟩
  obtain ⟨b, rfl, h1⟩ := asB_out h1
  simp only [Rep] at r1
  exact ⟨b, r1, q b H1 m1 s1 rm1 h1⟩
theorem xt_not {a : Expr} {t : XT} {pos : Pos} (h : PT X a (lowT X.K t)) : PT X (.UnaryOp .Not a pos) (lowT X.K (xNotT t)) :=
  PT.imp (pt_not h) fun σ H QV ⟨e, m, Q, rs, rm, h, q⟩ => ⟨e, m, _, rs, rm, h, fun b H1 m1 s1 rm1 h1 => q _ H1 m1 s1 rm1 h1⟩
theorem xw_and1 {a : Expr} {t : XT} {pos : Pos} (h : PT X a (lowT X.K t)) : PW X (.BoolOp .And [a] pos) (lowT X.K t) := pw_and1 h
theorem xw_or1 {a : Expr} {t : XT} {pos : Pos} (h : PT X a (lowT X.K t)) : PW X (.BoolOp .Or [a] pos) (lowT X.K t) := pw_or1 h
theorem xw_and {a b : Expr} {rest : List Expr} {t u : XT} {pos : Pos} (h : PT X a (lowT X.K t)) (h2 : PW X (.BoolOp .And (b :: rest) pos) (lowT X.K u)) : PW X (.BoolOp .And (a :: b :: rest) pos) (lowT X.K (xAndT t u)) :=
  PW.imp (pw_and h h2) fun σ H QV ⟨e, m, Q, rs, rm, h, q⟩ => ⟨e, m, _, rs, rm, h, fun b H1 m1 s1 rm1 h1 => by
    cases b with
    | true => exact ⟨e, m1, Q, rs.ext s1.imm, rm1, h1, fun b H2 m2 s2 rm2 h2 => q b H2 m2 (s1.trans s2) rm2 h2⟩
    | false => exact q false H1 m1 s1 rm1 h1⟩
theorem xw_or {a b : Expr} {rest : List Expr} {t u : XT} {pos : Pos} (h : PT X a (lowT X.K t)) (h2 : PW X (.BoolOp .Or (b :: rest) pos) (lowT X.K u)) : PW X (.BoolOp .Or (a :: b :: rest) pos) (lowT X.K (xOrT t u)) :=
  PW.imp (pw_or h h2) fun σ H QV ⟨e, m, Q, rs, rm, h, q⟩ => ⟨e, m, _, rs, rm, h, fun b H1 m1 s1 rm1 h1 => by
    cases b with
    | false => exact ⟨e, m1, Q, rs.ext s1.imm, rm1, h1, fun b H2 m2 s2 rm2 h2 => q b H2 m2 (s1.trans s2) rm2 h2⟩
    | true => exact q true H1 m1 s1 rm1 h1⟩

def xAnd (t u : XE) : XE := fun e m Q => t e m fun d m1 => asB d fun c => if c = true then u e m1 Q else Q (.bl false) m1
def xOr (t u : XE) : XE := fun e m Q => t e m fun d m1 => asB d fun c => if c = true then Q (.bl true) m1 else u e m1 Q
def xNot (t : XE) : XE := fun e m Q => t e m fun d m1 => asB d fun c => Q (.bl (!c)) m1
theorem xe_one {op} {a : Expr} {t : XE} {pos : Pos} (h : PE X a (low X.K t)) : PE X (.BoolOp op [a] pos) (low X.K t) := pe_one h
theorem xe_and {a b : Expr} {rest : List Expr} {t u : XE} {pos : Pos} (h : PE X a (low X.K t)) (h2 : PE X (.BoolOp .And (b :: rest) pos) (low X.K u)) : PE X (.BoolOp .And (a :: b :: rest) pos) (low X.K (xAnd t u)) :=
  PE.imp (pe_and h h2) fun σ H QV ⟨e, m, Q, rs, rm, h, q⟩ => ⟨e, m, _, rs, rm, h, fun v H1 d m1 s1 r1 rm1 h1 => by
    obtain ⟨b, rfl, h1⟩ := asB_out h1
    simp only [Rep] at r1
    refine ⟨b, r1, ?_⟩
    cases b with
    | true => exact ⟨e, m1, Q, rs.ext s1.imm, rm1, h1, fun v H2 d m2 s2 r2 rm2 h2 => q v H2 d m2 (s1.trans s2) r2 rm2 h2⟩
    | false => exact q _ H1 _ m1 s1 (by simp only [Rep]) rm1 h1⟩
theorem xe_or {a b : Expr} {rest : List Expr} {t u : XE} {pos : Pos} (h : PE X a (low X.K t)) (h2 : PE X (.BoolOp .Or (b :: rest) pos) (low X.K u)) : PE X (.BoolOp .Or (a :: b :: rest) pos) (low X.K (xOr t u)) :=
  PE.imp (pe_or h h2) fun σ H QV ⟨e, m, Q, rs, rm, h, q⟩ => ⟨e, m, _, rs, rm, h, fun v H1 d m1 s1 r1 rm1 h1 => by
    obtain ⟨b, rfl, h1⟩ := asB_out h1
    simp only [Rep] at r1
    refine ⟨b, r1, ?_⟩
    cases b with
    | false => exact ⟨e, m1, Q, rs.ext s1.imm, rm1, h1, fun v H2 d m2 s2 r2 rm2 h2 => q v H2 d m2 (s1.trans s2) r2 rm2 h2⟩
    | true => exact q _ H1 _ m1 s1 (by simp only [Rep]) rm1 h1⟩
theorem xe_not {a : Expr} {t : XE} {pos : Pos} (h : PE X a (low X.K t)) : PE X (.UnaryOp .Not a pos) (low X.K (xNot t)) :=
  PE.imp (pe_not h) fun σ H QV ⟨e, m, Q, rs, rm, h, q⟩ => ⟨e, m, _, rs, rm, h, fun v H1 d m1 s1 r1 rm1 h1 => by
    obtain ⟨b, rfl, h1⟩ := asB_out h1
    simp only [Rep] at r1
    exact ⟨b, r1, q _ H1 _ m1 s1 (by simp only [Rep]) rm1 h1⟩⟩
def xIfE (c : XT) (ta tb : XE) : XE := fun e m Q => c e m fun b m1 => if b = true then ta e m1 Q else tb e m1 Q
theorem xe_ifExp {c a b : Expr} {t : XT} {ta tb : XE} {pos : Pos} (hc : PT X c (lowT X.K t)) (ha : PE X a (low X.K ta)) (hb : PE X b (low X.K tb)) : PE X (.IfExp c a b pos) (low X.K (xIfE t ta tb)) :=
  PE.imp (pe_ifExp hc ha hb) fun σ H QV ⟨e, m, Q, rs, rm, h, q⟩ => ⟨e, m, _, rs, rm, h, fun b H1 m1 s1 rm1 h1 => by
    cases b with
    | true => exact ⟨e, m1, Q, rs.ext s1.imm, rm1, h1, fun v H2 d m2 s2 r2 rm2 h2 => q v H2 d m2 (s1.trans s2) r2 rm2 h2⟩
    | false => exact ⟨e, m1, Q, rs.ext s1.imm, rm1, h1, fun v H2 d m2 s2 r2 rm2 h2 => q v H2 d m2 (s1.trans s2) r2 rm2 h2⟩⟩
def xChain (r r' : XO) (ta tb tc : XE) : XE := fun e m Q => ta e m fun x m1 => tb e m1 fun y m2 => r x y m2 fun z m3 => asB z fun k => if k = true then tc e m3 fun w m4 => r' y w m4 Q else Q (.bl false) m3
theorem low_chain {r r' : XO} {ta tb tc : XE} {σ H QV} (h : low X.K (xChain r r' ta tb tc) σ H QV) : tChain (lowR X.K r) (lowR X.K r') (low X.K ta) (low X.K tb) (low X.K tc) σ H QV := by
  obtain ⟨e, m, Q, rs, rm, h, q⟩ := h
  refine ⟨e, m, _, rs, rm, h, fun x H1 d m1 s1 r1 rm1 h1 => ?_⟩
  refine ⟨e, m1, _, rs.ext s1.imm, rm1, h1, fun y H2 d2 m2 s2 r2 rm2 h2 => ?_⟩
  refine ⟨d, d2, m2, _, r1.ext s2.imm, r2, rm2, h2, fun v H3 d3 m3 s3 r3 rm3 h3 => ?_⟩
  obtain ⟨b, rfl, h3⟩ := asB_out h3
  simp only [Rep] at r3
  refine ⟨b, r3, ?_⟩
  cases b with
  | false => exact q _ H3 _ m3 (s1.trans (s2.trans s3)) (by simp only [Rep]) rm3 h3
  | true =>
    refine ⟨e, m3, _, rs.ext (s1.trans (s2.trans s3)).imm, rm3, h3, fun w H4 d4 m4 s4 r4 rm4 h4 => ?_⟩
    exact ⟨d2, d4, m4, Q, r2.ext (s3.trans s4).imm, r4, rm4, h4, fun v H5 d5 m5 s5 r5 rm5 h5 => q v H5 d5 m5 (s1.trans (s2.trans (s3.trans (s4.trans s5)))) r5 rm5 h5⟩
theorem xe_chain {op op' : CmpOp} {r r' : XO} {a b c : Expr} {ta tb tc : XE} {pos : Pos} (ho : OpR X (compareOp op) (lowR X.K r)) (ho' : OpR X (compareOp op') (lowR X.K r')) (ha : PE X a (low X.K ta)) (hb : PE X b (low X.K tb)) (hc : PE X c (low X.K tc))
    (hm : lastMarks [op, op'] [b, c] = false := by with_unfolding_all rfl) : PE X (.Compare a [op, op'] [b, c] pos) (low X.K (xChain r r' ta tb tc)) :=
  PE.imp (pe_chain ho ho' ha hb hc hm) fun σ H Q h => low_chain h
theorem xt_chain {op op' : CmpOp} {r r' : XO} {a b c : Expr} {ta tb tc : XE} {pos : Pos} (ho : OpR X (compareOp op) (lowR X.K r)) (ho' : OpR X (compareOp op') (lowR X.K r')) (ha : PE X a (low X.K ta)) (hb : PE X b (low X.K tb)) (hc : PE X c (low X.K tc))
    (hm : lastMarks [op, op'] [b, c] = false := by with_unfolding_all rfl) : PT X (.Compare a [op, op'] [b, c] pos) (lowT X.K (xB (xChain r r' ta tb tc))) :=
  PT.imp (pt_chain ho ho' ha hb hc hm) fun σ H QV ⟨e, m, Q, rs, rm, h, q⟩ => low_chain ⟨e, m, _, rs, rm, h, fun v H1 d m1 s1 r1 rm1 h1 => by
    obtain ⟨b, rfl, h1⟩ := asB_out h1
    simp only [Rep] at r1
    exact ⟨b, r1, q b H1 m1 s1 rm1 h1⟩⟩

/-! ## sequences -/
def seqD (m : M) (x : D) : Option (List D) := match x with
  | .tup ds => some ds
  | .lck ds => some ds
  | .ref a => match m a with
    | some (.lst ds) => some ds
    | _ => none
  | _ => none
@[simp] theorem seqD_tup {m : M} {ds : List D} : seqD m (.tup ds) = some ds := rfl
@[simp] theorem seqD_lck {m : M} {ds : List D} : seqD m (.lck ds) = some ds := rfl
theorem seqD_ref {m : M} {a : Addr} {ds : List D} (h : m a = some (.lst ds)) : seqD m (.ref a) = some ds := by simp only [seqD, h]
theorem seq_out {K : PySem.W.Frag} {H : Hp} {m : M} {x : D} {v : V} {ds : List D} (rm : RepM K H m) (r : Rep K H x v) (h : seqD m x = some ds) : ∃ a xs, v = .ref a ∧ (SqL K H a xs ∨ SqT K H a xs) ∧ Reps K H ds xs := by
  cases x <;> simp only [seqD] at h <;> try (cases h; done)
  case tup es => cases h; simp only [Rep] at r; obtain ⟨a, xs, e, s, rs⟩ := r; exact ⟨a, xs, e, .inr s, rs⟩
  case lck es => cases h; simp only [Rep] at r; obtain ⟨a, xs, e, s, rs⟩ := r; exact ⟨a, xs, e, .inl s.l, rs⟩
  case ref a =>
    simp only [Rep] at r
    split at h
    · rename_i es hm
      cases h
      obtain ⟨ho, h1, xs, rfl, rs⟩ := rm a _ hm
      exact ⟨a, xs, r, .inl (.inl (.inl h1)), rs⟩
    · cases h
def oat {α : Type} (o : Option α) (k : α → Prop) : Prop := match o with | some d => k d | none => False
@[simp] theorem oat_some {α : Type} {d : α} {k : α → Prop} : oat (some d) k = k d := rfl
theorem oat_out {α : Type} {o : Option α} {k : α → Prop} (h : oat o k) : ∃ d, o = some d ∧ k d := by
  cases o with
  | none => exact h.elim
  | some d => exact ⟨d, rfl, h⟩
def xIx : XO := fun x y m Q => asI y fun i => oat (seqD m x) fun ds => oat (atI ds i) fun d => Q d m
theorem atI_reps {K : PySem.W.Frag} {H : Hp} {ds : List D} {vs : List V} {i : Int} {d : D} (r : Reps K H ds vs) (h : atI ds i = some d) : ∃ v, atI vs i = some v ∧ Rep K H d v := by
  unfold atI at h ⊢
  rw [← r.len]
  cases q : ixN ds.length i with
  | none => rw [q] at h; cases h
  | some j =>
    rw [q] at h
    exact r.get h
theorem xr_ix : IxR X (lowR X.K xIx) := by
  intro value slice pins s σ H x y v u Q I rx ry h hsub
  obtain ⟨d, e, m, Q', r1, r2, rm, h, q⟩ := h
  unfold xIx at h
  obtain ⟨i, ei, h1⟩ := asI_out h
  obtain ⟨ds, es, h2⟩ := oat_out h1
  obtain ⟨w, ew, h3⟩ := oat_out h2
  subst ei
  simp only [Rep] at r2
  obtain ⟨a, xs, ea, sq, rs⟩ := seq_out rm r1 es
  obtain ⟨z, hz, rz⟩ := atI_reps rs ew
  refine ix_seq value slice pins s σ H x y v u Q I rx ry ?_ hsub
  have q' : Q z H := q z H w m .refl rz rm h3
  rcases sq with sq | sq
  · exact .inl ⟨a, xs, i, z, ea, r2, sq, hz, q'⟩
  · exact .inr (.inl ⟨a, xs, i, z, ea, r2, sq, hz, q'⟩)
theorem xe_ix {a b : Expr} {ta tb : XE} {pos : Pos} (ha : PE X a (low X.K ta)) (hb : PE X b (low X.K tb)) (hs : PlainIx b := by exact fun _ _ => rfl) : PE X (.Subscript a b pos) (low X.K (xOp xIx ta tb)) :=
  PE.imp (pe_ix xr_ix ha hb hs) fun σ H Q h => low_op h

/-! ## arguments, displays -/
def xNil : XA := fun _ m Q => Q [] m
def xCons (t : XE) (u : XA) : XA := fun e m Q => t e m fun d m1 => u e m1 fun ds m2 => Q (d :: ds) m2
theorem xa_nil : PA X [] (lowA X.K xNil) := PA.imp pa_nil fun σ H QV ⟨e, m, Q, rs, rm, h, q⟩ => q _ H _ m .refl (by simp only [Reps]) rm h
theorem xa_cons {ex : Expr} {es : List Expr} {t : XE} {u : XA} (h : PE X ex (low X.K t)) (h2 : PA X es (lowA X.K u)) (hs : starEach (ex :: es) X.env = (false, eval ex X.env) :: starEach es X.env := by rfl) : PA X (ex :: es) (lowA X.K (xCons t u)) :=
  PA.imp (pa_cons h h2 hs) fun σ H QV ⟨e, m, Q, rs, rm, h, q⟩ => ⟨e, m, _, rs, rm, h, fun v H1 d m1 s1 r1 rm1 h1 => ⟨e, m1, _, rs.ext s1.imm, rm1, h1, fun vs H2 ds m2 s2 r2 rm2 h2 =>
    q _ H2 _ m2 (s1.trans s2) (by simp only [Reps]; exact ⟨v, vs, rfl, r1.ext s2.imm, r2⟩) rm2 h2⟩⟩
def xTup (t : XA) : XE := fun e m Q => t e m fun ds m1 => ds.length ≤ sizeLine ∧ Q (.tup ds) m1
theorem xe_tup {es : List Expr} {t : XA} {x1 pos} (h : PA X es (lowA X.K t)) : PE X (.Tuple es x1 pos) (low X.K (xTup t)) :=
  PE.imp (pe_tup h) fun σ H QV ⟨e, m, Q, rs, rm, h, q⟩ => ⟨e, m, _, rs, rm, h, fun vs H1 ds m1 s1 r1 rm1 h1 => by
    refine ⟨by rw [← r1.len]; exact h1.1, fun p hp => ?_⟩
    have st : Stp H1 m1 (upd H1 p (.tup vs)) m1 := .new hp
    exact q _ _ (.tup ds) m1 (s1.trans st) (by simp only [Rep]; exact ⟨p, vs, rfl, .inl (.inl upd_same), r1.ext st.imm⟩) (rm1.new hp) h1.2⟩
def xLst (t : XA) : XE := fun e m Q => t e m fun ds m1 => ds.length ≤ sizeLine ∧ ∀ p, m1 p = none → Q (.ref p) (updM m1 p (.lst ds))
theorem new_lst {K : PySem.W.Frag} {H : Hp} {m : M} {p : Addr} {ds : List D} {vs : List V} (rm : RepM K H m) (r : Reps K H ds vs) (hp : H p = none) : RepM K (upd H p (.lst vs)) (updM m p (.lst ds)) :=
  rm.upd (Stp.new (m := m) hp).imm ⟨vs, rfl, r.ext (Stp.new (m := m) hp).imm⟩
theorem xe_lst {es : List Expr} {t : XA} {pos} (h : PA X es (lowA X.K t)) : PE X (.List es pos) (low X.K (xLst t)) :=
  PE.imp (pe_lst h) fun σ H QV ⟨e, m, Q, rs, rm, h, q⟩ => ⟨e, m, _, rs, rm, h, fun vs H1 ds m1 s1 r1 rm1 h1 => by
    refine ⟨by rw [← r1.len]; exact h1.1, fun p hp => ?_⟩
    exact q _ _ (.ref p) _ (s1.trans (.newM hp)) (by simp only [Rep]) (new_lst rm1 r1 hp) (h1.2 p (rm1.none hp))⟩

/-! ## what is known no longer -/
def Sub (m' m : M) : Prop := ∀ x o, m' x = some o → m x = some o
theorem Sub.refl {m : M} : Sub m m := fun _ _ h => h
theorem Sub.trans {a b c : M} (h : Sub a b) (k : Sub b c) : Sub a c := fun x o e => k x o (h x o e)
theorem Sub.upd {m' m : M} {p : Addr} {o : O} (h : Sub m' m) (n : m p = none) : Sub m' (updM m p o) := fun x u e => by
  have e1 := h x u e
  by_cases z : x = p
  · subst z; rw [n] at e1; cases e1
  · rw [updM_ne z]; exact e1
def xGc (t : XE) : XE := fun e m Q => t e m fun d m1 => ∃ m2, Sub m2 m1 ∧ Q d m2
theorem xe_gc {ex : Expr} {t : XE} (h : PE X ex (low X.K t)) : PE X ex (low X.K (xGc t)) :=
  PE.imp h fun σ H QV ⟨e, m, Q, rs, rm, h, q⟩ => ⟨e, m, _, rs, rm, h, fun v H1 d m1 s1 r1 rm1 ⟨m2, sb, h1⟩ => q v H1 d m2 (s1.sub sb) r1 (rm1.sub sb) h1⟩

/-! ## calls -/
abbrev XSp := List D → M → (D → M → Prop) → Prop
def liftS (K : PySem.W.Frag) (sp : XSp) : Sp := fun vs H QV _ => ∃ ds m Q, Reps K H ds vs ∧ RepM K H m ∧ sp ds m Q ∧ ∀ v H' d m', Stp H m H' m' → Rep K H' d v → RepM K H' m' → Q d m' → QV v H'
abbrev FnX (P : Program) (w : World) (K : PySem.W.Frag) (mg : Str → Option Value) (base : Heap) (k : Nat) (f : Addr) (fd : FuncData) (ps : List Str) (sp : XSp) : Prop := FnOk P w K mg base CX0 k f fd ps (liftS K sp)
def xCall (sp : XSp) (t : XA) : XE := fun e m Q => t e m fun ds m1 => sp ds m1 Q
section
variable {k : Nat} {f C : Addr} {fd : FuncData} {ps : List Str} {sp : XSp} {x mn : Str} {p pos apos : Pos} {ex o : Expr} {es : List Expr} {ta : XE} {t : XA}
theorem low_call {σ H QV} {t : XA} (h : low X.K (xCall sp t) σ H QV) : tCall (liftS X.K sp) [] E0 (lowA X.K t) σ H QV := by
  obtain ⟨e, m, Q, rs, rm, h, q⟩ := h
  refine ⟨e, m, _, rs, rm, h, fun vs H1 ds m1 s1 r1 rm1 h1 => ?_⟩
  show liftS X.K sp (vs ++ []) H1 QV E0
  rw [List.append_nil]
  exact ⟨ds, m1, Q, r1, rm1, h1, fun v H2 d m2 s2 r2 rm2 h2 => q v H2 d m2 (s1.trans s2) r2 rm2 h2⟩
theorem xe_call (F : FnX X.prog X.w X.K X.mg X.base k f fd ps sp) (hr : Room k X.A) (hg : Gl X x) (hm : X.mg x = some (.ref f)) (hk : PySem.W.keepIn X.K (.ref f) = true) (hb : Binds X.K fd ps [])
    (ha : PA X (ex :: es) (lowA X.K t)) (hdb : (x == ("__debug__" : Str)) = false := by decide) (he : starEach (ex :: es) X.env = (false, eval ex X.env) :: starEach es X.env := by rfl) (hpl : (backTo pos (starEach es X.env)).any (·.1) = false := by rfl) :
    PE X (.Call (.Name x p) (ex :: es) [] pos) (low X.K (xCall sp t)) :=
  PE.imp (pe_call F hr hg hm hk hb .nil pass0 ha hdb he hpl) fun σ H Q h => low_call h
/-- an instance of the class at C -/
def asIns (m : M) (C : Addr) (d : D) (k : Addr → List (Str × D) → Prop) : Prop := match d with
  | .ref a => match m a with
    | some (.ins C' fs) => C' = C ∧ k a fs
    | _ => False
  | _ => False
theorem asIns_ref {m : M} {C a : Addr} {fs : List (Str × D)} {k : Addr → List (Str × D) → Prop} (h : m a = some (.ins C fs)) : asIns m C (.ref a) k = k a fs := by
  simp only [asIns, h, true_and]
theorem asIns_out {m : M} {C : Addr} {d : D} {k : Addr → List (Str × D) → Prop} (h : asIns m C d k) : ∃ a fs, d = .ref a ∧ m a = some (.ins C fs) ∧ k a fs := by
  unfold asIns at h
  split at h
  · rename_i a
    split at h
    · rename_i C' fs hm
      obtain ⟨rfl, h⟩ := h
      exact ⟨a, fs, rfl, hm, h⟩
    · exact h.elim
  · exact h.elim
def xMeth (C : Addr) (mn : Str) (sp : XSp) (ta : XE) (t : XA) : XE := fun e m Q => ta e m fun x m1 => asIns m1 C x fun _ fs => fs.lookup mn = none ∧ t e m1 fun ds m2 => sp (x :: ds) m2 Q
theorem low_meth {σ H QV} {t : XA} (h : low X.K (xMeth C mn sp ta t) σ H QV) : tMeth C mn (liftS X.K sp) [] E0 (low X.K ta) (lowA X.K t) σ H QV := by
  obtain ⟨e, m, Q, rs, rm, h, q⟩ := h
  refine ⟨e, m, _, rs, rm, h, fun v H1 d m1 s1 r1 rm1 h1 => ?_⟩
  obtain ⟨a, fs, rfl, hm, hl, h1⟩ := asIns_out h1
  simp only [Rep] at r1
  obtain ⟨ho, ha, dx, vs, rfl, rf⟩ := rm1 a _ hm
  refine ⟨a, dx, vs, r1, ha, rf.look.2 hl, e, m1, _, rs.ext s1.imm, rm1, h1, fun us H2 ds m2 s2 r2 rm2 h2 => ?_⟩
  show liftS X.K sp (v :: (us ++ [])) H2 QV E0
  rw [List.append_nil]
  exact ⟨_, m2, Q, by simp only [Reps]; exact ⟨v, us, rfl, by simp only [Rep]; exact r1, r2⟩, rm2, h2, fun v H3 d m3 s3 r3 rm3 h3 => q v H3 d m3 (s1.trans (s2.trans s3)) r3 rm3 h3⟩
theorem xe_meth {pl : Sem Bool} (he : PE X o (low X.K ta)) (c : Cls X.K C) (hm : Meth X.K C mn f) (F : FnX X.prog X.w X.K X.mg X.base k f fd ps sp) (hr : Room k X.A) (hb : Binds X.K fd ps []) (ha : PA X (ex :: es) (lowA X.K t))
    (hst : starEach (ex :: es) X.env = (false, eval ex X.env) :: starEach es X.env := by rfl) (hpl : (backTo pos (starEach es X.env)).any (·.1) = false := by rfl)
    (ht : eval (.Call (.Attribute o mn apos) (ex :: es) [] pos) X.env = (do
      let ov ← eval o X.env
      standAt apos.atName
      let (f, first) ← holding [ov] (getMethod ov mn pl)
      callWith pos f first (backTo pos (starEach (ex :: es) X.env)) (backToKw pos (keywordEach [] X.env))) := by rfl) :
    PE X (.Call (.Attribute o mn apos) (ex :: es) [] pos) (low X.K (xMeth C mn sp ta t)) :=
  PE.imp (pe_meth he c hm F hr hb .nil pass0 ha hst hpl ht) fun σ H Q h => low_meth h
theorem xe_meth0 {pl : Sem Bool} (he : PE X o (low X.K ta)) (c : Cls X.K C) (hm : Meth X.K C mn f) (F : FnX X.prog X.w X.K X.mg X.base k f fd ps sp) (hr : Room k X.A) (hb : Binds X.K fd ps [])
    (ht : eval (.Call (.Attribute o mn apos) [] [] pos) X.env = (do
      let ov ← eval o X.env
      standAt apos.atName
      let (f, first) ← holding [ov] (getMethod ov mn pl)
      callWith pos f first (backTo pos (starEach [] X.env)) (backToKw pos (keywordEach [] X.env))) := by rfl) :
    PE X (.Call (.Attribute o mn apos) [] [] pos) (low X.K (xMeth C mn sp ta xNil)) :=
  PE.imp (pe_meth0 he c hm F hr hb .nil pass0 ht) fun σ H QV h => by
    obtain ⟨e, m, Q, rs, rm, h, q⟩ := h
    refine ⟨e, m, _, rs, rm, h, fun v H1 d m1 s1 r1 rm1 h1 => ?_⟩
    obtain ⟨a, fs, rfl, hm, hl, h1⟩ := asIns_out h1
    simp only [Rep] at r1
    obtain ⟨ho, ha, dx, vs, rfl, rf⟩ := rm1 a _ hm
    refine ⟨a, dx, vs, r1, ha, rf.look.2 hl, ?_⟩
    show liftS X.K sp (v :: ([] ++ [])) H1 QV E0
    rw [List.append_nil]
    exact ⟨_, m1, Q, by simp only [Reps]; exact ⟨v, [], rfl, by simp only [Rep]; exact r1, rfl⟩, rm1, h1, fun v H3 d m3 s3 r3 rm3 h3 => q v H3 d m3 (s1.trans s3) r3 rm3 h3⟩
/-- C(..) -/
def xMake (C : Addr) (sp : XSp) (t : XA) : XE := fun e m Q => t e m fun ds m1 => ∀ x, m1 x = none → sp (.ref x :: ds) (updM m1 x (.ins C [])) fun v m2 => v = .non ∧ Q (.ref x) m2
theorem xe_make (Mk : Mk X.K C f) (F : FnX X.prog X.w X.K X.mg X.base k f fd ps sp) (hr : Room (k + 1) X.A) (hg : Gl X x) (hm : X.mg x = some (.ref C)) (hb : Binds X.K fd ps [])
    (ha : PA X (ex :: es) (lowA X.K t)) (hdb : (x == ("__debug__" : Str)) = false := by decide) (he : starEach (ex :: es) X.env = (false, eval ex X.env) :: starEach es X.env := by rfl) (hpl : (backTo pos (starEach es X.env)).any (·.1) = false := by rfl) :
    PE X (.Call (.Name x p) (ex :: es) [] pos) (low X.K (xMake C sp t)) :=
  PE.imp (pe_make Mk F hr hg hm hb .nil pass0 ha hdb he hpl) fun σ H QV h => by
    obtain ⟨e, m, Q, rs, rm, h, q⟩ := h
    refine ⟨e, m, _, rs, rm, h, fun vs H1 ds m1 s1 r1 rm1 h1 => ?_⟩
    intro a dx na nd ne
    rw [List.append_nil]
    have sa : Stp H1 m1 (upd H1 dx (.own a)) m1 := .new nd
    have na' : upd H1 dx (.own a) a = none := by rw [upd_ne ne.symm]; exact na
    have sb : Stp (upd H1 dx (.own a)) m1 (upd (upd H1 dx (.own a)) a (.ins C dx [])) (updM m1 a (.ins C [])) := .newM na'
    refine ⟨_, _, _, ?_, (RepM.upd (o := .ins C dx []) (u := .ins C []) (rm1.new nd) (Stp.new (m := m1) na').imm ⟨dx, [], rfl, rfl⟩), h1 a (rm1.none na), fun v H3 d m3 s3 r3 rm3 h3 => ?_⟩
    · simp only [Reps]
      exact ⟨.ref a, vs, rfl, by simp only [Rep], r1.ext (sa.trans sb).imm⟩
    · obtain ⟨rfl, h3⟩ := h3
      simp only [Rep] at r3
      exact ⟨r3, q _ H3 _ m3 (s1.trans (sa.trans (sb.trans s3))) (by simp only [Rep]) rm3 h3⟩
end
/-! ## fields -/
def xFld (C : Addr) (f : Str) (ta : XE) : XE := fun e m Q => ta e m fun x m1 => asIns m1 C x fun _ fs => oat (fs.lookup f) fun d => Q d m1
theorem xe_fld {C : Addr} {f : Str} {o : Expr} {ta : XE} {pos : Pos} (ha : PE X o (low X.K ta)) (c : Cls X.K C) (n : NoAttr X.K C f) (hb : attributeBase o f X.env (eval o X.env) = eval o X.env := by rfl) : PE X (.Attribute o f pos) (low X.K (xFld C f ta)) :=
  PE.imp (pe_fld ha hb) fun σ H QV ⟨e, m, Q, rs, rm, h, q⟩ => ⟨e, m, _, rs, rm, h, fun v H1 d m1 s1 r1 rm1 h1 => by
    obtain ⟨a, fs, rfl, hm, h1⟩ := asIns_out h1
    obtain ⟨w, hw, h1⟩ := oat_out h1
    simp only [Rep] at r1
    obtain ⟨ho, ha, dx, vs, rfl, rf⟩ := rm1 a _ hm
    obtain ⟨z, hz, rz⟩ := rf.look.1 w hw
    exact ⟨a, C, dx, vs, z, r1, ha, c, n, hz, q z H1 w m1 s1 rz rm1 h1⟩⟩
theorem RepF.put {K : PySem.W.Frag} {H : Hp} {f : Str} {d : D} {v : V} (r : Rep K H d v) : ∀ {fs : List (Str × D)} {vs : List (Str × V)}, RepF K H fs vs → RepF K H (putD f d fs) (putF f v vs)
  | [], _, h => by
    simp only [RepF] at h; subst h
    exact ⟨v, [], rfl, r, rfl⟩
  | (g, e) :: fs, _, h => by
    obtain ⟨u, us, rfl, r1, r2⟩ := h
    unfold putD putF
    by_cases z : g = f
    · subst z
      rw [if_pos rfl, if_pos rfl]
      exact ⟨v, us, rfl, r, r2⟩
    · rw [if_neg z, if_neg z]
      exact ⟨u, _, rfl, r1, RepF.put r r2⟩
def xFldS (C : Addr) (f : Str) (ta tv : XE) : XS := fun D e m => tv e m fun y m1 => ta e m1 fun x m2 => asIns m2 C x fun a fs => fs.length < 1000 ∧ D.nx e (updM m2 a (.ins C (putD f y fs)))
theorem xs_fld {C : Addr} {f : Str} {o value : Expr} {ta tv : XE} {pos pos' : Pos} (ha : PE X o (low X.K ta)) (hv : PE X value (low X.K tv)) (c : Cls X.K C) (n : NoAttr X.K C f) (hs : swapsWith value (some (.Attribute o f pos')) pos.line X.env = pure false := by rfl) :
    PS X (.Assign [.Attribute o f pos'] value pos) (lowS X.K (xFldS C f ta tv)) :=
  PS.imp (ps_fld ha hv hs) fun D σ H ⟨e, m, D', rs, rm, h, q⟩ => ⟨e, m, _, rs, rm, h, fun y H1 d m1 s1 r1 rm1 h1 => ⟨e, m1, _, rs.ext s1.imm, rm1, h1, fun x H2 d2 m2 s2 r2 rm2 h2 => by
    obtain ⟨a, fs, rfl, hm, hl, h2⟩ := asIns_out h2
    simp only [Rep] at r2
    obtain ⟨ho, ha, dx, vs, rfl, rf⟩ := rm2 a _ hm
    have st : Stp H2 m2 (upd H2 a (.ins C dx (putF f y vs))) (updM m2 a (.ins C (putD f d fs))) := .write ha (fun z => z) hm
    refine ⟨a, C, dx, vs, r2, ha, c, n, by rw [← rf.len]; exact hl, q.nx σ _ e _ (s1.trans (s2.trans st)) (rs.ext (s1.trans (s2.trans st)).imm) (rm2.upd st.imm ⟨dx, _, rfl, ?_⟩) h2⟩
    exact (RepF.put (r1.ext s2.imm) rf).ext st.imm⟩⟩
end
end Sd

set_option Elab.async false
set_option linter.all false
set_option maxRecDepth 100000
set_option maxHeartbeats 1000000
namespace Sd
open PySem PySem.Spec PyProof.Rows L2
def one (ds : List D) (k : D → Prop) : Prop := match ds with | [x] => k x | _ => False
def two (ds : List D) (k : D → D → Prop) : Prop := match ds with | [x, y] => k x y | _ => False
def tri (ds : List D) (k : D → D → D → Prop) : Prop := match ds with | [x, y, z] => k x y z | _ => False
@[simp] theorem one_one {x : D} {k : D → Prop} : one [x] k = k x := rfl
@[simp] theorem two_two {x y : D} {k : D → D → Prop} : two [x, y] k = k x y := rfl
@[simp] theorem tri_tri {x y z : D} {k : D → D → D → Prop} : tri [x, y, z] k = k x y z := rfl
theorem one_out {ds : List D} {k : D → Prop} (h : one ds k) : ∃ x, ds = [x] ∧ k x := by
  unfold one at h; split at h
  · exact ⟨_, rfl, h⟩
  · exact h.elim
theorem two_out {ds : List D} {k : D → D → Prop} (h : two ds k) : ∃ x y, ds = [x, y] ∧ k x y := by
  unfold two at h; split at h
  · exact ⟨_, _, rfl, h⟩
  · exact h.elim
theorem tri_out {ds : List D} {k : D → D → D → Prop} (h : tri ds k) : ∃ x y z, ds = [x, y, z] ∧ k x y z := by
  unfold tri at h; split at h
  · exact ⟨_, _, _, rfl, h⟩
  · exact h.elim
section
variable {X : Cx}
/-! ## statements -/
def xNext : XS := fun D e m => D.nx e m
def xSeq (t u : XS) : XS := fun D e m => t { D with nx := u D } e m
theorem xss_nil : PSs X [] (lowS X.K xNext) := PSs.imp pss_nil fun D σ H ⟨e, m, D', rs, rm, h, q⟩ => q.nx σ H e m .refl rs rm h
theorem xss_cons {st : Stmt} {rest : List Stmt} {t u : XS} (h : PS X st (lowS X.K t)) (h2 : PSs X rest (lowS X.K u)) : PSs X (st :: rest) (lowS X.K (xSeq t u)) :=
  PSs.imp (pss_cons h h2) fun D σ H ⟨e, m, D', rs, rm, h, q⟩ => ⟨e, m, _, rs, rm, h, ⟨fun σ1 H1 e1 m1 s1 rs1 rm1 h1 => ⟨e1, m1, D', rs1, rm1, h1, q.step s1⟩, q.rt, q.bk, q.ct⟩⟩
theorem xss_one {st : Stmt} {t : XS} (h : PS X st (lowS X.K t)) : PSs X [st] (lowS X.K t) := pss_one h
def xBreak : XS := fun D e m => D.bk e m
def xCont : XS := fun D e m => D.ct e m
theorem xs_pass {pos} : PS X (.Pass pos) (lowS X.K xNext) := PS.imp ps_pass fun D σ H ⟨e, m, D', rs, rm, h, q⟩ => q.nx σ H e m .refl rs rm h
theorem xs_break {pos} : PS X (.Break pos) (lowS X.K xBreak) := PS.imp ps_break fun D σ H ⟨e, m, D', rs, rm, h, q⟩ => q.bk σ H e m .refl rs rm h
theorem xs_continue {pos} : PS X (.Continue pos) (lowS X.K xCont) := PS.imp ps_continue fun D σ H ⟨e, m, D', rs, rm, h, q⟩ => q.ct σ H e m .refl rs rm h
def xDrop (t : XE) : XS := fun D e m => t e m fun _ m1 => D.nx e m1
theorem xs_expr {ex : Expr} {t : XE} {pos : Pos} (h : PE X ex (low X.K t)) (hs : swapsWith ex none pos.line X.env = pure false := by rfl) : PS X (.Expr ex pos) (lowS X.K (xDrop t)) :=
  PS.imp (ps_expr h hs) fun D σ H ⟨e, m, D', rs, rm, h, q⟩ => ⟨e, m, _, rs, rm, h, fun v H1 d m1 s1 r1 rm1 h1 => q.nx σ H1 e m1 s1 (rs.ext s1.imm) rm1 h1⟩
def xRet (t : XE) : XS := fun D e m => t e m D.rt
theorem xs_ret {ex : Expr} {t : XE} {pos : Pos} (h : PE X ex (low X.K t)) : PS X (.Return (some ex) pos) (lowS X.K (xRet t)) :=
  PS.imp (ps_ret h) fun D σ H ⟨e, m, D', rs, rm, h, q⟩ => ⟨e, m, _, rs, rm, h, fun v H1 d m1 s1 r1 rm1 h1 => q.rt v H1 d m1 s1 r1 rm1 h1⟩
def xRetN : XS := fun D _ m => D.rt .non m
theorem xs_retN {pos : Pos} : PS X (.Return none pos) (lowS X.K xRetN) :=
  PS.imp ps_retN fun D σ H ⟨e, m, D', rs, rm, h, q⟩ => q.rt .non H .non m .refl (by simp only [Rep]) rm h
def xIfS (c : XT) (t u : XS) : XS := fun D e m => c e m fun b m1 => if b = true then t D e m1 else u D e m1
theorem xs_if {c : Expr} {a b : List Stmt} {tc : XT} {t u : XS} {pos : Pos} (hc : PT X c (lowT X.K tc)) (ha : PSs X a (lowS X.K t)) (hb : PSs X b (lowS X.K u)) : PS X (.If c a b pos) (lowS X.K (xIfS tc t u)) :=
  PS.imp (ps_if hc ha hb) fun D σ H ⟨e, m, D', rs, rm, h, q⟩ => ⟨e, m, _, rs, rm, h, fun b H1 m1 s1 rm1 h1 => by
    cases b with
    | true => exact ⟨e, m1, D', rs.ext s1.imm, rm1, h1, q.step s1⟩
    | false => exact ⟨e, m1, D', rs.ext s1.imm, rm1, h1, q.step s1⟩⟩
def xNever : XS := fun _ _ _ => False
theorem xs_never {st : Stmt} : PS X st (lowS X.K xNever) := PS.imp ps_never fun D σ H ⟨e, m, D', rs, rm, h, q⟩ => h
theorem xss_never {st : List Stmt} : PSs X st (lowS X.K xNever) := PSs.imp pss_never fun D σ H ⟨e, m, D', rs, rm, h, q⟩ => h
/-- what is known no longer, behind a statement -/
def xGcS (t : XS) : XS := fun D e m => t { D with nx := fun e1 m1 => ∃ m2, Sub m2 m1 ∧ D.nx e1 m2 } e m
theorem xs_gc {st : Stmt} {t : XS} (h : PS X st (lowS X.K t)) : PS X st (lowS X.K (xGcS t)) :=
  PS.imp h fun D σ H ⟨e, m, D', rs, rm, h, q⟩ => ⟨e, m, _, rs, rm, h, ⟨fun σ1 H1 e1 m1 s1 rs1 rm1 ⟨m2, sb, h1⟩ => q.nx σ1 H1 e1 m2 (s1.sub sb) rs1 (rm1.sub sb) h1, q.rt, q.bk, q.ct⟩⟩

/-! ## targets -/
def gNm (i : Nat) : XG := fun d e m Q => Q (e.set i (some d)) m
theorem wipe_set {σ : L2.St} {i : Nat} {x : Option V} : ∀ {vs : List Nat}, i ∈ vs → wipe (σ.set i x) vs = wipe σ vs
  | v :: vs, h => by
    unfold wipe
    by_cases hi : i ∈ vs
    · rw [wipe_set hi]
    · have e : i = v := by
        rcases List.mem_cons.mp h with q | q
        · exact q
        · exact absurd q hi
      subst e
      have key : ∀ (vs : List Nat), i ∉ vs → wipe (σ.set i x) vs = (wipe σ vs).set i x := by
        intro vs
        induction vs with
        | nil => intro _; rfl
        | cons w ws ih =>
          intro hn
          unfold wipe
          rw [ih fun z => hn (List.mem_cons_of_mem _ z)]
          rw [List.set_comm]
          intro e
          exact hn (by rw [e]; exact List.mem_cons_self)
      rw [key vs hi, List.set_set]
theorem xg_name {vs : List Nat} {i : Nat} {x : Str} {pos : Pos} (hN : X.N.Nodup) (hi : X.N[i]? = some x) (hx : Loc X.env.scope x) (hv : i ∈ vs) (hf : X.fn x = true ∨ X.env.scope.names.lookup x = some .local := by first | exact .inl rfl | exact .inr rfl | assumption) : PG X (.Name x pos) (lowG X.K vs (gNm i)) :=
  PG.imp (pg_name hN hi hx hf) fun v σ H QV ⟨d, e, m, Q, r, rs, rm, h, q⟩ => q _ H _ m (wipe_set hv) .refl (rs.set i r) rm h
def gNo : XGs := fun ds e m Q => ds = [] ∧ Q e m
def gCo (t : XG) (u : XGs) : XGs := fun ds e m Q => match ds with
  | d :: r => t d e m fun e1 m1 => u r e1 m1 Q
  | [] => False
theorem xgs_nil {vs : List Nat} : PGs X [] (lowGs X.K vs gNo) :=
  PGs.imp pgs_nil fun us σ H QV ⟨ds, e, m, Q, r, rs, rm, ⟨h1, h⟩, q⟩ => by
    subst h1
    simp only [Reps] at r
    exact ⟨r, q σ H e m rfl .refl rs rm h⟩
theorem xgs_cons {vs : List Nat} {ex : Expr} {es : List Expr} {t : XG} {u : XGs} (h : PG X ex (lowG X.K vs t)) (h2 : PGs X es (lowGs X.K vs u))
    (hs : (assignEach (ex :: es) X.env).map (·.2) = assign ex X.env :: (assignEach es X.env).map (·.2) := by rfl) : PGs X (ex :: es) (lowGs X.K vs (gCo t u)) :=
  PGs.imp (pgs_cons h h2 hs) fun us σ H QV ⟨ds, e, m, Q, r, rs, rm, h, q⟩ => by
    cases ds with
    | nil => exact h.elim
    | cons d ds =>
      simp only [Reps] at r
      obtain ⟨v, vs', rfl, r1, r2⟩ := r
      refine ⟨v, vs', rfl, d, e, m, _, r1, rs, rm, h, fun σ1 H1 e1 m1 w1 s1 rs1 rm1 h1 => ⟨ds, e1, m1, Q, r2.ext s1.imm, rs1, rm1, h1, fun σ2 H2 e2 m2 w2 s2 rs2 rm2 h2 => q σ2 H2 e2 m2 (w2.trans w1) (s1.trans s2) rs2 rm2 h2⟩⟩
def gTp (n : Nat) (t : XGs) : XG := fun d e m Q => match d with
  | .tup ds => ds.length = n ∧ t ds e m Q
  | _ => False
theorem xg_tup {vs : List Nat} {es : List Expr} {k : Nat} {t : XGs} {n : Nat} {pos : Pos} (hc : X.calm = true) (h : PGs X es (lowGs X.K vs t))
    (hn : (assignEach es X.env).length = n := by rfl) (hst : (assignEach es X.env).findIdx? (·.1) = none := by rfl) : PG X (.Tuple es k pos) (lowG X.K vs (gTp n t)) :=
  PG.imp (pg_tup hc h hn hst) fun v σ H QV ⟨d, e, m, Q, r, rs, rm, h, q⟩ => by
    unfold gTp at h
    split at h
    · rename_i ds
      simp only [Rep] at r
      obtain ⟨a, xs, rfl, s, rx⟩ := r
      exact ⟨a, xs, rfl, s, by rw [← rx.len]; exact h.1, ds, e, m, Q, rx, rs, rm, h.2, q⟩
    · exact h.elim
def xAsg (t : XE) (g : XG) : XS := fun D e m => t e m fun d m1 => g d e m1 D.nx
theorem low_asg {t : XE} {g : XG} {vs : List Nat} {D σ H} (h : lowS X.K (xAsg t g) D σ H) : tAsg (low X.K t) (lowG X.K vs g) D σ H := by
  obtain ⟨e, m, D', rs, rm, h, q⟩ := h
  exact ⟨e, m, _, rs, rm, h, fun v H1 d m1 s1 r1 rm1 h1 => ⟨d, e, m1, _, r1, rs.ext s1.imm, rm1, h1, fun σ2 H2 e2 m2 _ s2 rs2 rm2 h2 => q.nx σ2 H2 e2 m2 (s1.trans s2) rs2 rm2 h2⟩⟩
theorem xs_asg {tg ex : Expr} {t : XE} {g : XG} {vs : List Nat} {pos : Pos} (he : PE X ex (low X.K t)) (hg : PG X tg (lowG X.K vs g)) (hs : swapsWithSole [tg] ex pos.line X.env = pure false := by rfl) (hw : swappedStores [tg] ex X.env = pure none := by rfl)
    (h1 : (assignEach [tg] X.env).map (·.2) = [assign tg X.env] := by rfl) : PS X (.Assign [tg] ex pos) (lowS X.K (xAsg t g)) :=
  PS.imp (ps_asg he hg hs hw h1) fun D σ H h => low_asg h
theorem xs_set {i : Nat} {x : Str} {ex : Expr} {t : XE} {pos pos' : Pos} (hN : X.N.Nodup) (hi : X.N[i]? = some x) (hx : Loc X.env.scope x) (he : PE X ex (low X.K t)) (hs : swapsWith ex (some (.Name x pos')) pos.line X.env = pure false := by rfl) (hf : X.fn x = true ∨ X.env.scope.names.lookup x = some .local := by first | exact .inl rfl | exact .inr rfl | assumption) :
    PS X (.Assign [.Name x pos'] ex pos) (lowS X.K (xAsg t (gNm i))) :=
  PS.imp (ps_set hN hi hx he hs hf) fun D σ H ⟨e, m, D', rs, rm, h, q⟩ => ⟨e, m, _, rs, rm, h, fun v H1 d m1 s1 r1 rm1 h1 => q.nx _ H1 _ m1 s1 ((rs.ext s1.imm).set i r1) rm1 h1⟩
/-- a, b = x, y -/
def xPar (i j : Nat) (t : XA) : XS := fun D e m => t e m fun ds m1 => two ds fun a b => D.nx ((e.set i (some a)).set j (some b)) m1
theorem xs_par {i j : Nat} {x y : Str} {a b : Expr} {t : XA} {px py pt pos : Pos} {kt k2 pt2} (hc : X.calm = true) (hN : X.N.Nodup) (hi : X.N[i]? = some x) (hj : X.N[j]? = some y) (hij : i ≠ j)
    (hx : X.env.scope.names.lookup x = some .local) (hy : X.env.scope.names.lookup y = some .local) (ha : PA X [a, b] (lowA X.K t))
    (hw : swappedStores [.Tuple [.Name x px, .Name y py] kt pt] (.Tuple [a, b] k2 pt2) X.env = pure (some [x, y]))
    (hs : swapsWithSole [.Tuple [.Name x px, .Name y py] kt pt] (.Tuple [a, b] k2 pt2) pos.line X.env = pure false := by rfl) :
    PS X (.Assign [.Tuple [.Name x px, .Name y py] kt pt] (.Tuple [a, b] k2 pt2) pos) (lowS X.K (xPar i j t)) :=
  PS.imp (ps_par hc hN hi hj hij hx hy ha hw hs) fun D σ H ⟨e, m, D', rs, rm, h, q⟩ => ⟨e, m, _, rs, rm, h, fun vs H1 ds m1 s1 r1 rm1 h1 => by
    obtain ⟨c, d, ed, h2⟩ := two_out h1
    subst ed
    simp only [Reps] at r1
    obtain ⟨v, _, rfl, rA, w, _, rfl, rB, rfl⟩ := r1
    exact ⟨v, w, rfl, q.nx _ H1 _ m1 s1 (((rs.ext s1.imm).set i rA).set j rB) rm1 h2⟩⟩
/-- o[i] = v of a list -/
def asL (m : M) (d : D) (k : Addr → List D → Prop) : Prop := match d with
  | .ref a => match m a with
    | some (.lst ds) => k a ds
    | _ => False
  | _ => False
theorem asL_ref {m : M} {a : Addr} {ds : List D} {k : Addr → List D → Prop} (h : m a = some (.lst ds)) : asL m (.ref a) k = k a ds := by simp only [asL, h]
theorem asL_out {m : M} {d : D} {k : Addr → List D → Prop} (h : asL m d k) : ∃ a ds, d = .ref a ∧ m a = some (.lst ds) ∧ k a ds := by
  unfold asL at h
  split at h
  · rename_i a
    split at h
    · rename_i ds hm
      exact ⟨a, ds, rfl, hm, h⟩
    · exact h.elim
  · exact h.elim
def gSet (to ti : XE) : XG := fun d e m Q => to e m fun o m1 => ti e m1 fun i m2 => asL m2 o fun p ds => asI i fun k => oat (ixN ds.length k) fun j => Q e (updM m2 p (.lst (ds.set j d)))
theorem xg_set {vs : List Nat} {o i : Expr} {to ti : XE} {pos : Pos} (ho : PE X o (low X.K to)) (hi : PE X i (low X.K ti))
    (ha : ∀ v, assign (.Subscript o i pos) X.env v = (do
      let ov ← holding [v] (eval o X.env)
      let iv ← holding [v, ov] (eval i X.env)
      standAt pos
      holding [v, ov, iv] (setItem ov iv v)
      release [v, ov, iv] []) := by intro _; rfl) : PG X (.Subscript o i pos) (lowG X.K vs (gSet to ti)) :=
  PG.imp (pg_sub ho hi set_list ha) fun v σ H QV ⟨d, e, m, Q, r, rs, rm, h, q⟩ => ⟨e, m, _, rs, rm, h, fun vo H1 o m1 s1 r1 rm1 h1 => ⟨e, m1, _, rs.ext s1.imm, rm1, h1, fun vi H2 i m2 s2 r2 rm2 h2 => by
    obtain ⟨p, ds, rfl, hm, h2⟩ := asL_out h2
    obtain ⟨k, rfl, h2⟩ := asI_out h2
    obtain ⟨j, hj, h2⟩ := oat_out h2
    simp only [Rep] at r1 r2
    obtain ⟨ho, h3, xs, rfl, rx⟩ := rm2 p _ hm
    have st : Stp H2 m2 (upd H2 p (.lst (xs.set j v))) (updM m2 p (.lst (ds.set j d))) := .write h3 (fun z => z) hm
    refine ⟨p, xs, k, j, r1, r2, h3, by rw [← rx.len]; exact hj, q σ _ e _ rfl (s1.trans (s2.trans st)) (rs.ext (s1.trans (s2.trans st)).imm) (rm2.upd st.imm ⟨_, rfl, ?_⟩) h2⟩
    exact (rx.set j (r.ext (s1.trans s2).imm)).ext st.imm⟩⟩
/-- xs.append(e) -/
def xApp (to te : XE) : XE := fun e m Q => to e m fun o m1 => asL m1 o fun _ _ => te e m1 fun y m2 => asL m2 o fun p ds => ds.length < sizeLine ∧ Q .non (updM m2 p (.lst (ds ++ [y])))
theorem xe_append {o ex : Expr} {to te : XE} {apos cpos : Pos} (ho : PE X o (low X.K to)) (he : PE X ex (low X.K te))
    (hbase : attributeBase o "append" X.env (eval o X.env) = eval o X.env := by rfl)
    (hfew : ((backTo cpos (starEach [ex] X.env)).all (fun x => !x.1) && (backToKw cpos (keywordEach [] X.env)).all (fun x => x.1.isSome)
      && decide ([ex].length + ([] : List Keyword).length + (if ([] : List Keyword).isEmpty then 0 else 1) < 30)) = true := by rfl)
    (hline : (apos.endLine == cpos.line) = true := by rfl) (hs : starEach [ex] X.env = (false, eval ex X.env) :: starEach [] X.env := by rfl) (hplain : (backTo cpos (starEach [] X.env)).any (·.1) = false := by rfl) :
    PE X (.Call (.Attribute o "append" apos) [ex] [] cpos) (low X.K (xApp to te)) :=
  PE.imp (pe_bm PySem.F.plainAttrs_list PySem.F.slot_list_append PySem.F.type_list_append mt_append ho (pa_cons he pa_nil hs) hbase hfew hline hs hplain) fun σ H QV ⟨e, m, Q, rs, rm, h, q⟩ => ⟨e, m, _, rs, rm, h, fun vo H1 o m1 s1 r1 rm1 h1 => by
    obtain ⟨p, ds, rfl, hm, h1⟩ := asL_out h1
    simp only [Rep] at r1
    obtain ⟨ho, h3, xs, rfl, rx⟩ := rm1 p _ hm
    refine ⟨by subst r1; exact .inl ⟨rfl, xs, .inl (.inl h3)⟩, e, m1, _, rs.ext s1.imm, rm1, h1, fun y H2 d m2 s2 r2 rm2 h2 => ?_⟩
    obtain ⟨p', ds', ep, hm', hl, h2⟩ := asL_out h2
    cases ep
    obtain ⟨ho', h4, ys, rfl, ry⟩ := rm2 p _ hm'
    have st : Stp H2 m2 (upd H2 p (.lst (ys ++ [y]))) (updM m2 p (.lst (ds' ++ [d]))) := .write h4 (fun z => z) hm'
    refine ⟨p, ys, y, r1, rfl, h4, by rw [← ry.len]; exact hl, q _ _ .non _ (s1.trans (s2.trans st)) (by simp only [Rep]) (rm2.upd st.imm ⟨_, rfl, ?_⟩) h2⟩
    exact (ry.append (by simp only [Reps]; exact ⟨y, [], rfl, r2, rfl⟩)).ext st.imm⟩
end
end Sd

set_option Elab.async false
set_option linter.all false
set_option maxRecDepth 100000
set_option maxHeartbeats 1000000
namespace Sd
open PySem PySem.Spec PyProof.Rows L2
/-! ## what a for walks: the items, and what must hold of what is known at each turn -/
structure Wk where
  xs : List D
  ok : M → Prop := fun _ => True
abbrev XI := En → M → (Wk → M → Prop) → Prop
/-- J walks the items of w, whatever is known grows from H -/
def Walks (K : PySem.W.Frag) (H0 : Hp) (J : It) (w : Wk) : Prop :=
  ∀ i H m, ImmX H0 H → RepM K H m → w.ok m → (w.xs.length ≤ i → J.stop i H) ∧ (i < w.xs.length → J.go i H ∧ ∀ x H', J.yld i H x H' → Stp H m H' m ∧ RepM K H' m ∧ ∃ d, w.xs[i]? = some d ∧ Rep K H' d x)
def lowI (K : PySem.W.Frag) (t : XI) : TI := fun σ H R => ∃ e m Q, RepS K H e σ ∧ RepM K H m ∧ t e m Q ∧ ∀ J H' w m', Stp H m H' m' → RepM K H' m' → Walks K H' J w → Q w m' → R J H'
section
variable {X : Cx}
theorem PI.imp {tg e : Expr} {t u : TI} (h : PI X tg e t) (i : ∀ σ H R, u σ H R → t σ H R) : PI X tg e u := ⟨fun pins s σ H R I q => h.run pins s σ H R I (i σ H R q)⟩
def xLoop (ok : M → Prop) (g : XG) (tb : XS) (N : Xnds) : List D → En → M → Prop
  | [], e, m => ok m ∧ N.nx e m
  | d :: ds, e, m => ok m ∧ g d e m fun e1 m1 => tb ⟨xLoop ok g tb N ds, N.rt, N.nx, xLoop ok g tb N ds⟩ e1 m1
def xFor (wi : XI) (g : XG) (tb : XS) : XS := fun D e m => wi e m fun w m1 => xLoop w.ok g tb D w.xs e m1
theorem xs_for {tg iter : Expr} {body : List Stmt} {wi : XI} {g : XG} {vs : List Nat} {tb : XS} {pos : Pos} (hp : PassesOwn (model X.prog X.w) X.A X.env X.xe) (hc : X.calm = true) (hi : PI X tg iter (lowI X.K wi)) (hg : PG X tg (lowG X.K vs g)) (hb : PSs X body (lowS X.K tb))
    (hs : ∀ x, foldedSetIterable iter X.env x = pure x := by intro _; rfl) : PS X (.For tg iter body [] pos) (lowS X.K (xFor wi g tb)) :=
  PS.imp (ps_for hp hc hi hg hb hs) fun D σ H ⟨e, m, D', rs, rm, h, q⟩ => ⟨e, m, _, rs, rm, h, fun J H1 w m1 s1 rm1 wk h1 => by
    refine ⟨fun i r σ H' => ∃ e m, i + r = w.xs.length ∧ Stp H1 m1 H' m ∧ RepS X.K H' e σ ∧ RepM X.K H' m ∧ xLoop w.ok g tb D' (w.xs.drop i) e m, ⟨w.xs.length, e, m1, by omega, .refl, rs.ext s1.imm, rm1, by rw [List.drop_zero]; exact h1⟩, fun i r σ2 H2 hw => ?_⟩
    obtain ⟨e2, m2, hl, s2, rs2, rm2, h2⟩ := hw
    by_cases hlt : i < w.xs.length
    · rw [List.drop_eq_getElem_cons hlt] at h2
      obtain ⟨ok, h2⟩ := h2
      obtain ⟨_, hgo⟩ := wk i H2 m2 s2.imm rm2 ok
      obtain ⟨go, yl⟩ := hgo hlt
      refine .inr ⟨go, fun σ3 H3 => ∃ e3 m3, Stp H1 m1 H3 m3 ∧ RepS X.K H3 e3 σ3 ∧ RepM X.K H3 m3 ∧ xLoop w.ok g tb D' (w.xs.drop (i + 1)) e3 m3, fun σ3 H3 ⟨e3, m3, s3, rs3, rm3, h3⟩ => ⟨r - 1, by omega, e3, m3, by omega, s3, rs3, rm3, h3⟩, fun x H3 y => ?_⟩
      obtain ⟨s3, rm3, d, hd, rd⟩ := yl x H3 y
      rw [List.getElem?_eq_getElem hlt] at hd
      cases hd
      refine ⟨_, e2, m2, _, rd, rs2.ext s3.imm, rm3, h2, fun σ4 H4 e4 m4 _ s4 rs4 rm4 h4 => ⟨e4, m4, _, rs4, rm4, h4, ?_⟩⟩
      have S4 := s2.trans (s3.trans s4)
      have Q4 := (q.step s1).step S4
      exact ⟨fun σ5 H5 e5 m5 s5 rs5 rm5 h5 => ⟨e5, m5, S4.trans s5, rs5, rm5, h5⟩, Q4.rt, Q4.nx, fun σ5 H5 e5 m5 s5 rs5 rm5 h5 => ⟨e5, m5, S4.trans s5, rs5, rm5, h5⟩⟩
    · rw [List.drop_eq_nil_of_le (by omega)] at h2
      exact .inl ⟨(wk i H2 m2 s2.imm rm2 h2.1).1 (by omega), q.nx σ2 H2 e2 m2 (s1.trans s2) rs2 rm2 h2.2⟩⟩
/-- a for by what holds ahead of each rest -/
theorem xLoop_ind {ok : M → Prop} {g : XG} {tb : XS} {N : Xnds} (I : List D → En → M → Prop) (h0 : ∀ e m, I [] e m → ok m ∧ N.nx e m)
    (h1 : ∀ d ds e m (R : En → M → Prop), I (d :: ds) e m → (∀ e m, I ds e m → R e m) → ok m ∧ g d e m fun e1 m1 => tb ⟨R, N.rt, N.nx, R⟩ e1 m1) : ∀ xs e m, I xs e m → xLoop ok g tb N xs e m
  | [], e, m, h => h0 e m h
  | d :: ds, e, m, h => h1 d ds e m _ h fun e1 m1 => xLoop_ind I h0 h1 ds e1 m1
def asT (d : D) (k : List D → Prop) : Prop := match d with | .tup ds => k ds | _ => False
@[simp] theorem asT_tup {ds : List D} {k : List D → Prop} : asT (.tup ds) k = k ds := rfl
theorem asT_out {d : D} {k : List D → Prop} (h : asT d k) : ∃ ds, d = .tup ds ∧ k ds := by
  unfold asT at h; split at h
  · exact ⟨_, rfl, h⟩
  · exact h.elim
def iTp (t : XE) : XI := fun e m R => t e m fun x m1 => asT x fun ds => R ⟨ds, fun _ => True⟩ m1
def iLst (t : XE) : XI := fun e m R => t e m fun x m1 => asL m1 x fun p ds => R ⟨ds, fun m => m p = some (.lst ds)⟩ m1
theorem xi_tup {tg l : Expr} {t : XE} (h : PE X l (low X.K t)) : PI X tg l (lowI X.K (iTp t)) :=
  PI.imp (pi_tup h) fun σ H R ⟨e, m, Q, rs, rm, h, q⟩ => ⟨e, m, _, rs, rm, h, fun v H1 d m1 s1 r1 rm1 h0 => by
    obtain ⟨ds, ed, h1⟩ := asT_out h0
    subst ed
    simp only [Rep] at r1
    obtain ⟨a, xs, rfl, sq, rx⟩ := r1
    refine ⟨a, rfl, ⟨xs, sq⟩, q _ H1 _ m1 s1 rm1 (fun i H2 m2 im rm2 _ => ?_) h1⟩
    have sq2 := im.seq sq
    refine ⟨fun hl => ⟨xs, sq2, by rw [← rx.len]; exact hl⟩, fun hl => ?_⟩
    obtain ⟨x, hx, rd⟩ := rx.get (List.getElem?_eq_getElem hl)
    refine ⟨⟨xs, x, sq2, hx⟩, fun y H3 ⟨eh, hy⟩ => ?_⟩
    subst eh
    have := hy xs sq2
    rw [hx] at this; cases this
    exact ⟨.refl, rm2, _, List.getElem?_eq_getElem hl, rd.ext im⟩⟩
theorem xi_list {tg l : Expr} {t : XE} (h : PE X l (low X.K t)) : PI X tg l (lowI X.K (iLst t)) :=
  PI.imp (pi_list h) fun σ H R ⟨e, m, Q, rs, rm, h, q⟩ => ⟨e, m, _, rs, rm, h, fun v H1 d m1 s1 r1 rm1 h1 => by
    obtain ⟨p, ds, ed, hm, h9⟩ := asL_out h1
    subst ed
    simp only [Rep] at r1
    obtain ⟨ho, h3, xs, rfl, rx⟩ := rm1 p _ hm
    refine ⟨p, r1, ⟨xs, .inl (.inl h3)⟩, q _ H1 _ m1 s1 rm1 (fun i H2 m2 im rm2 ok => ?_) h9⟩
    obtain ⟨ho2, h4, ys, rfl, ry⟩ := rm2 p _ ok
    have sq2 : SqL X.K H2 p ys := .inl (.inl h4)
    refine ⟨fun hl => ⟨ys, sq2, by rw [← ry.len]; exact hl⟩, fun hl => ?_⟩
    obtain ⟨x, hx, rd⟩ := ry.get (List.getElem?_eq_getElem hl)
    refine ⟨⟨ys, x, sq2, hx⟩, fun y H3 ⟨eh, hy⟩ => ?_⟩
    subst eh
    have := hy ys sq2
    rw [hx] at this; cases this
    exact ⟨.refl, rm2, _, List.getElem?_eq_getElem hl, rd⟩⟩
/-- the ints lo .. hi - 1 -/
def rangeD (lo hi : Int) : List D := (List.range (hi - lo).toNat).map fun i => .int (lo + (i : Nat))
def RgOk (i : Int) : Prop := -(2 ^ 62) ≤ i ∧ i < 2 ^ 62
theorem walks_range {K : PySem.W.Frag} {H : Hp} {lo : Int} {n : Nat} : Walks K H (Itr lo n) ⟨(List.range n).map fun i => .int (lo + (i : Nat)), fun _ => True⟩ := by
  intro i H2 m2 im rm2 _
  simp only [List.length_map, List.length_range]
  refine ⟨fun h => h, fun h => ⟨h, fun x H3 ⟨eh, ex⟩ => ?_⟩⟩
  subst eh ex
  exact ⟨.refl, rm2, .int (lo + i), by rw [List.getElem?_map, List.getElem?_range h]; rfl, by simp only [Rep]⟩
def iRg1 (t : XA) : XI := fun e m R => t e m fun ds m1 => one ds fun x => asI x fun j => RgOk j ∧ R ⟨rangeD 0 j, fun _ => True⟩ m1
theorem xi_range1 {tg a : Expr} {t : XA} {p pos : Pos} (hg : Gl X "range") (hm : X.mg "range" = none) (h : PA X [a] (lowA X.K t)) (hs : starEach [a] X.env = [(false, eval a X.env)] := by rfl) :
    PI X tg (.Call (.Name "range" p) [a] [] pos) (lowI X.K (iRg1 t)) :=
  PI.imp (pi_range1 hg hm h hs) fun σ H R ⟨e, m, Q, rs, rm, h, q⟩ => ⟨e, m, _, rs, rm, h, fun vs H1 ds m1 s1 r1 rm1 h1 => by
    obtain ⟨x, ex, h2⟩ := one_out h1
    obtain ⟨j, ed, h3⟩ := asI_out h2
    subst ex ed
    simp only [Reps, Rep] at r1
    obtain ⟨v, _, rfl, rfl, rfl⟩ := r1
    refine ⟨j, rfl, h3.1.1, h3.1.2, q _ H1 _ m1 s1 rm1 ?_ h3.2⟩
    have := walks_range (K := X.K) (H := H1) (lo := 0) (n := j.toNat)
    unfold rangeD
    simpa using this⟩
def iRg2 (t : XA) : XI := fun e m R => t e m fun ds m1 => two ds fun x y => asI x fun i => asI y fun j => (RgOk i ∧ RgOk j) ∧ R ⟨rangeD i j, fun _ => True⟩ m1
theorem xi_range2 {tg a b : Expr} {t : XA} {p pos : Pos} (hg : Gl X "range") (hm : X.mg "range" = none) (h : PA X [a, b] (lowA X.K t)) (hs : starEach [a, b] X.env = [(false, eval a X.env), (false, eval b X.env)] := by rfl) (hs2 : starEach [b] X.env = [(false, eval b X.env)] := by rfl) :
    PI X tg (.Call (.Name "range" p) [a, b] [] pos) (lowI X.K (iRg2 t)) :=
  PI.imp (pi_range2 hg hm h hs hs2) fun σ H R ⟨e, m, Q, rs, rm, h, q⟩ => ⟨e, m, _, rs, rm, h, fun vs H1 ds m1 s1 r1 rm1 h1 => by
    obtain ⟨x, y, ex, h2⟩ := two_out h1
    obtain ⟨i, ei, h3⟩ := asI_out h2
    obtain ⟨j, ej, h4⟩ := asI_out h3
    subst ex ei ej
    simp only [Reps, Rep] at r1
    obtain ⟨v, _, rfl, rfl, w, _, rfl, rfl, rfl⟩ := r1
    exact ⟨i, j, rfl, ⟨h4.1.1.1, h4.1.1.2, h4.1.2.1, h4.1.2.2⟩, q _ H1 _ m1 s1 rm1 walks_range h4.2⟩⟩
def iRg3 (t : XA) : XI := fun e m R => t e m fun ds m1 => tri ds fun x y z => asI x fun i => asI y fun j => asI z fun k => ∃ n, RgC i j k n ∧ R ⟨(List.range n).map fun l => .int (i + (l : Nat) * k), fun _ => True⟩ m1
theorem xi_range3 {tg a b c : Expr} {t : XA} {p pos : Pos} (hg : Gl X "range") (hm : X.mg "range" = none) (h : PA X [a, b, c] (lowA X.K t))
    (hs : starEach [a, b, c] X.env = (false, eval a X.env) :: starEach [b, c] X.env := by rfl) (hpl : (backTo pos (starEach [b, c] X.env)).any (·.1) = false := by rfl) :
    PI X tg (.Call (.Name "range" p) [a, b, c] [] pos) (lowI X.K (iRg3 t)) :=
  PI.imp (pi_range3 hg hm h hs hpl) fun σ H R ⟨e, m, Q, rs, rm, h, q⟩ => ⟨e, m, _, rs, rm, h, fun vs H1 ds m1 s1 r1 rm1 h1 => by
    obtain ⟨x, y, z, ex, h2⟩ := tri_out h1
    obtain ⟨i, ei, h3⟩ := asI_out h2
    obtain ⟨j, ej, h4⟩ := asI_out h3
    obtain ⟨k, ek, h5⟩ := asI_out h4
    subst ex ei ej ek
    simp only [Reps, Rep] at r1
    obtain ⟨v, _, rfl, rfl, w, _, rfl, rfl, u, _, rfl, rfl, rfl⟩ := r1
    obtain ⟨n, hn, h6⟩ := h5
    refine ⟨i, j, k, n, rfl, hn, q _ H1 _ m1 s1 rm1 ?_ h6⟩
    intro i' H2 m2 im rm2 _
    simp only [List.length_map, List.length_range]
    refine ⟨fun h => h, fun h => ⟨h, fun x H3 ⟨eh, ex⟩ => ?_⟩⟩
    subst eh ex
    exact ⟨.refl, rm2, .int (i + (i' : Nat) * k), by rw [List.getElem?_map, List.getElem?_range h]; rfl, by simp only [Rep]⟩⟩
/-- while -/
def xWhile (c : XT) (tb : XS) : XS := fun D e m => ∃ W : Nat → En → M → Prop, (∃ n, W n e m) ∧ ∀ n e m, W n e m → c e m fun b m1 => if b = true then ∃ N : En → M → Prop, (∀ e' m', N e' m' → ∃ n', n' < n ∧ W n' e' m') ∧ tb ⟨N, D.rt, D.nx, N⟩ e m1 else D.nx e m1
theorem xs_while {c : Expr} {body : List Stmt} {tc : XT} {tb : XS} {pos : Pos} (hp : PassesOwn (model X.prog X.w) X.A X.env X.xe) (hc : PT X c (lowT X.K tc)) (hb : PSs X body (lowS X.K tb)) : PS X (.While c body [] pos) (lowS X.K (xWhile tc tb)) :=
  PS.imp (ps_while hp hc hb) fun D σ H ⟨e, m, D', rs, rm, ⟨W, ⟨n0, w0⟩, turn⟩, q⟩ => by
    refine ⟨fun n σ1 H1 => ∃ e1 m1, Stp H m H1 m1 ∧ RepS X.K H1 e1 σ1 ∧ RepM X.K H1 m1 ∧ W n e1 m1, ⟨n0, e, m, .refl, rs, rm, w0⟩, fun n σ1 H1 ⟨e1, m1, s1, rs1, rm1, w1⟩ => ?_⟩
    refine ⟨e1, m1, _, rs1, rm1, turn n e1 m1 w1, fun b H2 m2 s2 rm2 h2 => ?_⟩
    cases b with
    | false => exact q.nx σ1 H2 e1 m2 (s1.trans s2) (rs1.ext s2.imm) rm2 h2
    | true =>
      obtain ⟨N, hN, h2⟩ := h2
      have Q2 := q.step (s1.trans s2)
      refine ⟨fun σ3 H3 => ∃ e3 m3, Stp H m H3 m3 ∧ RepS X.K H3 e3 σ3 ∧ RepM X.K H3 m3 ∧ N e3 m3, fun σ3 H3 ⟨e3, m3, s3, rs3, rm3, h3⟩ => ?_, e1, m2, _, rs1.ext s2.imm, rm2, h2, ?_⟩
      · obtain ⟨n', hn, w3⟩ := hN e3 m3 h3
        exact ⟨n', hn, e3, m3, s3, rs3, rm3, w3⟩
      · exact ⟨fun σ5 H5 e5 m5 s5 rs5 rm5 h5 => ⟨e5, m5, s1.trans (s2.trans s5), rs5, rm5, h5⟩, Q2.rt, Q2.nx, fun σ5 H5 e5 m5 s5 rs5 rm5 h5 => ⟨e5, m5, s1.trans (s2.trans s5), rs5, rm5, h5⟩⟩
/-! ## comprehensions -/
def wipeD (e : En) : List Nat → En
  | [] => e
  | v :: vs => (wipeD e vs).set v none
theorem RepS.none {K : PySem.W.Frag} {H : Hp} {e : En} {σ : L2.St} (r : RepS K H e σ) (i : Nat) (o : Option V) : RepS K H (e.set i none) (σ.set i o) := by
  refine ⟨by rw [List.length_set, List.length_set]; exact r.1, fun j w h => ?_⟩
  by_cases z : i = j
  · subst z
    by_cases hl : i < e.length
    · rw [List.getElem?_set_self hl] at h; cases h
    · rw [List.getElem?_eq_none (by rw [List.length_set]; omega)] at h; cases h
  · rw [List.getElem?_set_ne z] at h
    obtain ⟨u, h1, h2⟩ := r.2 j w h
    exact ⟨u, by rw [List.getElem?_set_ne z]; exact h1, h2⟩
theorem RepS.wipe {K : PySem.W.Frag} {H : Hp} {e : En} {σ : L2.St} (r : RepS K H e σ) : ∀ vs : List Nat, RepS K H (wipeD e vs) (wipe σ vs)
  | [] => r
  | v :: vs => (RepS.wipe r vs).none v _
def xYes : XT := fun _ m Q => Q true m
theorem xts_nil : PTs X [] (lowT X.K xYes) := ⟨fun pins s σ H Q I ⟨e, m, Q', rs, rm, h, q⟩ => pts_nil.run pins s σ H Q I (q true H m .refl rm h)⟩
theorem xts_one {c : Expr} {t : XT} (h : PT X c (lowT X.K t)) : PTs X [c] (lowT X.K t) := pts_one h
def xLcG (ok : M → Prop) (g : XG) (tt : XT) (te : XE) (e : En) (Q : List D → M → Prop) : List D → List D → M → Prop
  | [], acc, m => ok m ∧ Q acc m
  | d :: ds, acc, m => ok m ∧ g d e m fun e1 m1 => tt e1 m1 fun b m2 => if b = true then te e1 m2 fun y m3 => acc.length < sizeLine ∧ xLcG ok g tt te e Q ds (acc ++ [y]) m3 else xLcG ok g tt te e Q ds acc m2
theorem xLcG_ind {ok : M → Prop} {g : XG} {tt : XT} {te : XE} {e : En} {Q : List D → M → Prop} (I : List D → List D → M → Prop) (h0 : ∀ acc m, I [] acc m → ok m ∧ Q acc m)
    (h1 : ∀ d ds acc m (R : List D → M → Prop), I (d :: ds) acc m → (∀ acc m, I ds acc m → R acc m) → ok m ∧ g d e m fun e1 m1 => tt e1 m1 fun b m2 => if b = true then te e1 m2 fun y m3 => acc.length < sizeLine ∧ R (acc ++ [y]) m3 else R acc m2) : ∀ xs acc m, I xs acc m → xLcG ok g tt te e Q xs acc m
  | [], acc, m, h => h0 acc m h
  | d :: ds, acc, m, h => h1 d ds acc m _ h fun acc1 m1 => xLcG_ind I h0 h1 ds acc1 m1
/-- a comprehension that changes nothing: f tells what an item comes to, or that it is left out -/
theorem xLcG_pure {ok : M → Prop} {g : XG} {tt : XT} {te : XE} {e : En} {Q : List D → M → Prop} {m : M} (f : D → Option D) (hok : ok m) :
    ∀ (xs acc : List D), (∀ d ∈ xs, ∀ R : Option D → M → Prop, R (f d) m → g d e m fun e1 m1 => tt e1 m1 fun b m2 => if b = true then te e1 m2 fun y m3 => R (some y) m3 else R none m2) →
      acc.length + xs.length < sizeLine → Q (acc ++ xs.filterMap f) m → xLcG ok g tt te e Q xs acc m
  | [], acc, h, hl, q => ⟨hok, by simpa using q⟩
  | d :: ds, acc, h, hl, q => by
    refine ⟨hok, h d List.mem_cons_self (fun o m' => match o with | some y => acc.length < sizeLine ∧ xLcG ok g tt te e Q ds (acc ++ [y]) m' | none => xLcG ok g tt te e Q ds acc m') ?_⟩
    have hd : ∀ c ∈ ds, ∀ R : Option D → M → Prop, R (f c) m → g c e m fun e1 m1 => tt e1 m1 fun b m2 => if b = true then te e1 m2 fun y m3 => R (some y) m3 else R none m2 := fun c hc => h c (List.mem_cons_of_mem _ hc)
    rw [List.length_cons] at hl
    cases e : f d with
    | none =>
      rw [List.filterMap_cons_none e] at q
      exact xLcG_pure f hok ds acc hd (by omega) q
    | some y =>
      rw [List.filterMap_cons_some e] at q
      exact ⟨by omega, xLcG_pure f hok ds (acc ++ [y]) hd (by simp; omega) (by simpa using q)⟩
def xLc (wi : XI) (g : XG) (tt : XT) (te : XE) (vs : List Nat) : XE := fun e m Q => wi e m fun w m1 => xLcG w.ok g tt te (wipeD e vs) (fun acc m2 => ∀ p, m2 p = none → Q (.ref p) (updM m2 p (.lst acc))) w.xs [] m1
theorem wipe_wipe {σ : L2.St} : ∀ vs : List Nat, wipe (wipe σ vs) vs = wipe σ vs := by
  have key : ∀ (vs ws : List Nat) (τ : L2.St), (∀ v ∈ ws, v ∈ vs) → wipe (wipe τ ws) vs = wipe τ vs := by
    intro vs ws
    induction ws with
    | nil => intro τ _; rfl
    | cons w ws ih =>
      intro τ h
      show wipe ((wipe τ ws).set w none) vs = _
      rw [wipe_set (h w List.mem_cons_self)]
      exact ih τ fun v hv => h v (List.mem_cons_of_mem _ hv)
  exact fun vs => key vs vs σ fun _ h => h
theorem low_lc {wi : XI} {g : XG} {tt : XT} {te : XE} {vs : List Nat} {σ H QV} (h : low X.K (xLc wi g tt te vs) σ H QV) : tLc (lowI X.K wi) (lowG X.K vs g) (lowT X.K tt) (low X.K te) vs σ H QV := by
  obtain ⟨e, m, Q, rs, rm, h, q⟩ := h
  refine ⟨e, m, _, rs, rm, h, fun J H1 w m1 s1 rm1 wk h1 => ?_⟩
  intro p hp
  have hpm := rm1.none hp
  refine ⟨fun i r H' => ∃ acc av m', i + r = w.xs.length ∧ Stp H1 m1 H' m' ∧ m' p = none ∧ H' p = some (.lst av) ∧ Reps X.K H' acc av ∧ RepM X.K H' m' ∧ xLcG w.ok g tt te (wipeD e vs) _ (w.xs.drop i) acc m', ⟨w.xs.length, [], [], m1, by omega, .new hp, hpm, upd_same, by simp only [Reps], rm1.new hp, by rw [List.drop_zero]; exact h1⟩, fun i r H2 hw => ?_⟩
  obtain ⟨acc, av, m2, hl, st, np, hv, ra, rm2, h2⟩ := hw
  by_cases hlt : i < w.xs.length
  · rw [List.drop_eq_getElem_cons hlt] at h2
    obtain ⟨ok, h2⟩ := h2
    obtain ⟨_, hgo⟩ := wk i H2 m2 st.imm rm2 ok
    obtain ⟨go, yl⟩ := hgo hlt
    refine .inr ⟨go, fun H3 => ∃ acc av m3, Stp H1 m1 H3 m3 ∧ m3 p = none ∧ H3 p = some (.lst av) ∧ Reps X.K H3 acc av ∧ RepM X.K H3 m3 ∧ xLcG w.ok g tt te (wipeD e vs) _ (w.xs.drop (i + 1)) acc m3, fun H3 ⟨acc, av, m3, h3⟩ => ⟨r - 1, by omega, acc, av, m3, by omega, h3⟩, fun x H3 y => ?_⟩
    obtain ⟨s3, rm3, d, hd, rd⟩ := yl x H3 y
    rw [List.getElem?_eq_getElem hlt] at hd
    cases hd
    refine ⟨_, _, m2, _, rd, (rs.ext (s1.trans (st.trans s3)).imm).wipe vs, rm3, h2, fun σ4 H4 e4 m4 w4 s4 rs4 rm4 h4 => ⟨w4.trans (wipe_wipe vs), ?_⟩⟩
    refine ⟨e4, m4, _, rs4, rm4, h4, fun b H5 m5 s5 rm5 h5 => ?_⟩
    have S5 := s3.trans (s4.trans s5)
    have p2 : H2 p ≠ none := by rw [hv]; exact fun z => nomatch z
    have v5 : H5 p = some (.lst av) := S5.fr p _ hv np (fun _ z => nomatch z)
    have n5 : m5 p = none := S5.dom p _ hv (fun _ z => nomatch z) np
    cases b with
    | false => exact ⟨acc, av, m5, st.trans S5, n5, v5, ra.ext S5.imm, rm5, h5⟩
    | true =>
      refine ⟨e4, m5, _, rs4.ext s5.imm, rm5, h5, fun z H6 d m6 s6 rz rm6 h6 => ?_⟩
      have S6 := S5.trans s6
      have v6 : H6 p = some (.lst av) := S6.fr p _ hv np (fun _ z => nomatch z)
      have n6 : m6 p = none := S6.dom p _ hv (fun _ z => nomatch z) np
      have ra6 := ra.ext S6.imm
      refine ⟨av, v6, by rw [← ra.len]; exact h6.1, acc ++ [d], av ++ [z], m6, ?_, n6, upd_same, ?_, ?_, h6.2⟩
      · refine ⟨fun a o ha i => ?_, fun a o ha i t => ?_, fun a o ha t => ?_, (st.trans S6).dom⟩
        · rw [upd_ne (ne_of_none ha hp)]; exact (st.trans S6).imm a o ha i
        · rw [upd_ne (ne_of_none ha hp)]; exact (st.trans S6).fr a o ha i t
        · rw [upd_ne (ne_of_none ha hp)]; exact (st.trans S6).stay a o ha t
      · have im : ImmX H6 (upd H6 p (.lst (av ++ [z]))) := fun a o ha i => by
          by_cases q : a = p
          · subst q; rw [v6] at ha; cases ha; exact i.elim
          · rw [upd_ne q]; exact ha
        exact (ra6.append (by simp only [Reps]; exact ⟨z, [], rfl, rz, rfl⟩)).ext im
      · intro a o ha
        obtain ⟨ho, h7, h8⟩ := rm6 a o ha
        have q : a ≠ p := by intro q; subst q; rw [n6] at ha; cases ha
        refine ⟨ho, by rw [upd_ne q]; exact h7, h8.ext fun a o ha i => ?_⟩
        by_cases q : a = p
        · subst q; rw [v6] at ha; cases ha; exact i.elim
        · rw [upd_ne q]; exact ha
  · rw [List.drop_eq_nil_of_le (by omega)] at h2
    refine .inl ⟨(wk i H2 m2 st.imm rm2 h2.1).1 (by omega), ?_⟩
    refine q _ H2 (.ref p) (updM m2 p (.lst acc)) (s1.trans ?_) (by simp only [Rep]) (fun a o ha => ?_) (h2.2 p np)
    · refine ⟨st.imm, st.fr, st.stay, fun a o ha t n => ?_⟩
      rw [updM_ne (ne_of_none ha hp)]; exact st.dom a o ha t n
    · by_cases z : a = p
      · subst z; rw [updM_same] at ha; cases ha; exact ⟨_, hv, av, rfl, ra⟩
      · rw [updM_ne z] at ha; exact rm2 a o ha
theorem xe_lc {elt tg iter : Expr} {ifs : List Expr} {scope : Scope} {own : List (Str × Nat)} {pos : Pos} {wi : XI} {g : XG} {tt : XT} {te : XE} (hc : X.calm = true) (hN : X.N.Nodup) (hi : PI X tg iter (lowI X.K wi)) (ok : BlkOk X.N X.env.scope scope own)
    (hg : ∀ (s : Shared) (H : Hp) (C : Addr) (cl : List (Str × Addr)) (fp : List Addr), PG (X.blk s H scope (compEnvC scope cl C X.env) fp) tg (lowG X.K (own.map (·.2)) g)) (ht : ∀ (s : Shared) (H : Hp) (C : Addr) (cl : List (Str × Addr)) (fp : List Addr), PTs (X.blk s H scope (compEnvC scope cl C X.env) fp) ifs (lowT X.K tt))
    (he : ∀ (s : Shared) (H : Hp) (C : Addr) (cl : List (Str × Addr)) (fp : List Addr), PE (X.blk s H scope (compEnvC scope cl C X.env) fp) elt (low X.K te)) (hs : ∀ x, foldedSetIterable iter X.env x = pure x := by intro _; rfl) :
    PE X (.ListComp elt [⟨tg, iter, ifs, 0⟩] scope pos) (low X.K (xLc wi g tt te (own.map (·.2)))) :=
  PE.imp (pe_lc hc hN hi ok hg ht he hs) fun σ H Q h => low_lc h
theorem xs_setLc {i : Nat} {y : Str} {py : Pos} {elt tg iter : Expr} {ifs : List Expr} {scope : Scope} {own : List (Str × Nat)} {pos spos : Pos} {wi : XI} {g : XG} {tt : XT} {te : XE} (hc : X.calm = true) (hN : X.N.Nodup) (hy : X.N[i]? = some y) (hyl : X.env.scope.names.lookup y = some .local)
    (hsw : swapsWith (.ListComp elt [⟨tg, iter, ifs, 0⟩] scope pos) (some (.Name y py)) spos.line X.env = pure true) (hi : PI X tg iter (lowI X.K wi)) (ok : BlkOk X.N X.env.scope scope own)
    (hg : ∀ (s : Shared) (H : Hp) (C : Addr) (cl : List (Str × Addr)) (fp : List Addr), PG (X.blk s H scope (compEnvC scope cl C X.env) fp) tg (lowG X.K (own.map (·.2)) g)) (ht : ∀ (s : Shared) (H : Hp) (C : Addr) (cl : List (Str × Addr)) (fp : List Addr), PTs (X.blk s H scope (compEnvC scope cl C X.env) fp) ifs (lowT X.K tt))
    (he : ∀ (s : Shared) (H : Hp) (C : Addr) (cl : List (Str × Addr)) (fp : List Addr), PE (X.blk s H scope (compEnvC scope cl C X.env) fp) elt (low X.K te)) (hs : ∀ x, foldedSetIterable iter X.env x = pure x := by intro _; rfl) :
    PS X (.Assign [.Name y py] (.ListComp elt [⟨tg, iter, ifs, 0⟩] scope pos) spos) (lowS X.K (xAsg (xLc wi g tt te (own.map (·.2))) (gNm i))) :=
  PS.imp (ps_setLc hc hN hy hyl hsw hi ok hg ht he hs) fun D σ H ⟨e, m, D', rs, rm, h, q⟩ => low_lc ⟨e, m, _, rs, rm, h, fun v H1 d m1 s1 r1 rm1 h1 => q.nx _ H1 _ m1 s1 ((rs.ext s1.imm).set i r1) rm1 h1⟩
end
end Sd

set_option Elab.async false
set_option linter.all false
set_option maxRecDepth 100000
set_option maxHeartbeats 1000000
namespace Sd
open PySem PySem.Spec PyProof.Rows L2
/-! ## enumerate of a tuple -/
def ItnT (K : PySem.W.Frag) (a : Addr) : It :=
  ⟨fun i H => ∃ (xs : List V) (x : V), SqT K H a xs ∧ xs[i]? = some x, fun i H v H' => ∃ T x, v = .ref T ∧ H T = none ∧ H' = upd H T (.tup [.int (i : Nat), x]) ∧ ∀ xs, SqT K H a xs → xs[i]? = some x,
    fun i H => ∃ xs : List V, SqT K H a xs ∧ xs.length ≤ i⟩
theorem turn_enumT {P : Program} {w : World} {K : PySem.W.Frag} {elts : List Expr} {kk : Nat} {tpos : Pos} (a en it : Addr) :
    Turn P w K (.Tuple elts kk tpos) (ItnT K a) [en, it] en (fun i h => (∃ old, IsEnum h en it ((i : Nat) : Int) old) ∧ h.IsTupleIter it a i ∧ en ≠ it) where
  mem := List.mem_cons_self
  obj := fun i h ⟨⟨old, he⟩, ⟨o, ho, hc, hd⟩, _⟩ b hb => by
    rcases List.mem_cons.mp hb with z | z
    · rw [z]; exact ⟨_, he, fun v q => nomatch q⟩
    · have z := List.mem_singleton.mp z
      exact ⟨o, by rw [z]; exact ho, fun v q => by rw [hd] at q; cases q⟩
  keep := fun i h h' ⟨⟨old, he⟩, hi, hne⟩ k => ⟨⟨old, k en List.mem_cons_self _ he⟩, hi.at fun o q => k it (by simp) o q, hne⟩
  item := by
    intro X hP hw hK hc i pins s σ H E I hf ⟨⟨old, he⟩, hit, hne⟩ ⟨xs, x, hq, hx⟩
    subst hP hw hK
    obtain ⟨its, rv, p, hz⟩ := I.tuple hq
    obtain ⟨u, hu, ru⟩ := rv.get hx
    have hlt : i < its.toArray.size := by rw [List.size_toArray]; exact (List.getElem?_eq_some_iff.mp hu).1
    have ht : s.heap.IsTuple a its.toArray := p
    have hai : a ≠ it := fun z => by
      obtain ⟨o, e1, c1, _⟩ := ht
      obtain ⟨o2, e2, c2, _⟩ := hit
      rw [z, e2] at e1; cases e1; rw [c2] at c1; exact absurd (Value.type.inj c1) (by decide)
    have hea : en ≠ a := fun z => by
      obtain ⟨o, e1, c1, _⟩ := ht
      rw [← z, show s.heap.get? en = some _ from he] at e1; cases e1; exact absurd (Value.type.inj c1) (by decide)
    have hel : en < s.heap.objs.size := Heap.lt_size he
    have hil : it < s.heap.objs.size := let ⟨_, q, _⟩ := hit; Heap.lt_size q
    refine wpAny_pyNext_enum_itemD (Draws.tuple (A := X.A.in1) (I.ok.hd hc) it a hai its.toArray) he ⟨hit, ht⟩ hlt hne (by simp [hne, hea]) fun y h' tk hy ho st hT hsz hk => ?_
    have ey : y = u := by
      have : its.toArray[i]? = some u := by simpa using hu
      rw [this] at hy; exact (Option.some.inj hy).symm
    subst ey
    refine ⟨_, rfl, wpAny_letOwnedTupleGo_enum (s := { s with heap := h', toks := tk + 1 }) ho fun h'' he' sb => ?_⟩
    have hT2 := (sb.2 _ (Nat.ne_of_gt hel)).trans hT
    have new : ObjOk X.prog X.w (upd H s.heap.objs.size (.tup [.int (i : Nat), x])) h'' s.heap.objs.size (.tup [.int (i : Nat), x]) :=
      ⟨by show 2 ≤ sizeLine; decide, [_, y], .cons ⟨_, rfl⟩ (.cons ru .nil), ⟨_, hT2, rfl, _, rfl⟩⟩
    have I1 : Inv X pins σ (upd H s.heap.objs.size (.tup [.int (i : Nat), x])) { s with heap := h'', toks := tk + 1 } :=
      I.turnedNew (ch := [en, it]) (fun b ob hb q => (sb.2 b (fun z => hb (by simp [z]))).trans (hk b ob (fun z => hb (by simp [z])) (fun z => hb (by simp [z])) q)) hf (Nat.le_refl _) new
    refine ⟨.ref s.heap.objs.size, _, I1, rfl, ⟨_, x, rfl, I.hok.fresh (Nat.le_refl _), rfl, fun ys hy => by rw [I.tuple_inj hy hq]; exact hx⟩, ⟨⟨y, ?_⟩, st.1.at fun o q => (sb.2 it (Ne.symm hne)).trans q, hne⟩, fun b hb => ?_⟩
    · rw [show ((i + 1 : Nat) : Int) = (i : Int) + 1 by omega]; exact he'
    · have hb' : b < s.heap.objs.size := by
        rcases List.mem_cons.mp hb with z | z
        · rw [z]; exact hel
        · rw [List.mem_singleton.mp z]; exact hil
      rw [upd_ne (Nat.ne_of_lt hb')]
      exact (hf b hb).1
  done := by
    intro X hP hw hK hc i pins s σ H E I hf ⟨⟨old, he⟩, hit, hne⟩ ⟨xs, hq, hx⟩
    subst hP hw hK
    obtain ⟨its, rv, p, hz⟩ := I.tuple hq
    have ht : s.heap.IsTuple a its.toArray := p
    obtain ⟨f0, f1, f2, f3, f4, f5⟩ := hf it (by simp)
    have hl := rv.length
    have hai : a ≠ it := fun z => by
      obtain ⟨o, e1, c1, _⟩ := ht
      obtain ⟨o2, e2, c2, _⟩ := hit
      rw [z, e2] at e1; cases e1; rw [c2] at c1; exact absurd (Value.type.inj c1) (by decide)
    -- an iterator that stands behind the end draws no more: told with i items
    have D : Draws X.prog X.w X.A.in1 it [it, a] i (fun j v => False) (fun j h => j = i ∧ h.IsTupleIter it a i ∧ h.IsTuple a its.toArray) :=
      { live := fun _ _ st => let ⟨o, ho, _⟩ := st.2.1; ⟨o, ho⟩
        frame := fun _ _ _ st hk => ⟨st.1, st.2.1.at fun o e => hk it (by simp) o e, let ⟨o, ho, r⟩ := st.2.2; ⟨o, hk a (by simp) o ho, r⟩⟩
        item := fun j s Q E hi st hQ => by obtain ⟨rfl, _⟩ := st; exact absurd hi (Nat.lt_irrefl _)
        done := fun s Q E st hE => wpAny_nextOf_tuple_end (I.ok.hd hc) st.2.1 st.2.2 (by simp; omega) hE }
    exact wpAny_pyNext_enum_endD D he ⟨rfl, hit, ht⟩ fun h' eb => ⟨rfl, I.turned (t' := s.toks) (fun b o hb q => eb b o hb q) f0 f1 f3 f4 f5⟩
  self := fun A i s Q E ⟨⟨_, he⟩, _⟩ h => wpAny_pyIter_enum he h
set_option maxHeartbeats 1000000 in
theorem meets_enumT (t : Addr) (its : Array Value) :
    Meets (Builtin.«enumerate.__new__» ⟨[.type "enumerate", .ref t], []⟩) (fun _ R s => s.heap.IsTuple t its ∧
      R (.ok (.ret (.ref (s.heap.push { cls := .type "tuple_iterator", data := .fields #[.ref t, .int 0 0] }).objs.size)))
        { s with heap := (s.heap.push { cls := .type "tuple_iterator", data := .fields #[.ref t, .int 0 0] }).push { cls := .type "enumerate", data := .fields #[.none, .bool false, .ref s.heap.objs.size, rawInt 0, .none, .none] } }) :=
  .of_wp fun prog w A R s h => by
    obtain ⟨hp, g, d, tk, os⟩ := s
    obtain ⟨h1, h⟩ := h
    have isSub := sub_enumerate
    obtain ⟨⟨c, dct, dt, sl⟩, hl, hc, n, hd⟩ := id h1
    replace hc : c = .type "tuple" := hc
    replace hd : dt = .seq its n := hd
    subst hc hd
    wp_walk using AutoSeq1.wpAny_loadPart' hl
    refine wpAny_stack_any fun st => wpAny_pure ?_
    split
    · rename_i c _ _ _ _ _
      cases (c == Value.type "enumerate")
      all_goals
        wp_walk using AutoSeq1.wpAny_loadPart' hl, wpAny_pyIter_tuple h1
        exact ⟨_, rfl, h⟩
    · wp_walk using AutoSeq1.wpAny_loadPart' hl, wpAny_pyIter_tuple h1
      exact ⟨_, rfl, h⟩
theorem call_enumT {prog : Program} {w : World} {A : Around} {E : Value → Shared → Prop} {s : Shared} {t : Addr} {its : Array Value} {Q : Value → Shared → Prop} (hT : s.heap.IsTuple t its)
    (h : ∀ h', IsEnum h' (s.heap.objs.size + 1) s.heap.objs.size 0 .none → h'.IsTupleIter s.heap.objs.size t 0 →
      (∀ b o, s.heap.get? b = some o → h'.get? b = some o) → Q (.ref (s.heap.objs.size + 1)) { s with heap := h' }) :
    wpAny (model prog w) A (call (.type "enumerate") [.ref t]) Q E s := by
  refine callType_new F.called_enumerate (by decide) (F.typeCall_enumerate_1 _) (F.newCall_enumerate_1 _) (fun obj => F.args_object_init_2 obj _) F.entry_enumerate_new (meets_enumT t its) ⟨hT, ?_⟩
  generalize ho : ({ cls := .type "tuple_iterator", data := .fields #[.ref t, .int 0 0] } : Obj) = o1
  have z1 : (s.heap.push o1).objs.size = s.heap.objs.size + 1 := Heap.size_push ..
  show _ ∧ _
  rw [z1]
  have g1 : (s.heap.push o1).get? s.heap.objs.size = some o1 := Heap.get?_push_size _ (by subst ho; rfl)
  have g2 : IsEnum ((s.heap.push o1).push { cls := .type "enumerate", data := .fields #[.none, .bool false, .ref s.heap.objs.size, rawInt 0, .none, .none] }) (s.heap.objs.size + 1) s.heap.objs.size 0 .none := by
    rw [← z1]; exact Heap.get?_push_size _ rfl
  exact ⟨⟨_, g2, rfl⟩, h _ g2 ⟨_, by subst ho; exact Heap.get?_push_of_some _ g1, rfl, rfl⟩ fun b o x => Heap.get?_push_of_some _ (Heap.get?_push_of_some _ x)⟩
section
variable {X : Cx}
def iEnuT (K : PySem.W.Frag) (ta : TA) : TI := fun σ H R => ta σ H fun vs H1 => ∃ a xs, vs = [.ref a] ∧ SqT K H1 a xs ∧ R (ItnT K a) H1
theorem pi_enumT {e : Expr} {ta : TA} {p pos tpos : Pos} {elts : List Expr} {kk : Nat} (hg : Gl X "enumerate") (hm : X.mg "enumerate" = none) (ha : PA X [e] ta) (hs : starEach [e] X.env = [(false, eval e X.env)] := by rfl) :
    PI X (.Tuple elts kk tpos) (.Call (.Name "enumerate" p) [e] [] pos) (iEnuT X.K ta) := by
  refine ⟨fun pins s σ H R I h => Call_ (ld_blt I hg hm boot_enumerate (PyProof.Rows.callWith_type1 (thn (ha.run pos pins s σ H _ I h) fun us s1 ⟨vs, H1, I1, r1, a, xs, ex, hq, q⟩ => ?_) hs rfl))⟩
  subst ex
  obtain ⟨u, rfl, ru⟩ := Vals.one r1
  cases ru
  obtain ⟨its, rv, p', hz⟩ := I1.tuple hq
  refine call_enumT (show s1.heap.IsTuple a its.toArray from p') fun h' he hit hk => wpAny_pyIter_enum he ?_
  refine ⟨s1.heap.objs.size + 1, [s1.heap.objs.size + 1, s1.heap.objs.size], _, _, H1, rfl, I1.kept (t' := s1.toks) hk, turn_enumT a (s1.heap.objs.size + 1) s1.heap.objs.size, ⟨⟨.none, he⟩, hit, Nat.succ_ne_self _⟩, fun b hb => ?_, q⟩
  have hle : s1.heap.objs.size ≤ b := by
    rcases List.mem_cons.mp hb with z | z
    · rw [z]; exact Nat.le_succ _
    · rw [List.mem_singleton.mp z]; exact Nat.le_refl _
  exact I1.fpOk hle (I1.hok.fresh hle)
/-- pairs of number and item -/
def enumD : Nat → List D → List D
  | _, [] => []
  | i, d :: ds => .tup [.int (i : Nat), d] :: enumD (i + 1) ds
theorem enumD_len : ∀ (i : Nat) (ds : List D), (enumD i ds).length = ds.length
  | _, [] => rfl
  | i, _ :: ds => by rw [enumD, List.length_cons, List.length_cons, enumD_len]
theorem enumD_get : ∀ (k : Nat) (ds : List D) (i : Nat) (d : D), ds[i]? = some d → (enumD k ds)[i]? = some (.tup [.int ((k + i : Nat) : Int), d])
  | _, [], _, _, h => by simp at h
  | k, c :: ds, 0, _, h => by simp at h; subst h; rfl
  | k, c :: ds, i + 1, _, h => by
    have := enumD_get (k + 1) ds i _ (by simpa using h)
    rw [enumD, List.getElem?_cons_succ, this, show k + 1 + i = k + (i + 1) by omega]
def iEnuD (t : XA) : XI := fun e m R => t e m fun ds m1 => one ds fun x => match x with
  | .tup es => R ⟨enumD 0 es, fun _ => True⟩ m1
  | _ => False
theorem xi_enumT {e : Expr} {t : XA} {p pos tpos : Pos} {elts : List Expr} {kk : Nat} (hg : Gl X "enumerate") (hm : X.mg "enumerate" = none) (ha : PA X [e] (lowA X.K t)) (hs : starEach [e] X.env = [(false, eval e X.env)] := by rfl) :
    PI X (.Tuple elts kk tpos) (.Call (.Name "enumerate" p) [e] [] pos) (lowI X.K (iEnuD t)) :=
  PI.imp (pi_enumT hg hm ha hs) fun σ H R ⟨e, m, Q, rs, rm, h, q⟩ => ⟨e, m, _, rs, rm, h, fun vs H1 ds m1 s1 r1 rm1 h1 => by
    obtain ⟨x, ex, h2⟩ := one_out h1
    subst ex
    split at h2
    · rename_i es
      simp only [Reps, Rep] at r1
      obtain ⟨v, _, rfl, ⟨a, xs, rfl, sq, rx⟩, rfl⟩ := r1
      refine ⟨a, xs, rfl, sq, q _ H1 _ m1 s1 rm1 (fun i H2 m2 im rm2 _ => ?_) h2⟩
      have sq2 := im.seq sq
      rw [enumD_len]
      refine ⟨fun hl => ⟨xs, sq2, by rw [← rx.len]; exact hl⟩, fun hl => ?_⟩
      obtain ⟨x, hx, rd⟩ := rx.get (List.getElem?_eq_getElem hl)
      refine ⟨⟨xs, x, sq2, hx⟩, fun y H3 ⟨T, z, ey, nT, eh, hy⟩ => ?_⟩
      have := hy xs sq2
      rw [hx] at this; cases this
      subst eh ey
      have st : Stp H2 m2 (upd H2 T (.tup [.int (i : Nat), x])) m2 := .new nT
      refine ⟨st, rm2.new nT, _, enumD_get 0 es i _ (List.getElem?_eq_getElem hl), ?_⟩
      simp only [Rep, Reps]
      exact ⟨T, _, rfl, .inl (.inl upd_same), .int (i : Nat), [x], rfl, by rw [Nat.zero_add], x, [], rfl, (rd.ext im).ext st.imm, rfl⟩
    · exact h2.elim⟩
end
end Sd

set_option Elab.async false
set_option linter.all false
set_option maxRecDepth 100000
set_option maxHeartbeats 1000000
namespace Sd
open PySem PySem.Spec PyProof.Rows L2
section
variable {X : Cx}
/-! ## built-in functions -/
def xCB (r : XC) (t : XA) : XE := fun e m Q => t e m fun ds m1 => r ds m1 Q
theorem low_cb {r : XC} {t : XA} {σ H QV} (h : low X.K (xCB r t) σ H QV) : tCB (lowC X.K r) (lowA X.K t) σ H QV := by
  obtain ⟨e, m, Q, rs, rm, h, q⟩ := h
  exact ⟨e, m, _, rs, rm, h, fun vs H1 ds m1 s1 r1 rm1 h1 => ⟨ds, m1, Q, r1, rm1, h1, fun v H2 d m2 s2 r2 rm2 h2 => q v H2 d m2 (s1.trans s2) r2 rm2 h2⟩⟩
section
variable {id T : String} {x : Str} {p pos : Pos} {ex : Expr} {es : List Expr} {t : XA} {r : XC}
theorem xe_cb (hc : CallR X (.builtin id) (lowC X.K r)) (hg : Gl X x) (hm : X.mg x = none) (hv : bootBuiltins x = some (.builtin id)) (ha : PA X (ex :: es) (lowA X.K t)) (hn : x ≠ "__name__" := by decide) (hdb : (x == ("__debug__" : Str)) = false := by decide)
    (he : starEach (ex :: es) X.env = (false, eval ex X.env) :: starEach es X.env := by rfl) (hpl : (backTo pos (starEach es X.env)).any (·.1) = false := by rfl) : PE X (.Call (.Name x p) (ex :: es) [] pos) (low X.K (xCB r t)) :=
  PE.imp (pe_callB hc hg hm hv ha hn hdb he hpl) fun σ H Q h => low_cb h
theorem xe_ct (hc : CallR X (.type T) (lowC X.K r)) (hg : Gl X x) (hm : X.mg x = none) (hv : bootBuiltins x = some (.type T)) (ha : PA X (ex :: es) (lowA X.K t)) (hn : x ≠ "__name__" := by decide) (hdb : (x == ("__debug__" : Str)) = false := by decide)
    (he : starEach (ex :: es) X.env = (false, eval ex X.env) :: starEach es X.env := by rfl) (hpl : (backTo pos (starEach es X.env)).any (·.1) = false := by rfl) : PE X (.Call (.Name x p) (ex :: es) [] pos) (low X.K (xCB r t)) :=
  PE.imp (pe_callTy hc hg hm hv ha hn hdb he hpl) fun σ H Q h => low_cb h
/-- a function of a module of the library, by its name -/
theorem xe_cm (hc : CallR X (.builtin id) (lowC X.K r)) (hg : Gl X x) (hm : X.mg x = some (.builtin id)) (ha : PA X (ex :: es) (lowA X.K t)) (hdb : (x == ("__debug__" : Str)) = false := by decide)
    (he : starEach (ex :: es) X.env = (false, eval ex X.env) :: starEach es X.env := by rfl) (hpl : (backTo pos (starEach es X.env)).any (·.1) = false := by rfl) : PE X (.Call (.Name x p) (ex :: es) [] pos) (low X.K (xCB r t)) :=
  PE.imp (pe_callMB hc hg hm ha hdb he hpl) fun σ H Q h => low_cb h
end
def xLen : XC := fun ds m Q => one ds fun x => oat (seqD m x) fun es => Q (.int es.length) m
theorem xc_len : CallR X (.builtin "len") (lowC X.K xLen) :=
  CallR.imp call_len_seq fun xs H QV ⟨ds, m, Q, r, rm, h, q⟩ => by
    obtain ⟨x, ex, h1⟩ := one_out h
    obtain ⟨es, ee, h2⟩ := oat_out h1
    subst ex
    simp only [Reps] at r
    obtain ⟨v, _, rfl, rv, rfl⟩ := r
    obtain ⟨a, ys, ea, sq, ry⟩ := seq_out rm rv ee
    exact ⟨a, ys, by rw [ea], sq, by rw [← ry.len]; exact q _ H (.int es.length) m .refl (by simp only [Rep]) rm h2⟩
def xAbs : XC := fun ds m Q => one ds fun x => asI x fun i => Q (.int i.natAbs) m
theorem xc_abs : CallR X (.builtin "abs") (lowC X.K xAbs) :=
  CallR.imp call_abs fun xs H QV ⟨ds, m, Q, r, rm, h, q⟩ => by
    obtain ⟨x, ex, h1⟩ := one_out h
    obtain ⟨i, ei, h2⟩ := asI_out h1
    subst ex ei
    simp only [Reps, Rep] at r
    obtain ⟨v, _, rfl, rfl, rfl⟩ := r
    refine ⟨i, rfl, ?_⟩
    rw [show (if i < 0 then -i else i) = (i.natAbs : Int) by omega]
    exact q _ H (.int i.natAbs) m .refl (by simp only [Rep]) rm h2
def x2I (g : Int → Int → D) : XC := fun ds m Q => two ds fun x y => asI x fun i => asI y fun j => Q (g i j) m
theorem xc_max2 (hc : X.calm = true) : CallR X (.builtin "max") (lowC X.K (x2I fun i j => .int (max i j))) :=
  CallR.imp (call_max2 hc) fun xs H QV ⟨ds, m, Q, r, rm, h, q⟩ => by
    obtain ⟨x, y, ex, h1⟩ := two_out h
    obtain ⟨i, ei, h2⟩ := asI_out h1
    obtain ⟨j, ej, h3⟩ := asI_out h2
    subst ex ei ej
    simp only [Reps, Rep] at r
    obtain ⟨v, _, rfl, rfl, w, _, rfl, rfl, rfl⟩ := r
    refine ⟨i, j, rfl, ?_⟩
    rw [show (if j > i then j else i) = max i j by omega]
    exact q _ H _ m .refl (by simp only [Rep]) rm h3
theorem xc_min2 (hc : X.calm = true) : CallR X (.builtin "min") (lowC X.K (x2I fun i j => .int (min i j))) :=
  CallR.imp (call_min2 hc) fun xs H QV ⟨ds, m, Q, r, rm, h, q⟩ => by
    obtain ⟨x, y, ex, h1⟩ := two_out h
    obtain ⟨i, ei, h2⟩ := asI_out h1
    obtain ⟨j, ej, h3⟩ := asI_out h2
    subst ex ei ej
    simp only [Reps, Rep] at r
    obtain ⟨v, _, rfl, rfl, w, _, rfl, rfl, rfl⟩ := r
    refine ⟨i, j, rfl, ?_⟩
    rw [show (if j < i then j else i) = min i j by omega]
    exact q _ H _ m .refl (by simp only [Rep]) rm h3
theorem xc_gcd : CallR X (.builtin "math.gcd") (lowC X.K (x2I fun i j => .int (Nat.gcd i.natAbs j.natAbs : Nat))) :=
  CallR.imp cr_gcd fun xs H QV ⟨ds, m, Q, r, rm, h, q⟩ => by
    obtain ⟨x, y, ex, h1⟩ := two_out h
    obtain ⟨i, ei, h2⟩ := asI_out h1
    obtain ⟨j, ej, h3⟩ := asI_out h2
    subst ex ei ej
    simp only [Reps, Rep] at r
    obtain ⟨v, _, rfl, rfl, w, _, rfl, rfl, rfl⟩ := r
    exact ⟨i, j, rfl, q _ H _ m .refl (by simp only [Rep]) rm h3⟩
/-- the least, the greatest of a list of ints -/
def minL : List Int → Int
  | [] => 0
  | [x] => x
  | x :: y :: r => min x (minL (y :: r))
def maxL : List Int → Int
  | [] => 0
  | [x] => x
  | x :: y :: r => max x (maxL (y :: r))
theorem minL_spec : ∀ (xs : List Int), xs ≠ [] → minL xs ∈ xs ∧ ∀ y ∈ xs, minL xs ≤ y
  | [], h => absurd rfl h
  | [x], _ => ⟨List.mem_cons_self, fun y hy => by rw [List.mem_singleton.mp hy]; exact Int.le_refl _⟩
  | x :: y :: r, _ => by
    obtain ⟨h1, h2⟩ := minL_spec (y :: r) (by simp)
    refine ⟨?_, fun z hz => ?_⟩
    · rw [minL]
      rcases Int.le_total x (minL (y :: r)) with h | h
      · rw [Int.min_eq_left h]; exact List.mem_cons_self
      · rw [Int.min_eq_right h]; exact List.mem_cons_of_mem _ h1
    · rw [minL]
      rcases List.mem_cons.mp hz with rfl | hz
      · exact Int.min_le_left _ _
      · exact Int.le_trans (Int.min_le_right _ _) (h2 z hz)
theorem maxL_spec : ∀ (xs : List Int), xs ≠ [] → maxL xs ∈ xs ∧ ∀ y ∈ xs, y ≤ maxL xs
  | [], h => absurd rfl h
  | [x], _ => ⟨List.mem_cons_self, fun y hy => by rw [List.mem_singleton.mp hy]; exact Int.le_refl _⟩
  | x :: y :: r, _ => by
    obtain ⟨h1, h2⟩ := maxL_spec (y :: r) (by simp)
    refine ⟨?_, fun z hz => ?_⟩
    · rw [maxL]
      rcases Int.le_total x (maxL (y :: r)) with h | h
      · rw [Int.max_eq_right h]; exact List.mem_cons_of_mem _ h1
      · rw [Int.max_eq_left h]; exact List.mem_cons_self
    · rw [maxL]
      rcases List.mem_cons.mp hz with rfl | hz
      · exact Int.le_max_left _ _
      · exact Int.le_trans (h2 z hz) (Int.le_max_right _ _)
/-- a list, by its address or locked -/
def lstD (m : M) (x : D) : Option (List D) := match x with
  | .lck ds => some ds
  | .ref a => match m a with
    | some (.lst ds) => some ds
    | _ => none
  | _ => none
theorem lstD_ref {m : M} {a : Addr} {ds : List D} (h : m a = some (.lst ds)) : lstD m (.ref a) = some ds := by simp only [lstD, h]
theorem lst_out {K : PySem.W.Frag} {H : Hp} {m : M} {x : D} {v : V} {ds : List D} (rm : RepM K H m) (r : Rep K H x v) (h : lstD m x = some ds) : ∃ a xs, v = .ref a ∧ SqL K H a xs ∧ Reps K H ds xs := by
  cases x <;> simp only [lstD] at h <;> try (cases h; done)
  case lck es => cases h; simp only [Rep] at r; obtain ⟨a, xs, e, s, rs⟩ := r; exact ⟨a, xs, e, s.l, rs⟩
  case ref a =>
    simp only [Rep] at r
    split at h
    · rename_i es hm
      cases h
      obtain ⟨ho, h1, xs, rfl, rs⟩ := rm a _ hm
      exact ⟨a, xs, r, .inl (.inl h1), rs⟩
    · cases h
theorem reps_ints {K : PySem.W.Frag} {H : Hp} : ∀ {ns : List Int} {xs : List V}, Reps K H (ns.map D.int) xs → xs = ns.map V.int
  | [], _, h => by simpa only [List.map_nil, Reps] using h
  | n :: ns, _, h => by
    simp only [List.map_cons, Reps, Rep] at h
    obtain ⟨v, vs, rfl, rfl, h⟩ := h
    rw [reps_ints h]; rfl
def xMinL : XC := fun ds m Q => one ds fun x => ∃ ns : List Int, lstD m x = some (ns.map .int) ∧ ns ≠ [] ∧ Q (.int (minL ns)) m
def xMaxL : XC := fun ds m Q => one ds fun x => ∃ ns : List Int, lstD m x = some (ns.map .int) ∧ ns ≠ [] ∧ Q (.int (maxL ns)) m
theorem xc_minL (hc : X.calm = true) : CallR X (.builtin "min") (lowC X.K xMinL) :=
  CallR.imp (cr_min hc) fun xs H QV ⟨ds, m, Q, r, rm, h, q⟩ => by
    obtain ⟨x, ex, ns, hl, hn, h2⟩ := one_out h
    subst ex
    simp only [Reps] at r
    obtain ⟨v, _, rfl, rv, rfl⟩ := r
    obtain ⟨a, ys, ea, sq, ry⟩ := lst_out rm rv hl
    have e2 := reps_ints ry
    subst e2
    obtain ⟨p1, p2⟩ := minL_spec ns hn
    refine ⟨a, ns, by rw [ea], sq, List.length_pos_iff.mpr hn, fun k k1 k2 => ?_⟩
    have : k = minL ns := Int.le_antisymm (k2 _ p1) (p2 k k1)
    subst this
    exact q _ H _ m .refl (by simp only [Rep]) rm h2
theorem xc_maxL (hc : X.calm = true) : CallR X (.builtin "max") (lowC X.K xMaxL) :=
  CallR.imp (cr_max hc) fun xs H QV ⟨ds, m, Q, r, rm, h, q⟩ => by
    obtain ⟨x, ex, ns, hl, hn, h2⟩ := one_out h
    subst ex
    simp only [Reps] at r
    obtain ⟨v, _, rfl, rv, rfl⟩ := r
    obtain ⟨a, ys, ea, sq, ry⟩ := lst_out rm rv hl
    have e2 := reps_ints ry
    subst e2
    obtain ⟨p1, p2⟩ := maxL_spec ns hn
    refine ⟨a, ns, by rw [ea], sq, List.length_pos_iff.mpr hn, fun k k1 k2 => ?_⟩
    have : k = maxL ns := Int.le_antisymm (p2 k k1) (k2 _ p1)
    subst this
    exact q _ H _ m .refl (by simp only [Rep]) rm h2
/-- int(x) of an int -/
def xInt : XC := fun ds m Q => one ds fun x => asI x fun i => Q (.int i) m
theorem xc_int : CallR X (.type "int") (lowC X.K xInt) :=
  CallR.imp call_int1 fun xs H QV ⟨ds, m, Q, r, rm, h, q⟩ => by
    obtain ⟨x, ex, h1⟩ := one_out h
    obtain ⟨i, ei, h2⟩ := asI_out h1
    subst ex ei
    simp only [Reps, Rep] at r
    obtain ⟨v, _, rfl, rfl, rfl⟩ := r
    exact .inl ⟨i, rfl, q _ H _ m .refl (by simp only [Rep]) rm h2⟩
/-- list(x) -/
def xList : XC := fun ds m Q => one ds fun x => oat (seqD m x) fun es => ∀ p, m p = none → Q (.ref p) (updM m p (.lst es))
theorem xc_list : CallR X (.type "list") (lowC X.K xList) :=
  CallR.imp call_list_of fun xs H QV ⟨ds, m, Q, r, rm, h, q⟩ => by
    obtain ⟨x, ex, h1⟩ := one_out h
    obtain ⟨es, ee, h2⟩ := oat_out h1
    subst ex
    simp only [Reps] at r
    obtain ⟨v, _, rfl, rv, rfl⟩ := r
    obtain ⟨a, ys, ea, sq, ry⟩ := seq_out rm rv ee
    exact ⟨a, ys, by rw [ea], sq, fun l hl => q _ _ (.ref l) _ (.newM hl) (by simp only [Rep]) (new_lst rm ry hl) (h2 l (rm.none hl))⟩
/-- tuple(x) -/
def xTupOf (t : XE) : XE := fun e m Q => t e m fun x m1 => oat (seqD m1 x) fun es => Q (.tup es) m1
theorem xe_tupleOf {a : Expr} {t : XE} {p pos : Pos} (hg : Gl X "tuple") (hm : X.mg "tuple" = none) (ha : PE X a (low X.K t)) (na : starEach [a] X.env = (false, eval a X.env) :: starEach [] X.env := by rfl) :
    PE X (.Call (.Name "tuple" p) [a] [] pos) (low X.K (xTupOf t)) :=
  PE.imp (pe_tupleOf hg hm ha na) fun σ H QV ⟨e, m, Q, rs, rm, h, q⟩ => ⟨e, m, _, rs, rm, h, fun v H1 d m1 s1 r1 rm1 h1 => by
    obtain ⟨es, ee, h2⟩ := oat_out h1
    obtain ⟨a, ys, ea, sq, ry⟩ := seq_out rm1 r1 ee
    rcases sq with sq | sq
    · refine .inl ⟨a, ys, ea, sq, fun l hl => q _ _ (.tup es) m1 (s1.trans (.new hl)) ?_ (rm1.new hl) h2⟩
      simp only [Rep]
      exact ⟨l, ys, rfl, .inl (.inl upd_same), ry.ext (Stp.new (m := m1) hl).imm⟩
    · refine .inr ⟨a, ys, ea, sq, q _ H1 (.tup es) m1 s1 ?_ rm1 h2⟩
      simp only [Rep]
      exact ⟨a, ys, rfl, sq, ry⟩⟩
/-! ### isinstance -/
def tyD (m : M) (x : D) : Option String := match x with
  | .non => some "NoneType"
  | .bl _ => some "bool"
  | .int _ => some "int"
  | .str _ => some "str"
  | .tup _ => some "tuple"
  | .lck _ => some "list"
  | .ref a => match m a with
    | some (.lst _) => some "list"
    | some (.dK _) => some "dict"
    | some (.dT _) => some "dict"
    | _ => none
  | _ => none
theorem ty_out {H : Hp} {m : M} {x : D} {v : V} {s : String} (rm : RepM X.K H m) (r : Rep X.K H x v) (h : tyD m x = some s) : TyX X.K H v (.type s) := by
  cases x <;> simp only [tyD] at h <;> simp only [Rep] at r <;> try (cases h; done)
  case non => cases h; subst r; exact .base .non
  case bl b => cases h; subst r; exact .base (.bl b)
  case int b => cases h; subst r; exact .base (.int b)
  case str b => cases h; subst r; exact .base (.str b)
  case tup es =>
    cases h
    obtain ⟨a, xs, rfl, sq, _⟩ := r
    rcases sq with (sq | ⟨o, sq⟩) | ⟨o, its, n, k1, k2, _⟩
    · exact .base (.tup sq)
    · exact .fTuple sq
    · exact .kTuple k1 k2
  case lck es =>
    cases h
    obtain ⟨a, xs, rfl, sq, _⟩ := r
    rcases sq with ⟨o, sq⟩ | ⟨o, its, n, k1, k2, _⟩
    · exact .base (.frz sq)
    · exact .kList k1 k2
  case ref a =>
    subst r
    split at h
    · rename_i es hm
      cases h
      obtain ⟨ho, h1, xs, rfl, rs⟩ := rm a _ hm
      exact .base (.lst h1)
    · rename_i es hm
      cases h
      obtain ⟨ho, h1, xs, rfl, rs⟩ := rm a _ hm
      exact .base (.dK h1)
    · rename_i es hm
      cases h
      obtain ⟨ho, h1, xs, rfl, rs⟩ := rm a _ hm
      exact .base (.dT h1)
    · cases h
def kitBs (s : String) : List D → Option Bool
  | [] => some false
  | .ty n :: r => match kitB s n with
    | some true => some true
    | some false => kitBs s r
    | none => none
  | _ => none
def tysD : List D → Option (List String)
  | [] => some []
  | .ty n :: r => (tysD r).map (n :: ·)
  | _ => none
def xIsi : XC := fun ds m Q => two ds fun x c => oat (tyD m x) fun s => match c with
  | .ty n => oat (kitB s n) fun b => Q (.bl b) m
  | _ => False
theorem xc_isi : CallR X (.builtin "isinstance") (lowC X.K xIsi) :=
  CallR.imp call_isi fun xs H QV ⟨ds, m, Q, r, rm, h, q⟩ => by
    obtain ⟨x, c, ex, h1⟩ := two_out h
    obtain ⟨s, es, h2⟩ := oat_out h1
    subst ex
    split at h2
    · rename_i n
      obtain ⟨b, eb, h3⟩ := oat_out h2
      simp only [Reps, Rep] at r
      obtain ⟨v, _, rfl, rv, w, _, rfl, rfl, rfl⟩ := r
      exact ⟨v, .ty n, .type s, .type n, b, rfl, .ty n, ty_out rm rv es, kit_ty eb, q _ H _ m .refl (by simp only [Rep]) rm h3⟩
    · exact h2.elim
/-- isinstance(x, (a, b)): the tuple of types is laid by the call itself -/
def xIsT (ta : XE) (ns : List String) : XE := fun e m Q => ta e m fun x m1 => oat (tyD m1 x) fun s => oat (kitBs s (ns.map .ty)) fun b => Q (.bl b) m1
end
end Sd

namespace Sd
open PySem PySem.Spec PyProof.Rows L2
/-! ## a def -/
section
variable {P : Program} {w : World} {K : PySem.W.Frag} {mg : Str → Option Value} {base : Heap}
def startD (n : Nat) (ds : List D) : En := ds.map some ++ List.replicate (n - ds.length) none
theorem reps_start {H : Hp} {N : List Str} {ds : List D} {vs : List V} (r : Reps K H ds vs) (hl : ds.length ≤ N.length) : RepS K H (startD N.length ds) (L2.start N vs) := by
  refine ⟨by simp [startD, L2.start, r.len], fun i d h => ?_⟩
  by_cases z : i < ds.length
  · have e1 : ds[i]? = some d := by
      unfold startD at h
      rw [List.getElem?_append_left (by simpa using z), List.getElem?_map] at h
      cases q : ds[i]? with
      | none => rw [q] at h; cases h
      | some x => rw [q] at h; cases h; rfl
    obtain ⟨v, h1, h2⟩ := r.get e1
    refine ⟨v, ?_, h2⟩
    unfold L2.start
    rw [List.getElem?_append_left (by simpa [← r.len] using z), List.getElem?_map, h1]; rfl
  · unfold startD at h
    rw [List.getElem?_append_right (by simpa using z), List.getElem?_replicate] at h
    split at h <;> cases h
/-- THE RULE: a def keeps what sp says, by its body's reading -/
theorem fnX {x qual : Str} {st : Stmt} {f : Addr} {fd : FuncData} {N ps : List Str} {k : Nat} {sp : XSp} (F : Fun K x qual st f fd) (S : FnScope N ps (defScope st)) (len : ∀ ds m Q, sp ds m Q → ds.length = ps.length)
    (body : ∃ t : XS, (∀ (cdv : Value) (A : Around) (outer : List Env) (s : Shared) (H : Hp) (E : XK), Room k (A.deeper (envOfC qual (defScope st) s.heap.objs.size f cdv)) →
        PSs (cxOf CX0 P w K mg base N qual (defScope st) f cdv A outer s H E).nox (defBody st) (lowS K t)) ∧
      ∀ ds m Q, sp ds m Q → t ⟨fun _ m' => ∃ m2, Sub m2 m' ∧ Q .non m2, fun d m' => ∃ m2, Sub m2 m' ∧ Q d m2, fun _ _ => False, fun _ _ => False⟩ (startD N.length ds) m) :
    FnX P w K mg base (k + 1) f fd ps sp := by
  obtain ⟨t, ht, hq⟩ := body
  have hps : ps.length ≤ N.length := by have := congrArg List.length S.pre; rw [List.length_take] at this; omega
  refine F.ok S (fun vs H QV E ⟨ds, m, Q, r, rm, h, q⟩ => by rw [← r.len]; exact len ds m Q h) (fun cdv A outer s H vs QV E hr ⟨ds, m, Q, r, rm, h, q⟩ => ?_)
  refine ⟨_, ht cdv A outer s H E hr, _, m, _, reps_start r (by rw [len ds m Q h]; exact hps), rm, hq ds m Q h, ?_⟩
  exact ⟨fun σ H' e m' st rs rm' ⟨m2, sb, h⟩ => q .non H' .non m2 (st.sub sb) (by simp only [Rep]) (rm'.sub sb) h, fun v H' d m' st rv rm' ⟨m2, sb, h⟩ => q v H' d m2 (st.sub sb) rv (rm'.sub sb) h, fun _ _ _ _ _ _ _ h => h.elim, fun _ _ _ _ _ _ _ h => h.elim⟩
theorem FnX.mono {k j : Nat} {f : Addr} {fd : FuncData} {ps : List Str} {sp : XSp} (F : FnX P w K mg base k f fd ps sp) (h : k ≤ j) : FnX P w K mg base j f fd ps sp := FnOk.mono F h
end
end Sd

set_option Elab.async false
set_option linter.all false
set_option maxRecDepth 100000
set_option maxHeartbeats 1000000
namespace Sd
open PySem PySem.Spec PyProof.Rows L2
section
variable (P : Program) (w : World) (K : PySem.W.Frag) (mg : Str → Option Value) (base : Heap)
/-- a def that is called by its name; a method; a class that is made -/
structure Dc (k : Nat) (x : Str) (ps : List Str) (sp : XSp) : Prop where
  ex : ∃ f fd, FnX P w K mg base k f fd ps sp ∧ mg x = some (.ref f) ∧ PySem.W.keepIn K (.ref f) = true ∧ Binds K fd ps []
structure Mc (k : Nat) (C : Addr) (mn : Str) (ps : List Str) (sp : XSp) : Prop where
  ex : ∃ f fd, FnX P w K mg base k f fd ps sp ∧ Meth K C mn f ∧ Binds K fd ps []
structure Kc (k : Nat) (x : Str) (C : Addr) (ps : List Str) (sp : XSp) : Prop where
  ex : ∃ f fd, FnX P w K mg base k f fd ps sp ∧ Mk K C f ∧ mg x = some (.ref C) ∧ Binds K fd ps []
end
section
variable {X : Cx} {k : Nat} {C : Addr} {x mn : Str} {ps : List Str} {sp : XSp} {p pos apos : Pos} {ex o : Expr} {es : List Expr} {ta : XE} {t : XA}
theorem xe_callD (c : Dc X.prog X.w X.K X.mg X.base k x ps sp) (hr : Room k X.A) (hg : Gl X x)
    (ha : PA X (ex :: es) (lowA X.K t)) (hdb : (x == ("__debug__" : Str)) = false := by decide) (he : starEach (ex :: es) X.env = (false, eval ex X.env) :: starEach es X.env := by rfl) (hpl : (backTo pos (starEach es X.env)).any (·.1) = false := by rfl) :
    PE X (.Call (.Name x p) (ex :: es) [] pos) (low X.K (xCall sp t)) :=
  let ⟨f, fd, F, hm, hk, hb⟩ := c.ex
  xe_call F hr hg hm hk hb ha hdb he hpl
theorem xe_methD {pl : Sem Bool} (m : Mc X.prog X.w X.K X.mg X.base k C mn ps sp) (c : Cls X.K C) (hr : Room k X.A) (he : PE X o (low X.K ta)) (ha : PA X (ex :: es) (lowA X.K t))
    (hst : starEach (ex :: es) X.env = (false, eval ex X.env) :: starEach es X.env := by rfl) (hpl : (backTo pos (starEach es X.env)).any (·.1) = false := by rfl)
    (ht : eval (.Call (.Attribute o mn apos) (ex :: es) [] pos) X.env = (do
      let ov ← eval o X.env
      standAt apos.atName
      let (f, first) ← holding [ov] (getMethod ov mn pl)
      callWith pos f first (backTo pos (starEach (ex :: es) X.env)) (backToKw pos (keywordEach [] X.env))) := by rfl) :
    PE X (.Call (.Attribute o mn apos) (ex :: es) [] pos) (low X.K (xMeth C mn sp ta t)) :=
  let ⟨f, fd, F, hm, hb⟩ := m.ex
  xe_meth he c hm F hr hb ha hst hpl ht
theorem xe_meth0D {pl : Sem Bool} (m : Mc X.prog X.w X.K X.mg X.base k C mn ps sp) (c : Cls X.K C) (hr : Room k X.A) (he : PE X o (low X.K ta))
    (ht : eval (.Call (.Attribute o mn apos) [] [] pos) X.env = (do
      let ov ← eval o X.env
      standAt apos.atName
      let (f, first) ← holding [ov] (getMethod ov mn pl)
      callWith pos f first (backTo pos (starEach [] X.env)) (backToKw pos (keywordEach [] X.env))) := by rfl) :
    PE X (.Call (.Attribute o mn apos) [] [] pos) (low X.K (xMeth C mn sp ta xNil)) :=
  let ⟨f, fd, F, hm, hb⟩ := m.ex
  xe_meth0 he c hm F hr hb ht
theorem xe_makeD (c : Kc X.prog X.w X.K X.mg X.base k x C ps sp) (hr : Room (k + 1) X.A) (hg : Gl X x)
    (ha : PA X (ex :: es) (lowA X.K t)) (hdb : (x == ("__debug__" : Str)) = false := by decide) (he : starEach (ex :: es) X.env = (false, eval ex X.env) :: starEach es X.env := by rfl) (hpl : (backTo pos (starEach es X.env)).any (·.1) = false := by rfl) :
    PE X (.Call (.Name x p) (ex :: es) [] pos) (low X.K (xMake C sp t)) :=
  let ⟨f, fd, F, hk, hm, hb⟩ := c.ex
  xe_make hk F hr hg hm hb ha hdb he hpl
theorem two_line : 2 ≤ sizeLine := Nat.le_of_lt (small1000 (by decide))
/-! isinstance(x, (A, B)) -/
theorem xe_isT {a b : String} {y z : Str} {kk : Nat} {p1 p2 tpos : Pos} (hg : Gl X "isinstance") (hm : X.mg "isinstance" = none) (he : PE X ex (low X.K ta)) (hga : Gl X y) (hma : X.mg y = none) (hba : bootBuiltins y = some (.type a)) (hgb : Gl X z) (hmb : X.mg z = none) (hbb : bootBuiltins z = some (.type b))
    (ny : y ≠ "__name__" := by decide) (dy : (y == ("__debug__" : Str)) = false := by decide) (nz : z ≠ "__name__" := by decide) (dz : (z == ("__debug__" : Str)) = false := by decide)
    (nI : (PySem.Str.ofString "isinstance") ≠ "__name__" := by decide) (dI : ((PySem.Str.ofString "isinstance") == ("__debug__" : Str)) = false := by decide)
    (s1 : starEach [.Name y p1, .Name z p2] X.env = (false, eval (.Name y p1) X.env) :: starEach [.Name z p2] X.env := by rfl) (s2 : starEach [.Name z p2] X.env = (false, eval (.Name z p2) X.env) :: starEach [] X.env := by rfl)
    (s3 : starEach [.Tuple [.Name y p1, .Name z p2] kk tpos] X.env = (false, eval (.Tuple [.Name y p1, .Name z p2] kk tpos) X.env) :: starEach [] X.env := by rfl)
    (hs : starEach [ex, .Tuple [.Name y p1, .Name z p2] kk tpos] X.env = (false, eval ex X.env) :: starEach [.Tuple [.Name y p1, .Name z p2] kk tpos] X.env := by rfl) (hpl : (backTo pos (starEach [.Tuple [.Name y p1, .Name z p2] kk tpos] X.env)).any (·.1) = false := by rfl) :
    PE X (.Call (.Name "isinstance" p) [ex, .Tuple [.Name y p1, .Name z p2] kk tpos] [] pos) (low X.K (xIsT ta [a, b])) := by
  have h1 : PE X (.Name y p1) (tC (.ty a)) := pe_bltn (v := .ty a) hga hma hba (show L2.RelV (.ty a) (.type a) from rfl) ny dy
  have h2 : PE X (.Name z p2) (tC (.ty b)) := pe_bltn (v := .ty b) hgb hmb hbb (show L2.RelV (.ty b) (.type b) from rfl) nz dz
  have h3 := pe_tup (x1 := kk) (pos := tpos) (pa_cons h1 (pa_cons h2 pa_nil s2) s1)
  have h4 := pa_cons he (pa_cons h3 pa_nil s3) hs
  have h5 : PE X (.Call (.Name "isinstance" p) [ex, .Tuple [.Name y p1, .Name z p2] kk tpos] [] pos) _ := pe_callB call_isiT hg hm PyProof.Rows.boot_isinstance h4 nI dI hs hpl
  refine PE.imp h5 fun σ H QV ⟨e, m, Q, rs, rm, h, q⟩ => ?_
  refine ⟨e, m, _, rs, rm, h, fun v H1 d m1 st r1 rm1 g1 => ?_⟩
  obtain ⟨s, es, g2⟩ := oat_out g1
  obtain ⟨c, ec, g3⟩ := oat_out g2
  refine ⟨two_line, fun tp ht => ?_⟩
  have st2 : Stp H1 m1 (upd H1 tp (.tup [.ty a, .ty b])) m1 := .new ht
  have rm2 := rm1.new (o := .tup [.ty a, .ty b]) ht
  have fin := q (.bl c) _ (.bl c) m1 (st.trans st2) (by simp only [Rep]) rm2 g3
  have tyo := ty_out rm2 (r1.ext st2.imm) es
  have key : ∀ ns : List String, kitBs s (ns.map .ty) = some c → PySem.W.kitAny X.K (.type s) (ns.map .type) = some c := by
    intro ns
    induction ns with
    | nil => intro h; exact h
    | cons n ns ih =>
      intro h
      simp only [List.map_cons, kitBs] at h
      simp only [List.map_cons]
      cases q : kitB s n with
      | none => rw [q] at h; cases h
      | some b =>
        rw [q] at h
        cases b with
        | true => cases h; exact kitAny_cons (kit_ty q) (fun z => nomatch z) fun _ => rfl
        | false => exact kitAny_cons (kit_ty q) (fun _ => ih h) fun z => nomatch z
  exact ⟨v, tp, [.ty a, .ty b], .type s, [.type a, .type b], c, rfl, upd_same, .cons (.ty a) (.cons (.ty b) .nil), tyo, key [a, b] ec, fin⟩
end
section
variable {X : Cx}
theorem xe_gtupE {x : Str} {ds : List D} {pos : Pos} (hg : Gl X x) (h : ∃ a xs, X.mg x = some (.ref a) ∧ (∀ H, SqT X.K H a xs) ∧ ∀ H, Reps X.K H ds xs) (hd : (x == ("__debug__" : Str)) = false := by decide) : PE X (.Name x pos) (low X.K (xC (.tup ds))) :=
  let ⟨_, _, hm, hs, hr⟩ := h
  xe_gtup hg hm hs hr hd
theorem xe_gintE {x : Str} {i : Int} {pos : Pos} (hg : Gl X x) (h : ∃ t : Tok, X.mg x = some (.int i t)) (hd : (x == ("__debug__" : Str)) = false := by decide) : PE X (.Name x pos) (low X.K (xC (.int i))) :=
  let ⟨_, hm⟩ := h
  xe_gint hg hm hd
/-! + of lists, of tuples -/
def xCat : XO := fun x y m Q => asL m x fun _ ds => asL m y fun _ es => ds.length + es.length ≤ sizeLine ∧ ∀ p, m p = none → Q (.ref p) (updM m p (.lst (ds ++ es)))
theorem xo_cat : OpR X (binaryOp .Add) (lowR X.K xCat) :=
  OpR.imp op_cat fun x y H QV ⟨d, e, m, Q, rx, ry, rm, h, q⟩ => by
    obtain ⟨a, ds, ea, ha, h1⟩ := asL_out h
    obtain ⟨b, es, eb, hb, h2⟩ := asL_out h1
    subst ea eb
    simp only [Rep] at rx ry
    obtain ⟨_, g1, xs, rfl, r1⟩ := rm a _ ha
    obtain ⟨_, g2, ys, rfl, r2⟩ := rm b _ hb
    refine ⟨a, b, xs, ys, rx, ry, g1, g2, by rw [← r1.len, ← r2.len]; exact h2.1, fun p hp => q _ _ (.ref p) _ (.newM hp) (by simp only [Rep]) (new_lst rm (r1.append r2) hp) (h2.2 p (rm.none hp))⟩
def xCatT : XO := fun x y m Q => asT x fun ds => asT y fun es => ds.length + es.length ≤ sizeLine ∧ Q (.tup (ds ++ es)) m
theorem xo_catT : OpR X (binaryOp .Add) (lowR X.K xCatT) :=
  OpR.imp op_catA fun x y H QV ⟨d, e, m, Q, rx, ry, rm, h, q⟩ => by
    obtain ⟨ds, ea, h1⟩ := asT_out h
    obtain ⟨es, eb, h2⟩ := asT_out h1
    subst ea eb
    simp only [Rep] at rx ry
    obtain ⟨a, xs, rfl, s1, r1⟩ := rx
    obtain ⟨b, ys, rfl, s2, r2⟩ := ry
    refine ⟨a, b, xs, ys, rfl, rfl, s1, s2, by rw [← r1.len, ← r2.len]; exact h2.1, fun z => ?_, fun _ z => ?_, fun _ _ p hp => ?_⟩
    · subst z
      have : ds = [] := List.eq_nil_of_length_eq_zero r1.len
      subst this
      exact q _ H _ m .refl (by simp only [Rep]; exact ⟨b, ys, rfl, s2, r2⟩) rm h2.2
    · subst z
      have : es = [] := List.eq_nil_of_length_eq_zero r2.len
      subst this
      rw [List.append_nil] at h2
      exact q _ H _ m .refl (by simp only [Rep]; exact ⟨a, xs, rfl, s1, r1⟩) rm h2.2
    · have st : Stp H m (upd H p (.tup (xs ++ ys))) m := .new hp
      exact q _ _ _ m st (by simp only [Rep]; exact ⟨p, _, rfl, .inl (.inl upd_same), (r1.append r2).ext st.imm⟩) (rm.new hp) h2.2
/-! slices -/
abbrev XP := En → M → (Option Int → M → Prop) → Prop
def lowP (K : PySem.W.Frag) (t : XP) : TO := fun σ H QV => ∃ e m Q, RepS K H e σ ∧ RepM K H m ∧ t e m Q ∧ ∀ (o : Option Int) H' m', Stp H m H' m' → RepM K H' m' → Q o m' → QV o H'
theorem PO.imp {e : Option Expr} {t u : TO} (h : PO X e t) (i : ∀ σ H Q, u σ H Q → t σ H Q) : PO X e u := ⟨fun pins s σ H Q I q => h.run pins s σ H Q I (i σ H Q q)⟩
def xpNone : XP := fun _ m Q => Q none m
def xpSome (t : XE) : XP := fun e m Q => t e m fun d m1 => asI d fun i => Q (some i) m1
theorem xp_none : PO X none (lowP X.K xpNone) := PO.imp po_none fun σ H QV ⟨e, m, Q, rs, rm, h, q⟩ => q none H m .refl rm h
theorem xp_some {e : Expr} {t : XE} (h : PE X e (low X.K t)) : PO X (some e) (lowP X.K (xpSome t)) :=
  PO.imp (po_some h) fun σ H QV ⟨e, m, Q, rs, rm, h, q⟩ => ⟨e, m, _, rs, rm, h, fun v H1 d m1 s1 r1 rm1 h1 => by
    obtain ⟨i, rfl, h1⟩ := asI_out h1
    simp only [Rep] at r1
    exact ⟨i, r1, q _ H1 m1 s1 rm1 h1⟩⟩
def cutD (xs : List D) (lo hi : Option Int) : List D := (xs.drop (HT.sIx xs.length 0 lo)).take (HT.sIx xs.length xs.length hi - HT.sIx xs.length 0 lo)
theorem reps_cut {K : PySem.W.Frag} {H : Hp} {ds : List D} {vs : List V} (r : Reps K H ds vs) (lo hi : Option Int) : Reps K H (cutD ds lo hi) (cutV vs lo hi) := by
  unfold cutD cutV
  rw [r.len]
  exact (r.drop _).take _
def xSlL (te : XE) (tl th : XP) : XE := fun e m Q => te e m fun x m1 => tl e m1 fun lo m2 => th e m2 fun hi m3 => oat (lstD m3 x) fun ds => ∀ p, m3 p = none → Q (.ref p) (updM m3 p (.lst (cutD ds lo hi)))
theorem xe_slL {ex : Expr} {lo hi : Option Expr} {te : XE} {tl th : XP} {pos p2 : Pos} (he : PE X ex (low X.K te)) (hl : PO X lo (lowP X.K tl)) (hu : PO X hi (lowP X.K th)) : PE X (.Subscript ex (.Slice lo hi none p2) pos) (low X.K (xSlL te tl th)) :=
  PE.imp (pe_slice sl_list he hl hu) fun σ H QV ⟨e, m, Q, rs, rm, h, q⟩ => ⟨e, m, _, rs, rm, h, fun v H1 d m1 s1 r1 rm1 h1 => ⟨e, m1, _, rs.ext s1.imm, rm1, h1, fun lo H2 m2 s2 rm2 h2 => ⟨e, m2, _, rs.ext (s1.trans s2).imm, rm2, h2, fun hi H3 m3 s3 rm3 h3 => by
    obtain ⟨ds, ed, h4⟩ := oat_out h3
    obtain ⟨a, ys, ea, sq, ry⟩ := lst_out rm3 (r1.ext (s2.trans s3).imm) ed
    exact ⟨a, ys, ea, sq, fun p hp => q _ _ (.ref p) _ (s1.trans (s2.trans (s3.trans (.newM hp)))) (by simp only [Rep]) (new_lst rm3 (reps_cut ry _ _) hp) (h4 p (rm3.none hp))⟩⟩⟩⟩
def xSlT (te : XE) (tl th : XP) : XE := fun e m Q => te e m fun x m1 => tl e m1 fun lo m2 => th e m2 fun hi m3 => asT x fun ds => Q (.tup (cutD ds lo hi)) m3
theorem cut_all {α : Type} (xs : List α) (lo hi : Option Int) (h : HT.sIx xs.length 0 lo = 0 ∧ HT.sIx xs.length xs.length hi = xs.length) : (xs.drop (HT.sIx xs.length 0 lo)).take (HT.sIx xs.length xs.length hi - HT.sIx xs.length 0 lo) = xs := by
  rw [h.1, h.2, List.drop_zero, Nat.sub_zero, List.take_length]
theorem xe_slT {ex : Expr} {lo hi : Option Expr} {te : XE} {tl th : XP} {pos p2 : Pos} (he : PE X ex (low X.K te)) (hl : PO X lo (lowP X.K tl)) (hu : PO X hi (lowP X.K th)) : PE X (.Subscript ex (.Slice lo hi none p2) pos) (low X.K (xSlT te tl th)) :=
  PE.imp (pe_slice sl_tupA he hl hu) fun σ H QV ⟨e, m, Q, rs, rm, h, q⟩ => ⟨e, m, _, rs, rm, h, fun v H1 d m1 s1 r1 rm1 h1 => ⟨e, m1, _, rs.ext s1.imm, rm1, h1, fun lo H2 m2 s2 rm2 h2 => ⟨e, m2, _, rs.ext (s1.trans s2).imm, rm2, h2, fun hi H3 m3 s3 rm3 h3 => by
    obtain ⟨ds, ed, h4⟩ := asT_out h3
    subst ed
    have r3 := r1.ext (s2.trans s3).imm
    simp only [Rep] at r3
    obtain ⟨a, xs, ea, sq, rx⟩ := r3
    refine ⟨a, xs, ea, sq, fun hw => ?_, fun hw p hp => ?_⟩
    · have hw2 : HT.sIx ds.length 0 lo = 0 ∧ HT.sIx ds.length ds.length hi = ds.length := by rw [rx.len]; exact hw
      have e2 : cutD ds lo hi = ds := cut_all ds lo hi hw2
      rw [e2] at h4
      exact q _ H3 _ m3 (s1.trans (s2.trans s3)) (by simp only [Rep]; exact ⟨a, xs, rfl, sq, rx⟩) rm3 h4
    · have st : Stp H3 m3 (upd H3 p (.tup (cutV xs lo hi))) m3 := .new hp
      exact q _ _ _ m3 (s1.trans (s2.trans (s3.trans st))) (by simp only [Rep]; exact ⟨p, _, rfl, .inl (.inl upd_same), (reps_cut rx _ _).ext st.imm⟩) (rm3.new hp) h4⟩⟩⟩
/-! a, b, c = x, y, z -/
def xPar3 (i j l : Nat) (t : XA) : XS := fun D e m => t e m fun ds m1 => tri ds fun a b c => D.nx (((e.set i (some a)).set j (some b)).set l (some c)) m1
theorem xs_par3 {i j l : Nat} {x y z : Str} {a b c : Expr} {t : XA} {px py pz pt pos : Pos} {kt k2 pt2} (hc : X.calm = true) (hN : X.N.Nodup) (hi : X.N[i]? = some x) (hj : X.N[j]? = some y) (hl : X.N[l]? = some z) (hij : i ≠ j) (hil : i ≠ l) (hjl : j ≠ l)
    (hx : X.env.scope.names.lookup x = some .local) (hy : X.env.scope.names.lookup y = some .local) (hz : X.env.scope.names.lookup z = some .local) (ha : PA X [a, b, c] (lowA X.K t))
    (hw : swappedStores [.Tuple [.Name x px, .Name y py, .Name z pz] kt pt] (.Tuple [a, b, c] k2 pt2) X.env = pure (some [x, y, z]))
    (hs : swapsWithSole [.Tuple [.Name x px, .Name y py, .Name z pz] kt pt] (.Tuple [a, b, c] k2 pt2) pos.line X.env = pure false := by rfl) :
    PS X (.Assign [.Tuple [.Name x px, .Name y py, .Name z pz] kt pt] (.Tuple [a, b, c] k2 pt2) pos) (lowS X.K (xPar3 i j l t)) :=
  PS.imp (ps_par3 hc hN hi hj hl hij hil hjl hx hy hz ha hw hs) fun D σ H ⟨e, m, D', rs, rm, h, q⟩ => ⟨e, m, _, rs, rm, h, fun vs H1 ds m1 s1 r1 rm1 h1 => by
    obtain ⟨c, d, f, ed, h2⟩ := tri_out h1
    subst ed
    simp only [Reps] at r1
    obtain ⟨v, _, rfl, rA, w, _, rfl, rB, u, _, rfl, rC, rfl⟩ := r1
    exact ⟨v, w, u, rfl, q.nx _ H1 _ m1 s1 ((((rs.ext s1.imm).set i rA).set j rB).set l rC) rm1 h2⟩⟩
/-! a for over a list or a tuple, whichever -/
end
end Sd

set_option Elab.async false
set_option linter.all false
set_option maxRecDepth 100000
set_option maxHeartbeats 1000000
namespace Sd
open PySem PySem.Spec PyProof.Rows L2
/-! ## zip of a tuple and a list -/
theorem stuckT {P : Program} {w : World} {A : Around} (hh : A.handled = none) (it t : Addr) (items : Array Value) (i : Nat) (hi : items.size ≤ i) :
    Draws P w A it [it, t] i (fun _ _ => False) (fun j h => j = i ∧ h.IsTupleIter it t i ∧ h.IsTuple t items) where
  live := fun _ _ st => let ⟨o, ho, _⟩ := st.2.1; ⟨o, ho⟩
  frame := fun _ _ _ st hk => ⟨st.1, st.2.1.at fun o e => hk it (by simp) o e, let ⟨o, ho, r⟩ := st.2.2; ⟨o, hk t (by simp) o ho, r⟩⟩
  item := fun j s Q E hj st hQ => by obtain ⟨rfl, _⟩ := st; exact absurd hj (Nat.lt_irrefl _)
  done := fun s Q E st hE => wpAny_nextOf_tuple_end hh st.2.1 st.2.2 (by simp; omega) hE
theorem stuckL {P : Program} {w : World} {A : Around} (hh : A.handled = none) (it t : Addr) (items : Array Value) (i : Nat) (hi : items.size ≤ i) :
    Draws P w A it [it, t] i (fun _ _ => False) (fun j h => j = i ∧ h.IsListIter it t i ∧ h.IsList t items) where
  live := fun _ _ st => let ⟨o, ho, _⟩ := st.2.1; ⟨o, ho⟩
  frame := fun _ _ _ st hk => ⟨st.1, st.2.1.at fun o e => hk it (by simp) o e, st.2.2.at fun o e => hk t (by simp) o e⟩
  item := fun j s Q E hj st hQ => by obtain ⟨rfl, _⟩ := st; exact absurd hj (Nat.lt_irrefl _)
  done := fun s Q E st hE => wpAny_nextOf_list_end hh st.2.1 st.2.2 (by simp; omega) hE
def ItzX (K : PySem.W.Frag) (a b : Addr) : It :=
  ⟨fun i H => ∃ (xs ys : List V) (x y : V), SqT K H a xs ∧ SqL K H b ys ∧ xs[i]? = some x ∧ ys[i]? = some y,
    fun i H v H' => ∃ T x y, v = .ref T ∧ H T = none ∧ H' = upd H T (.tup [x, y]) ∧ (∀ xs, SqT K H a xs → xs[i]? = some x) ∧ ∀ ys, SqL K H b ys → ys[i]? = some y,
    fun i H => ∃ xs ys : List V, SqT K H a xs ∧ SqL K H b ys ∧ (xs.length ≤ i ∨ ys.length ≤ i)⟩
theorem turn_zipX {P : Program} {w : World} {K : PySem.W.Frag} {elts : List Expr} {kk : Nat} {tpos : Pos} {a b z TI TO i1 i2 : Addr} (D : ZipSep2 z TI TO i1 i2 [i1, a] [i2, b]) :
    Turn P w K (.Tuple elts kk tpos) (ItzX K a b) [z, TI, TO, i1, i2] z (fun i h => IsZip h z TI TO .none ∧ IsTupOf2 h TI (.ref i1) (.ref i2) ∧ (∃ x y, IsTupOf2 h TO x y) ∧ h.IsTupleIter i1 a i ∧ h.IsListIter i2 b i) where
  mem := List.mem_cons_self
  obj := fun i h ⟨hz, hTI, ⟨x, y, hTO⟩, ⟨o1, e1, _, d1⟩, ⟨o2, e2, _, d2⟩⟩ c hc => by
    simp only [List.mem_cons, List.not_mem_nil, or_false] at hc
    rcases hc with q | q | q | q | q <;> rw [q]
    · exact ⟨_, hz, fun v q => nomatch q⟩
    · exact ⟨_, hTI, fun v q => nomatch q⟩
    · exact ⟨_, hTO, fun v q => nomatch q⟩
    · exact ⟨o1, e1, fun v q => by rw [d1] at q; cases q⟩
    · exact ⟨o2, e2, fun v q => by rw [d2] at q; cases q⟩
  keep := fun i h h' ⟨hz, hTI, ⟨x, y, hTO⟩, h1, h2⟩ k => ⟨k z (by simp) _ hz, k TI (by simp) _ hTI, ⟨x, y, k TO (by simp) _ hTO⟩, h1.at fun o q => k i1 (by simp) o q, h2.at fun o q => k i2 (by simp) o q⟩
  item := by
    intro X hP hw hK hc i pins s σ H E I hf ⟨hz, hTI, ⟨x0, y0, hTO⟩, h1, h2⟩ ⟨xs, ys, x, y, hqx, hqy, hx, hy⟩
    subst hP hw hK
    obtain ⟨its, rv, p, _⟩ := I.tuple hqx
    obtain ⟨its2, rv2, p2, _⟩ := I.list hqy
    obtain ⟨u, hu, ru⟩ := rv.get hx
    obtain ⟨u2, hu2, ru2⟩ := rv2.get hy
    have hzl : z < s.heap.objs.size := Heap.lt_size hz
    have n1 : a ≠ i1 := fun q => by
      obtain ⟨o, e1, c1, _⟩ := (show s.heap.IsTuple a its.toArray from p)
      obtain ⟨o2, e2, c2, _⟩ := h1
      rw [q, e2] at e1; cases e1; rw [c2] at c1; exact absurd (Value.type.inj c1) (by decide)
    have n2 : b ≠ i2 := fun q => by
      obtain ⟨o, e1, c1, _⟩ := p2.isList
      obtain ⟨o2, e2, c2, _⟩ := h2
      rw [q, e2] at e1; cases e1; rw [c2] at c1; exact absurd (Value.type.inj c1) (by decide)
    have l1 : i < its.toArray.size := by rw [List.size_toArray]; exact (List.getElem?_eq_some_iff.mp hu).1
    have l2 : i < its2.toArray.size := by rw [List.size_toArray]; exact (List.getElem?_eq_some_iff.mp hu2).1
    refine wpAny_pyNext_zipD2_item D (Draws.tuple (A := X.A.in1) (I.ok.hd hc) i1 a n1 its.toArray) (Draws.list (A := X.A.in1) (I.ok.hd hc) i2 b n2 its2.toArray) hz hTI hTO ⟨h1, p⟩ ⟨h2, p2.isList⟩ l1 l2 fun v1 v2 h' tk e1 e2 z' TO' st1 st2 hT hsz hk => ?_
    have ev1 : v1 = u := by have : its.toArray[i]? = some u := (by simpa using hu); rw [this] at e1; exact (Option.some.inj e1).symm
    have ev2 : v2 = u2 := by have : its2.toArray[i]? = some u2 := (by simpa using hu2); rw [this] at e2; exact (Option.some.inj e2).symm
    subst ev1 ev2
    refine ⟨_, rfl, wpAny_letOwnedTupleGo_zip (s := { s with heap := h', toks := tk }) z' fun h'' z'' sb => ?_⟩
    have hT2 : h''.get? s.heap.objs.size = some { cls := .type "tuple", data := .seq #[v1, v2] } := (sb.2 _ (Nat.ne_of_gt hzl)).trans hT
    have new : ObjOk X.prog X.w (upd H s.heap.objs.size (.tup [x, y])) h'' s.heap.objs.size (.tup [x, y]) := ⟨by show 2 ≤ sizeLine; decide, [v1, v2], .cons ru (.cons ru2 .nil), ⟨_, hT2, rfl, _, rfl⟩⟩
    have I1 : Inv X pins σ (upd H s.heap.objs.size (.tup [x, y])) { s with heap := h'', toks := tk } :=
      I.turnedNew (t' := tk) (ch := [z, TI, TO, i1, i2]) (fun c o hb q => (sb.2 c (fun q' => hb (by simp [q']))).trans (hk c o (fun q' => hb (by simp [q'])) (fun q' => hb (by simp [q'])) (fun q' => hb (by simp [q'])) (fun q' => hb (by simp [q'])) q)) hf (Nat.le_refl _) new
    refine ⟨.ref s.heap.objs.size, _, I1, rfl, ⟨_, x, y, rfl, I.hok.fresh (Nat.le_refl _), rfl, fun l hl => by rw [I.tuple_inj hl hqx]; exact hx, fun l hl => by rw [I.list_inj hl hqy]; exact hy⟩, ⟨z'', ?_, ⟨v1, v2, ?_⟩, ?_, ?_⟩, fun c hcm => ?_⟩
    · exact (sb.2 _ D.TIz).trans (hk _ _ D.TIz D.TITO D.TIi1 D.TIi2 hTI)
    · exact (sb.2 _ D.TOz).trans TO'
    · exact st1.1.at fun o q => (sb.2 _ (Ne.symm D.zi1)).trans q
    · exact st2.1.at fun o q => (sb.2 _ (Ne.symm D.zi2)).trans q
    · have hlt : c < s.heap.objs.size := by
        simp only [List.mem_cons, List.not_mem_nil, or_false] at hcm
        rcases hcm with q | q | q | q | q <;> rw [q]
        · exact hzl
        · exact Heap.lt_size hTI
        · exact Heap.lt_size hTO
        · obtain ⟨_, e1, _⟩ := h1; exact Heap.lt_size e1
        · obtain ⟨_, e2, _⟩ := h2; exact Heap.lt_size e2
      rw [upd_ne (Nat.ne_of_lt hlt)]
      exact (hf c hcm).1
  done := by
    intro X hP hw hK hc i pins s σ H E I hf ⟨hz, hTI, ⟨x0, y0, hTO⟩, h1, h2⟩ ⟨xs, ys, hqx, hqy, hend⟩
    subst hP hw hK
    obtain ⟨its, rv, p, _⟩ := I.tuple hqx
    obtain ⟨its2, rv2, p2, _⟩ := I.list hqy
    have l1 := rv.length
    have l2 := rv2.length
    have n1 : a ≠ i1 := fun q => by
      obtain ⟨o, e1, c1, _⟩ := (show s.heap.IsTuple a its.toArray from p)
      obtain ⟨o2, e2, c2, _⟩ := h1
      rw [q, e2] at e1; cases e1; rw [c2] at c1; exact absurd (Value.type.inj c1) (by decide)
    have n2 : b ≠ i2 := fun q => by
      obtain ⟨o, e1, c1, _⟩ := p2.isList
      obtain ⟨o2, e2, c2, _⟩ := h2
      rw [q, e2] at e1; cases e1; rw [c2] at c1; exact absurd (Value.type.inj c1) (by decide)
    have fin : ∀ (h' : Heap) (tk : Nat), (∀ c o, c ≠ z → c ≠ TO → c ≠ i1 → c ≠ i2 → s.heap.get? c = some o → h'.get? c = some o) → Inv X pins σ H { s with heap := h', toks := tk } := fun h' tk hk =>
      I.turnedL (t' := tk) (ch := [z, TI, TO, i1, i2]) (fun c o hb q => hk c o (fun q' => hb (by simp [q'])) (fun q' => hb (by simp [q'])) (fun q' => hb (by simp [q'])) (fun q' => hb (by simp [q'])) q) hf
    have p' : s.heap.IsTuple a its.toArray := p
    by_cases c1 : its.toArray.size ≤ i
    · by_cases c2 : its2.toArray.size ≤ i
      · exact wpAny_pyNext_zipD2_end D (stuckT (A := X.A.in1) (I.ok.hd hc) i1 a its.toArray i c1) (stuckL (A := X.A.in1) (I.ok.hd hc) i2 b its2.toArray i c2) hz hTI hTO ⟨rfl, h1, p'⟩ ⟨rfl, h2, p2.isList⟩ (Nat.le_refl _) (Nat.le_refl _) (.inl rfl) fun h' tk hk => ⟨rfl, fin h' tk hk⟩
      · exact wpAny_pyNext_zipD2_end D (stuckT (A := X.A.in1) (I.ok.hd hc) i1 a its.toArray i c1) (Draws.list (A := X.A.in1) (I.ok.hd hc) i2 b n2 its2.toArray) hz hTI hTO ⟨rfl, h1, p'⟩ ⟨h2, p2.isList⟩ (Nat.le_refl _) (by omega) (.inl rfl) fun h' tk hk => ⟨rfl, fin h' tk hk⟩
    · have c2 : its2.toArray.size ≤ i := by
        rw [List.size_toArray] at c1 ⊢
        rcases hend with q | q <;> omega
      exact wpAny_pyNext_zipD2_end D (Draws.tuple (A := X.A.in1) (I.ok.hd hc) i1 a n1 its.toArray) (stuckL (A := X.A.in1) (I.ok.hd hc) i2 b its2.toArray i c2) hz hTI hTO ⟨h1, p'⟩ ⟨rfl, h2, p2.isList⟩ (by omega) (Nat.le_refl _) (.inr rfl) fun h' tk hk => ⟨rfl, fin h' tk hk⟩
  self := fun A i s Q E st h => wpAny_pyIter_zip st.1 h
section
variable {X : Cx}
def iZipX (K : PySem.W.Frag) (ta : TA) : TI := fun σ H R => ta σ H fun vs H1 => ∃ a b xs ys, vs = [.ref a, .ref b] ∧ SqT K H1 a xs ∧ SqL K H1 b ys ∧ R (ItzX K a b) H1
theorem pi_zipX {e e2 : Expr} {ta : TA} {p pos tpos : Pos} {elts : List Expr} {kk : Nat} (hg : Gl X "zip") (hm : X.mg "zip" = none) (ha : PA X [e, e2] ta)
    (hs : starEach [e, e2] X.env = (false, eval e X.env) :: starEach [e2] X.env := by rfl) (hpl : (backTo pos (starEach [e2] X.env)).any (·.1) = false := by rfl) :
    PI X (.Tuple elts kk tpos) (.Call (.Name "zip" p) [e, e2] [] pos) (iZipX X.K ta) := by
  refine ⟨fun pins s σ H R I h => Call_ (ld_blt I hg hm PyProof.Rows.boot_zip (PyProof.Rows.callWith_type1 (thn (ha.run pos pins s σ H _ I h) fun us s1 ⟨vs, H1, I1, r1, a, b, xs, ys, ex, hqx, hqy, q⟩ => ?_) hs hpl))⟩
  subst ex
  obtain ⟨u, v, rfl, ru, rv⟩ := Vals.two r1
  cases ru
  cases rv
  obtain ⟨its, _, p1, _⟩ := I1.tuple hqx
  obtain ⟨its2, _, p2, _⟩ := I1.list hqy
  have t1 : s1.heap.IsTuple a its.toArray := p1
  refine zip_begins2 (begins_tuple a its.toArray) (begins_list b its2.toArray) t1 p2.isList fun h' hz hTI hTO g1 g2 hsz hk => wpAny_pyIter_zip hz ?_
  have la : a < s1.heap.objs.size := let ⟨_, q, _⟩ := t1; Heap.lt_size q
  have lb : b < s1.heap.objs.size := let ⟨_, q, _⟩ := p2.isList; Heap.lt_size q
  refine ⟨s1.heap.objs.size + 4, [s1.heap.objs.size + 4, s1.heap.objs.size + 2, s1.heap.objs.size + 3, s1.heap.objs.size, s1.heap.objs.size + 1], _, _, H1, rfl, I1.kept (t' := s1.toks) hk,
    turn_zipX (zip_sep2 (N := s1.heap.objs.size) (fp1 := [a]) (fp2 := [b]) (fun c hc => by rw [List.mem_singleton.mp hc]; exact la) (fun c hc => by rw [List.mem_singleton.mp hc]; exact lb)),
    ⟨hz, hTI, ⟨_, _, hTO⟩, ⟨_, g1, rfl, rfl⟩, ⟨_, g2, rfl, rfl⟩⟩, fun c hcm => ?_, q⟩
  have hle : s1.heap.objs.size ≤ c := by
    simp only [List.mem_cons, List.not_mem_nil, or_false] at hcm
    rcases hcm with q | q | q | q | q <;> rw [q]
    · exact Nat.le_add_right _ _
    · exact Nat.le_add_right _ _
    · exact Nat.le_add_right _ _
    · exact Nat.le_refl _
    · exact Nat.le_add_right _ _
  exact I1.fpOk hle (I1.hok.fresh hle)
def zipD : List D → List D → List D
  | a :: as, b :: bs => .tup [a, b] :: zipD as bs
  | _, _ => []
theorem zipD_len : ∀ (as bs : List D), (zipD as bs).length = min as.length bs.length
  | [], bs => by simp [zipD]
  | _ :: _, [] => by simp [zipD]
  | a :: as, b :: bs => by rw [zipD, List.length_cons, zipD_len, List.length_cons, List.length_cons]; omega
theorem zipD_get : ∀ (as bs : List D) (i : Nat) (a b : D), as[i]? = some a → bs[i]? = some b → (zipD as bs)[i]? = some (.tup [a, b])
  | a :: as, b :: bs, 0, _, _, h1, h2 => by simp at h1 h2; subst h1 h2; rfl
  | a :: as, b :: bs, i + 1, c, d, h1, h2 => by rw [zipD, List.getElem?_cons_succ]; exact zipD_get as bs i c d (by simpa using h1) (by simpa using h2)
  | [], _, _, _, _, h1, _ => by simp at h1
  | _ :: _, [], _, _, _, _, h2 => by simp at h2
/-- a tuple and a list, side by side -/
def iZpX (t : XA) : XI := fun e m R => t e m fun ds m1 => two ds fun x y => asT x fun es => asL m1 y fun p fs => R ⟨zipD es fs, fun m => m p = some (.lst fs)⟩ m1
theorem xi_zipX {e e2 : Expr} {t : XA} {p pos tpos : Pos} {elts : List Expr} {kk : Nat} (hg : Gl X "zip") (hm : X.mg "zip" = none) (ha : PA X [e, e2] (lowA X.K t))
    (hs : starEach [e, e2] X.env = (false, eval e X.env) :: starEach [e2] X.env := by rfl) (hpl : (backTo pos (starEach [e2] X.env)).any (·.1) = false := by rfl) :
    PI X (.Tuple elts kk tpos) (.Call (.Name "zip" p) [e, e2] [] pos) (lowI X.K (iZpX t)) :=
  PI.imp (pi_zipX hg hm ha hs hpl) fun σ H R ⟨e, m, Q, rs, rm, h, q⟩ => ⟨e, m, _, rs, rm, h, fun vs H1 ds m1 s1 r1 rm1 h1 => by
    obtain ⟨x, y, ex, h2⟩ := two_out h1
    obtain ⟨es, ee, h3⟩ := asT_out h2
    obtain ⟨b, fs, ey, hmb, h4⟩ := asL_out h3
    subst ex ee ey
    simp only [Reps, Rep] at r1
    obtain ⟨v, _, rfl, ⟨a, xs, rfl, sq, rx⟩, v2, _, rfl, rfl, rfl⟩ := r1
    obtain ⟨ho, g1, ys, rfl, ry⟩ := rm1 b _ hmb
    refine ⟨a, b, xs, ys, rfl, sq, .inl (.inl g1), q _ H1 _ m1 s1 rm1 (fun i H2 m2 im rm2 ok => ?_) h4⟩
    have sq2 := im.seq sq
    obtain ⟨ho2, g2, zs, rfl, rz⟩ := rm2 b _ ok
    have sl2 : SqL X.K H2 b zs := .inl (.inl g2)
    rw [zipD_len, rx.len, rz.len]
    refine ⟨fun hl => ⟨xs, zs, sq2, sl2, by omega⟩, fun hl => ?_⟩
    obtain ⟨x, hx, rd⟩ := rx.get (List.getElem?_eq_getElem (show i < es.length by rw [rx.len]; omega))
    obtain ⟨y, hy, re⟩ := rz.get (List.getElem?_eq_getElem (show i < fs.length by rw [rz.len]; omega))
    refine ⟨⟨xs, zs, x, y, sq2, sl2, hx, hy⟩, fun v H3 ⟨T, x', y', ev, nT, eh, hx', hy'⟩ => ?_⟩
    have e1 := hx' xs sq2
    have e2 := hy' zs sl2
    rw [hx] at e1; cases e1
    rw [hy] at e2; cases e2
    subst eh ev
    have st : Stp H2 m2 (upd H2 T (.tup [x, y])) m2 := .new nT
    refine ⟨st, rm2.new nT, _, zipD_get es fs i _ _ (List.getElem?_eq_getElem (by rw [rx.len]; omega)) (List.getElem?_eq_getElem (by rw [rz.len]; omega)), ?_⟩
    simp only [Rep, Reps]
    exact ⟨T, _, rfl, .inl (.inl upd_same), x, [y], rfl, (rd.ext im).ext st.imm, y, [], rfl, re.ext st.imm, rfl⟩⟩
end
end Sd

set_option Elab.async false
set_option linter.all false
set_option maxRecDepth 100000
set_option maxHeartbeats 1000000
/-! Membership in a list, by ==. -/
namespace Sd
open PySem PySem.Spec PyProof.Rows L2
section
variable {X : Cx}
def inD (m : M) (x y : D) (k : Bool → Prop) : Prop := ∃ p ps, toPyM m x = some p ∧ toPyM m y = some (.list ps) ∧ SeqAt.shaped p = true ∧ SeqAt.shaped (.list ps) = true ∧ k (ps.any fun z => PyData.eqv z p)
def xIn : XO := fun x y m Q => inD m x y fun b => Q (.bl b) m
def xNotIn : XO := fun x y m Q => inD m x y fun b => Q (.bl (!b)) m
theorem xo_inD (hu : X.A.units + 65 < cLine) : OpR X (compareOp .In) (lowR X.K xIn) :=
  OpR.imp (op_inD hu) fun x y H QV ⟨d, e, m, Q, rx, ry, rm, ⟨p, q', h1, h2, s1, s2, h⟩, q⟩ => ⟨p, q', toPyM_dp rm rx h1, toPyM_dp rm ry h2, s1, s2, q _ H _ m .refl (by simp only [Rep]) rm h⟩
theorem xo_notInD (hu : X.A.units + 65 < cLine) : OpR X (compareOp .NotIn) (lowR X.K xNotIn) :=
  OpR.imp (op_notInD hu) fun x y H QV ⟨d, e, m, Q, rx, ry, rm, ⟨p, q', h1, h2, s1, s2, h⟩, q⟩ => ⟨p, q', toPyM_dp rm rx h1, toPyM_dp rm ry h2, s1, s2, q _ H _ m .refl (by simp only [Rep]) rm h⟩
def asBl (x : D) (k : Bool → Prop) : Prop := match x with | .bl b => k b | _ => False
theorem asBl_bl {b : Bool} {k : Bool → Prop} : asBl (.bl b) k = k b := rfl
theorem asBl_out {x : D} {k : Bool → Prop} (h : asBl x k) : ∃ b, x = .bl b ∧ k b := by
  cases x <;> simp only [asBl] at h <;> first | exact ⟨_, rfl, h⟩ | exact absurd h not_false
/-- int(x) of a truth value -/
def xIntB : XC := fun ds m Q => one ds fun x => asBl x fun b => Q (.int (if b then 1 else 0)) m
theorem xc_intB : CallR X (.type "int") (lowC X.K xIntB) :=
  CallR.imp call_int1 fun xs H QV ⟨ds, m, Q, r, rm, h, q⟩ => by
    obtain ⟨x, ex, h1⟩ := one_out h
    obtain ⟨i, ei, h2⟩ := asBl_out h1
    subst ex ei
    simp only [Reps, Rep] at r
    obtain ⟨v, _, rfl, rfl, rfl⟩ := r
    exact .inr ⟨i, rfl, q _ H _ m .refl (by simp only [Rep]) rm h2⟩
/-! ### list(range(..)) -/
theorem reps_rg {K : PySem.W.Frag} {H : Hp} (a b : Int) : Reps K H (rangeD a b) (rgV a b) := by
  unfold rangeD rgV
  generalize List.range (b - a).toNat = l
  induction l with
  | nil => simp [Reps]
  | cons x l ih => simp only [List.map_cons, Reps]; exact ⟨_, _, rfl, by simp only [Rep], ih⟩
def xLstRg1 (ta : XE) : XE := fun e m Q => ta e m fun x m1 => asI x fun j => L2.RgOk 0 j ∧ ∀ p, m1 p = none → Q (.ref p) (updM m1 p (.lst (rangeD 0 j)))
def xLstRg2 (ta tb : XE) : XE := fun e m Q => ta e m fun x m1 => tb e m1 fun y m2 => asI x fun i => asI y fun j => L2.RgOk i j ∧ ∀ p, m2 p = none → Q (.ref p) (updM m2 p (.lst (rangeD i j)))
theorem xe_listRg1 {a : Expr} {ta : XE} {p p2 pos pos2 : Pos} (hc : X.calm = true) (hg : Gl X "list") (hm : X.mg "list" = none) (hg2 : Gl X "range") (hm2 : X.mg "range" = none) (ha : PE X a (low X.K ta))
    (na : starEach [.Call (.Name "range" p2) [a] [] pos2] X.env = (false, eval (.Call (.Name "range" p2) [a] [] pos2) X.env) :: starEach [] X.env := by rfl) (na2 : starEach [a] X.env = (false, eval a X.env) :: starEach [] X.env := by rfl) :
    PE X (.Call (.Name "list" p) [.Call (.Name "range" p2) [a] [] pos2] [] pos) (low X.K (xLstRg1 ta)) :=
  PE.imp (pe_listRg hc hg hm (prg_1 hg2 hm2 ha na2) na) fun σ H QV ⟨e, m, Q, rs, rm, h, q⟩ => ⟨e, m, _, rs, rm, h, fun v H1 d m1 s1 r1 rm1 h1 => by
    obtain ⟨j, ed, h2⟩ := asI_out h1
    subst ed
    simp only [Rep] at r1
    subst r1
    exact ⟨j, rfl, h2.1, fun p hp => q _ _ (.ref p) _ (s1.trans (.newM hp)) (by simp only [Rep]) (new_lst rm1 (reps_rg 0 j) hp) (h2.2 p (rm1.none hp))⟩⟩
theorem xe_listRg2 {a b : Expr} {ta tb : XE} {p p2 pos pos2 : Pos} (hc : X.calm = true) (hg : Gl X "list") (hm : X.mg "list" = none) (hg2 : Gl X "range") (hm2 : X.mg "range" = none) (ha : PE X a (low X.K ta)) (hb : PE X b (low X.K tb))
    (na : starEach [.Call (.Name "range" p2) [a, b] [] pos2] X.env = (false, eval (.Call (.Name "range" p2) [a, b] [] pos2) X.env) :: starEach [] X.env := by rfl) (na2 : starEach [a, b] X.env = (false, eval a X.env) :: starEach [b] X.env := by rfl)
    (nb : starEach [b] X.env = (false, eval b X.env) :: starEach [] X.env := by rfl) (hp : (backTo pos2 (starEach [b] X.env)).any (·.1) = false := by rfl) :
    PE X (.Call (.Name "list" p) [.Call (.Name "range" p2) [a, b] [] pos2] [] pos) (low X.K (xLstRg2 ta tb)) :=
  PE.imp (pe_listRg hc hg hm (prg_2 hg2 hm2 ha hb na2 nb hp) na) fun σ H QV ⟨e, m, Q, rs, rm, h, q⟩ => ⟨e, m, _, rs, rm, h, fun v H1 d m1 s1 r1 rm1 h1 => ⟨e, m1, _, rs.ext s1.imm, rm1, h1, fun u H2 d2 m2 s2 r2 rm2 h2 => by
    obtain ⟨i, ed, h3⟩ := asI_out h2
    obtain ⟨j, ed2, h4⟩ := asI_out h3
    subst ed ed2
    simp only [Rep] at r1 r2
    subst r1 r2
    exact ⟨i, j, rfl, rfl, h4.1, fun p hp => q _ _ (.ref p) _ ((s1.trans s2).trans (.newM hp)) (by simp only [Rep]) (new_lst rm2 (reps_rg i j) hp) (h4.2 p (rm2.none hp))⟩⟩⟩
/-- one statement at a time: what comes behind stands by a name -/
theorem hide {t u : XS} {D : Xnds} {e : En} {m : M} (h : ∀ K : En → M → Prop, K = u D → t { D with nx := K } e m) : xSeq t u D e m := h _ rfl
theorem room65 {k : Nat} {A : Around} (r : Room k A) : A.units + 65 < cLine := by have := r.un; omega
end
end Sd

set_option Elab.async false
set_option linter.all false
set_option maxRecDepth 100000
set_option maxHeartbeats 1000000
/-! sorted(d, key=lambda t: (t[0] * 10 ** 30 // t[1], t)) of a dict whose keys are pairs of whole numbers. -/
namespace LK
open PySem PySem.Spec PyProof.Rows L2
section
variable {prog : Program} {w : World} {A : Around} {s : Shared} {E : Value → Shared → Prop}
def kBody (x : Str) (k1 j1 j2 j3 j4 : Nat) (a1 a2 a3 a4 a5 a6 a7 a8 a9 a10 a11 a12 a13 : Pos) : Expr :=
  .Tuple [.BinOp (.BinOp (.Subscript (.Name x a1) (.Constant (.int 0) j1 a2) a3) .Mult (.BinOp (.Constant (.int 10) j2 a4) .Pow (.Constant (.int 30) j3 a5) a6) a7) .FloorDiv (.Subscript (.Name x a8) (.Constant (.int 1) j4 a9) a10) a11, .Name x a12] k1 a13
def keyI (n d : Int) : Int := (n * 10 ^ 30).fdiv d
theorem ix_raw {b : Addr} {its : Array Value} {v : Value} {i : Int} {j : Nat} {t : Tok} {Q : Value → Shared → Prop} {e1 e2 : Expr} (hb : IsTup s.heap b its) (hi : i = (j : Int)) (hj : its[j]? = some v) (hn : its.size < 1000) (hs : ∀ o i, subscripted e2 false o i = operate [o, i] (getItem o i)) (h : Q v s) : wpAny (model prog w) A (subscriptTail e1 e2 (.ref b) (.int i t)) Q E s := by
  have hjl : j < its.size := (Array.getElem?_eq_some_iff.mp hj).1
  refine subscriptTail_builtinR (x := v) hb.typeIs slot_tuple_getitem.lookup (getItem_tuple (j := j) hb (by omega) (by omega) ?_ hj ⟨rfl, h⟩) (hs _ _)
  rw [seqIndex_of (by omega) (by omega)]
  congr 1; omega
theorem kBody_eval {env : Env} {m : Str → Option Value} {x : Str} {b : Addr} {n d : Int} {t u : Tok} {Q : Value → Shared → Prop} {k1 j1 j2 j3 j4 : Nat} {a1 a2 a3 a4 a5 a6 a7 a8 a9 a10 a11 a12 a13 : Pos}
    (hk : env.scope.kind = .function) (hl : env.kindOf x = some .local) (hn : s.heap.Ns env.locals m) (hv : m x = some (.ref b)) (hd : (x == ("__debug__" : Str)) = false) (hb : IsTup s.heap b #[.int n t, .int d u])
    (d0 : d ≠ 0) (hns : -2 ^ 64 < n ∧ n < 2 ^ 64) (hds : d.natAbs < 1073741824)
    (h : ∀ t1 tk, Q (.ref s.heap.objs.size) { s with heap := s.heap.push { cls := .type "tuple", data := .seq #[.int (keyI n d) t1, .ref b] }, toks := tk }) :
    wpAny (model prog w) A (eval (kBody x k1 j1 j2 j3 j4 a1 a2 a3 a4 a5 a6 a7 a8 a9 a10 a11 a12 a13) env) Q E s := by
  unfold kBody
  refine wpAny_Tuple_spliced ?_
  refine PySem.Calls.spliced_cons ?_
  refine wpAny_BinOp (wpAny_BinOp (Subscript_ (wpAny_Name (wpAny_loadName_local hk hl hn hv ?_) hd)))
  refine wpAny_Constant_int (ix_raw hb (j := 0) rfl (by rfl) (by simp) (fun _ _ => rfl) ?_)
  refine wpAny_BinOp (wpAny_Constant_int (wpAny_Constant_int (pow_int_small (by decide) (by decide) (by decide) ?_)))
  refine mul_int ?_ (CMul.ok (.inl hns))
  refine Subscript_ (wpAny_Name (wpAny_loadName_local hk hl hn hv ?_) hd)
  refine wpAny_Constant_int (ix_raw hb (j := 1) rfl (by rfl) (by simp) (fun _ _ => rfl) ?_)
  refine floordiv_int d0 ?_ (.inl (PyProof.noPylong_small hds))
  refine PySem.Calls.spliced_cons (wpAny_Name (wpAny_loadName_local hk hl hn hv ?_) hd)
  refine PySem.Calls.spliced_nil ⟨?_, ?_⟩
  · show 2 ≤ sizeLine
    decide
  · exact h _ _
/-- a call of the lambda: it keeps all and gives the key -/
theorem kCall {f c' b : Addr} {q x : Str} {sc : Scope} {clo : List (Str × Addr)} {pm ctv : Value} {params : Arguments} {n d : Int} {t u : Tok} {k1 j1 j2 j3 j4 : Nat} {a1 a2 a3 a4 a5 a6 a7 a8 a9 a10 a11 a12 a13 : Pos}
    (hf : s.heap.get? f = some (PySem.W.kla_obj "<lambda>" q params (kBody x k1 j1 j2 j3 j4 a1 a2 a3 a4 a5 a6 a7 a8 a9 a10 a11 a12 a13) sc clo pm c' ctv))
    (hcode : ∃ (oc : Obj) (vs : Array Value) (t : Tok), s.heap.get? c' = some oc ∧ oc.data = .fields vs ∧ vs[1]? = some (.str q t))
    (hlim : s.heap.NoLimit) (hroom : A.depth < recursionLimit) (hsk : sc.kind = .function) (hsn : sc.names = [(x, .local)]) (hco : sc.isCoroutine = false) (hgen : sc.isGenerator = false) (hx : (x == ("__debug__" : Str)) = false)
    (hbind : ∀ (q : Str) (cl : List (Str × Addr)) (pm cv ctv v : Value), bindArgs (PySem.W.kla_fn "<lambda>" q params (kBody x k1 j1 j2 j3 j4 a1 a2 a3 a4 a5 a6 a7 a8 a9 a10 a11 a12 a13) sc cl pm cv ctv) ⟨[v], []⟩ = pure [(x, v)])
    (hb : IsTup s.heap b #[.int n t, .int d u]) (d0 : d ≠ 0) (hns : -2 ^ 64 < n ∧ n < 2 ^ 64) (hds : d.natAbs < 1073741824) :
    wpAny (model prog w) A (call (.ref f) [.ref b]) (PySem.W.KeyPure (.tuple [.int (keyI n d), .tuple [.int n, .int d]]) s) (fun _ _ => False) s := by
  obtain ⟨oc, vs, tq, hoc, hdc, hvc⟩ := hcode
  refine wpAny_call (PySem.W.kla_callFunE hroom hf rfl hco hgen rfl ⟨c', oc, vs, tq, rfl, hoc, hdc, hvc⟩ ?_)
  rw [hbind]
  refine wpAny_pure (wpAny_newFunctionEnv (fun y hy => ?_) (fun y hy => ?_) (fun h₁ hns' hsb => ?_) hsk)
  · rw [show (PySem.W.kla_fn "<lambda>" q params (kBody x k1 j1 j2 j3 j4 a1 a2 a3 a4 a5 a6 a7 a8 a9 a10 a11 a12 a13) sc clo pm (.ref c') ctv).scope.names = [(x, .local)] from hsn] at hy
    rw [List.mem_singleton.mp hy]; exact fun z => nomatch z
  · rw [List.mem_singleton.mp hy]
    show sc.names.lookup x = some .local
    rw [hsn]; simp
  · have kp : ∀ b o, s.heap.get? b = some o → h₁.get? b = some o := fun b o e => hsb.extBut b o (Nat.ne_of_lt (Heap.lt_size e)) (Heap.get?_push_of_some _ e)
    refine ⟨hlim.keeps kp, PySem.W.kla_codeExpr (kBody_eval (b := b) (n := n) (d := d) (t := t) (u := u) hsk ?_ hns' ?_ hx ?_ d0 hns hds fun t1 tk => ?_)⟩
    · show sc.names.lookup x = some .local
      rw [hsn]; simp
    · simp
    · obtain ⟨o, e, c⟩ := hb
      exact ⟨o, kp _ _ e, c⟩
    · refine ⟨_, _, rfl, fun b o e => Heap.get?_push_of_some _ (kp b o e), ?_⟩
      obtain ⟨o, e, oc', n', od⟩ := hb
      have := PySem.Reads.tuple (h := h₁.push { cls := .type "tuple", data := .seq #[.int (keyI n d) t1, .ref b] }) (Heap.get?_push_size _ rfl) rfl rfl (.cons (.int (keyI n d) t1) (.cons (PySem.Reads.tuple (xs := [.int n, .int d]) (as := []) (Heap.get?_push_of_some _ (kp _ _ e)) oc' od (.cons (.int n t) (.cons (.int d u) .nil))) .nil))
      exact this
def kOf (x : Addr × Int × Int) : PyData := .tuple [.int (keyI x.2.1 x.2.2), .tuple [.int x.2.1, .int x.2.2]]
theorem kOf_alike (x y : Addr × Int × Int) : PySem.W.alike (kOf x) (kOf y) = true := by simp [kOf, PySem.W.alike, PySem.W.alikeAll]
theorem each_refs {bs : List (Addr × Int × Int)} : ∀ {vs : List Value}, PySem.W.EachIs (fun v (x : Addr × Int × Int) => v = .ref x.1) vs bs → vs = bs.map fun x => Value.ref x.1 := by
  induction bs with
  | nil => intro vs h; have := h.length; simp at this; simpa using this
  | cons x bs ih =>
    intro vs h
    cases h with
    | cons a b => rw [a, List.map_cons, ← ih b]
theorem each_of_refs : ∀ (bs : List (Addr × Int × Int)), PySem.W.EachIs (fun v (x : Addr × Int × Int) => v = .ref x.1) (bs.map fun x => Value.ref x.1) bs
  | [] => .nil
  | x :: bs => .cons rfl (each_of_refs bs)
theorem sortK_raw {a f c' : Addr} {o : Obj} {es : Array DictEntry} {ep : Nat} {bs : List (Addr × Int × Int)} {q x : Str} {sc : Scope} {clo : List (Str × Addr)} {pm ctv : Value} {params : Arguments} {k1 j1 j2 j3 j4 : Nat} {a1 a2 a3 a4 a5 a6 a7 a8 a9 a10 a11 a12 a13 : Pos} {Q : Value → Shared → Prop}
    (ho : s.heap.get? a = some o) (hxd : o.ExactDict) (hdt : o.data = .dict es ep) (hs : (a == sysModules) = false) (hh : A.handled = none) (hes : es.toList.map (·.key) = bs.map fun x => Value.ref x.1) (hlen : bs.length ≤ 1000)
    (hbt : ∀ x ∈ bs, x.2.2 ≠ 0 ∧ (-2 ^ 64 < x.2.1 ∧ x.2.1 < 2 ^ 64) ∧ x.2.2.natAbs < 1073741824 ∧ ∃ t u, IsTup s.heap x.1 #[.int x.2.1 t, .int x.2.2 u]) (hun : A.units + 20 < cLine)
    (hf : s.heap.get? f = some (PySem.W.kla_obj "<lambda>" q params (kBody x k1 j1 j2 j3 j4 a1 a2 a3 a4 a5 a6 a7 a8 a9 a10 a11 a12 a13) sc clo pm c' ctv))
    (hcode : ∃ (oc : Obj) (vs : Array Value) (t : Tok), s.heap.get? c' = some oc ∧ oc.data = .fields vs ∧ vs[1]? = some (.str q t))
    (hlim : s.heap.NoLimit) (hroom : A.depth < recursionLimit) (hsk : sc.kind = .function) (hsn : sc.names = [(x, .local)]) (hco : sc.isCoroutine = false) (hgen : sc.isGenerator = false) (hx : (x == ("__debug__" : Str)) = false)
    (hbind : ∀ (q : Str) (cl : List (Str × Addr)) (pm cv ctv v : Value), bindArgs (PySem.W.kla_fn "<lambda>" q params (kBody x k1 j1 j2 j3 j4 a1 a2 a3 a4 a5 a6 a7 a8 a9 a10 a11 a12 a13) sc cl pm cv ctv) ⟨[v], []⟩ = pure [(x, v)])
    (h : ∀ (h1 h' : Heap) (tk c : Nat), (∀ b o, s.heap.get? b = some o → h1.get? b = some o) → (∀ b o, h1.get? b = some o → h'.get? b = some o) → h'.get? h1.objs.size = some (seqObj "list" (List.toArray ((bs.mergeSort (PySem.W.dataLe false kOf)).map fun x => Value.ref x.1)) c) → Q (.ref h1.objs.size) { s with heap := h', toks := tk }) :
    wpAny (model prog w) A (call (.builtin "sorted") [.ref a] [(Str.ofString "key", .ref f)]) Q E s := by
  have hel : es.size = bs.length := by have := congrArg List.length hes; simpa using this
  refine call_function_entry_kw kind_sorted plain_sorted entry_sorted (PyProof.Rows.ksk_s1 _ _) ?_
  unfold Builtin.«sorted»
  refine wpAny_bind (m := checkCount "sorted" 1 1 _) (wpAny_pure ?_)
  refine wpAny_bind (PySem.W.kdu_collect (A := A.in1) (kdl_raw hs hxd hdt) hh ho (by rw [hel]; exact Nat.le_trans hlen (by decide)) fun h' tk acc hk hacc => ?_)
  have hal : acc.toList = bs.map fun x => Value.ref x.1 := by
    rw [← hes]
    apply List.ext_getElem?
    intro j
    rw [List.getElem?_map]
    cases hj : acc.toList[j]? with
    | none =>
      have h1 := List.getElem?_eq_none_iff.mp hj
      rw [Array.length_toList, hacc.1] at h1
      rw [List.getElem?_eq_none (by rw [Array.length_toList]; exact h1)]; rfl
    | some v =>
      obtain ⟨en, hen, hv⟩ := hacc.2 j v (by rw [← Array.getElem?_toList]; exact hj)
      rw [Array.getElem?_toList, hen, hv]; rfl
  have hz : acc.toList.length ≤ sizeLine := by rw [hal, List.length_map]; exact Nat.le_trans hlen (by decide)
  refine wpAny_bind (wpAny_newList ?_ hz)
  have nD : (h'.push (seqObj "list" acc.toList.toArray 0)).get? h'.objs.size = some (seqObj "list" acc.toList.toArray 0) := Heap.get?_push_size _ rfl
  have hk2 : ∀ b o, s.heap.get? b = some o → (h'.push (seqObj "list" acc.toList.toArray 0)).get? b = some o := fun b o e => Heap.get?_push_of_some _ (hk b o e)
  refine wpAny_bind (wpAny_holding (wpAny_call_entry_kw slot_list_sort ⟨_, nD, rfl⟩ entry_list_sort ?body (PyProof.Rows.ksk_l1 _ _)))
  case body =>
    show wpAny (model prog w) A.in1.in1 (Builtin.«list.sort» ⟨[.ref h'.objs.size], [(Str.ofString "key", .ref f)]⟩) _ _ { s with heap := h'.push (seqObj "list" acc.toList.toArray 0), toks := tk }
    rw [PyProof.Rows.ksk_t1]
    have e := each_of_refs bs
    rw [← hal] at e
    have hl : bs.length = acc.toList.length := by rw [hal, List.length_map]
    refine PySem.W.keyH_tree (b := false) (kz := bs.map kOf) (s := { s with heap := h'.push (seqObj "list" acc.toList.toArray 0), toks := tk }) nD (by rw [List.length_map]; exact hl) hz
      (fun d hd d' hd' => by obtain ⟨y, _, rfl⟩ := List.mem_map.mp hd; obtain ⟨y', _, rfl⟩ := List.mem_map.mp hd'; exact kOf_alike y y')
      (.inl fun d hd => by obtain ⟨y, _, rfl⟩ := List.mem_map.mp hd; exact ⟨_, _, rfl⟩)
      (fun d hd => by
        obtain ⟨y, _, rfl⟩ := List.mem_map.mp hd
        have : (kOf y).depth = 2 := by simp [kOf, PyData.depth, PyData.depthAll]
        rw [this]
        show A.units + 1 + 1 + 2 < cLine
        omega)
      (PySem.W.keyH_turns (s := { s with heap := h'.push (seqObj "list" acc.toList.toArray 0), toks := tk }) (k := kOf) e fun v y hR hy g tk2 kp => ?_) fun g tk2 out c kp hD ko => ⟨.none, rfl, wpAny_pure ⟨_, rfl, ?_⟩⟩
    · subst hR
      obtain ⟨d0, hns, hds, t, u, hb⟩ := hbt y hy
      have kpa : ∀ b o, s.heap.get? b = some o → g.get? b = some o := fun b o e => kp b o (Nat.ne_of_lt (Heap.lt_size (hk b o e))) (hk2 b o e)
      obtain ⟨oc, vs', tq, hoc, hdc, hvc⟩ := hcode
      obtain ⟨ob, eb, rb⟩ := hb
      exact kCall (A := A.in1.in1) (s := { s with heap := g, toks := tk2 }) (kpa _ _ hf) ⟨oc, vs', tq, kpa _ _ hoc, hdc, hvc⟩ (hlim.keeps kpa) hroom hsk hsn hco hgen hx hbind ⟨ob, kpa _ _ eb, rb⟩ d0 hns hds
    · have kpa : ∀ b o, s.heap.get? b = some o → g.get? b = some o := fun b o e => kp b o (Nat.ne_of_lt (Heap.lt_size (hk b o e))) (hk2 b o e)
      have eo := each_refs (PySem.W.keyedOut_each kOf ko e)
      rw [eo] at hD
      exact h h' g tk2 c hk (fun b o e => kp b o (Nat.ne_of_lt (Heap.lt_size e)) (Heap.get?_push_of_some _ e)) hD
end
end LK
namespace Sd
open PySem PySem.Spec PyProof.Rows L2 LK
def kk (k : Int × Int) : List Key := [.inl k.1, .inl k.2]
def unk2 : List Key → Int × Int
  | [.inl a, .inl b] => (a, b)
  | _ => (0, 0)
section
variable {X : Cx}
structure KeyOk (k : Int × Int) : Prop where
  d0 : k.2 ≠ 0
  n1 : -2 ^ 64 < k.1
  n2 : k.1 < 2 ^ 64
  d1 : k.2.natAbs < 1073741824
def outK (bs : List (Addr × Int × Int)) : List V := (bs.mergeSort (PySem.W.dataLe false kOf)).map fun x => V.ref x.1
def tSortK (K : PySem.W.Frag) (P : Addr) (q : Str) (td : TE) : TE := fun σ H Q => td σ H fun y H1 => ∃ (a : Addr) (kvs : List (List Key × V)) (ks : List (Int × Int)), y = .ref a ∧ H1 a = some (.dT kvs) ∧ kvs.map (·.1) = ks.map kk ∧ ks.length ≤ 1000 ∧ (∀ k ∈ ks, KeyOk k) ∧ ∃ tq : Addr → Option Str, tq P = some q ∧ (∀ b r, tq b = some r → LamX.TabS H1 b r) ∧
  ∀ (H2 : Hp), LamX.ExtN H1 H2 → (∀ b r, tq b = some r → LamX.TabS H2 b r) → ∀ (p : Addr) (bs : List (Addr × Int × Int)), H2 p = none → bs.map (·.2) = ks → (∀ x ∈ bs, H2 x.1 = some (.tup [.int x.2.1, .int x.2.2])) → Q (.ref p) (upd H2 p (.lst (outK bs)))
theorem vals_refs2 : ∀ bs : List (Addr × Int × Int), Vals (bs.map fun x => V.ref x.1) (bs.map fun x => Value.ref x.1)
  | [] => .nil
  | x :: bs => .cons rfl (vals_refs2 bs)
theorem pe_sortK {ed : Expr} {td : TE} {c P : Addr} {x : Str} {sc : Scope} {params : Arguments} {p lpos pos kpos : Pos} {k1 j1 j2 j3 j4 : Nat} {a1 a2 a3 a4 a5 a6 a7 a8 a9 a10 a11 a12 a13 : Pos} {k : Nat}
    (hc : X.calm = true) (hr : Room k X.A) (hg : Gl X "sorted") (hm : X.mg "sorted" = none) (hed : PE X ed td) (TB : LamX.TabB X.base X.mg c P) (hcode : X.env.code = .ref c) (hdef : defaultsOf params X.env = ([], []))
    (hsk : sc.kind = .function) (hsn : sc.names = [(x, .local)]) (hco : sc.isCoroutine = false) (hgen : sc.isGenerator = false) (hx : (x == ("__debug__" : Str)) = false)
    (hbind : ∀ (q : Str) (cl : List (Str × Addr)) (pm cv ctv v : Value), bindArgs (PySem.W.kla_fn "<lambda>" q params (kBody x k1 j1 j2 j3 j4 a1 a2 a3 a4 a5 a6 a7 a8 a9 a10 a11 a12 a13) sc cl pm cv ctv) ⟨[v], []⟩ = pure [(x, v)])
    (na : backTo pos (starEach [ed] X.env) = (false, eval ed X.env) :: backTo pos (starEach [] X.env) := by rfl) (npl : (backTo pos (starEach [ed] X.env)).any (·.1) = false := by rfl) (hbt : bootBuiltins "sorted" = some (.builtin "sorted") := by decide +kernel) :
    PE X (.Call (.Name "sorted" p) [ed] [⟨some "key", .Lambda params (kBody x k1 j1 j2 j3 j4 a1 a2 a3 a4 a5 a6 a7 a8 a9 a10 a11 a12 a13) sc lpos, kpos⟩] pos) (tSortK X.K P (X.env.qual ++ "<lambda>") td) := by
  refine ⟨fun pins s σ H Q I h => ?_⟩
  refine wpAny_Call_Name_kw (ld_blt I hg hm hbt ?_ (by decide) (by decide))
  refine PyProof.Rows.callWith_kw ?_ na npl (by rfl) (by rfl)
  rw [na]
  refine PySem.Calls.spliced_cons (thn (hed.run pins s σ H _ I h) fun u s1 ⟨y, H1, I1, r1, q1⟩ => PySem.Calls.spliced_nil ?_)
  obtain ⟨a, kvs, ks, rfl, hd, hkv, hlen, hok, tq, hP, hT, q⟩ := q1
  cases r1
  show wpAny _ _ (evalAll ((do let v ← eval (.Lambda params (kBody x k1 j1 j2 j3 j4 a1 a2 a3 a4 a5 a6 a7 a8 a9 a10 a11 a12 a13) sc lpos) X.env; standAt pos; pure v) :: [])) _ _ s1
  obtain ⟨T, hTd⟩ : ∃ T : List (Addr × Str), T = (List.range s1.heap.objs.size).filterMap fun b => (tq b).map fun r => (b, r) := ⟨_, rfl⟩
  have mT : ∀ b r, (b, r) ∈ T ↔ tq b = some r := fun b r => by
    rw [hTd, List.mem_filterMap]
    constructor
    · rintro ⟨x, _, e⟩
      cases q : tq x with
      | none => rw [q] at e; cases e
      | some y => rw [q] at e; cases e; exact q
    · intro e
      obtain ⟨ps, e1, _⟩ := hT b r e
      exact ⟨b, List.mem_range.mpr (I1.hok.lt e1), by rw [e]; rfl⟩
  refine wpAny_evalAll_cons (wpAny_bind (LamX.lam_make2 (T := T) I1 TB hcode ((mT _ _).mpr hP) (fun p hp e => by have := (mT p.1 p.2).mp hp; rw [e, hP] at this; exact (Option.some.inj this).symm) (fun p hp => hT _ _ ((mT p.1 p.2).mp hp)) hdef (fun y hy e => ?_) fun f c' pm' ctv H2 s2 I2 eN T2 hf hfn hfr hco' => wpAny_bind (wpAny_standAt (wpAny_pure (wpAny_evalAll_nil ?_)))))
  · rw [hsn] at hy
    rw [List.mem_singleton.mp hy] at e; cases e
  have T2' : ∀ b r, tq b = some r → LamX.TabS H2 b r := fun b r e => T2 _ ((mT b r).mpr e)
  have hd2 : H2 a = some (.dT kvs) := eN _ _ hd (fun ps z => nomatch z)
  obtain ⟨z, hs, xs, pr, o, es, ep, ho, hxd, hdt, he, hn⟩ := (show ObjOk X.prog X.w H2 s2.heap a (.dT kvs) from I2.hok a _ hd2)
  have hxk : xs.map (·.1) = ks.map kk := by
    rw [← hkv]
    clear hd hd2 z he hn hkv
    induction pr with
    | nil => rfl
    | cons r _ ih => rw [List.map_cons, List.map_cons, ih, r.1]
  obtain ⟨bs, hbs⟩ : ∃ bs : List (Addr × Int × Int), bs = xs.map fun q => (q.2.1, unk2 q.1) := ⟨_, rfl⟩
  have hb2 : bs.map (·.2) = ks := by
    rw [hbs, List.map_map]
    have e1 : (xs.map (·.1)).map unk2 = ks := by
      rw [hxk, List.map_map]
      exact List.map_id'' (fun k => rfl) ks
    rw [← e1, List.map_map]; rfl
  have hmem : ∀ y ∈ bs, H2 y.1 = some (.tup [.int y.2.1, .int y.2.2]) ∧ KeyOk y.2 := fun y hy => by
    have hy2 : y.2 ∈ ks := by rw [← hb2]; exact List.mem_map_of_mem hy
    rw [hbs] at hy
    obtain ⟨w, hw, rfl⟩ := List.mem_map.mp hy
    obtain ⟨kw, hkw, ekw⟩ : ∃ k ∈ ks, kk k = w.1 := by
      have : w.1 ∈ ks.map kk := by rw [← hxk]; exact List.mem_map_of_mem hw
      exact List.mem_map.mp this
    have tupw : H2 w.2.1 = some (.tup (w.1.map kV)) := by
      clear hd hd2 z he hn hkv hxk hbs hy hb2
      induction pr with
      | nil => cases hw
      | cons r _ ih =>
        rcases List.mem_cons.mp hw with e | e
        · rw [e, r.2.1, r.1]
        · exact ih e
    refine ⟨?_, hok _ hy2⟩
    rw [tupw, ← ekw]; rfl
  have hes : es.toList.map (·.key) = bs.map fun x => Value.ref x.1 := by
    rw [he, List.map_map, hbs, List.map_map]; rfl
  have hbl : bs.length = ks.length := by rw [← hb2, List.length_map]
  have hcd : ∃ (oc : Obj) (vs : Array Value) (t : Tok), s2.heap.get? c' = some oc ∧ oc.data = .fields vs ∧ vs[1]? = some (.str (X.env.qual ++ "<lambda>") t) := (show ObjOk X.prog X.w H2 s2.heap c' (LamX.CodeO c' (X.env.qual ++ "<lambda>")) from I2.hok c' _ hco').1
  refine sortK_raw (A := X.A) (s := s2) (bs := bs) ho hxd hdt hs (I2.ok.hd hc) hes (by omega) (fun y hy => ?_) (by have := hr.un; omega) hf hcd I2.nolimit (by have := hr.dp; omega) hsk hsn hco hgen hx hbind fun h1 h' tk cc g1 g2 g3 => ?_
  · obtain ⟨e1, ok⟩ := hmem y hy
    refine ⟨ok.d0, ⟨ok.n1, ok.n2⟩, ok.d1, ?_⟩
    obtain ⟨_, its, rv, ob, eb, rb⟩ := (show ObjOk X.prog X.w H2 s2.heap y.1 (.tup [.int y.2.1, .int y.2.2]) from I2.hok _ _ e1)
    cases rv with
    | cons r0 rv =>
      cases rv with
      | cons r1 rv =>
        cases rv
        obtain ⟨t, rfl⟩ := r0
        obtain ⟨u, rfl⟩ := r1
        exact ⟨t, u, ob, eb, rb⟩
  · have J : Inv X pins σ H2 { s2 with heap := h1, toks := s2.toks } := I2.kept g1
    refine ⟨.ref h1.objs.size, upd H2 h1.objs.size (.lst (outK bs)), J.laid (t' := tk) g2 (Nat.le_refl _) ⟨?_, (bs.mergeSort (PySem.W.dataLe false kOf)).map (fun x : Addr × Int × Int => Value.ref x.1), cc, by unfold outK; exact vals_refs2 _, g3⟩, rfl, q H2 eN T2' _ bs (J.hok.fresh (Nat.le_refl _)) hb2 fun y hy => (hmem y hy).1⟩
    unfold outK
    rw [List.length_map, List.length_mergeSort, hbl]
    exact Nat.le_trans hlen (by decide)
/-! ### in the layer -/
def kLe (a b : Int × Int) : Bool := decide (keyI a.1 a.2 < keyI b.1 b.2 ∨ (keyI a.1 a.2 = keyI b.1 b.2 ∧ (a.1 < b.1 ∨ (a.1 = b.1 ∧ a.2 ≤ b.2))))
theorem dataLe_k : PySem.W.dataLe false kOf = fun a b => kLe a.2 b.2 := by
  funext a b
  show (!PySem.W.dataLt (kOf b) (kOf a)) = _
  unfold kOf
  rw [PySem.W.dataLt_pair (by simp [PySem.W.alike]) (by simp [PySem.W.alike, PySem.W.alikeAll]), PySem.W.dataLt_int, PySem.W.dataLt_ii]
  simp only [PyData.eqv, PyData.eqvAll, Bool.and_true, beq_iff_eq, Bool.and_eq_true]
  unfold kLe
  by_cases h1 : keyI b.2.1 b.2.2 = keyI a.2.1 a.2.2
  · rw [if_pos h1]
    by_cases h2 : b.2.1 = a.2.1 ∧ b.2.2 = a.2.2
    · rw [if_pos h2]
      rw [Bool.eq_iff_iff]; simp; omega
    · rw [if_neg h2]
      rw [Bool.eq_iff_iff]; simp; omega
  · rw [if_neg h1]
    rw [Bool.eq_iff_iff]; simp; omega
theorem kLe_trans (a b c : Int × Int) (h1 : kLe a b = true) (h2 : kLe b c = true) : kLe a c = true := by
  simp only [kLe, decide_eq_true_eq] at *; omega
theorem kLe_total (a b : Int × Int) : (kLe a b || kLe b a) = true := by
  simp only [kLe, Bool.or_eq_true, decide_eq_true_eq]; omega
theorem outK_perm (bs : List (Addr × Int × Int)) : ((bs.mergeSort (PySem.W.dataLe false kOf)).map (·.2)).Perm (bs.map (·.2)) ∧ ((bs.mergeSort (PySem.W.dataLe false kOf)).map (·.2)).Pairwise (fun a b => kLe a b = true) := by
  rw [dataLe_k]
  refine ⟨(List.mergeSort_perm bs _).map _, ?_⟩
  rw [List.pairwise_map]
  exact List.pairwise_mergeSort (le := fun a b : Addr × Int × Int => kLe a.2 b.2) (fun a b c h1 h2 => kLe_trans a.2 b.2 c.2 h1 h2) (fun a b => kLe_total a.2 b.2) bs
def tabQ (m : M) (b : Addr) : Option Str := match m b with | some (.tab r) => some r | _ => none
theorem tabQ_eq {m : M} {b : Addr} {r : Str} (h : m b = some (.tab r)) : tabQ m b = some r := by unfold tabQ; rw [h]
theorem tabQ_out {m : M} {b : Addr} {r : Str} (h : tabQ m b = some r) : m b = some (.tab r) := by
  unfold tabQ at h
  split at h
  · rename_i r' e; cases h; exact e
  · cases h
def pairK (k : Int × Int) : D := .tup [.int k.1, .int k.2]
theorem reps_outK {K : PySem.W.Frag} {H : Hp} : ∀ bs : List (Addr × Int × Int), (∀ x ∈ bs, H x.1 = some (.tup [.int x.2.1, .int x.2.2])) → Reps K H ((bs.map (·.2)).map pairK) (bs.map fun x => V.ref x.1)
  | [], _ => by simp [Reps]
  | x :: bs, h => by
    simp only [List.map_cons, Reps]
    refine ⟨_, _, rfl, ?_, reps_outK bs fun y hy => h y (List.mem_cons_of_mem _ hy)⟩
    simp only [pairK, Rep]
    exact ⟨x.1, _, rfl, .inl (.inl (h x List.mem_cons_self)), by simp [Reps, Rep]⟩
def xSortK (P : Addr) (q : Str) (td : XE) : XE := fun e m Q => td e m fun y m1 => ∃ (a : Addr) (kvs : List (List Key × D)) (ks : List (Int × Int)), y = .ref a ∧ m1 a = some (.dT kvs) ∧ kvs.map (·.1) = ks.map kk ∧ ks.length ≤ 1000 ∧ (∀ k ∈ ks, KeyOk k) ∧ m1 P = some (.tab q) ∧
  ∀ (p : Addr) (ks' : List (Int × Int)), m1 p = none → ks'.Perm ks → ks'.Pairwise (fun a b => kLe a b = true) → Q (.ref p) (updM m1 p (.lst (ks'.map pairK)))
theorem repF_fst {κ : Type} {K : PySem.W.Frag} {H : Hp} : ∀ {ds : List (κ × D)} {vs : List (κ × V)}, RepF K H ds vs → vs.map (·.1) = ds.map (·.1)
  | [], _, h => by simp only [RepF] at h; subst h; rfl
  | (f, d) :: ds, _, h => by
    obtain ⟨v, vs, e, r, rs⟩ := h
    subst e
    rw [List.map_cons, List.map_cons, repF_fst rs]
theorem stp_ext {H H' : Hp} {m : M} (e : LamX.ExtN H H') : Stp H m H' m :=
  ⟨fun a o h i => e a o h i.nt, fun a o h _ t => e a o h t, fun a o h t => ⟨o, e a o h t, t⟩, fun _ _ _ _ n => n⟩
theorem xe_sortK {ed : Expr} {td : XE} {c P : Addr} {x : Str} {sc : Scope} {params : Arguments} {p lpos pos kpos : Pos} {k1 j1 j2 j3 j4 : Nat} {a1 a2 a3 a4 a5 a6 a7 a8 a9 a10 a11 a12 a13 : Pos} {k : Nat}
    (hc : X.calm = true) (hr : Room k X.A) (hg : Gl X "sorted") (hm : X.mg "sorted" = none) (hed : PE X ed (low X.K td)) (TB : LamX.TabB X.base X.mg c P) (hcode : X.env.code = .ref c) (hdef : defaultsOf params X.env = ([], []))
    (hsk : sc.kind = .function) (hsn : sc.names = [(x, .local)]) (hco : sc.isCoroutine = false) (hgen : sc.isGenerator = false) (hx : (x == ("__debug__" : Str)) = false)
    (hbind : ∀ (q : Str) (cl : List (Str × Addr)) (pm cv ctv v : Value), bindArgs (PySem.W.kla_fn "<lambda>" q params (kBody x k1 j1 j2 j3 j4 a1 a2 a3 a4 a5 a6 a7 a8 a9 a10 a11 a12 a13) sc cl pm cv ctv) ⟨[v], []⟩ = pure [(x, v)])
    (na : backTo pos (starEach [ed] X.env) = (false, eval ed X.env) :: backTo pos (starEach [] X.env) := by rfl) (npl : (backTo pos (starEach [ed] X.env)).any (·.1) = false := by rfl) (hbt : bootBuiltins "sorted" = some (.builtin "sorted") := by decide +kernel) :
    PE X (.Call (.Name "sorted" p) [ed] [⟨some "key", .Lambda params (kBody x k1 j1 j2 j3 j4 a1 a2 a3 a4 a5 a6 a7 a8 a9 a10 a11 a12 a13) sc lpos, kpos⟩] pos) (low X.K (xSortK P (X.env.qual ++ "<lambda>") td)) :=
  PE.imp (pe_sortK hc hr hg hm hed TB hcode hdef hsk hsn hco hgen hx hbind na npl hbt) fun σ H QV ⟨e, m, Q, rs, rm, h, q⟩ => ⟨e, m, _, rs, rm, h, fun y H1 d m1 s1 r1 rm1 h1 => by
    obtain ⟨a, kvs, ks, ed, hd, hkv, hlen, hok, htab, h2⟩ := h1
    subst ed
    simp only [Rep] at r1
    subst r1
    obtain ⟨ho, e1, vs, e2, rf⟩ := rm1 a _ hd
    obtain ⟨ho2, e3, ps, e4, t1, t2⟩ := rm1 P _ htab
    subst e2 e4
    refine ⟨a, vs, ks, rfl, e1, (repF_fst rf).trans hkv, hlen, hok, tabQ m1, tabQ_eq htab, fun b r hb => ?_, fun H2 eN T2 p bs hp hb ht => ?_⟩
    · obtain ⟨ho3, g1, ps3, g2, g3, g4⟩ := rm1 b _ (tabQ_out hb)
      subst g2
      exact ⟨ps3, g1, g3, g4⟩
    obtain ⟨k1', k2'⟩ := outK_perm bs
    rw [hb] at k1'
    have sN : Stp H1 m1 H2 m1 := stp_ext eN
    have rm2 : RepM X.K H2 m1 := fun b o hb => by
      obtain ⟨u, g1, g2⟩ := rm1 b o hb
      cases o with
      | tab r =>
        obtain ⟨ps2, f1, f2, f3⟩ := T2 b r (tabQ_eq hb)
        exact ⟨_, f1, ps2, rfl, f2, f3⟩
      | lst ds => obtain ⟨xs, e5, _⟩ := id g2; exact ⟨u, eN b u g1 (by subst e5; exact fun _ z => nomatch z), g2.ext sN.imm⟩
      | ins C fs => obtain ⟨dx, xs, e5, _⟩ := id g2; exact ⟨u, eN b u g1 (by subst e5; exact fun _ z => nomatch z), g2.ext sN.imm⟩
      | dK kvs => obtain ⟨xs, e5, _⟩ := id g2; exact ⟨u, eN b u g1 (by subst e5; exact fun _ z => nomatch z), g2.ext sN.imm⟩
      | dT kvs => obtain ⟨xs, e5, _⟩ := id g2; exact ⟨u, eN b u g1 (by subst e5; exact fun _ z => nomatch z), g2.ext sN.imm⟩
      | fK kvs => obtain ⟨ob, xs, e5, _⟩ := id g2; exact ⟨u, eN b u g1 (by subst e5; exact fun _ z => nomatch z), g2.ext sN.imm⟩
    refine q _ _ (.ref p) _ ((s1.trans sN).trans (.newM hp)) (by simp only [Rep]) ?_ (h2 p _ (rm2.none hp) k1' k2')
    unfold outK
    exact new_lst rm2 (reps_outK _ fun x hx => ht x ((List.mergeSort_perm bs _).mem_iff.mp hx)) hp⟩
end
end Sd

set_option Elab.async false
set_option linter.all false
set_option maxRecDepth 100000
set_option maxHeartbeats 1000000
/-! A dict whose keys are pairs of whole numbers: made, and stored in; the tuples that are its keys. -/
namespace Sd
open PySem PySem.Spec PyProof.Rows L2 LK
section
variable {X : Cx}
def xTupH (t : XA) : XE := fun e m Q => t e m fun ds m1 => ds.length ≤ sizeLine ∧ Q (.tph ds) m1
theorem xe_tupH {es : List Expr} {t : XA} {x1 pos} (h : PA X es (lowA X.K t)) : PE X (.Tuple es x1 pos) (low X.K (xTupH t)) :=
  PE.imp (pe_tup h) fun σ H QV ⟨e, m, Q, rs, rm, h, q⟩ => ⟨e, m, _, rs, rm, h, fun vs H1 ds m1 s1 r1 rm1 h1 => by
    refine ⟨by rw [← r1.len]; exact h1.1, fun p hp => ?_⟩
    have st : Stp H1 m1 (upd H1 p (.tup vs)) m1 := .new hp
    exact q _ _ (.tph ds) m1 (s1.trans st) (by simp only [Rep]; exact ⟨p, vs, rfl, upd_same, r1.ext st.imm⟩) (rm1.new hp) h1.2⟩
def tabD (ks : List (Int × Int)) : List (List Key × D) := ks.map fun k => (kk k, D.bl true)
def tabV (ks : List (Int × Int)) : List (List Key × V) := ks.map fun k => (kk k, V.bl true)
theorem rep_tab {K : PySem.W.Frag} {H : Hp} : ∀ (ks : List (Int × Int)) (vs : List (List Key × V)), RepF K H (tabD ks) vs ↔ vs = tabV ks
  | [], vs => by simp [tabD, tabV, RepF]
  | k :: ks, vs => by
    have ih := rep_tab (K := K) (H := H) ks
    simp only [tabD, tabV, List.map_cons, RepF, Rep] at ih ⊢
    constructor
    · rintro ⟨v, vs', e, e2, r⟩
      rw [e, e2, (ih vs').mp r]
    · intro e
      exact ⟨_, _, e, rfl, (ih _).mpr rfl⟩
def addK (ks : List (Int × Int)) (k : Int × Int) : List (Int × Int) := if k ∈ ks then ks else ks ++ [k]
theorem kk_inj {a b : Int × Int} (h : kk a = kk b) : a = b := by
  unfold kk at h
  injection h with h1 h2
  injection h2 with h2 _
  injection h1 with h1
  injection h2 with h2
  exact Prod.ext h1 h2
theorem put_tab (ks : List (Int × Int)) (k : Int × Int) : putK (tabV ks) (kk k) (.bl true) = tabV (addK ks k) := by
  unfold putK addK
  have e : ((tabV ks).any fun kv => decide (kv.1 = kk k)) = decide (k ∈ ks) := by
    unfold tabV
    rw [List.any_map, Bool.eq_iff_iff, List.any_eq_true, decide_eq_true_eq]
    constructor
    · rintro ⟨y, hy, e⟩
      have := kk_inj (of_decide_eq_true e)
      rw [← this]; exact hy
    · intro h; exact ⟨k, h, decide_eq_true rfl⟩
  rw [e]
  by_cases c : k ∈ ks
  · rw [if_pos (decide_eq_true c), if_pos c]
    unfold tabV
    rw [List.map_map]
    refine List.map_congr_left fun y _ => ?_
    simp only [Function.comp_apply]
    split <;> rfl
  · rw [if_neg (by simpa using c), if_neg c]
    unfold tabV
    rw [List.map_append]; rfl
def xDNewT : XE := fun e m Q => ∀ p, m p = none → Q (.ref p) (updM m p (.dT (tabD [])))
theorem xe_dnewT {pos : Pos} : PE X (.Dict [] [] pos) (low X.K xDNewT) :=
  PE.imp pe_dnewT fun σ H QV ⟨e, m, Q, rs, rm, h, q⟩ p hp => q _ _ (.ref p) _ (.newM hp) (by simp only [Rep]) (rm.upd (u := .dT (tabD [])) (Stp.new (m := m) hp).imm ⟨[], rfl, (rep_tab [] []).mpr rfl⟩) (h p (rm.none hp))
def xDPutT (td ty tv : XE) : XS := fun D e m => tv e m fun v m1 => td e m1 fun x m2 => ty e m2 fun y m3 => ∃ (a : Addr) (ks : List (Int × Int)) (n d : Int), v = .bl true ∧ x = .ref a ∧ y = .tph [.int n, .int d] ∧ m3 a = some (.dT (tabD ks)) ∧ ks.length < sizeLine ∧ D.nx e (updM m3 a (.dT (tabD (addK ks (n, d)))))
theorem xs_dputT {o i value : Expr} {td ty tv : XE} {pos pos' : Pos} (hu : X.A.units + 64 < cLine) (ho : PE X o (low X.K td)) (hi : PE X i (low X.K ty)) (hv : PE X value (low X.K tv)) (hs : swapsWith value (some (.Subscript o i pos')) pos.line X.env = pure false := by rfl) :
    PS X (.Assign [.Subscript o i pos'] value pos) (lowS X.K (xDPutT td ty tv)) :=
  PS.imp (ps_dput (by omega) ho hi hv hs) fun D σ H ⟨e, m, D', rs, rm, h, q⟩ => ⟨e, m, _, rs, rm, h, fun v H1 dv m1 s1 r1 rm1 h1 => ⟨e, m1, _, rs.ext s1.imm, rm1, h1, fun x H2 dx m2 s2 r2 rm2 h2 => ⟨e, m2, _, rs.ext (s1.trans s2).imm, rm2, h2, fun y H3 dy m3 s3 r3 rm3 h3 => by
    obtain ⟨a, ks, n, d, e1, e2, e3, hm, hl, h4⟩ := h3
    subst e1 e2 e3
    simp only [Rep] at r1 r2 r3
    subst r1 r2
    obtain ⟨b, ys, rfl, hb, ry⟩ := r3
    simp only [Reps, Rep] at ry
    obtain ⟨_, _, rfl, rfl, _, _, rfl, rfl, rfl⟩ := ry
    obtain ⟨ho, f1, vs, f2, f3⟩ := rm3 a _ hm
    subst f2
    have ev := (rep_tab ks vs).mp f3
    subst ev
    have st : Stp H3 m3 (upd H3 a (.dT (tabV (addK ks (n, d))))) (updM m3 a (.dT (tabD (addK ks (n, d))))) := .write f1 (fun z => z) hm
    refine ⟨a, upd H3 a (.dT (tabV (addK ks (n, d)))), rfl, ?_, q.nx σ _ e _ (((s1.trans s2).trans s3).trans st) (rs.ext (((s1.trans s2).trans s3).trans st).imm) (rm3.upd st.imm ⟨_, rfl, (rep_tab _ _).mpr rfl⟩) h4⟩
    have := DPut.t (v := .bl true) (k := kk (n, d)) f1 (b := b) hb (by unfold tabV; rw [List.length_map]; exact hl)
    rw [put_tab] at this
    exact this⟩⟩⟩
theorem xe_sortQ {ed : Expr} {td : XE} {c P : Addr} {q x : Str} {sc : Scope} {params : Arguments} {p lpos pos kpos : Pos} {k1 j1 j2 j3 j4 : Nat} {a1 a2 a3 a4 a5 a6 a7 a8 a9 a10 a11 a12 a13 : Pos} {k : Nat}
    (hc : X.calm = true) (hr : Room k X.A) (hg : Gl X "sorted") (hm : X.mg "sorted" = none) (hed : PE X ed (low X.K td)) (TB : LamX.TabB X.base X.mg c P) (hcode : X.env.code = .ref c) (hq : X.env.qual ++ "<lambda>" = q := by rfl) (hdef : defaultsOf params X.env = ([], []) := by rfl)
    (hsk : sc.kind = .function := by rfl) (hsn : sc.names = [(x, .local)] := by rfl) (hco : sc.isCoroutine = false := by rfl) (hgen : sc.isGenerator = false := by rfl) (hx : (x == ("__debug__" : Str)) = false := by decide)
    (hbind : ∀ (q : Str) (cl : List (Str × Addr)) (pm cv ctv v : Value), bindArgs (PySem.W.kla_fn "<lambda>" q params (kBody x k1 j1 j2 j3 j4 a1 a2 a3 a4 a5 a6 a7 a8 a9 a10 a11 a12 a13) sc cl pm cv ctv) ⟨[v], []⟩ = pure [(x, v)] := by intros; rfl)
    (na : backTo pos (starEach [ed] X.env) = (false, eval ed X.env) :: backTo pos (starEach [] X.env) := by rfl) (npl : (backTo pos (starEach [ed] X.env)).any (·.1) = false := by rfl) (hbt : bootBuiltins "sorted" = some (.builtin "sorted") := by decide +kernel) :
    PE X (.Call (.Name "sorted" p) [ed] [⟨some "key", .Lambda params (kBody x k1 j1 j2 j3 j4 a1 a2 a3 a4 a5 a6 a7 a8 a9 a10 a11 a12 a13) sc lpos, kpos⟩] pos) (low X.K (xSortK P q td)) := by
  subst hq
  exact xe_sortK hc hr hg hm hed TB hcode hdef hsk hsn hco hgen hx hbind na npl hbt
end
section
variable {P : Program} {w : World} {K : PySem.W.Frag} {mg : Str → Option Value} {base : Heap}
/-- the rule for a def, its code object known -/
theorem fnXC {x qual : Str} {st : Stmt} {f : Addr} {fd : FuncData} {N ps : List Str} {k : Nat} {sp : XSp} (F : Fun K x qual st f fd) (S : FnScope N ps (defScope st)) (len : ∀ ds m Q, sp ds m Q → ds.length = ps.length)
    (body : ∃ t : XS, (∀ (cdv : Value), fd.code = cdv → ∀ (A : Around) (outer : List Env) (s : Shared) (H : Hp) (E : XK), Room k (A.deeper (envOfC qual (defScope st) s.heap.objs.size f cdv)) →
        PSs (cxOf CX0 P w K mg base N qual (defScope st) f cdv A outer s H E).nox (defBody st) (lowS K t)) ∧
      ∀ ds m Q, sp ds m Q → t ⟨fun _ m' => ∃ m2, Sub m2 m' ∧ Q .non m2, fun d m' => ∃ m2, Sub m2 m' ∧ Q d m2, fun _ _ => False, fun _ _ => False⟩ (startD N.length ds) m) :
    FnX P w K mg base (k + 1) f fd ps sp := by
  obtain ⟨t, ht, hq⟩ := body
  have hps : ps.length ≤ N.length := by have := congrArg List.length S.pre; rw [List.length_take] at this; omega
  obtain ⟨oc, od, kV, doc, pm, an, cdv, ct, osl, rfl, lk, hcd⟩ := F.ex
  refine fn_of lk hcd S (fun vs H QV E ⟨ds, m, Q, r, rm, h, q⟩ => by rw [← r.len]; exact len ds m Q h) fun A outer s H vs QV E hr ⟨ds, m, Q, r, rm, h, q⟩ => ?_
  refine ⟨_, (ht cdv rfl A outer s H E hr).nox, _, m, _, reps_start r (by rw [len ds m Q h]; exact hps), rm, hq ds m Q h, ?_⟩
  exact ⟨fun σ H' e m' st rs rm' ⟨m2, sb, h⟩ => q .non H' .non m2 (st.sub sb) (by simp only [Rep]) (rm'.sub sb) h, fun v H' d m' st rv rm' ⟨m2, sb, h⟩ => q v H' d m2 (st.sub sb) rv (rm'.sub sb) h, fun _ _ _ _ _ _ _ h => h.elim, fun _ _ _ _ _ _ _ h => h.elim⟩
end
end Sd

set_option Elab.async false
set_option linter.all false
set_option maxRecDepth 100000
set_option maxHeartbeats 1000000
/-! The end of a row whose law makes a lambda: the table of code objects is tracked; the script is locked. -/
namespace Sd
open PySem PySem.Spec PyProof.Rows L2
section
variable {P : Program} {w : World} {K : PySem.W.Frag} {mg : Str → Option Value} {base : Heap}
theorem un_thaw {fs : List Addr} {H H' : Hp} {h h' : Heap} {a : Addr} {o : Obj} {xs : List V} (ha : H a = some (.lst xs)) (u : Un fs [] (upd H a (.frz o (.lst xs))) H' h h') : Un fs [] H H' h h' := by
  have ne : ∀ b, H b = none → b ≠ a := fun b hb z => by subst z; rw [ha] at hb; cases hb
  have up : ∀ b, H b = none → upd H a (.frz o (.lst xs)) b = none := fun b hb => by rw [upd_ne (ne b hb)]; exact hb
  refine ⟨fun b ob g n f x => u.keep b ob g (up b n) f x, fun b ob g n f x => u.slot b ob g (up b n) f x, fun b ob g n x => u.free b ob g (up b n) x, u.there, fun b ys e => u.tups b ys ?_, fun b ob v e => u.frzs b ob v ?_, fun b ps e => u.tbls b ps ?_⟩
  · rw [upd_ne (by intro z; subst z; rw [ha] at e; cases e)]; exact e
  · rw [upd_ne (by intro z; subst z; rw [ha] at e; cases e)]; exact e
  · rw [upd_ne (by intro z; subst z; rw [ha] at e; cases e)]; exact e
/-- a list that nobody writes may be locked -/
theorem freeze {k : Nat} {f : Addr} {fd : FuncData} {ps : List Str} {sp : Sp} (F : FnOk P w K mg base CX0 k f fd ps sp) :
    FnOk P w K mg base CX0 k f fd ps (fun vs H Q E => sp vs H Q E ∨ ∃ a xs, H a = some (.lst xs) ∧ ∀ o, sp vs (upd H a (.frz o (.lst xs))) Q E) := by
  refine ⟨fun vs H Q E h => ?_, fun A outer s H args us vs Q E hr e0 hb hv h => ?_⟩
  · rcases h with h | ⟨a, xs, _, h⟩
    · exact F.len _ _ _ _ h
    · exact F.len _ _ _ _ (h default)
  · rcases h with h | ⟨a, xs, ha, h⟩
    · exact F.run A outer s H args us vs Q E hr e0 hb hv h
    · obtain ⟨o, ho⟩ : ∃ o, s.heap.get? a = some o := by
        obtain ⟨_, its, n, _, e⟩ := (show ObjOk P w H s.heap a (.lst xs) from e0.hok a _ ha)
        exact ⟨_, e⟩
      have old : ∀ b u, H b = some u → b ≠ a → upd H a (.frz o (.lst xs)) b = some u := fun b u e z => by rw [upd_ne z]; exact e
      have own : ∀ b y, H b = some (.own y) → upd H a (.frz o (.lst xs)) b = some (.own y) := fun b y e => old b _ e (by intro z; subst z; rw [ha] at e; cases e)
      have tup : ∀ b ys, H b = some (.tup ys) → upd H a (.frz o (.lst xs)) b = some (.tup ys) := fun b y e => old b _ e (by intro z; subst z; rw [ha] at e; cases e)
      have none' : ∀ b, H b = none → upd H a (.frz o (.lst xs)) b = none := fun b e => by rw [upd_ne (by intro z; subst z; rw [ha] at e; cases e)]; exact e
      have ok : HOk P w (upd H a (.frz o (.lst xs))) s.heap := fun b u e => by
        by_cases z : b = a
        · subst z
          rw [upd_same] at e
          cases e
          exact ⟨ho, (e0.hok b _ ha).stay (fun _ _ _ q => q) (fun c q => own c _ q) tup⟩
        · rw [upd_ne z] at e
          exact (e0.hok b u e).stay (fun _ _ _ q => q) (fun c q => own c _ q) tup
      refine codeAny_mono (F.run A outer s (upd H a (.frz o (.lst xs))) args us vs Q E hr ⟨e0.frames, e0.mod, fun b ob q => ⟨(e0.bs b ob q).1, none' b (e0.bs b ob q).2⟩, e0.bsz, e0.funs, fun b q => none' b (e0.frf b q), ok, e0.bare⟩ hb hv (h o)) fun r s' hq => ?_
      cases r with
      | error e => exact hq
      | ok fl =>
        cases fl with
        | ret u =>
          obtain ⟨v, H', g1, g2, g3, g4, g5, g6⟩ := hq
          exact ⟨v, H', g1, g2, un_thaw ha g3, g4, g5, g6⟩
        | next => exact hq
        | brk => exact hq
        | cont => exact hq
end
theorem nums_rep {K : PySem.W.Frag} {H : Hp} : ∀ ns : List Int, Reps K H (ns.map D.int) (ns.map V.int)
  | [] => by simp [Reps]
  | n :: ns => by simp only [List.map_cons, Reps]; exact ⟨_, _, rfl, by simp [Rep], nums_rep ns⟩
theorem tab_start {K : PySem.W.Frag} {H : Hp} {PT : Addr} (q : Str) (h : H PT = some (.tbl #[])) : RepM K H (fun b => if b = PT then some (.tab q) else none) := fun b o e => by
  dsimp only at e
  by_cases z : b = PT
  · subst z
    rw [if_pos rfl] at e
    cases e
    obtain ⟨ps, h1, h2, h3⟩ := LamX.TabS.nil (q := q) h
    exact ⟨_, h1, ps, rfl, h2, h3⟩
  · rw [if_neg z] at e; cases e
theorem lift_start {K : PySem.W.Frag} {H : Hp} {PT a : Addr} {ns : List Int} {sp : XSp} {E : XK} (q : Str) (h : H PT = some (.tbl #[])) (hs : SqK K H a (ns.map V.int))
    (hsp : ∀ m, m PT = some (.tab q) → sp [.lck (ns.map D.int)] m (fun d _ => d = .bl true)) : liftS K sp [.ref a] H (fun v _ => v = .bl true) E :=
  ⟨[.lck (ns.map D.int)], _, fun d _ => d = .bl true, by simp only [Reps, Rep]; exact ⟨_, _, rfl, ⟨a, _, rfl, hs, nums_rep ns⟩, rfl⟩, tab_start q h, hsp _ (if_pos rfl), fun v H' d m' _ hr _ hd => by rw [hd] at hr; simpa only [Rep] using hr⟩
structure TabFact (K : PySem.W.Frag) (ft cT PT : Addr) : Prop where
  ex : ∃ (o : Obj) (fdt : FuncData) (e : Value) (dd : Option Addr) (vs : Array Value) (sl : Array (Option Value)), K.lookup ft = some o ∧ o.data = .func fdt ∧ fdt.code = .ref cT ∧ K.lookup cT = some ⟨e, dd, .fields vs, sl⟩ ∧ vs[11]? = some (.ref PT) ∧ ∃ (file : Str) (tf : Tok) (flags : Int) (tg : Tok) (inF : Bool) (text : Int) (tt : Tok),
    vs.getD 18 .none = .str file tf ∧ vs.getD 7 .none = .int flags tg ∧ vs.getD 9 .none = .bool inF ∧ vs.getD 10 .none = .int text tt
  nP : K.lookup PT = none
theorem walkT {l : PySem.W.OpenLaw} {q : Program} {loose : List Str} {XP : (Str → Option Value) → Heap → Prop} {YP : World → Heap → Prop} {d : DefRec} {K : Params → PySem.W.Frag} {lv : Nat} {x : Str} (hn : l.most = some 63) (hdf : d.params.defaults = []) (hr : Room lv callerA)
    (hY : ∀ (w : World) (h : Heap), YP w h → (K w.params).In h) (x0 nm : Str) (hrec : ((recsOf q).any fun e => e.name == x0) = true) {sp : Addr → XSp}
    (hsp : ∀ PT (ns : List Int) m, m PT = some (.tab nm) → sp PT [.lck (ns.map D.int)] m (fun d _ => d = .bl true))
    (F : ∀ (w : World) (mg : Str → Option Value) (fa : Addr) (h : Heap), (K w.params).In h → h.Ns mainGlobals mg → mg d.name = some (.ref fa) →
      ∃ (ft cT PT : Addr) (fd : FuncData), mg x0 = some (.ref ft) ∧ TabFact (K w.params) ft cT PT ∧ (∀ (s : Shared) (u : Value), BindsTo s fd ⟨[u], []⟩ [(x, u)]) ∧ ∀ base : Heap, (K w.params).In base → base.Ns mainGlobals mg → LamX.TabB base mg cT PT → FnX l.prog w (K w.params) mg base lv fa fd [x] (sp PT)) :
    PySem.W.WalkO q loose XP YP l.row.toRowW d [] (fun f vs => PySem.call f vs) := by
  refine Att.attach_callB hn hdf fun w s₀ s₁ mg mb fa o pm cd doc a vs ns G Y ho hd hcd hmg hobj hints hlen hbits hg => ?_
  obtain ⟨ft, cT, PT, fd, e1, T, e2, e3⟩ := F w mg fa _ (hY w _ Y) G.T.g hmg
  obtain ⟨ob, fdt, ev, dd, vt, sl, t1, t2, t3, t4, t5, file, tf, flags, tg, inF, text, tt, t6, t7, t8, t9⟩ := T.ex
  have KX := hY w _ Y
  obtain ⟨dL, u1, u2⟩ := List.any_eq_true.mp hrec
  obtain ⟨a', o', fd', c', P', v1, v2, v3, v4, v5, v6⟩ := G.T.tab dL u1
  rw [beq_iff_eq.mp u2, e1] at v1
  obtain rfl : ft = a' := by cases v1; rfl
  have w1 := KX _ _ t1
  rw [w1] at v2
  obtain rfl : ob = o' := by cases v2; rfl
  rw [t2] at v3
  obtain rfl : fdt = fd' := by cases v3; rfl
  rw [t3] at v4
  obtain rfl : cT = c' := by cases v4; rfl
  obtain ⟨hC, hP⟩ := v6
  obtain ⟨oc, vc, x1, x2, x3, x4⟩ := id hC
  have w2 := KX _ _ t4
  rw [w2] at x1
  cases x1
  cases x3
  rw [t5] at x4
  obtain rfl : PT = P' := by cases x4; rfl
  have ne : cT ≠ PT := fun z => by
    have := T.nP
    rw [← z, t4] at this; cases this
  have C : PySem.W.CodeHd s₁.heap cT PT := ⟨_, _, file, tf, flags, tg, inF, text, tt, w2, x2, rfl, t5, by rw [Array.getD_eq_getD_getElem?, t5]; rfl, t6, t7, t8, t9, ne⟩
  refine LamX.law_callTs (cs := [(cT, PT)]) (CX := CX0) (k := lv) (sp := fun vs H Q E => liftS (K w.params) (sp PT) vs H Q E ∨ ∃ a xs, H a = some (.lst xs) ∧ ∀ o, liftS (K w.params) (sp PT) vs (upd H a (.frz o (.lst xs))) Q E)
    KX G.T.g G.T.b G.T.builtins G.T.nolimit hg (fun p hp => ?_) (fun p hp => ?_) (fun p hp => ?_) G.T.bmain hobj hints (Nat.le_trans hlen (by decide)) hr (fun base b1 b2 b3 => freeze (e3 base b1 b2 (b3 _ List.mem_cons_self))) e2 (fun H hH hS => ?_) fun _ _ _ z => z
  · rw [List.mem_singleton.mp hp]; exact hP
  · rw [List.mem_singleton.mp hp]; exact T.nP
  · rw [List.mem_singleton.mp hp]; exact C
  · have hT := hH _ List.mem_cons_self
    rcases hS with (h | ⟨u, h⟩) | h
    · refine .inr ⟨a, _, h, fun o => lift_start nm ?_ (.inl ⟨o, upd_same⟩) fun m => hsp PT ns m⟩
      rw [upd_ne (by intro z; subst z; rw [h] at hT; cases hT)]; exact hT
    · exact .inl (lift_start nm hT (.inl ⟨u, h⟩) fun m => hsp PT ns m)
    · exact .inl (lift_start nm hT (.inr h) fun m => hsp PT ns m)
end Sd

set_option Elab.async false
set_option linter.all false
set_option maxRecDepth 100000
set_option maxHeartbeats 1000000
/-! A dict whose keys are whole numbers: made, stored in (each key once), read. -/
namespace Sd
open PySem PySem.Spec PyProof.Rows L2 LK
def iKD (kvs : List (Int × D)) : List (Key × D) := kvs.map fun p => ((.inl p.1 : Key), p.2)
def getI : List (Int × D) → Int → Option D
  | [], _ => none
  | p :: ps, i => if p.1 = i then some p.2 else getI ps i
theorem iKD_snoc (kvs : List (Int × D)) (i : Int) (d : D) : iKD (kvs ++ [(i, d)]) = iKD kvs ++ [((.inl i : Key), d)] := by unfold iKD; rw [List.map_append]; rfl
theorem getI_map (f : Int → D) (i : Int) : ∀ l : List Int, i ∈ l → getI (l.map fun j => (j, f j)) i = some (f i)
  | [], h => nomatch h
  | j :: l, h => by
    rw [List.map_cons, getI]
    by_cases e : j = i
    · rw [if_pos e, e]
    · rw [if_neg e]
      rcases List.mem_cons.mp h with z | z
      · exact absurd z.symm e
      · exact getI_map f i l z
theorem repF_snoc {κ : Type} {K : PySem.W.Frag} {H : Hp} {k : κ} {d : D} {v : V} (hr : Rep K H d v) : ∀ (ds : List (κ × D)) (vs : List (κ × V)), RepF K H ds vs → RepF K H (ds ++ [(k, d)]) (vs ++ [(k, v)])
  | [], vs, h => by
    simp only [RepF] at h
    subst h
    exact ⟨v, [], rfl, hr, rfl⟩
  | (f, d') :: ds, vs, h => by
    obtain ⟨v', vs', e, r, h⟩ := h
    subst e
    exact ⟨v', vs' ++ [(k, v)], rfl, r, repF_snoc hr ds vs' h⟩
theorem repF_get {K : PySem.W.Frag} {H : Hp} {i : Int} : ∀ (kvs : List (Int × D)) (vs : List (Key × V)) {d : D}, RepF K H (iKD kvs) vs → getI kvs i = some d → ∃ v, valV vs (.inl i : Key) = some v ∧ Rep K H d v
  | [], _, _, _, h => nomatch h
  | p :: kvs, vs, d, r, h => by
    obtain ⟨v, vs', e, r1, r2⟩ := r
    subst e
    rw [getI] at h
    by_cases c : p.1 = i
    · rw [if_pos c] at h
      cases h
      exact ⟨v, valV_pos (by rw [c]), r1⟩
    · rw [if_neg c] at h
      obtain ⟨v', e', r'⟩ := repF_get kvs vs' r2 h
      exact ⟨v', by rw [valV_neg (fun z => c (by cases z; rfl))]; exact e', r'⟩
theorem repF_any {K : PySem.W.Frag} {H : Hp} {i : Int} : ∀ (kvs : List (Int × D)) (vs : List (Key × V)), RepF K H (iKD kvs) vs → (∀ p ∈ kvs, p.1 ≠ i) → (vs.any fun kv => decide (kv.1 = (.inl i : Key))) = false
  | [], vs, r, _ => by
    simp only [iKD, List.map_nil, RepF] at r
    subst r; rfl
  | p :: kvs, vs, r, h => by
    obtain ⟨v, vs', e, r1, r2⟩ := r
    subst e
    rw [List.any_cons, repF_any kvs vs' r2 fun q hq => h q (List.mem_cons_of_mem _ hq), Bool.or_false]
    exact decide_eq_false fun z => h p List.mem_cons_self (by cases z; rfl)
theorem repF_len {K : PySem.W.Frag} {H : Hp} {κ : Type} : ∀ (ds : List (κ × D)) (vs : List (κ × V)), RepF K H ds vs → vs.length = ds.length
  | [], vs, r => by simp only [RepF] at r; subst r; rfl
  | p :: ds, vs, r => by
    obtain ⟨v, vs', e, r1, r2⟩ := r
    subst e
    rw [List.length_cons, List.length_cons, repF_len ds vs' r2]
section
variable {X : Cx}
def xDNewK : XE := fun e m Q => ∀ p, m p = none → Q (.ref p) (updM m p (.dK (iKD [])))
theorem xe_dnewK {pos : Pos} : PE X (.Dict [] [] pos) (low X.K xDNewK) :=
  PE.imp pe_dnewK fun σ H QV ⟨e, m, Q, rs, rm, h, q⟩ p hp => q _ _ (.ref p) _ (.newM hp) (by simp only [Rep]) (rm.upd (u := .dK (iKD [])) (Stp.new (m := m) hp).imm ⟨[], rfl, rfl⟩) (h p (rm.none hp))
def xDPutK (td ty tv : XE) : XS := fun D e m => tv e m fun v m1 => td e m1 fun x m2 => ty e m2 fun y m3 => ∃ (a : Addr) (kvs : List (Int × Sd.D)) (i : Int), x = .ref a ∧ y = .int i ∧ m3 a = some (.dK (iKD kvs)) ∧ (∀ p ∈ kvs, p.1 ≠ i) ∧ kvs.length < sizeLine ∧ D.nx e (updM m3 a (.dK (iKD (kvs ++ [(i, v)]))))
theorem xs_dputK {o i value : Expr} {td ty tv : XE} {pos pos' : Pos} (hu : X.A.units + 64 < cLine) (ho : PE X o (low X.K td)) (hi : PE X i (low X.K ty)) (hv : PE X value (low X.K tv)) (hs : swapsWith value (some (.Subscript o i pos')) pos.line X.env = pure false := by rfl) :
    PS X (.Assign [.Subscript o i pos'] value pos) (lowS X.K (xDPutK td ty tv)) :=
  PS.imp (ps_dput (by omega) ho hi hv hs) fun D σ H ⟨e, m, D', rs, rm, h, q⟩ => ⟨e, m, _, rs, rm, h, fun v H1 dv m1 s1 r1 rm1 h1 => ⟨e, m1, _, rs.ext s1.imm, rm1, h1, fun x H2 dx m2 s2 r2 rm2 h2 => ⟨e, m2, _, rs.ext (s1.trans s2).imm, rm2, h2, fun y H3 dy m3 s3 r3 rm3 h3 => by
    obtain ⟨a, kvs, i, e2, e3, hm, hn, hl, h4⟩ := h3
    subst e2 e3
    simp only [Rep] at r2 r3
    subst r2 r3
    obtain ⟨ho, f1, vs, f2, f3⟩ := rm3 a _ hm
    subst f2
    have r1' := r1.ext (s2.trans s3).imm
    have ev : putK vs (.inl i : Key) v = vs ++ [((.inl i : Key), v)] := by
      unfold putK
      rw [repF_any kvs vs f3 hn, if_neg (by decide)]
    have st : Stp H3 m3 (upd H3 a (.dK (vs ++ [((.inl i : Key), v)]))) (updM m3 a (.dK (iKD (kvs ++ [(i, dv)])))) := .write f1 (fun z => z) hm
    refine ⟨a, upd H3 a (.dK (vs ++ [((.inl i : Key), v)])), rfl, ?_, q.nx σ _ e _ (((s1.trans s2).trans s3).trans st) (rs.ext (((s1.trans s2).trans s3).trans st).imm) (rm3.upd st.imm ⟨_, rfl, ?_⟩) h4⟩
    · have := DPut.k (v := v) (k := (.inl i : Key)) f1 (by rw [repF_len _ _ f3]; unfold iKD; rw [List.length_map]; exact hl)
      rw [ev] at this
      exact this
    · rw [iKD_snoc]
      exact RepF.ext st.imm (repF_snoc r1' _ _ f3)⟩⟩⟩
def xDGetK (td ty : XE) : XE := fun e m Q => td e m fun x m1 => ty e m1 fun y m2 => ∃ (a : Addr) (kvs : List (Int × D)) (i : Int) (d : D), x = .ref a ∧ y = .int i ∧ m2 a = some (.dK (iKD kvs)) ∧ getI kvs i = some d ∧ Q d m2
theorem xe_dgetK {o i : Expr} {td ty : XE} {pos : Pos} (hu : X.A.units + 64 < cLine) (ho : PE X o (low X.K td)) (hi : PE X i (low X.K ty)) (hs : NoSl i := by exact fun _ _ => rfl) : PE X (.Subscript o i pos) (low X.K (xDGetK td ty)) :=
  PE.imp (pe_dget (by omega) ho hi hs) fun σ H QV ⟨e, m, Q, rs, rm, h, q⟩ => ⟨e, m, _, rs, rm, h, fun x H1 dx m1 s1 r1 rm1 h1 => ⟨e, m1, _, rs.ext s1.imm, rm1, h1, fun y H2 dy m2 s2 r2 rm2 h2 => by
    obtain ⟨a, kvs, i, d, e2, e3, hm, hg, h4⟩ := h2
    subst e2 e3
    simp only [Rep] at r1 r2
    subst r1 r2
    obtain ⟨ho, f1, vs, f2, f3⟩ := rm2 a _ hm
    subst f2
    obtain ⟨v, e5, r5⟩ := repF_get kvs vs f3 hg
    refine ⟨a, v, rfl, ?_, q v _ d m2 (s1.trans s2) r5 rm2 h4⟩
    have := DGet.k (k := (.inl i : Key)) f1
    rw [e5] at this
    exact this⟩⟩
end
end Sd

set_option Elab.async false
set_option linter.all false
set_option maxRecDepth 100000
set_option maxHeartbeats 1000000
/-! enumerate of a list -/
namespace Sd
open PySem PySem.Spec PyProof.Rows L2 LK
section
variable {X : Cx}
def iEnuL (t : XA) : XI := fun e m R => t e m fun ds m1 => one ds fun x => asL m1 x fun p es => R ⟨enumD 0 es, fun m => m p = some (.lst es)⟩ m1
theorem xi_enumL {e : Expr} {t : XA} {p pos tpos : Pos} {elts : List Expr} {kk : Nat} (hg : Gl X "enumerate") (hm : X.mg "enumerate" = none) (ha : PA X [e] (lowA X.K t)) (hs : starEach [e] X.env = [(false, eval e X.env)] := by rfl) :
    PI X (.Tuple elts kk tpos) (.Call (.Name "enumerate" p) [e] [] pos) (lowI X.K (iEnuL t)) :=
  PI.imp (pi_enum hg hm ha hs) fun σ H R ⟨e, m, Q, rs, rm, h, q⟩ => ⟨e, m, _, rs, rm, h, fun vs H1 ds m1 s1 r1 rm1 h1 => by
    obtain ⟨x, ex, h2⟩ := one_out h1
    subst ex
    obtain ⟨p, es, ed, hm, h9⟩ := asL_out h2
    subst ed
    simp only [Reps, Rep] at r1
    obtain ⟨v, _, rfl, rfl, rfl⟩ := r1
    obtain ⟨ho, h3, xs, rfl, rx⟩ := rm1 p _ hm
    refine ⟨p, xs, rfl, .inl (.inl h3), q _ H1 _ m1 s1 rm1 (fun i H2 m2 im rm2 ok => ?_) h9⟩
    obtain ⟨ho2, h4, ys, rfl, ry⟩ := rm2 p _ ok
    have sq2 : SqL X.K H2 p ys := .inl (.inl h4)
    rw [enumD_len]
    refine ⟨fun hl => ⟨ys, sq2, by rw [← ry.len]; exact hl⟩, fun hl => ?_⟩
    obtain ⟨x, hx, rd⟩ := ry.get (List.getElem?_eq_getElem hl)
    refine ⟨⟨ys, x, sq2, hx⟩, fun y H3 ⟨T, z, ey, nT, eh, hy⟩ => ?_⟩
    have := hy ys sq2
    rw [hx] at this; cases this
    subst eh ey
    have st : Stp H2 m2 (upd H2 T (.tup [.int (i : Nat), x])) m2 := .new nT
    refine ⟨st, rm2.new nT, _, enumD_get 0 es i _ (List.getElem?_eq_getElem hl), ?_⟩
    simp only [Rep, Reps]
    exact ⟨T, _, rfl, .inl (.inl upd_same), .int (i : Nat), [x], rfl, by rw [Nat.zero_add], x, [], rfl, rd.ext st.imm, rfl⟩⟩
end
end Sd

set_option Elab.async false
set_option linter.all false
set_option maxRecDepth 100000
set_option maxHeartbeats 1000000
/-! == of data that holds lists by their addresses, at any depth -/
namespace Sd
open PySem PySem.Spec PyProof.Rows L2 LK
mutual
inductive PyOf (m : M) : D → PyData → Prop
  | dat {d : D} {p : PyData} : toPyM m d = some p → PyOf m d p
  | tup {ds : List D} {ps : List PyData} : PysOf m ds ps → PyOf m (.tup ds) (.tuple ps)
  | lst {a : Addr} {ds : List D} {ps : List PyData} : m a = some (.lst ds) → PysOf m ds ps → PyOf m (.ref a) (.list ps)
inductive PysOf (m : M) : List D → List PyData → Prop
  | nil : PysOf m [] []
  | cons {d : D} {p : PyData} {ds : List D} {ps : List PyData} : PyOf m d p → PysOf m ds ps → PysOf m (d :: ds) (p :: ps)
end
section
variable {K : PySem.W.Frag} {H : Hp} {m : M}
mutual
theorem PyOf.dp (rm : RepM K H m) : ∀ {d : D} {v : V} {p : PyData}, PyOf m d p → Rep K H d v → Dp K H v p
  | _, _, _, .dat h, r => toPyM_dp rm r h
  | .tup ds, _, _, .tup h, r => by
    simp only [Rep] at r
    obtain ⟨a, xs, rfl, s, rs⟩ := r
    exact .tup s (PysOf.dp rm h rs)
  | .ref a, _, _, .lst hm h, r => by
    simp only [Rep] at r
    subst r
    obtain ⟨ho, h1, xs, rfl, rs⟩ := rm a _ hm
    exact .lst (.inl (.inl h1)) (PysOf.dp rm h rs)
theorem PysOf.dp (rm : RepM K H m) : ∀ {ds : List D} {vs : List V} {ps : List PyData}, PysOf m ds ps → Reps K H ds vs → DpAll K H vs ps
  | _, _, _, .nil, r => by simp only [Reps] at r; subst r; exact .nil
  | d :: ds, _, _, .cons h1 h2, r => by
    simp only [Reps] at r
    obtain ⟨v, vs, rfl, r, rs⟩ := r
    exact .cons (PyOf.dp rm h1 r) (PysOf.dp rm h2 rs)
end
end
def eqZ (m : M) (x y : D) (k : Bool → Prop) : Prop := ∃ p q, PyOf m x p ∧ PyOf m y q ∧ SeqAt.shaped p = true ∧ SeqAt.shaped q = true ∧ k (PyData.eqv p q)
section
variable {X : Cx}
def xEqZ : XO := fun x y m Q => eqZ m x y fun b => Q (.bl b) m
def xNeZ : XO := fun x y m Q => eqZ m x y fun b => Q (.bl (!b)) m
theorem xo_eqZ (hu : X.A.units + 64 < cLine) : OpR X (compareOp .Eq) (lowR X.K xEqZ) :=
  OpR.imp (op_eqD hu) fun x y H QV ⟨d, e, m, Q, rx, ry, rm, ⟨p, q', h1, h2, s1, s2, h⟩, q⟩ => ⟨p, q', h1.dp rm rx, h2.dp rm ry, s1, s2, q _ H _ m .refl (by simp only [Rep]) rm h⟩
theorem xo_neZ (hu : X.A.units + 64 < cLine) : OpR X (compareOp .NotEq) (lowR X.K xNeZ) :=
  OpR.imp (op_neD hu) fun x y H QV ⟨d, e, m, Q, rx, ry, rm, ⟨p, q', h1, h2, s1, s2, h⟩, q⟩ => ⟨p, q', h1.dp rm rx, h2.dp rm ry, s1, s2, q _ H _ m .refl (by simp only [Rep]) rm h⟩
end
/-! lists of (fraction, pair): alike if they are -/
def pyF (r : Rat) : PyData := .tuple [.int r.num, .int (r.den : Int)]
def pyL (x : Rat × (Int × Int)) : PyData := .tuple [pyF x.1, .tuple [.int x.2.1, .int x.2.2]]
theorem lay_lines : ∀ l : List (Rat × (Int × Int)), PyData.canLayAll0 (l.map pyL) = true ∧ PyData.depthAll (l.map pyL) ≤ 10
  | [] => by simp [PyData.canLayAll0, PyData.depthAll]
  | x :: l => by
    obtain ⟨h1, h2⟩ := lay_lines l
    have a1 : PyData.canLay0 (pyL x) = true := rfl
    have a2 : PyData.depth (pyL x) ≤ 10 := by show PyData.depth (pyL x) ≤ 10; unfold pyL pyF; simp [PyData.depth, PyData.depthAll]
    refine ⟨by rw [List.map_cons, PyData.canLayAll0, a1, h1]; rfl, ?_⟩
    rw [List.map_cons, PyData.depthAll]
    exact Nat.max_le.mpr ⟨a2, h2⟩
theorem eqv_pyL (x y : Rat × (Int × Int)) : PyData.eqv (pyL x) (pyL y) = decide (x = y) := by
  obtain ⟨r, a, b⟩ := x
  obtain ⟨s, c, d⟩ := y
  simp only [pyL, pyF, PyData.eqv, PyData.eqvAll, Bool.and_true]
  rw [Bool.eq_iff_iff]
  simp only [Bool.and_eq_true, beq_iff_eq, decide_eq_true_eq, Prod.mk.injEq]
  constructor
  · rintro ⟨⟨h1, h2⟩, h3, h4⟩
    exact ⟨Rat.ext h1 (by omega), h3, h4⟩
  · rintro ⟨rfl, rfl, rfl⟩
    exact ⟨⟨rfl, rfl⟩, rfl, rfl⟩
theorem eqv_lines : ∀ l k : List (Rat × (Int × Int)), PyData.eqvAll (l.map pyL) (k.map pyL) = decide (l = k)
  | [], [] => rfl
  | [], _ :: _ => rfl
  | _ :: _, [] => rfl
  | x :: l, y :: k => by
    rw [List.map_cons, List.map_cons, PyData.eqvAll, eqv_pyL, eqv_lines l k, Bool.eq_iff_iff]
    simp
end Sd

set_option Elab.async false
set_option linter.all false
set_option maxRecDepth 100000
set_option maxHeartbeats 1000000
/-! reversed(range(n)) -/
namespace Sd
open PySem PySem.Spec PyProof.Rows L2 LK
section
variable {X : Cx}
def revD (n : Nat) : List D := (List.range n).map fun l : Nat => D.int ((n : Int) - 1 - (l : Int))
def iRevRg1 (ta : XE) : XI := fun e m R => ta e m fun x m1 => asI x fun j => (0 ≤ j ∧ j < 2 ^ 62) ∧ R ⟨revD j.toNat, fun _ => True⟩ m1
theorem xi_revRg1 {tg a : Expr} {ta : XE} {p p2 pos pos2 : Pos} (hg : Gl X "reversed") (hm : X.mg "reversed" = none) (hg2 : Gl X "range") (hm2 : X.mg "range" = none) (ha : PE X a (low X.K ta))
    (na : starEach [.Call (.Name "range" p2) [a] [] pos2] X.env = (false, eval (.Call (.Name "range" p2) [a] [] pos2) X.env) :: starEach [] X.env := by rfl) (na2 : starEach [a] X.env = (false, eval a X.env) :: starEach [] X.env := by rfl) :
    PI X tg (.Call (.Name "reversed" p) [.Call (.Name "range" p2) [a] [] pos2] [] pos) (lowI X.K (iRevRg1 ta)) :=
  PI.imp (pi_revR hg hm (prg_1 hg2 hm2 ha na2) na) fun σ H R ⟨e, m, Q, rs, rm, h, q⟩ => ⟨e, m, _, rs, rm, h, fun v H1 d m1 s1 r1 rm1 h1 => by
    obtain ⟨j, ed, h2⟩ := asI_out h1
    subst ed
    simp only [Rep] at r1
    subst r1
    obtain ⟨⟨j0, j1⟩, h3⟩ := h2
    refine ⟨j, rfl, by decide, by decide, by omega, j1, q _ H1 _ m1 s1 rm1 ?_ h3⟩
    intro i' H2 m2 im rm2 _
    rw [show (j - 0).toNat = j.toNat by omega]
    simp only [revD, List.length_map, List.length_range]
    refine ⟨fun h => h, fun h => ⟨h, fun x H3 ⟨eh, ex⟩ => ?_⟩⟩
    subst eh ex
    exact ⟨.refl, rm2, .int ((j.toNat : Int) - 1 - (i' : Int)), by rw [List.getElem?_map, List.getElem?_range h]; rfl, by simp only [Rep]; congr 1; omega⟩⟩
end
end Sd

set_option Elab.async false
set_option linter.all false
set_option maxRecDepth 100000
set_option maxHeartbeats 1000000
namespace Sd
open PySem PySem.Spec PyProof.Rows L2 RT
/-! ## list(reversed(a list)) -/
section
variable {prog : Program} {w : World} {A : Around} {E : Value → Shared → Prop} {s : Shared}
theorem extend_rev {R : Result → Shared → Prop} {it l : Addr} {items : Array Value} (hh : A.handled = none) (hit : s.heap.IsRevIter it l ((items.size : Int) - 1)) (hl : s.heap.IsList l items) (hne : l ≠ it) (hn : items.size ≤ sizeLine)
    (S : Addr) (res : Value) (c₀ : Nat) (hS : s.heap.get? S = some { cls := .type "list", data := .seq #[] c₀ }) (hSi : S ≠ it) (hSl : S ≠ l)
    (hR : ∀ (h' : Heap) (tk : Nat) (acc' : Array Value) (c' : Nat), (∀ b o, b ≠ S → b ≠ it → s.heap.get? b = some o → h'.get? b = some o) → h'.get? S = some { cls := .type "list", dict := none, data := .seq acc' c', slots := #[] } →
      ItemsOf (fun i v => items[items.size - 1 - i]? = some v) acc' items.size → R (.ok (.ret res)) { s with heap := h', toks := tk }) :
    wpAny (model prog w) A.in1 (Builtin.List.listExtendWith (.ref S) (.ref it) res)
      (fun fin s' => match fin with | .done f => R (.ok f) s' | .again c' => c'.quiet = true ∧ codeAny (model prog w) A c' R s') (fun e s' => R (.error e) s') s := by
  have W := (Walks.listRev (prog := prog) (w := w) (A := A.in1) hh it l hne items).toS
  have hSf : S ∉ [it, l] := by simp only [List.mem_cons, List.not_mem_nil, or_false, not_or]; exact ⟨hSi, hSl⟩
  have hT : s.TypeIs (.ref it) "list_reverseiterator" := hit.typeIs
  unfold Builtin.List.listExtendWith
  refine wpAny_bind (wpAny_typeOf hT ?_)
  have h1 : Builtin.List.listSameRef (.ref S) (.ref it) = false := by simp [Builtin.List.listSameRef, hSi]
  have h2 : (Value.type "list_reverseiterator" == Value.type "list") = false := by decide
  have h3 : (Value.type "list_reverseiterator" == Value.type "tuple") = false := by decide
  simp only [h1, h2, h3, Bool.or_false, Bool.false_eq_true, if_false]
  refine wpAny_bind (wpAny_pyIter_revIter hit ?_)
  refine wpAny_bind (wpAny_holding ?_)
  unfold Builtin.List.listLengthHint
  refine wpAny_bind (wpAny_specialOf hT nolen_lri ?_)
  show wpAny _ A.in1 (specialOf (Value.ref it) (Str.ofString "__length_hint__") >>= _) _ _ _
  refine wpAny_bind (wpAny_specialOf hT hint_lri ?_)
  generalize hid : ("list_reverseiterator.__length_hint__" : String) = id0
  wp_delta
  rw [show splitId id0 = some ("list_reverseiterator", "__length_hint__") from by subst hid; decide +kernel]
  subst hid
  refine wpAny_bind (wpAny_isInstance (b := true) hT (by rw [isSubtype_type]; kernel_rfl) ?_)
  refine wpAny_pure ?_
  rw [if_neg (by decide)]
  have e0 : ((items.size : Nat) : Int) - 1 - ((0 : Nat) : Int) = (items.size : Int) - 1 := by omega
  refine wpAny_pure ⟨plainId_quiet F.plain_extend_loop _, codeAny_extend_loopS W hn _ hSf _ items.size 0 _ _ _ rfl (Nat.zero_le _) ⟨Nat.zero_le _, by rw [e0]; exact hit, hl⟩ hS (ItemsOf.nil _) fun s' acc' c' hm hS' hacc => ?_⟩
  rw [Moved.eq_with hm]
  refine hR s'.heap s'.toks acc' c' (fun b o hb hb2 e => hm.heap b o (fun hmem => ?_) e) hS' hacc
  rcases List.mem_cons.mp hmem with e' | hmem
  · exact hb e'
  · exact hb2 (List.mem_singleton.mp hmem)
theorem init_rev {R : Result → Shared → Prop} {it l : Addr} {items : Array Value} (hh : A.handled = none) (hit : s.heap.IsRevIter it l ((items.size : Int) - 1)) (hl : s.heap.IsList l items) (hne : l ≠ it) (hn : items.size ≤ sizeLine)
    (S : Addr) (hS : s.heap.get? S = some { cls := .type "list", data := .seq #[] }) (hSi : S ≠ it) (hSl : S ≠ l)
    (hR : ∀ (h' : Heap) (tk : Nat) (acc' : Array Value) (c' : Nat), (∀ b o, b ≠ S → b ≠ it → s.heap.get? b = some o → h'.get? b = some o) → h'.get? S = some { cls := .type "list", dict := none, data := .seq acc' c', slots := #[] } →
      ItemsOf (fun i v => items[items.size - 1 - i]? = some v) acc' items.size → R (.ok (.ret .none)) { s with heap := h', toks := tk }) :
    wpAny (model prog w) A.in1 (Builtin.«list.__init__» ⟨[.ref S, .ref it], []⟩)
      (fun fin s' => match fin with | .done f => R (.ok f) s' | .again c' => c'.quiet = true ∧ codeAny (model prog w) A c' R s') (fun e s' => R (.error e) s') s := by
  show wpAny _ _ (do let old ← Builtin.List.listItems (.ref S); Builtin.List.listUpdate (.ref S) (fun _ => #[]); letGo old.toList.reverse; Builtin.List.listExtendWith (.ref S) (.ref it) .none) _ _ s
  refine wpAny_bind ?_
  unfold Builtin.List.listItems
  refine wpAny_bind (wpAny_seqItems hS rfl (wpAny_pure ?_))
  show wpAny _ _ (updateSeq S (fun _ => #[]) >>= fun _ => letGo (#[] : Array Value).toList.reverse >>= fun _ => Builtin.List.listExtendWith (.ref S) (.ref it) .none) _ _ s
  refine wpAny_bind (wpAny_updateSeq hS rfl ?_)
  have hS₂ := Heap.get?_update_self (Obj.mapSeq (fun _ => (#[] : Array Value))) hS rfl
  have oth : ∀ b o, b ≠ S → s.heap.get? b = some o → (s.heap.update S (Obj.mapSeq (fun _ => (#[] : Array Value)))).get? b = some o :=
    fun b o hb e => (Heap.get?_update_other _ _ (Ne.symm hb)).trans e
  refine wpAny_bind (wpAny_letGo ?_)
  have hit' : (s.heap.update S (Obj.mapSeq (fun _ => (#[] : Array Value)))).IsRevIter it l ((items.size : Int) - 1) := hit.at fun o e => oth it o (Ne.symm hSi) e
  have hl' : (s.heap.update S (Obj.mapSeq (fun _ => (#[] : Array Value)))).IsList l items := by
    obtain ⟨o, ho, r⟩ := hl
    exact ⟨o, oth l o (Ne.symm hSl) ho, r⟩
  refine extend_rev hh hit' hl' hne hn S .none _ hS₂ hSi hSl fun h' tk acc' c' hk hS' hacc => ?_
  exact hR h' tk acc' c' (fun b o hb hb2 e => hk b o hb hb2 (oth b o hb e)) hS' hacc
theorem call_list_rev {it l : Addr} {items : Array Value} {Q : Value → Shared → Prop} (hh : A.handled = none) (hit : s.heap.IsRevIter it l ((items.size : Int) - 1)) (hl : s.heap.IsList l items) (hne : l ≠ it) (hn : items.size ≤ sizeLine)
    (hQ : ∀ (h' : Heap) (tk : Nat) (acc : Array Value) (c' : Nat), (∀ b o, b ≠ it → s.heap.get? b = some o → h'.get? b = some o) →
      h'.get? s.heap.objs.size = some { cls := .type "list", dict := none, data := .seq acc c', slots := #[] } → ItemsOf (fun i v => items[items.size - 1 - i]? = some v) acc items.size → Q (.ref s.heap.objs.size) { s with heap := h', toks := tk }) :
    wpAny (model prog w) A (call (.type "list") [.ref it]) Q E s := by
  refine callType_codes (Q₁ := fun obj s₁ => obj = .ref s.heap.objs.size ∧ s₁ = { s with heap := s.heap.push { cls := .type "list", data := .seq #[] } }) F.called_list (F.typeCall_list_1 _) F.entry_list_init
    (code_list_new _ ⟨rfl, rfl⟩) fun obj s₁ h₁ => ?_
  obtain ⟨rfl, rfl⟩ := h₁
  have hS : (s.heap.push { cls := .type "list", data := .seq #[] }).get? s.heap.objs.size = some { cls := .type "list", data := .seq #[] } := Heap.get?_push_size _ rfl
  obtain ⟨oi, hoi, _⟩ := id hit
  obtain ⟨ol, hol, _⟩ := id hl
  have hSi : s.heap.objs.size ≠ it := Nat.ne_of_gt (Heap.lt_size hoi)
  have hSl : s.heap.objs.size ≠ l := Nat.ne_of_gt (Heap.lt_size hol)
  refine ⟨⟨_, hS, rfl⟩, F.args_list_init_2 _ _, init_rev (A := A.in1) (s := { s with heap := s.heap.push { cls := .type "list", data := .seq #[] } }) hh (hit.at fun o e => Heap.get?_push_of_some _ e) (hl.push _) hne hn _ hS hSi hSl fun h' tk acc' c' hk hS' hacc => ?_⟩
  exact ⟨rfl, hQ h' tk acc' c' (fun b o hb e => hk b o (Nat.ne_of_lt (Heap.lt_size e)) hb (Heap.get?_push_of_some _ e)) hS' hacc⟩
end
def tLstRev (K : PySem.W.Frag) (te : TE) : TE := fun σ H Q => te σ H fun v H1 => ∃ (a : Addr) (xs : List V), v = .ref a ∧ SqL K H1 a xs ∧ ∀ q, H1 q = none → Q (.ref q) (upd H1 q (.lst xs.reverse))
section
variable {X : Cx}
theorem pe_lstRev {e : Expr} {te : TE} {p p2 pos pos2 : Pos} (hc : X.calm = true) (hg : Gl X "list") (hm : X.mg "list" = none) (hg2 : Gl X "reversed") (hm2 : X.mg "reversed" = none) (he : PE X e te)
    (hs : starEach [e] X.env = (false, eval e X.env) :: starEach [] X.env := by rfl)
    (hs2 : starEach [.Call (.Name "reversed" p2) [e] [] pos2] X.env = (false, eval (.Call (.Name "reversed" p2) [e] [] pos2) X.env) :: starEach [] X.env := by rfl) :
    PE X (.Call (.Name "list" p) [.Call (.Name "reversed" p2) [e] [] pos2] [] pos) (tLstRev X.K te) := by
  refine ⟨fun pins s σ H Q I h => ?_⟩
  refine Call_ (ld_blt I hg hm boot_list (PyProof.Rows.callWith_type1 (args_cons (Call_ (ld_blt I hg2 hm2 PyProof.Rows.boot_reversed (PyProof.Rows.callWith_type1 (args_cons (thn (he.run pins s σ H _ I h) fun u s1 ⟨v, H1, I1, r1, q1⟩ => args_nil ?_) hs) hs rfl))) hs2) hs2))
  obtain ⟨a, xs, ev, hq, q⟩ := q1
  subst ev
  obtain rfl : u = Value.ref a := r1
  obtain ⟨its, rv, p', hz⟩ := I1.list hq
  refine call_reversed_list p'.isList (args_nil ?_)
  have k0 : ∀ b o, s1.heap.get? b = some o → (s1.heap.push (revObj a ((its.toArray.size : Int) - 1))).get? b = some o := fun b o e => Heap.get?_push_of_some _ e
  have hl := p'.isList
  obtain ⟨ol, hol, _⟩ := id hl
  have hne : a ≠ s1.heap.objs.size := Nat.ne_of_lt (Heap.lt_size hol)
  have hn : its.toArray.size ≤ sizeLine := by rw [List.size_toArray, ← rv.length]; exact hz
  refine call_list_rev (s := { s1 with heap := s1.heap.push (revObj a ((its.toArray.size : Int) - 1)) }) (I1.ok.hd hc) ⟨_, Heap.get?_push_size _ rfl, rfl, rfl⟩ (hl.push _) hne hn fun h' tk acc c' hk hS hi => ?_
  have sz : s1.heap.objs.size ≤ (s1.heap.push (revObj a ((its.toArray.size : Int) - 1))).objs.size := by simp [Heap.push]
  have hk' : ∀ b o, s1.heap.get? b = some o → h'.get? b = some o := fun b o e => hk b o (Nat.ne_of_lt (Heap.lt_size e)) (k0 b o e)
  refine ⟨.ref (s1.heap.push (revObj a ((its.toArray.size : Int) - 1))).objs.size, upd H1 (s1.heap.push (revObj a ((its.toArray.size : Int) - 1))).objs.size (.lst xs.reverse), I1.laid hk' sz (show ObjOk X.prog X.w _ _ _ (.lst xs.reverse) from ⟨by rw [List.length_reverse]; exact hz, acc.toList, c', vals_rev rv hi, ?_⟩), rfl, q _ (I1.hok.fresh sz)⟩
  rw [Array.toArray_toList]
  exact hS
end
/-- list(reversed(x)) -/
def xLstRev (t : XE) : XE := fun e m Q => t e m fun x m1 => asL m1 x fun _ ds => ∀ p, m1 p = none → Q (.ref p) (updM m1 p (.lst ds.reverse))
theorem reps_rev {K : PySem.W.Frag} {H : Hp} : ∀ {ds : List D} {xs : List V}, Reps K H ds xs → Reps K H ds.reverse xs.reverse
  | [], xs, h => by simp only [Reps] at h; subst h; simp [Reps]
  | d :: ds, xs, h => by
    simp only [Reps] at h
    obtain ⟨v, vs, rfl, r, rs⟩ := h
    rw [List.reverse_cons, List.reverse_cons]
    exact (reps_rev rs).append (by simp only [Reps]; exact ⟨v, [], rfl, r, rfl⟩)
theorem xe_lstRev {X : Cx} {a : Expr} {t : XE} {p p2 pos pos2 : Pos} (hc : X.calm = true) (hg : Gl X "list") (hm : X.mg "list" = none) (hg2 : Gl X "reversed") (hm2 : X.mg "reversed" = none) (ha : PE X a (low X.K t))
    (hs : starEach [a] X.env = (false, eval a X.env) :: starEach [] X.env := by rfl)
    (hs2 : starEach [.Call (.Name "reversed" p2) [a] [] pos2] X.env = (false, eval (.Call (.Name "reversed" p2) [a] [] pos2) X.env) :: starEach [] X.env := by rfl) :
    PE X (.Call (.Name "list" p) [.Call (.Name "reversed" p2) [a] [] pos2] [] pos) (low X.K (xLstRev t)) :=
  PE.imp (pe_lstRev hc hg hm hg2 hm2 ha hs hs2) fun σ H QV ⟨e, m, Q, rs, rm, h, q⟩ => ⟨e, m, _, rs, rm, h, fun v H1 d m1 s1 r1 rm1 h1 => by
    obtain ⟨p, ds, rfl, hm, h1⟩ := asL_out h1
    simp only [Rep] at r1
    obtain ⟨ho, h3, xs, rfl, rx⟩ := rm1 p _ hm
    refine ⟨p, xs, r1, .inl (.inl h3), fun l hl => ?_⟩
    exact q _ _ (.ref l) _ (s1.trans (.newM hl)) (by simp only [Rep]) (new_lst rm1 (reps_rev rx) hl) (h1 l (rm1.none hl))⟩
end Sd

set_option Elab.async false
set_option linter.all false
set_option maxRecDepth 100000
set_option maxHeartbeats 1000000
namespace Sd
open PySem PySem.Spec PyProof.Rows L2
/-! ## zip of a list and a tuple -/
def ItzY (K : PySem.W.Frag) (a b : Addr) : It :=
  ⟨fun i H => ∃ (xs ys : List V) (x y : V), SqL K H a xs ∧ SqT K H b ys ∧ xs[i]? = some x ∧ ys[i]? = some y,
    fun i H v H' => ∃ T x y, v = .ref T ∧ H T = none ∧ H' = upd H T (.tup [x, y]) ∧ (∀ xs, SqL K H a xs → xs[i]? = some x) ∧ ∀ ys, SqT K H b ys → ys[i]? = some y,
    fun i H => ∃ xs ys : List V, SqL K H a xs ∧ SqT K H b ys ∧ (xs.length ≤ i ∨ ys.length ≤ i)⟩
theorem turn_zipY {P : Program} {w : World} {K : PySem.W.Frag} {elts : List Expr} {kk : Nat} {tpos : Pos} {a b z TI TO i1 i2 : Addr} (D : ZipSep2 z TI TO i1 i2 [i1, a] [i2, b]) :
    Turn P w K (.Tuple elts kk tpos) (ItzY K a b) [z, TI, TO, i1, i2] z (fun i h => IsZip h z TI TO .none ∧ IsTupOf2 h TI (.ref i1) (.ref i2) ∧ (∃ x y, IsTupOf2 h TO x y) ∧ h.IsListIter i1 a i ∧ h.IsTupleIter i2 b i) where
  mem := List.mem_cons_self
  obj := fun i h ⟨hz, hTI, ⟨x, y, hTO⟩, ⟨o1, e1, _, d1⟩, ⟨o2, e2, _, d2⟩⟩ c hc => by
    simp only [List.mem_cons, List.not_mem_nil, or_false] at hc
    rcases hc with q | q | q | q | q <;> rw [q]
    · exact ⟨_, hz, fun v q => nomatch q⟩
    · exact ⟨_, hTI, fun v q => nomatch q⟩
    · exact ⟨_, hTO, fun v q => nomatch q⟩
    · exact ⟨o1, e1, fun v q => by rw [d1] at q; cases q⟩
    · exact ⟨o2, e2, fun v q => by rw [d2] at q; cases q⟩
  keep := fun i h h' ⟨hz, hTI, ⟨x, y, hTO⟩, h1, h2⟩ k => ⟨k z (by simp) _ hz, k TI (by simp) _ hTI, ⟨x, y, k TO (by simp) _ hTO⟩, h1.at fun o q => k i1 (by simp) o q, h2.at fun o q => k i2 (by simp) o q⟩
  item := by
    intro X hP hw hK hc i pins s σ H E I hf ⟨hz, hTI, ⟨x0, y0, hTO⟩, h1, h2⟩ ⟨xs, ys, x, y, hqx, hqy, hx, hy⟩
    subst hP hw hK
    obtain ⟨its, rv, p, _⟩ := I.list hqx
    obtain ⟨its2, rv2, p2, _⟩ := I.tuple hqy
    obtain ⟨u, hu, ru⟩ := rv.get hx
    obtain ⟨u2, hu2, ru2⟩ := rv2.get hy
    have hzl : z < s.heap.objs.size := Heap.lt_size hz
    have n1 : a ≠ i1 := fun q => by
      obtain ⟨o, e1, c1, _⟩ := p.isList
      obtain ⟨o2, e2, c2, _⟩ := h1
      rw [q, e2] at e1; cases e1; rw [c2] at c1; exact absurd (Value.type.inj c1) (by decide)
    have n2 : b ≠ i2 := fun q => by
      obtain ⟨o, e1, c1, _⟩ := (show s.heap.IsTuple b its2.toArray from p2)
      obtain ⟨o2, e2, c2, _⟩ := h2
      rw [q, e2] at e1; cases e1; rw [c2] at c1; exact absurd (Value.type.inj c1) (by decide)
    have l1 : i < its.toArray.size := by rw [List.size_toArray]; exact (List.getElem?_eq_some_iff.mp hu).1
    have l2 : i < its2.toArray.size := by rw [List.size_toArray]; exact (List.getElem?_eq_some_iff.mp hu2).1
    refine wpAny_pyNext_zipD2_item D (Draws.list (A := X.A.in1) (I.ok.hd hc) i1 a n1 its.toArray) (Draws.tuple (A := X.A.in1) (I.ok.hd hc) i2 b n2 its2.toArray) hz hTI hTO ⟨h1, p.isList⟩ ⟨h2, p2⟩ l1 l2 fun v1 v2 h' tk e1 e2 z' TO' st1 st2 hT hsz hk => ?_
    have ev1 : v1 = u := by have : its.toArray[i]? = some u := (by simpa using hu); rw [this] at e1; exact (Option.some.inj e1).symm
    have ev2 : v2 = u2 := by have : its2.toArray[i]? = some u2 := (by simpa using hu2); rw [this] at e2; exact (Option.some.inj e2).symm
    subst ev1 ev2
    refine ⟨_, rfl, wpAny_letOwnedTupleGo_zip (s := { s with heap := h', toks := tk }) z' fun h'' z'' sb => ?_⟩
    have hT2 : h''.get? s.heap.objs.size = some { cls := .type "tuple", data := .seq #[v1, v2] } := (sb.2 _ (Nat.ne_of_gt hzl)).trans hT
    have new : ObjOk X.prog X.w (upd H s.heap.objs.size (.tup [x, y])) h'' s.heap.objs.size (.tup [x, y]) := ⟨by show 2 ≤ sizeLine; decide, [v1, v2], .cons ru (.cons ru2 .nil), ⟨_, hT2, rfl, _, rfl⟩⟩
    have I1 : Inv X pins σ (upd H s.heap.objs.size (.tup [x, y])) { s with heap := h'', toks := tk } :=
      I.turnedNew (t' := tk) (ch := [z, TI, TO, i1, i2]) (fun c o hb q => (sb.2 c (fun q' => hb (by simp [q']))).trans (hk c o (fun q' => hb (by simp [q'])) (fun q' => hb (by simp [q'])) (fun q' => hb (by simp [q'])) (fun q' => hb (by simp [q'])) q)) hf (Nat.le_refl _) new
    refine ⟨.ref s.heap.objs.size, _, I1, rfl, ⟨_, x, y, rfl, I.hok.fresh (Nat.le_refl _), rfl, fun l hl => by rw [I.list_inj hl hqx]; exact hx, fun l hl => by rw [I.tuple_inj hl hqy]; exact hy⟩, ⟨z'', ?_, ⟨v1, v2, ?_⟩, ?_, ?_⟩, fun c hcm => ?_⟩
    · exact (sb.2 _ D.TIz).trans (hk _ _ D.TIz D.TITO D.TIi1 D.TIi2 hTI)
    · exact (sb.2 _ D.TOz).trans TO'
    · exact st1.1.at fun o q => (sb.2 _ (Ne.symm D.zi1)).trans q
    · exact st2.1.at fun o q => (sb.2 _ (Ne.symm D.zi2)).trans q
    · have hlt : c < s.heap.objs.size := by
        simp only [List.mem_cons, List.not_mem_nil, or_false] at hcm
        rcases hcm with q | q | q | q | q <;> rw [q]
        · exact hzl
        · exact Heap.lt_size hTI
        · exact Heap.lt_size hTO
        · obtain ⟨_, e1, _⟩ := h1; exact Heap.lt_size e1
        · obtain ⟨_, e2, _⟩ := h2; exact Heap.lt_size e2
      rw [upd_ne (Nat.ne_of_lt hlt)]
      exact (hf c hcm).1
  done := by
    intro X hP hw hK hc i pins s σ H E I hf ⟨hz, hTI, ⟨x0, y0, hTO⟩, h1, h2⟩ ⟨xs, ys, hqx, hqy, hend⟩
    subst hP hw hK
    obtain ⟨its, rv, p, _⟩ := I.list hqx
    obtain ⟨its2, rv2, p2, _⟩ := I.tuple hqy
    have l1 := rv.length
    have l2 := rv2.length
    have n1 : a ≠ i1 := fun q => by
      obtain ⟨o, e1, c1, _⟩ := p.isList
      obtain ⟨o2, e2, c2, _⟩ := h1
      rw [q, e2] at e1; cases e1; rw [c2] at c1; exact absurd (Value.type.inj c1) (by decide)
    have n2 : b ≠ i2 := fun q => by
      obtain ⟨o, e1, c1, _⟩ := (show s.heap.IsTuple b its2.toArray from p2)
      obtain ⟨o2, e2, c2, _⟩ := h2
      rw [q, e2] at e1; cases e1; rw [c2] at c1; exact absurd (Value.type.inj c1) (by decide)
    have fin : ∀ (h' : Heap) (tk : Nat), (∀ c o, c ≠ z → c ≠ TO → c ≠ i1 → c ≠ i2 → s.heap.get? c = some o → h'.get? c = some o) → Inv X pins σ H { s with heap := h', toks := tk } := fun h' tk hk =>
      I.turnedL (t' := tk) (ch := [z, TI, TO, i1, i2]) (fun c o hb q => hk c o (fun q' => hb (by simp [q'])) (fun q' => hb (by simp [q'])) (fun q' => hb (by simp [q'])) (fun q' => hb (by simp [q'])) q) hf
    have p' : s.heap.IsTuple b its2.toArray := p2
    by_cases c1 : its.toArray.size ≤ i
    · by_cases c2 : its2.toArray.size ≤ i
      · exact wpAny_pyNext_zipD2_end D (stuckL (A := X.A.in1) (I.ok.hd hc) i1 a its.toArray i c1) (stuckT (A := X.A.in1) (I.ok.hd hc) i2 b its2.toArray i c2) hz hTI hTO ⟨rfl, h1, p.isList⟩ ⟨rfl, h2, p'⟩ (Nat.le_refl _) (Nat.le_refl _) (.inl rfl) fun h' tk hk => ⟨rfl, fin h' tk hk⟩
      · exact wpAny_pyNext_zipD2_end D (stuckL (A := X.A.in1) (I.ok.hd hc) i1 a its.toArray i c1) (Draws.tuple (A := X.A.in1) (I.ok.hd hc) i2 b n2 its2.toArray) hz hTI hTO ⟨rfl, h1, p.isList⟩ ⟨h2, p'⟩ (Nat.le_refl _) (by omega) (.inl rfl) fun h' tk hk => ⟨rfl, fin h' tk hk⟩
    · have c2 : its2.toArray.size ≤ i := by
        rw [List.size_toArray] at c1 ⊢
        rcases hend with q | q <;> omega
      exact wpAny_pyNext_zipD2_end D (Draws.list (A := X.A.in1) (I.ok.hd hc) i1 a n1 its.toArray) (stuckT (A := X.A.in1) (I.ok.hd hc) i2 b its2.toArray i c2) hz hTI hTO ⟨h1, p.isList⟩ ⟨rfl, h2, p'⟩ (by omega) (Nat.le_refl _) (.inr rfl) fun h' tk hk => ⟨rfl, fin h' tk hk⟩
  self := fun A i s Q E st h => wpAny_pyIter_zip st.1 h
section
variable {X : Cx}
def iZipY (K : PySem.W.Frag) (ta : TA) : TI := fun σ H R => ta σ H fun vs H1 => ∃ a b xs ys, vs = [.ref a, .ref b] ∧ SqL K H1 a xs ∧ SqT K H1 b ys ∧ R (ItzY K a b) H1
theorem pi_zipY {e e2 : Expr} {ta : TA} {p pos tpos : Pos} {elts : List Expr} {kk : Nat} (hg : Gl X "zip") (hm : X.mg "zip" = none) (ha : PA X [e, e2] ta)
    (hs : starEach [e, e2] X.env = (false, eval e X.env) :: starEach [e2] X.env := by rfl) (hpl : (backTo pos (starEach [e2] X.env)).any (·.1) = false := by rfl) :
    PI X (.Tuple elts kk tpos) (.Call (.Name "zip" p) [e, e2] [] pos) (iZipY X.K ta) := by
  refine ⟨fun pins s σ H R I h => Call_ (ld_blt I hg hm PyProof.Rows.boot_zip (PyProof.Rows.callWith_type1 (thn (ha.run pos pins s σ H _ I h) fun us s1 ⟨vs, H1, I1, r1, a, b, xs, ys, ex, hqx, hqy, q⟩ => ?_) hs hpl))⟩
  subst ex
  obtain ⟨u, v, rfl, ru, rv⟩ := Vals.two r1
  cases ru
  cases rv
  obtain ⟨its, _, p1, _⟩ := I1.list hqx
  obtain ⟨its2, _, p2, _⟩ := I1.tuple hqy
  have t1 : s1.heap.IsTuple b its2.toArray := p2
  refine zip_begins2 (begins_list a its.toArray) (begins_tuple b its2.toArray) p1.isList t1 fun h' hz hTI hTO g1 g2 hsz hk => wpAny_pyIter_zip hz ?_
  have la : a < s1.heap.objs.size := let ⟨_, q, _⟩ := p1.isList; Heap.lt_size q
  have lb : b < s1.heap.objs.size := let ⟨_, q, _⟩ := t1; Heap.lt_size q
  refine ⟨s1.heap.objs.size + 4, [s1.heap.objs.size + 4, s1.heap.objs.size + 2, s1.heap.objs.size + 3, s1.heap.objs.size, s1.heap.objs.size + 1], _, _, H1, rfl, I1.kept (t' := s1.toks) hk,
    turn_zipY (zip_sep2 (N := s1.heap.objs.size) (fp1 := [a]) (fp2 := [b]) (fun c hc => by rw [List.mem_singleton.mp hc]; exact la) (fun c hc => by rw [List.mem_singleton.mp hc]; exact lb)),
    ⟨hz, hTI, ⟨_, _, hTO⟩, ⟨_, g1, rfl, rfl⟩, ⟨_, g2, rfl, rfl⟩⟩, fun c hcm => ?_, q⟩
  have hle : s1.heap.objs.size ≤ c := by
    simp only [List.mem_cons, List.not_mem_nil, or_false] at hcm
    rcases hcm with q | q | q | q | q <;> rw [q]
    · exact Nat.le_add_right _ _
    · exact Nat.le_add_right _ _
    · exact Nat.le_add_right _ _
    · exact Nat.le_refl _
    · exact Nat.le_add_right _ _
  exact I1.fpOk hle (I1.hok.fresh hle)
/-- a list and a tuple, side by side -/
def iZpY (t : XA) : XI := fun e m R => t e m fun ds m1 => two ds fun x y => asL m1 x fun p es => asT y fun fs => R ⟨zipD es fs, fun m => m p = some (.lst es)⟩ m1
theorem xi_zipY {e e2 : Expr} {t : XA} {p pos tpos : Pos} {elts : List Expr} {kk : Nat} (hg : Gl X "zip") (hm : X.mg "zip" = none) (ha : PA X [e, e2] (lowA X.K t))
    (hs : starEach [e, e2] X.env = (false, eval e X.env) :: starEach [e2] X.env := by rfl) (hpl : (backTo pos (starEach [e2] X.env)).any (·.1) = false := by rfl) :
    PI X (.Tuple elts kk tpos) (.Call (.Name "zip" p) [e, e2] [] pos) (lowI X.K (iZpY t)) :=
  PI.imp (pi_zipY hg hm ha hs hpl) fun σ H R ⟨e, m, Q, rs, rm, h, q⟩ => ⟨e, m, _, rs, rm, h, fun vs H1 ds m1 s1 r1 rm1 h1 => by
    obtain ⟨x, y, ex, h2⟩ := two_out h1
    obtain ⟨b, fs, ey, hmb, h3⟩ := asL_out h2
    obtain ⟨es, ee, h4⟩ := asT_out h3
    subst ex ee ey
    simp only [Reps, Rep] at r1
    obtain ⟨v2, _, rfl, rfl, v, _, rfl, ⟨a, xs, rfl, sq, rx⟩, rfl⟩ := r1
    obtain ⟨ho, g1, ys, rfl, ry⟩ := rm1 b _ hmb
    refine ⟨b, a, ys, xs, rfl, .inl (.inl g1), sq, q _ H1 _ m1 s1 rm1 (fun i H2 m2 im rm2 ok => ?_) h4⟩
    have sq2 := im.seq sq
    obtain ⟨ho2, g2, zs, rfl, rz⟩ := rm2 b _ ok
    have sl2 : SqL X.K H2 b zs := .inl (.inl g2)
    rw [zipD_len, rx.len, rz.len]
    refine ⟨fun hl => ⟨zs, xs, sl2, sq2, by omega⟩, fun hl => ?_⟩
    obtain ⟨x, hx, rd⟩ := rx.get (List.getElem?_eq_getElem (show i < es.length by rw [rx.len]; omega))
    obtain ⟨y, hy, re⟩ := rz.get (List.getElem?_eq_getElem (show i < fs.length by rw [rz.len]; omega))
    refine ⟨⟨zs, xs, y, x, sl2, sq2, hy, hx⟩, fun v H3 ⟨T, y', x', ev, nT, eh, hy', hx'⟩ => ?_⟩
    have e1 := hx' xs sq2
    have e2 := hy' zs sl2
    rw [hx] at e1; cases e1
    rw [hy] at e2; cases e2
    subst eh ev
    have st : Stp H2 m2 (upd H2 T (.tup [y, x])) m2 := .new nT
    refine ⟨st, rm2.new nT, _, zipD_get fs es i _ _ (List.getElem?_eq_getElem (by rw [rz.len]; omega)) (List.getElem?_eq_getElem (by rw [rx.len]; omega)), ?_⟩
    simp only [Rep, Reps]
    exact ⟨T, _, rfl, .inl (.inl upd_same), y, [x], rfl, re.ext st.imm, x, [], rfl, (rd.ext im).ext st.imm, rfl⟩⟩
end
end Sd

set_option Elab.async false
set_option linter.all false
set_option maxRecDepth 100000
set_option maxHeartbeats 4000000
namespace Sd
open PySem PySem.Spec PyProof.Rows L2
/-! ## sorted(set(a list of whole numbers)) -/
/-- the set as it is made -/
abbrev setO0 (w : World) : Obj := { cls := .type "set", dict := none, data := .set #[] 0 (.fresh 0 0 (!w.params.followText "set-order")) }
section
variable {P : Program} {w : World} {A : Around} {E : Value → Shared → Prop} {s : Shared}
theorem init_setL {R : Result → Shared → Prop} {l S : Addr} {items : Array Value} (ns : List Int) (hh : A.handled = none) (hl : s.heap.IsList l items) (hit : IntsAre items.toList ns) (hb : ns.length + 1 < scanBound)
    (hS : s.heap.get? S = some (setO0 w)) (hSl : S ≠ l)
    (hR : ∀ (h' : Heap) (tk c : Nat), SetR w h' S (fun j => decide (j ∈ ns)) c → c ≤ ns.length → (∀ b o, b ≠ S → s.heap.get? b = some o → h'.get? b = some o) → R (.ok (.ret .none)) { s with heap := h', toks := tk }) :
    wpAny (model P w) A.in1 (Builtin.«set.__init__» ⟨[.ref S, .ref l], []⟩)
      (fun fin s' => match fin with | .done f => R (.ok f) s' | .again c' => c'.quiet = true ∧ codeAny (model P w) A c' R s') (fun e s' => R (.error e) s') s := by
  have len : items.size = ns.length := by simpa using IntsAre.length hit
  have vals : ∀ (i : Nat) (v : Value), items[i]? = some v → ∃ k t, ns[i]? = some k ∧ v = .int k t := fun i v hv => by
    obtain ⟨t, e⟩ := IntsAre.int_at hit i v (by rw [Array.getElem?_toList]; exact hv)
    have lt : i < ns.length := by have := (Array.getElem?_eq_some_iff.mp hv).1; omega
    exact ⟨ns[i], t, List.getElem?_eq_getElem lt, by rw [e, List.getD_eq_getElem?_getD, List.getElem?_eq_getElem lt]; rfl⟩
  have ty : s.TypeIs (.ref S) "set" := ⟨_, hS, rfl⟩
  have tl : s.TypeIs (.ref l) "list" := by obtain ⟨o, ho, c, _⟩ := hl; exact ⟨o, ho, c⟩
  have s1 := F.sub_list_set
  have s2 := F.sub_list_frozenset
  have s3 : (Value.type "list" == Value.type "dict") = false := by decide
  unfold Builtin.«set.__init__» noKeywords Builtin.Frozenset.updateFrom
  generalize hPI : pyIter = PI
  wp_walk
  subst hPI
  have lS : l < s.heap.objs.size := let ⟨_, e, _⟩ := hl; Heap.lt_size e
  have sS : S < s.heap.objs.size := Heap.lt_size hS
  have out : S ∉ [s.heap.objs.size, l] := by
    simp only [List.mem_cons, List.not_mem_nil, or_false, not_or]
    exact ⟨Nat.ne_of_lt sS, hSl⟩
  refine wpAny_pyIter_list hl (wpAny_bind (wpAny_runValue ?_))
  refine set_update_ints ((Walks.list (show A.in1.in1.handled = none from hh) s.heap.objs.size l (Nat.ne_of_lt lS) items).toS) S out ns len hb vals items.size 0 _ (Nat.sub_zero _) (Nat.zero_le _)
    ⟨⟨_, Heap.get?_push_size _ rfl, rfl, rfl⟩, hl.push _⟩ ⟨0, Nat.le_refl 0, setR_new_at (Heap.get?_push_of_some _ hS)⟩ fun s' c' hm hc' hS' => ?_
  rw [Moved.eq_with hm]
  refine wpAny_pure (wpAny_pure (hR s'.heap s'.toks c' hS' (by omega) fun b o hb e => hm.heap b o (fun mem => ?_) (Heap.get?_push_of_some _ e)))
  rcases List.mem_cons.mp mem with q | q
  · exact hb q
  · exact Nat.lt_irrefl _ (by have := Heap.lt_size e; rw [List.mem_singleton.mp q] at this; exact this)
theorem call_setL {l : Addr} {items : Array Value} (ns : List Int) {Q : Value → Shared → Prop} (hh : A.handled = none) (hl : s.heap.IsList l items) (hit : IntsAre items.toList ns) (hb : ns.length + 1 < scanBound)
    (h : ∀ (h' : Heap) (tk c : Nat), SetR w h' s.heap.objs.size (fun j => decide (j ∈ ns)) c → c ≤ ns.length → (∀ b o, s.heap.get? b = some o → h'.get? b = some o) → Q (.ref s.heap.objs.size) { s with heap := h', toks := tk }) :
    wpAny (model P w) A (call (.type "set") [.ref l]) Q E s := by
  have lS : l < s.heap.objs.size := let ⟨_, e, _⟩ := hl; Heap.lt_size e
  have new : (s.heap.push (setO0 w)).get? s.heap.objs.size = some (setO0 w) := Heap.get?_push_size _ rfl
  have ty : Shared.TypeIs { s with heap := s.heap.push (setO0 w) } (.ref s.heap.objs.size) "set" := ⟨_, new, rfl⟩
  obtain ⟨c0, more, hmro⟩ := F.called_set.mro
  have k1 := F.called_set.made
  have k2 := F.called_set.sub
  have k3 := F.called_set.notType
  have k4 := F.called_set.canCreate
  have k5 := F.typeCall_set_1 (.ref l)
  have k6 := F.called_set.init.lookup
  have k7 := F.called_set.init.bind (.ref s.heap.objs.size)
  refine wpAny_call (codeAny_of_tree (wpAny_pure ⟨Code.quiet_builtin _ (by decide +kernel), codeAny_builtin F.entry_type_call ?_⟩))
  rw [Around.under_plain (weight_type_call_type "set" [.ref l] []) rfl]
  repeat (any_goals (first | assumption | wp_step))
  refine codeAny_mono (code_set_led1 (E := E) (Q₁ := fun o t => o = .ref s.heap.objs.size ∧ t = { s with heap := s.heap.push (setO0 w) }) (.ref l) ⟨rfl, rfl⟩) fun r t hr => ?_
  rcases r with e | fl
  · exact hr
  cases fl with
  | ret o =>
    obtain ⟨rfl, rfl⟩ := hr
    repeat (any_goals (first | assumption | wp_step))
    refine codeAny_mono (codeAny_call_builtin (R := wants (fun r t => r = .none ∧ ∃ h' tk c, t = { s with heap := h', toks := tk } ∧ SetR w h' s.heap.objs.size (fun j => decide (j ∈ ns)) c ∧ c ≤ ns.length ∧ ∀ b o, s.heap.get? b = some o → h'.get? b = some o) E) F.called_set.init.plain F.entry_set_init (check_set_init_1 ty
      (init_setL (s := { s with heap := s.heap.push (setO0 w) }) ns hh (hl.push _) hit hb new (Nat.ne_of_gt lS) fun h' tk c R le hk => ⟨rfl, h', tk, c, rfl, R, le, fun b o e => hk b o (Nat.ne_of_lt (Heap.lt_size e)) (Heap.get?_push_of_some _ e)⟩))) fun r t hr => ?_
    rcases r with e | fl
    · exact hr
    cases fl with
    | ret o =>
      obtain ⟨rfl, h', tk, c, rfl, R, le, hk⟩ := hr
      repeat (any_goals (first | assumption | wp_step))
      exact h h' tk c R le hk
    | _ => exact hr.elim
  | _ => exact hr.elim
end
section
variable {X : Cx}
/-- sorted(set(x)), x a list of whole numbers -/
def tSortSet (K : PySem.W.Frag) (te : TE) : TE := fun σ H Q => te σ H fun v H1 => ∃ (l : Addr) (ns : List Int), v = .ref l ∧ SqL K H1 l (ns.map V.int) ∧ ns.length < 64 ∧ ∀ (out : List Int) (p : Addr), out.Pairwise (· < ·) → (∀ k : Int, k ∈ out ↔ k ∈ ns) → H1 p = none → Q (.ref p) (upd H1 p (.lst (out.map V.int)))
theorem pe_sortSet {e : Expr} {te : TE} {p p2 pos pos2 : Pos} (hc : X.calm = true) (hg : Gl X "sorted") (hm : X.mg "sorted" = none) (hg2 : Gl X "set") (hm2 : X.mg "set" = none) (he : PE X e te)
    (hs : starEach [e] X.env = (false, eval e X.env) :: starEach [] X.env := by rfl)
    (hs2 : starEach [.Call (.Name "set" p2) [e] [] pos2] X.env = (false, eval (.Call (.Name "set" p2) [e] [] pos2) X.env) :: starEach [] X.env := by rfl) :
    PE X (.Call (.Name "sorted" p) [.Call (.Name "set" p2) [e] [] pos2] [] pos) (tSortSet X.K te) := by
  refine ⟨fun pins s σ H Q I h => ?_⟩
  refine Call_ (ld_blt I hg hm boot_sorted (callWith_builtin1 (args_cons (Call_ (ld_blt I hg2 hm2 boot_set (callWith_type1 (args_cons (thn (he.run pins s σ H _ I h) fun u s1 ⟨v, H1, I1, r1, q1⟩ => args_nil ?_) hs) hs rfl))) hs2) hs2 rfl))
  obtain ⟨l, ns, rfl, hq, h64, q⟩ := q1
  obtain rfl : u = Value.ref l := r1
  obtain ⟨its, rv, p', hz⟩ := I1.list hq
  refine call_setL ns (I1.ok.hd hc) p'.isList (by simpa using ints_of_vals rv) (by unfold scanBound; omega) fun h' tk c R le k => args_nil ?_
  refine sorted_set (s := { s1 with heap := h', toks := tk }) R (I1.ok.hd hc) (by omega) fun s' p out c2 ks k2 g o hp hg' hi hsrt hmem hlen => ?_
  have sz : s1.heap.objs.size < h'.objs.size := R.lt
  have kk : ∀ b o, s1.heap.get? b = some o → s'.heap.get? b = some o := fun b o e => k2 b o (k b o e)
  have hp' : s1.heap.objs.size ≤ p := Nat.le_trans (Nat.le_of_lt sz) hp
  have hn : H1 p = none := I1.hok.fresh hp'
  have len : (ks.map V.int).length ≤ sizeLine := by rw [List.length_map, hlen, sizeLine_eq]; omega
  have J : Inv X pins σ (upd H1 p (.lst (ks.map V.int))) { s1 with heap := s'.heap, gens := s'.gens, drawn := s'.drawn, toks := s'.toks } :=
    I1.call (ch := []) (Un.laid kk hp' hn) (I1.hok.laid kk hp' ⟨len, out.toList, c2, vals_of_ints hi, hg'⟩) (by rw [g]; exact I1.bare) (fun _ z => nomatch z)
  have e : s' = { s1 with heap := s'.heap, gens := s'.gens, drawn := s'.drawn, toks := s'.toks } := by
    cases s'; cases s1; cases o; rfl
  rw [e]
  exact ⟨.ref p, _, J, rfl, q ks p hsrt (fun k => by rw [hmem]; simp) hn⟩
end
/-- sorted(set(x)) -/
def xSortSet (t : XE) : XE := fun e m Q => t e m fun x m1 => ∃ ns : List Int, lstD m1 x = some (ns.map .int) ∧ ns.length < 64 ∧ ∀ (out : List Int) (p : Addr), out.Pairwise (· < ·) → (∀ k : Int, k ∈ out ↔ k ∈ ns) → m1 p = none → Q (.ref p) (updM m1 p (.lst (out.map .int)))
theorem reps_of_ints {K : PySem.W.Frag} {H : Hp} : ∀ ns : List Int, Reps K H (ns.map D.int) (ns.map V.int)
  | [] => by simp [Reps]
  | n :: ns => by simp only [List.map_cons, Reps]; exact ⟨_, _, rfl, by simp [Rep], reps_of_ints ns⟩
theorem xe_sortSet {X : Cx} {a : Expr} {t : XE} {p p2 pos pos2 : Pos} (hc : X.calm = true) (hg : Gl X "sorted") (hm : X.mg "sorted" = none) (hg2 : Gl X "set") (hm2 : X.mg "set" = none) (ha : PE X a (low X.K t))
    (hs : starEach [a] X.env = (false, eval a X.env) :: starEach [] X.env := by rfl)
    (hs2 : starEach [.Call (.Name "set" p2) [a] [] pos2] X.env = (false, eval (.Call (.Name "set" p2) [a] [] pos2) X.env) :: starEach [] X.env := by rfl) :
    PE X (.Call (.Name "sorted" p) [.Call (.Name "set" p2) [a] [] pos2] [] pos) (low X.K (xSortSet t)) :=
  PE.imp (pe_sortSet hc hg hm hg2 hm2 ha hs hs2) fun σ H QV ⟨e, m, Q, rs, rm, h, q⟩ => ⟨e, m, _, rs, rm, h, fun v H1 d m1 s1 r1 rm1 h1 => by
    obtain ⟨ns, hl, h64, h1⟩ := h1
    obtain ⟨l, ys, rfl, sq, ry⟩ := lst_out rm1 r1 hl
    have e2 := reps_ints ry
    subst e2
    refine ⟨l, ns, rfl, sq, h64, fun out p hs hm hp => ?_⟩
    exact q _ _ (.ref p) _ (s1.trans (.newM hp)) (by simp only [Rep]) (new_lst rm1 (reps_of_ints out) hp) (h1 out p hs hm (rm1.none hp))⟩
end Sd

set_option Elab.async false
set_option linter.all false
set_option maxRecDepth 100000
set_option maxHeartbeats 1000000
/-! xs[::-1] of a list; a for over a tuple or a locked list; a list handed over for good -/
namespace Sd
open PySem PySem.Spec PyProof.Rows L2
section
variable {X : Cx}
def tRevSl (K : PySem.W.Frag) (te tk : TE) : TE := fun σ H Q => te σ H fun x H1 => tk σ H1 fun y H2 => y = .int (-1) ∧ ∃ a xs, x = .ref a ∧ SqL K H2 a xs ∧ ∀ p, H2 p = none → Q (.ref p) (upd H2 p (.lst xs.reverse))
theorem pe_revSl {e k : Expr} {te tk : TE} {pos p2 : Pos} (he : PE X e te) (hk : PE X k tk) : PE X (.Subscript e (.Slice none none (some k) p2) pos) (tRevSl X.K te tk) := by
  refine ⟨fun pins s σ H Q I h => ?_⟩
  refine Subscript_ (thn (he.run pins s σ H _ I h) fun v s1 ⟨x, H1, I1, r1, q1⟩ => ?_)
  refine wpAny_Slice ?_
  rw [evalPart_none]
  refine wpAny_pure (wpAny_pure ?_)
  rw [evalPart_some]
  refine thn (hk.run pins s1 σ H1 _ I1 q1) fun vk s2 ⟨y, H2, I2, r2, q2⟩ => ?_
  obtain ⟨rfl, a, xs, rfl, hx, q⟩ := q2
  obtain ⟨t, rfl⟩ := r2
  cases r1
  have I4 : Inv X pins σ H2 { s2 with heap := s2.heap.push { cls := .type "slice", data := .fields #[.none, .none, .int (-1) t] } } := I2.kept (t' := s2.toks) fun b ob q => Heap.get?_push_of_some _ q
  obtain ⟨its, r, ht, hz⟩ := I4.list hx
  have hlen := r.length
  refine tail_any (ops := [.ref a, .ref s2.heap.objs.size]) ht.isList.typeIs slot_list_getitem.lookup ?_ (by with_unfolding_all rfl)
  refine wpAny_getItem_list_slice ht.isList (Heap.IsSliceOf.new ..) .none .none (.int (-1) t) (by decide) ?_ (by rw [List.size_toArray] <;> omega)
  rw [PySem.W.krv_pick]
  refine ⟨.ref _, _, I4.laid (t' := s2.toks) (o := .lst xs.reverse) (fun b ob q => Heap.get?_push_of_some _ q) (Nat.le_refl _) ?_, rfl, q _ (I4.hok.fresh (Nat.le_refl _))⟩
  exact ⟨by rw [List.length_reverse]; omega, _, 0, r.reverse, Heap.get?_push_size _ rfl⟩
def xRevSl (te tk : XE) : XE := fun e m Q => te e m fun x m1 => tk e m1 fun k m2 => asI k fun j => j = -1 ∧ oat (lstD m2 x) fun ds => ∀ p, m2 p = none → Q (.ref p) (updM m2 p (.lst ds.reverse))
theorem xe_revSl {ex k : Expr} {te tk : XE} {pos p2 : Pos} (he : PE X ex (low X.K te)) (hk : PE X k (low X.K tk)) : PE X (.Subscript ex (.Slice none none (some k) p2) pos) (low X.K (xRevSl te tk)) :=
  PE.imp (pe_revSl he hk) fun σ H QV ⟨e, m, Q, rs, rm, h, q⟩ => ⟨e, m, _, rs, rm, h, fun v H1 d m1 s1 r1 rm1 h1 => ⟨e, m1, _, rs.ext s1.imm, rm1, h1, fun u H2 dk m2 s2 r2 rm2 h2 => by
    obtain ⟨j, ek, h3⟩ := asI_out h2
    subst ek
    obtain ⟨rfl, h4⟩ := h3
    obtain ⟨ds, ed, h5⟩ := oat_out h4
    obtain ⟨a, ys, ea, sq, ry⟩ := lst_out rm2 (r1.ext s2.imm) ed
    simp only [Rep] at r2
    exact ⟨r2, a, ys, ea, sq, fun p hp => q _ _ (.ref p) _ (s1.trans (s2.trans (.newM hp))) (by simp only [Rep]) (new_lst rm2 (reps_rev ry) hp) (h5 p (rm2.none hp))⟩⟩⟩
/-! a for over a tuple or a locked list -/
def iSeqT (K : PySem.W.Frag) (tl : TE) : TI := fun σ H R => tl σ H fun x H1 => (∃ a, x = .ref a ∧ (∃ xs, SqL K H1 a xs) ∧ R (Itl K a) H1) ∨ ∃ a, x = .ref a ∧ (∃ xs, SqT K H1 a xs) ∧ R (Itt K a) H1
theorem pi_seq {tg l : Expr} {tl : TE} (hl : PE X l tl) : PI X tg l (iSeqT X.K tl) := by
  refine ⟨fun pins s σ H R I h => ?_⟩
  refine thn (hl.run pins s σ H _ I h) fun v s1 ⟨x, H1, I1, r1, q1⟩ => ?_
  rcases q1 with ⟨a, e, ⟨xs, hq⟩, q⟩ | ⟨a, e, ⟨xs, hq⟩, q⟩
  · subst e
    cases r1
    obtain ⟨its, rv, p, hz⟩ := I1.list hq
    refine wpAny_pyIter_list p.isList ?_
    refine ⟨s1.heap.objs.size, [s1.heap.objs.size], _, _, H1, rfl, I1.kept (t' := s1.toks) fun b o e => Heap.get?_push_of_some _ e, turn_list a _, ⟨_, Heap.get?_push_size _ rfl, rfl, rfl⟩, fun b hb => ?_, q⟩
    have e : b = s1.heap.objs.size := by simpa using hb
    subst e
    exact I1.fpOk (Nat.le_refl _) (I1.hok.fresh (Nat.le_refl _))
  · subst e
    cases r1
    obtain ⟨its, rv, p, hz⟩ := I1.tuple hq
    refine wpAny_pyIter_tuple (show s1.heap.IsTuple a its.toArray from p) ?_
    refine ⟨s1.heap.objs.size, [s1.heap.objs.size], _, _, H1, rfl, I1.kept (t' := s1.toks) fun b o e => Heap.get?_push_of_some _ e, turn_tuple a _, ⟨_, Heap.get?_push_size _ rfl, rfl, rfl⟩, fun b hb => ?_, q⟩
    have e : b = s1.heap.objs.size := by simpa using hb
    subst e
    exact I1.fpOk (Nat.le_refl _) (I1.hok.fresh (Nat.le_refl _))
def immD (d : D) : Option (List D) := match d with | .tup ds => some ds | .lck ds => some ds | _ => none
@[simp] theorem immD_tup {ds : List D} : immD (.tup ds) = some ds := rfl
def iSq (t : XE) : XI := fun e m R => t e m fun x m1 => oat (immD x) fun ds => R ⟨ds, fun _ => True⟩ m1
theorem xi_seq {tg l : Expr} {t : XE} (h : PE X l (low X.K t)) : PI X tg l (lowI X.K (iSq t)) :=
  PI.imp (pi_seq h) fun σ H R ⟨e, m, Q, rs, rm, h, q⟩ => ⟨e, m, _, rs, rm, h, fun v H1 d m1 s1 r1 rm1 h0 => by
    obtain ⟨ds, ed, h1⟩ := oat_out h0
    cases d with
    | tup es =>
      cases ed
      simp only [Rep] at r1
      obtain ⟨a, xs, rfl, sq, rx⟩ := r1
      refine .inr ⟨a, rfl, ⟨xs, sq⟩, q _ H1 _ m1 s1 rm1 (fun i H2 m2 im rm2 _ => ?_) h1⟩
      have sq2 := im.seq sq
      refine ⟨fun hl => ⟨xs, sq2, by rw [← rx.len]; exact hl⟩, fun hl => ?_⟩
      obtain ⟨x, hx, rd⟩ := rx.get (List.getElem?_eq_getElem hl)
      refine ⟨⟨xs, x, sq2, hx⟩, fun y H3 ⟨eh, hy⟩ => ?_⟩
      subst eh
      have := hy xs sq2
      rw [hx] at this; cases this
      exact ⟨.refl, rm2, _, List.getElem?_eq_getElem hl, rd.ext im⟩
    | lck es =>
      cases ed
      simp only [Rep] at r1
      obtain ⟨a, xs, rfl, sq, rx⟩ := r1
      refine .inl ⟨a, rfl, ⟨xs, sq.l⟩, q _ H1 _ m1 s1 rm1 (fun i H2 m2 im rm2 _ => ?_) h1⟩
      have sq2 := (im.lck sq).l
      refine ⟨fun hl => ⟨xs, sq2, by rw [← rx.len]; exact hl⟩, fun hl => ?_⟩
      obtain ⟨x, hx, rd⟩ := rx.get (List.getElem?_eq_getElem hl)
      refine ⟨⟨xs, x, sq2, hx⟩, fun y H3 ⟨eh, hy⟩ => ?_⟩
      subst eh
      have := hy xs sq2
      rw [hx] at this; cases this
      exact ⟨.refl, rm2, _, List.getElem?_eq_getElem hl, rd.ext im⟩
    | _ => cases ed⟩
/-- items by a tuple or by a locked list -/
def wsX (b : Bool) (ds : List D) : D := if b = true then .tup ds else .lck ds
@[simp] theorem seqD_wsX {m : M} {b : Bool} {ds : List D} : seqD m (wsX b ds) = some ds := by cases b <;> rfl
@[simp] theorem immD_wsX {b : Bool} {ds : List D} : immD (wsX b ds) = some ds := by cases b <;> rfl
theorem wsX_tup {ds : List D} : wsX true ds = .tup ds := rfl
theorem wsX_lck {ds : List D} : wsX false ds = .lck ds := rfl
end
/-! a list handed over for good -/
section
variable {P : Program} {w : World} {K : PySem.W.Frag} {mg : Str → Option Value} {base : Heap}
theorem un_thaw2 {fs : List Addr} {H H' : Hp} {h h' : Heap} {a : Addr} {o : Obj} {xs : List V} (ha : H a = some (.lst xs)) (u : Un fs [] (upd H a (.frz o (.lst xs))) H' h h') : Un fs [] H H' h h' := by
  have ne : ∀ b, H b = none → b ≠ a := fun b hb z => by subst z; rw [ha] at hb; cases hb
  have up : ∀ b, H b = none → upd H a (.frz o (.lst xs)) b = none := fun b hb => by rw [upd_ne (ne b hb)]; exact hb
  refine ⟨fun b ob g n f x => u.keep b ob g (up b n) f x, fun b ob g n f x => u.slot b ob g (up b n) f x, fun b ob g n x => u.free b ob g (up b n) x, u.there, fun b ys e => u.tups b ys ?_, fun b ob v e => u.frzs b ob v ?_, fun b ps e => u.tbls b ps ?_⟩
  · rw [upd_ne (by intro z; subst z; rw [ha] at e; cases e)]; exact e
  · rw [upd_ne (by intro z; subst z; rw [ha] at e; cases e)]; exact e
  · rw [upd_ne (by intro z; subst z; rw [ha] at e; cases e)]; exact e
theorem freeze2 {k : Nat} {f : Addr} {fd : FuncData} {ps : List Str} {sp : Sp} (F : FnOk P w K mg base CX0 k f fd ps sp) :
    FnOk P w K mg base CX0 k f fd ps (fun vs H Q E => sp vs H Q E ∨ ∃ a xs, H a = some (.lst xs) ∧ ∀ o, sp vs (upd H a (.frz o (.lst xs))) Q E) := by
  refine ⟨fun vs H Q E h => ?_, fun A outer s H args us vs Q E hr e0 hb hv h => ?_⟩
  · rcases h with h | ⟨a, xs, _, h⟩
    · exact F.len _ _ _ _ h
    · exact F.len _ _ _ _ (h default)
  · rcases h with h | ⟨a, xs, ha, h⟩
    · exact F.run A outer s H args us vs Q E hr e0 hb hv h
    · obtain ⟨o, ho⟩ : ∃ o, s.heap.get? a = some o := by
        obtain ⟨_, its, n, _, e⟩ := (show ObjOk P w H s.heap a (.lst xs) from e0.hok a _ ha)
        exact ⟨_, e⟩
      have old : ∀ b u, H b = some u → b ≠ a → upd H a (.frz o (.lst xs)) b = some u := fun b u e z => by rw [upd_ne z]; exact e
      have own : ∀ b y, H b = some (.own y) → upd H a (.frz o (.lst xs)) b = some (.own y) := fun b y e => old b _ e (by intro z; subst z; rw [ha] at e; cases e)
      have tup : ∀ b ys, H b = some (.tup ys) → upd H a (.frz o (.lst xs)) b = some (.tup ys) := fun b y e => old b _ e (by intro z; subst z; rw [ha] at e; cases e)
      have none' : ∀ b, H b = none → upd H a (.frz o (.lst xs)) b = none := fun b e => by rw [upd_ne (by intro z; subst z; rw [ha] at e; cases e)]; exact e
      have ok : HOk P w (upd H a (.frz o (.lst xs))) s.heap := fun b u e => by
        by_cases z : b = a
        · subst z
          rw [upd_same] at e
          cases e
          exact ⟨ho, (e0.hok b _ ha).stay (fun _ _ _ q => q) (fun c q => own c _ q) tup⟩
        · rw [upd_ne z] at e
          exact (e0.hok b u e).stay (fun _ _ _ q => q) (fun c q => own c _ q) tup
      refine codeAny_mono (F.run A outer s (upd H a (.frz o (.lst xs))) args us vs Q E hr ⟨e0.frames, e0.mod, fun b ob q => ⟨(e0.bs b ob q).1, none' b (e0.bs b ob q).2⟩, e0.bsz, e0.funs, fun b q => none' b (e0.frf b q), ok, e0.bare⟩ hb hv (h o)) fun r s' hq => ?_
      cases r with
      | error e => exact hq
      | ok fl =>
        cases fl with
        | ret u =>
          obtain ⟨v, H', g1, g2, g3, g4, g5, g6⟩ := hq
          exact ⟨v, H', g1, g2, un_thaw2 ha g3, g4, g5, g6⟩
        | next => exact hq
        | brk => exact hq
        | cont => exact hq
/-- the known without one thing -/
def offM (m : M) (a : Addr) : M := fun b => if b = a then none else m b
def spFrz (sp : XSp) : XSp := fun ds m Q => sp ds m Q ∨ ∃ a xs r, ds = .ref a :: r ∧ m a = some (.lst xs) ∧ sp (.lck xs :: r) (offM m a) Q
theorem frzF {k : Nat} {f : Addr} {fd : FuncData} {ps : List Str} {sp : XSp} (F : FnX P w K mg base k f fd ps sp) : FnX P w K mg base k f fd ps (spFrz sp) := by
  have G := freeze2 F
  have key : ∀ vs H Q E, liftS K (spFrz sp) vs H Q E → liftS K sp vs H Q E ∨ ∃ a xs, H a = some (.lst xs) ∧ ∀ o, liftS K sp vs (upd H a (.frz o (.lst xs))) Q E := fun vs H QV E ⟨ds, m, Q, rs, rm, h, q⟩ => by
    rcases h with h | ⟨a, xs, r, rfl, hm, h⟩
    · exact .inl ⟨ds, m, Q, rs, rm, h, q⟩
    · obtain ⟨ho, h1, zs, rfl, rz⟩ := rm a _ hm
      refine .inr ⟨a, zs, h1, fun o => ?_⟩
      have st : Stp H m (upd H a (.frz o (.lst zs))) (updM m a (.lst xs)) := .write h1 (fun z => z) hm
      have st' : Stp H m (upd H a (.frz o (.lst zs))) (offM m a) := ⟨st.imm, st.fr, st.stay, fun b u e t n => by
        unfold offM
        by_cases z : b = a
        · rw [if_pos z]
        · rw [if_neg z]; exact n⟩
      simp only [Reps, Rep] at rs
      obtain ⟨_, vr, rfl, rfl, rr⟩ := rs
      refine ⟨.lck xs :: r, offM m a, Q, ?_, fun b u e => ?_, h, fun v H' d m' s2 r2 rm2 h2 => q v H' d m' (st'.trans s2) r2 rm2 h2⟩
      · simp only [Reps, Rep]
        exact ⟨_, vr, rfl, ⟨a, zs, rfl, .inl ⟨o, upd_same⟩, rz.ext st.imm⟩, rr.ext st.imm⟩
      · unfold offM at e
        by_cases z : b = a
        · rw [if_pos z] at e; cases e
        · rw [if_neg z] at e
          obtain ⟨ho2, g1, g2⟩ := rm b u e
          exact ⟨ho2, by rw [upd_ne z]; exact g1, g2.ext st.imm⟩
  refine ⟨fun vs H Q E h => G.len vs H Q E (key vs H Q E h), fun A outer s H args us vs Q E hr e0 hb hv h => G.run A outer s H args us vs Q E hr e0 hb hv (key vs H Q E h)⟩
theorem offM_ne {m : M} {a b : Addr} (h : b ≠ a) : offM m a b = m b := by unfold offM; rw [if_neg h]
theorem offM_sub {m : M} {a : Addr} : Sub (offM m a) m := fun b o h => by
  unfold offM at h
  by_cases z : b = a
  · rw [if_pos z] at h; cases h
  · rw [if_neg z] at h; exact h
end
end Sd

set_option Elab.async false
set_option linter.all false
set_option maxRecDepth 100000
set_option maxHeartbeats 1000000
/-! min(a list of pairs of whole numbers, key=lambda t: (t[0] * 10 ** 30 // t[1], t)). -/
namespace LK
open PySem PySem.Spec PyProof.Rows L2
section
variable {prog : Program} {w : World} {A : Around} {s : Shared} {E : Value → Shared → Prop}
/-- a call of the lambda, told by the tuple that it makes -/
theorem kCall2 {f c' b : Addr} {q x : Str} {sc : Scope} {clo : List (Str × Addr)} {pm ctv : Value} {params : Arguments} {n d : Int} {t u : Tok} {k1 j1 j2 j3 j4 : Nat} {a1 a2 a3 a4 a5 a6 a7 a8 a9 a10 a11 a12 a13 : Pos}
    (hf : s.heap.get? f = some (PySem.W.kla_obj "<lambda>" q params (kBody x k1 j1 j2 j3 j4 a1 a2 a3 a4 a5 a6 a7 a8 a9 a10 a11 a12 a13) sc clo pm c' ctv))
    (hcode : ∃ (oc : Obj) (vs : Array Value) (t : Tok), s.heap.get? c' = some oc ∧ oc.data = .fields vs ∧ vs[1]? = some (.str q t))
    (hlim : s.heap.NoLimit) (hroom : A.depth < recursionLimit) (hsk : sc.kind = .function) (hsn : sc.names = [(x, .local)]) (hco : sc.isCoroutine = false) (hgen : sc.isGenerator = false) (hx : (x == ("__debug__" : Str)) = false)
    (hbind : ∀ (q : Str) (cl : List (Str × Addr)) (pm cv ctv v : Value), bindArgs (PySem.W.kla_fn "<lambda>" q params (kBody x k1 j1 j2 j3 j4 a1 a2 a3 a4 a5 a6 a7 a8 a9 a10 a11 a12 a13) sc cl pm cv ctv) ⟨[v], []⟩ = pure [(x, v)])
    (hb : IsTup s.heap b #[.int n t, .int d u]) (d0 : d ≠ 0) (hns : -2 ^ 64 < n ∧ n < 2 ^ 64) (hds : d.natAbs < 1073741824) :
    wpAny (model prog w) A (call (.ref f) [.ref b]) (fun v s' => ∃ h' tk c t1, s' = { s with heap := h', toks := tk } ∧ (∀ b o, s.heap.get? b = some o → h'.get? b = some o) ∧ v = .ref c ∧ s.heap.get? c = none ∧ IsTup h' c #[.int (keyI n d) t1, .ref b]) (fun _ _ => False) s := by
  obtain ⟨oc, vs, tq, hoc, hdc, hvc⟩ := hcode
  refine wpAny_call (PySem.W.kla_callFunE hroom hf rfl hco hgen rfl ⟨c', oc, vs, tq, rfl, hoc, hdc, hvc⟩ ?_)
  rw [hbind]
  refine wpAny_pure (wpAny_newFunctionEnv (fun y hy => ?_) (fun y hy => ?_) (fun h₁ hns' hsb => ?_) hsk)
  · rw [show (PySem.W.kla_fn "<lambda>" q params (kBody x k1 j1 j2 j3 j4 a1 a2 a3 a4 a5 a6 a7 a8 a9 a10 a11 a12 a13) sc clo pm (.ref c') ctv).scope.names = [(x, .local)] from hsn] at hy
    rw [List.mem_singleton.mp hy]; exact fun z => nomatch z
  · rw [List.mem_singleton.mp hy]
    show sc.names.lookup x = some .local
    rw [hsn]; simp
  · have kp : ∀ b o, s.heap.get? b = some o → h₁.get? b = some o := fun b o e => hsb.extBut b o (Nat.ne_of_lt (Heap.lt_size e)) (Heap.get?_push_of_some _ e)
    refine ⟨hlim.keeps kp, PySem.W.kla_codeExpr (kBody_eval (b := b) (n := n) (d := d) (t := t) (u := u) hsk ?_ hns' ?_ hx ?_ d0 hns hds fun t1 tk => ?_)⟩
    · show sc.names.lookup x = some .local
      rw [hsn]; simp
    · simp
    · obtain ⟨o, e, c⟩ := hb
      exact ⟨o, kp _ _ e, c⟩
    · refine ⟨_, _, h₁.objs.size, t1, rfl, fun b o e => Heap.get?_push_of_some _ (kp b o e), rfl, ?_, IsTup.new _ _⟩
      cases z : s.heap.get? h₁.objs.size with
      | none => rfl
      | some o => exact absurd (Heap.lt_size (kp _ _ z)) (Nat.lt_irrefl _)
/-- the first of those of the least key -/
def minB (x : Addr × Int × Int) (xs : List (Addr × Int × Int)) : Addr × Int × Int := xs.foldl (fun a y => if PySem.W.dataLt (kOf y) (kOf a) then y else a) x
theorem minK_raw {a f c' : Addr} {items : Array Value} {y0 : Addr × Int × Int} {ys : List (Addr × Int × Int)} {q x : Str} {sc : Scope} {clo : List (Str × Addr)} {pm ctv : Value} {params : Arguments} {k1 j1 j2 j3 j4 : Nat} {a1 a2 a3 a4 a5 a6 a7 a8 a9 a10 a11 a12 a13 : Pos} {Q : Value → Shared → Prop}
    (hl : s.heap.IsList a items) (hv : items.toList = (y0 :: ys).map fun x => Value.ref x.1) (hh : A.handled = none)
    (hbt : ∀ x ∈ y0 :: ys, x.2.2 ≠ 0 ∧ (-2 ^ 64 < x.2.1 ∧ x.2.1 < 2 ^ 64) ∧ x.2.2.natAbs < 1073741824 ∧ ∃ t u, IsTup s.heap x.1 #[.int x.2.1 t, .int x.2.2 u]) (hun : A.units + 20 < cLine)
    (hf : s.heap.get? f = some (PySem.W.kla_obj "<lambda>" q params (kBody x k1 j1 j2 j3 j4 a1 a2 a3 a4 a5 a6 a7 a8 a9 a10 a11 a12 a13) sc clo pm c' ctv))
    (hcode : ∃ (oc : Obj) (vs : Array Value) (t : Tok), s.heap.get? c' = some oc ∧ oc.data = .fields vs ∧ vs[1]? = some (.str q t))
    (hlim : s.heap.NoLimit) (hroom : A.depth < recursionLimit) (hsk : sc.kind = .function) (hsn : sc.names = [(x, .local)]) (hco : sc.isCoroutine = false) (hgen : sc.isGenerator = false) (hx : (x == ("__debug__" : Str)) = false)
    (hbind : ∀ (q : Str) (cl : List (Str × Addr)) (pm cv ctv v : Value), bindArgs (PySem.W.kla_fn "<lambda>" q params (kBody x k1 j1 j2 j3 j4 a1 a2 a3 a4 a5 a6 a7 a8 a9 a10 a11 a12 a13) sc cl pm cv ctv) ⟨[v], []⟩ = pure [(x, v)])
    (h : ∀ (h' : Heap) (tk : Nat), (∀ b o, s.heap.get? b = some o → h'.get? b = some o) → Q (.ref (minB y0 ys).1) { s with heap := h', toks := tk }) :
    wpAny (model prog w) A (call (.builtin "min") [.ref a] [(Str.ofString "key", .ref f)]) Q E s := by
  have hn : items.size = ys.length + 1 := by
    have := congrArg List.length hv
    simpa using this
  have hit : ∀ i v, items[i]? = some v → ∃ z : Addr × Int × Int, (y0 :: ys)[i]? = some z ∧ v = Value.ref z.1 := fun i v e => by
    rw [← Array.getElem?_toList, hv, List.getElem?_map] at e
    obtain ⟨z, hz, rfl⟩ := Option.map_eq_some_iff.mp e
    exact ⟨z, hz, rfl⟩
  have gd : ∀ i z, (y0 :: ys)[i]? = some z → (y0 :: ys).getD i (0, 0, 0) = z := fun i z e => by rw [List.getD_eq_getElem?_getD, e]; rfl
  refine call_min_walkK (PySem.W.iter_listW (A := A.in1) hh hl fun s₂ e W st hfp hw hk => ?_)
  subst e
  obtain ⟨o2, vs2, tq, hoc, hdc, hvc⟩ := hcode
  have sI : (s.heap.push { cls := .type "list_iterator", data := .fields #[.ref a, .int 0 0] }).objs.size = s.heap.objs.size + 1 := Heap.size_push ..
  refine ⟨_, _, _, _, _, _, _, fun s' => ∃ h' tk, s' = { s with heap := h', toks := tk } ∧ ∀ b o, s.heap.get? b = some o → h'.get? b = some o,
    fun i k s' => i < (y0 :: ys).length ∧ ∃ c t1, k = .ref c ∧ c ≠ s.heap.objs.size + 1 ∧ c ≠ s.heap.objs.size ∧ IsTup s'.heap c #[.int (keyI ((y0 :: ys).getD i (0, 0, 0)).2.1 ((y0 :: ys).getD i (0, 0, 0)).2.2) t1, .ref ((y0 :: ys).getD i (0, 0, 0)).1],
    fun i j => PySem.W.dataLt (kOf ((y0 :: ys).getD i (0, 0, 0))) (kOf ((y0 :: ys).getD j (0, 0, 0))), rfl, W, st, hfp, by omega, ⟨?_, ?_, ?_, ?_⟩, ⟨_, s.toks, rfl, hk⟩, ?_⟩
  · rintro s1 s2 ⟨h1, tk1, rfl, k1⟩ m
    obtain ⟨hp, g, d, tk, os⟩ := s2
    have g1 : g = s.gens := m.gens
    have g2 : d = s.drawn := m.drawn
    have g3 : os = s.os := m.os
    subst g1 g2 g3
    refine ⟨hp, tk, rfl, fun b o eb => m.heap b o (fun hb => ?_) (k1 b o eb)⟩
    have := Heap.lt_size eb
    rcases List.mem_cons.mp hb with z | z
    · rw [z.trans sI] at this
      exact absurd this (Nat.not_lt.mpr (Nat.le_succ _))
    · rw [List.mem_singleton.mp z] at this; exact Nat.lt_irrefl _ this
  · rintro i k s1 s2 ⟨hi, c, t1, e, n1, n2, o, eo, r⟩ m
    refine ⟨hi, c, t1, e, n1, n2, o, m.heap c o (fun hb => ?_) eo, r⟩
    rcases List.mem_cons.mp hb with z | z
    · exact n1 (z.trans sI)
    · exact n2 (List.mem_singleton.mp z)
  · rintro i v s1 o Q' E' hi hP ⟨h1, tk1, rfl, k1⟩ ⟨st1, st2⟩ hS hq
    obtain ⟨z, hz, rfl⟩ := hit i v hP
    obtain ⟨d0, hns, hds, t, u, hb⟩ := hbt z (List.mem_of_getElem? hz)
    refine wpAny_mono (kCall2 (A := A.in1) (s := { s with heap := h1, toks := tk1 }) (k1 _ _ hf) ⟨o2, vs2, tq, k1 _ _ hoc, hdc, hvc⟩ (hlim.keeps k1) hroom hsk hsn hco hgen hx hbind (hb.keeps k1) d0 hns hds) (fun k s' hs' => ?_) fun _ _ (z : False) => z.elim
    obtain ⟨h', tk, c, t1, rfl, k2, rfl, hc, ht⟩ := hs'
    have hS' : h1.get? (s.heap.objs.size + 1) = some o := by rw [← sI]; exact hS
    obtain ⟨oi, ei, ci⟩ := id st1
    obtain ⟨ol, el, cl⟩ := id st2
    refine hq _ _ ⟨h', tk, rfl, fun b o e => k2 b o (k1 b o e)⟩ ⟨⟨oi, k2 _ _ ei, ci⟩, ⟨ol, k2 _ _ el, cl⟩⟩ (k2 _ _ hS) ⟨(List.getElem?_eq_some_iff.mp hz).1, c, t1, rfl, ?_, ?_, by rw [gd i z hz]; exact ht⟩ fun j k' ⟨hj, c2, t2, e2, n3, n4, ht2⟩ => ⟨hj, c2, t2, e2, n3, n4, ht2.keeps k2⟩
    · intro y; subst y; rw [hS'] at hc; cases hc
    · intro y; subst y; rw [ei] at hc; cases hc
  · rintro i j ki kj s1 Q' E' ⟨h1, tk1, rfl, k1⟩ ⟨hi, ci, ti, rfl, _, _, oi, ei, cci, ni, di⟩ ⟨hj, cj, tj, rfl, _, _, oj, ej, ccj, nj, dj⟩ hq
    have rd : ∀ i, i < (y0 :: ys).length → ∃ t u, IsTup h1 ((y0 :: ys).getD i (0, 0, 0)).1 #[.int ((y0 :: ys).getD i (0, 0, 0)).2.1 t, .int ((y0 :: ys).getD i (0, 0, 0)).2.2 u] := fun i hi => by
      have hz := List.getElem?_eq_getElem hi
      rw [gd i _ hz]
      obtain ⟨_, _, _, t, u, hb⟩ := hbt _ (List.mem_of_getElem? hz)
      exact ⟨t, u, hb.keeps k1⟩
    obtain ⟨t, u, ob, eb, cb, nb, db⟩ := rd i hi
    obtain ⟨t', u', ob', eb', cb', nb', db'⟩ := rd j hj
    have r1 := PySem.Reads.tuple (h := h1) ei cci di (.cons (.int _ ti) (.cons (PySem.Reads.tuple (xs := [.int _, .int _]) (as := []) eb cb db (.cons (.int _ t) (.cons (.int _ u) .nil))) .nil))
    have r2 := PySem.Reads.tuple (h := h1) ej ccj dj (.cons (.int _ tj) (.cons (PySem.Reads.tuple (xs := [.int _, .int _]) (as := []) eb' cb' db' (.cons (.int _ t') (.cons (.int _ u') .nil))) .nil))
    refine PySem.W.rcLt_alike _ _ A.in1 { s with heap := h1, toks := tk1 } _ _ _ _ r1 r2 (kOf_alike _ _) (fun z => nomatch z) ?_ prog w E' Q' hq
    show A.units + 1 + min (PyData.depth (.tuple [.int _, .tuple [.int _, .int _]])) (PyData.depth (.tuple [.int _, .tuple [.int _, .int _]])) < cLine
    simp only [PyData.depth, PyData.depthAll]
    omega
  · rintro v s' hP ⟨h', tk, rfl, k1⟩
    obtain ⟨z, hz, rfl⟩ := hit _ v hP
    have e1 : items.size - 1 = ys.length := by omega
    have e2 := (PySem.W.argBest_fold (fun a b => PySem.W.dataLt (kOf a) (kOf b)) (0, 0, 0) y0 ys ys.length (Nat.le_refl _)).2
    rw [List.take_length] at e2
    rw [e1] at hz
    have e3 := gd _ _ hz
    rw [e2] at e3
    rw [← e3]
    exact h h' tk k1
end
end LK
namespace Sd
open PySem PySem.Spec PyProof.Rows L2 LK
section
variable {X : Cx}
theorem extN_l {K : PySem.W.Frag} {H H' : Hp} (e : LamX.ExtN H H') {a : Addr} {xs : List V} (h : SqL K H a xs) : SqL K H' a xs := by
  rcases h with (h | ⟨o, h⟩) | h
  · exact .inl (.inl (e _ _ h fun _ z => nomatch z))
  · exact .inl (.inr ⟨o, e _ _ h fun _ z => nomatch z⟩)
  · exact .inr h
theorem extN_t {K : PySem.W.Frag} {H H' : Hp} (e : LamX.ExtN H H') {a : Addr} {xs : List V} (h : SqT K H a xs) : SqT K H' a xs := by
  rcases h with (h | ⟨o, h⟩) | h
  · exact .inl (.inl (e _ _ h fun _ z => nomatch z))
  · exact .inl (.inr ⟨o, e _ _ h fun _ z => nomatch z⟩)
  · exact .inr h
def tMinK (K : PySem.W.Frag) (P : Addr) (q : Str) (td : TE) : TE := fun σ H Q => td σ H fun y H1 => ∃ (a : Addr) (y0 : Addr × Int × Int) (ys : List (Addr × Int × Int)), y = .ref a ∧ SqL K H1 a ((y0 :: ys).map fun x => V.ref x.1) ∧ (∀ x ∈ y0 :: ys, KeyOk x.2 ∧ SqT K H1 x.1 [.int x.2.1, .int x.2.2]) ∧ ∃ tq : Addr → Option Str, tq P = some q ∧ (∀ b r, tq b = some r → LamX.TabS H1 b r) ∧
  ∀ (H2 : Hp), LamX.ExtN H1 H2 → (∀ b r, tq b = some r → LamX.TabS H2 b r) → Q (.ref (minB y0 ys).1) H2
theorem vals_refs3 : ∀ {bs : List (Addr × Int × Int)} {its : List Value}, Vals (bs.map fun x => V.ref x.1) its → its = bs.map fun x => Value.ref x.1
  | [], _, h => by rw [List.map_nil] at h; cases h; rfl
  | x :: bs, _, h => by
    rw [List.map_cons] at h
    cases h with
    | cons a b => rw [List.map_cons, ← vals_refs3 b]; congr 1
theorem pe_minK {ed : Expr} {td : TE} {c P : Addr} {x : Str} {sc : Scope} {params : Arguments} {p lpos pos kpos : Pos} {k1 j1 j2 j3 j4 : Nat} {a1 a2 a3 a4 a5 a6 a7 a8 a9 a10 a11 a12 a13 : Pos} {k : Nat}
    (hc : X.calm = true) (hr : Room k X.A) (hg : Gl X "min") (hm : X.mg "min" = none) (hed : PE X ed td) (TB : LamX.TabB X.base X.mg c P) (hcode : X.env.code = .ref c) (hdef : defaultsOf params X.env = ([], []))
    (hsk : sc.kind = .function) (hsn : sc.names = [(x, .local)]) (hco : sc.isCoroutine = false) (hgen : sc.isGenerator = false) (hx : (x == ("__debug__" : Str)) = false)
    (hbind : ∀ (q : Str) (cl : List (Str × Addr)) (pm cv ctv v : Value), bindArgs (PySem.W.kla_fn "<lambda>" q params (kBody x k1 j1 j2 j3 j4 a1 a2 a3 a4 a5 a6 a7 a8 a9 a10 a11 a12 a13) sc cl pm cv ctv) ⟨[v], []⟩ = pure [(x, v)])
    (na : backTo pos (starEach [ed] X.env) = (false, eval ed X.env) :: backTo pos (starEach [] X.env) := by rfl) (npl : (backTo pos (starEach [ed] X.env)).any (·.1) = false := by rfl) (hbt : bootBuiltins "min" = some (.builtin "min") := by decide +kernel) :
    PE X (.Call (.Name "min" p) [ed] [⟨some "key", .Lambda params (kBody x k1 j1 j2 j3 j4 a1 a2 a3 a4 a5 a6 a7 a8 a9 a10 a11 a12 a13) sc lpos, kpos⟩] pos) (tMinK X.K P (X.env.qual ++ "<lambda>") td) := by
  refine ⟨fun pins s σ H Q I h => ?_⟩
  refine wpAny_Call_Name_kw (ld_blt I hg hm hbt ?_ (by decide) (by decide))
  refine PyProof.Rows.callWith_kw ?_ na npl (by rfl) (by rfl)
  rw [na]
  refine PySem.Calls.spliced_cons (thn (hed.run pins s σ H _ I h) fun u s1 ⟨y, H1, I1, r1, q1⟩ => PySem.Calls.spliced_nil ?_)
  obtain ⟨a, y0, ys, rfl, hd, hok, tq, hP, hT, q⟩ := q1
  cases r1
  show wpAny _ _ (evalAll ((do let v ← eval (.Lambda params (kBody x k1 j1 j2 j3 j4 a1 a2 a3 a4 a5 a6 a7 a8 a9 a10 a11 a12 a13) sc lpos) X.env; standAt pos; pure v) :: [])) _ _ s1
  obtain ⟨T, hTd⟩ : ∃ T : List (Addr × Str), T = (List.range s1.heap.objs.size).filterMap fun b => (tq b).map fun r => (b, r) := ⟨_, rfl⟩
  have mT : ∀ b r, (b, r) ∈ T ↔ tq b = some r := fun b r => by
    rw [hTd, List.mem_filterMap]
    constructor
    · rintro ⟨x, _, e⟩
      cases q : tq x with
      | none => rw [q] at e; cases e
      | some y => rw [q] at e; cases e; exact q
    · intro e
      obtain ⟨ps, e1, _⟩ := hT b r e
      exact ⟨b, List.mem_range.mpr (I1.hok.lt e1), by rw [e]; rfl⟩
  refine wpAny_evalAll_cons (wpAny_bind (LamX.lam_make2 (T := T) I1 TB hcode ((mT _ _).mpr hP) (fun p hp e => by have := (mT p.1 p.2).mp hp; rw [e, hP] at this; exact (Option.some.inj this).symm) (fun p hp => hT _ _ ((mT p.1 p.2).mp hp)) hdef (fun y hy e => ?_) fun f c' pm' ctv H2 s2 I2 eN T2 hf hfn hfr hco' => wpAny_bind (wpAny_standAt (wpAny_pure (wpAny_evalAll_nil ?_)))))
  · rw [hsn] at hy
    rw [List.mem_singleton.mp hy] at e; cases e
  have T2' : ∀ b r, tq b = some r → LamX.TabS H2 b r := fun b r e => T2 _ ((mT b r).mpr e)
  obtain ⟨its, rv, hl, hz⟩ := I2.list (extN_l eN hd)
  have ev := vals_refs3 rv
  have hcd : ∃ (oc : Obj) (vs : Array Value) (t : Tok), s2.heap.get? c' = some oc ∧ oc.data = .fields vs ∧ vs[1]? = some (.str (X.env.qual ++ "<lambda>") t) := (show ObjOk X.prog X.w H2 s2.heap c' (LamX.CodeO c' (X.env.qual ++ "<lambda>")) from I2.hok c' _ hco').1
  refine minK_raw (A := X.A) (s := s2) (y0 := y0) (ys := ys) hl.isList (by simpa using ev) (I2.ok.hd hc) (fun y hy => ?_) (by have := hr.un; omega) hf hcd I2.nolimit (by have := hr.dp; omega) hsk hsn hco hgen hx hbind fun h' tk g1 => ?_
  · obtain ⟨ok, e1⟩ := hok y hy
    refine ⟨ok.d0, ⟨ok.n1, ok.n2⟩, ok.d1, ?_⟩
    obtain ⟨its, rv, p, _⟩ := I2.tuple (extN_t eN e1)
    cases rv with
    | cons r0 rv =>
      cases rv with
      | cons r1 rv =>
        cases rv
        obtain ⟨t, rfl⟩ := r0
        obtain ⟨u, rfl⟩ := r1
        exact ⟨t, u, p⟩
  · exact ⟨.ref (minB y0 ys).1, H2, I2.kept (t' := tk) g1, rfl, q H2 eN T2'⟩
/-! ### in the layer -/
def kMin (k : Int × Int) (l : List (Int × Int)) : Int × Int := l.foldl (fun a y => if kLe a y then a else y) k
theorem minB_snd (y0 : Addr × Int × Int) (ys : List (Addr × Int × Int)) : minB y0 ys ∈ y0 :: ys ∧ (minB y0 ys).2 = kMin y0.2 (ys.map (·.2)) := by
  induction ys generalizing y0 with
  | nil => exact ⟨List.mem_cons_self, rfl⟩
  | cons y ys ih =>
    have e : PySem.W.dataLt (kOf y) (kOf y0) = !(kLe y0.2 y.2) := by
      have := congrFun (congrFun dataLe_k y0) y
      show _ = _
      rw [← this]
      show _ = !(!(PySem.W.dataLt (kOf y) (kOf y0)))
      rw [Bool.not_not]
    have st : minB y0 (y :: ys) = minB (if kLe y0.2 y.2 then y0 else y) ys := by
      unfold minB
      rw [List.foldl_cons, e]
      congr 1
      cases kLe y0.2 y.2 <;> rfl
    have st2 : kMin y0.2 ((y :: ys).map (·.2)) = kMin (if kLe y0.2 y.2 then y0 else y).2 (ys.map (·.2)) := by
      unfold kMin
      rw [List.map_cons, List.foldl_cons]
      congr 1
      cases kLe y0.2 y.2 <;> rfl
    obtain ⟨h1, h2⟩ := ih (if kLe y0.2 y.2 then y0 else y)
    rw [st, st2]
    refine ⟨?_, h2⟩
    rcases List.mem_cons.mp h1 with z | z
    · rw [z]
      cases kLe y0.2 y.2
      · exact List.mem_cons_of_mem _ List.mem_cons_self
      · exact List.mem_cons_self
    · exact List.mem_cons_of_mem _ (List.mem_cons_of_mem _ z)
theorem reps_pairs {K : PySem.W.Frag} {H : Hp} : ∀ {ks : List (Int × Int)} {vs : List V}, Reps K H (ks.map pairK) vs → ∃ bs : List (Addr × Int × Int), vs = bs.map (fun x => V.ref x.1) ∧ bs.map (·.2) = ks ∧ ∀ x ∈ bs, SqT K H x.1 [.int x.2.1, .int x.2.2]
  | [], _, h => by simp only [List.map_nil, Reps] at h; exact ⟨[], h, rfl, fun _ z => nomatch z⟩
  | k :: ks, _, h => by
    simp only [List.map_cons, Reps] at h
    obtain ⟨v, vs, rfl, r, rs⟩ := h
    obtain ⟨bs, e1, e2, e3⟩ := reps_pairs rs
    simp only [pairK, Rep] at r
    obtain ⟨a, xs, rfl, sq, rx⟩ := r
    simp only [Reps, Rep] at rx
    obtain ⟨_, _, rfl, rfl, _, _, rfl, rfl, rfl⟩ := rx
    refine ⟨(a, k) :: bs, by rw [e1]; rfl, by rw [List.map_cons, e2], fun x hx => ?_⟩
    rcases List.mem_cons.mp hx with z | z
    · rw [z]; exact sq
    · exact e3 x z
def xMinK (P : Addr) (q : Str) (td : XE) : XE := fun e m Q => td e m fun y m1 => ∃ (k : Int × Int) (ks : List (Int × Int)), lstD m1 y = some ((k :: ks).map pairK) ∧ (∀ x ∈ k :: ks, KeyOk x) ∧ m1 P = some (.tab q) ∧ Q (pairK (kMin k ks)) m1
theorem xe_minK {ed : Expr} {td : XE} {c P : Addr} {x : Str} {sc : Scope} {params : Arguments} {p lpos pos kpos : Pos} {k1 j1 j2 j3 j4 : Nat} {a1 a2 a3 a4 a5 a6 a7 a8 a9 a10 a11 a12 a13 : Pos} {k : Nat}
    (hc : X.calm = true) (hr : Room k X.A) (hg : Gl X "min") (hm : X.mg "min" = none) (hed : PE X ed (low X.K td)) (TB : LamX.TabB X.base X.mg c P) (hcode : X.env.code = .ref c) (hdef : defaultsOf params X.env = ([], []))
    (hsk : sc.kind = .function) (hsn : sc.names = [(x, .local)]) (hco : sc.isCoroutine = false) (hgen : sc.isGenerator = false) (hx : (x == ("__debug__" : Str)) = false)
    (hbind : ∀ (q : Str) (cl : List (Str × Addr)) (pm cv ctv v : Value), bindArgs (PySem.W.kla_fn "<lambda>" q params (kBody x k1 j1 j2 j3 j4 a1 a2 a3 a4 a5 a6 a7 a8 a9 a10 a11 a12 a13) sc cl pm cv ctv) ⟨[v], []⟩ = pure [(x, v)])
    (na : backTo pos (starEach [ed] X.env) = (false, eval ed X.env) :: backTo pos (starEach [] X.env) := by rfl) (npl : (backTo pos (starEach [ed] X.env)).any (·.1) = false := by rfl) (hbt : bootBuiltins "min" = some (.builtin "min") := by decide +kernel) :
    PE X (.Call (.Name "min" p) [ed] [⟨some "key", .Lambda params (kBody x k1 j1 j2 j3 j4 a1 a2 a3 a4 a5 a6 a7 a8 a9 a10 a11 a12 a13) sc lpos, kpos⟩] pos) (low X.K (xMinK P (X.env.qual ++ "<lambda>") td)) :=
  PE.imp (pe_minK hc hr hg hm hed TB hcode hdef hsk hsn hco hgen hx hbind na npl hbt) fun σ H QV ⟨e, m, Q, rs, rm, h, q⟩ => ⟨e, m, _, rs, rm, h, fun y H1 d m1 s1 r1 rm1 h1 => by
    obtain ⟨k, ks, hl, hok, htab, h2⟩ := h1
    obtain ⟨a, vs, rfl, sq, ry⟩ := lst_out rm1 r1 hl
    obtain ⟨bs, e1, e2, e3⟩ := reps_pairs ry
    cases bs with
    | nil => cases e2
    | cons y0 ys =>
    rw [List.map_cons, List.cons.injEq] at e2
    obtain ⟨rfl, rfl⟩ := e2
    subst e1
    obtain ⟨ho2, e3', ps, e4, t1, t2⟩ := rm1 P _ htab
    subst e4
    refine ⟨a, y0, ys, rfl, sq, fun x hx => ⟨hok x.2 (by rw [← List.map_cons (f := fun x : Addr × Int × Int => x.2)]; exact List.mem_map_of_mem hx), e3 x hx⟩, tabQ m1, tabQ_eq htab, fun b r hb => ?_, fun H2 eN T2 => ?_⟩
    · obtain ⟨ho3, g1, ps3, g2, g3, g4⟩ := rm1 b _ (tabQ_out hb)
      subst g2
      exact ⟨ps3, g1, g3, g4⟩
    have sN : Stp H1 m1 H2 m1 := stp_ext eN
    have rm2 : RepM X.K H2 m1 := fun b o hb => by
      obtain ⟨u, g1, g2⟩ := rm1 b o hb
      cases o with
      | tab r =>
        obtain ⟨ps2, f1, f2, f3⟩ := T2 b r (tabQ_eq hb)
        exact ⟨_, f1, ps2, rfl, f2, f3⟩
      | lst ds => obtain ⟨xs, e5, _⟩ := id g2; exact ⟨u, eN b u g1 (by subst e5; exact fun _ z => nomatch z), g2.ext sN.imm⟩
      | ins C fs => obtain ⟨dx, xs, e5, _⟩ := id g2; exact ⟨u, eN b u g1 (by subst e5; exact fun _ z => nomatch z), g2.ext sN.imm⟩
      | dK kvs => obtain ⟨xs, e5, _⟩ := id g2; exact ⟨u, eN b u g1 (by subst e5; exact fun _ z => nomatch z), g2.ext sN.imm⟩
      | dT kvs => obtain ⟨xs, e5, _⟩ := id g2; exact ⟨u, eN b u g1 (by subst e5; exact fun _ z => nomatch z), g2.ext sN.imm⟩
      | fK kvs => obtain ⟨ob, xs, e5, _⟩ := id g2; exact ⟨u, eN b u g1 (by subst e5; exact fun _ z => nomatch z), g2.ext sN.imm⟩
    obtain ⟨i1, i2⟩ := minB_snd y0 ys
    refine q _ _ (pairK (kMin y0.2 (ys.map (·.2)))) _ (s1.trans sN) ?_ rm2 h2
    rw [← i2]
    simp only [pairK, Rep]
    exact ⟨_, _, rfl, extN_t eN (e3 _ i1), by simp [Reps, Rep]⟩⟩
theorem xe_minQ {ed : Expr} {td : XE} {c P : Addr} {q x : Str} {sc : Scope} {params : Arguments} {p lpos pos kpos : Pos} {k1 j1 j2 j3 j4 : Nat} {a1 a2 a3 a4 a5 a6 a7 a8 a9 a10 a11 a12 a13 : Pos} {k : Nat}
    (hc : X.calm = true) (hr : Room k X.A) (hg : Gl X "min") (hm : X.mg "min" = none) (hed : PE X ed (low X.K td)) (TB : LamX.TabB X.base X.mg c P) (hcode : X.env.code = .ref c) (hq : X.env.qual ++ "<lambda>" = q := by rfl) (hdef : defaultsOf params X.env = ([], []) := by rfl)
    (hsk : sc.kind = .function := by rfl) (hsn : sc.names = [(x, .local)] := by rfl) (hco : sc.isCoroutine = false := by rfl) (hgen : sc.isGenerator = false := by rfl) (hx : (x == ("__debug__" : Str)) = false := by decide)
    (hbind : ∀ (q : Str) (cl : List (Str × Addr)) (pm cv ctv v : Value), bindArgs (PySem.W.kla_fn "<lambda>" q params (kBody x k1 j1 j2 j3 j4 a1 a2 a3 a4 a5 a6 a7 a8 a9 a10 a11 a12 a13) sc cl pm cv ctv) ⟨[v], []⟩ = pure [(x, v)] := by intros; rfl)
    (na : backTo pos (starEach [ed] X.env) = (false, eval ed X.env) :: backTo pos (starEach [] X.env) := by rfl) (npl : (backTo pos (starEach [ed] X.env)).any (·.1) = false := by rfl) (hbt : bootBuiltins "min" = some (.builtin "min") := by decide +kernel) :
    PE X (.Call (.Name "min" p) [ed] [⟨some "key", .Lambda params (kBody x k1 j1 j2 j3 j4 a1 a2 a3 a4 a5 a6 a7 a8 a9 a10 a11 a12 a13) sc lpos, kpos⟩] pos) (low X.K (xMinK P q td)) := by
  subst hq
  exact xe_minK hc hr hg hm hed TB hcode hdef hsk hsn hco hgen hx hbind na npl hbt
end
end Sd

set_option Elab.async false
set_option linter.all false
set_option maxRecDepth 100000
set_option maxHeartbeats 1000000
/-! The end of a row whose law makes two lambdas. -/
namespace Sd
open PySem PySem.Spec PyProof.Rows L2
theorem tab_start2 {K : PySem.W.Frag} {H : Hp} {PT PV : Addr} (ne : PT ≠ PV) (q r : Str) (h : H PT = some (.tbl #[])) (h2 : H PV = some (.tbl #[])) : RepM K H (fun b => if b = PT then some (.tab q) else if b = PV then some (.tab r) else none) := fun b o e => by
  dsimp only at e
  by_cases z : b = PT
  · subst z
    rw [if_pos rfl] at e
    cases e
    obtain ⟨ps, h1, h2, h3⟩ := LamX.TabS.nil (q := q) h
    exact ⟨_, h1, ps, rfl, h2, h3⟩
  · rw [if_neg z] at e
    by_cases y : b = PV
    · subst y
      rw [if_pos rfl] at e
      cases e
      obtain ⟨ps, h1, h2, h3⟩ := LamX.TabS.nil (q := r) h2
      exact ⟨_, h1, ps, rfl, h2, h3⟩
    · rw [if_neg y] at e; cases e
theorem lift_start2 {K : PySem.W.Frag} {H : Hp} {PT PV a : Addr} {ns : List Int} {sp : XSp} {E : XK} (ne : PT ≠ PV) (q r : Str) (h : H PT = some (.tbl #[])) (h2 : H PV = some (.tbl #[])) (hs : SqK K H a (ns.map V.int))
    (hsp : ∀ m, m PT = some (.tab q) → m PV = some (.tab r) → sp [.lck (ns.map D.int)] m (fun d _ => d = .bl true)) : liftS K sp [.ref a] H (fun v _ => v = .bl true) E :=
  ⟨[.lck (ns.map D.int)], _, fun d _ => d = .bl true, by simp only [Reps, Rep]; exact ⟨_, _, rfl, ⟨a, _, rfl, hs, nums_rep ns⟩, rfl⟩, tab_start2 ne q r h h2, hsp _ (if_pos rfl) (by rw [if_neg (fun z => ne z.symm), if_pos rfl]), fun v H' d m' _ hr _ hd => by rw [hd] at hr; simpa only [Rep] using hr⟩
theorem walkT2 {l : PySem.W.OpenLaw} {q : Program} {loose : List Str} {XP : (Str → Option Value) → Heap → Prop} {YP : World → Heap → Prop} {d : DefRec} {K : Params → PySem.W.Frag} {lv : Nat} {x : Str} (hn : l.most = some 63) (hdf : d.params.defaults = []) (hr : Room lv callerA)
    (hY : ∀ (w : World) (h : Heap), YP w h → (K w.params).In h) (x0 nm : Str) (hrec : ((recsOf q).any fun e => e.name == x0) = true) (x0v nmv : Str) (hrecv : ((recsOf q).any fun e => e.name == x0v) = true) {sp : Addr → Addr → XSp}
    (hsp : ∀ PT PV (ns : List Int) m, m PT = some (.tab nm) → m PV = some (.tab nmv) → sp PT PV [.lck (ns.map D.int)] m (fun d _ => d = .bl true))
    (F : ∀ (w : World) (mg : Str → Option Value) (fa : Addr) (h : Heap), (K w.params).In h → h.Ns mainGlobals mg → mg d.name = some (.ref fa) →
      ∃ (ft cT PT fv cV PV : Addr) (fd : FuncData), mg x0 = some (.ref ft) ∧ TabFact (K w.params) ft cT PT ∧ mg x0v = some (.ref fv) ∧ TabFact (K w.params) fv cV PV ∧ PT ≠ PV ∧ (∀ (s : Shared) (u : Value), BindsTo s fd ⟨[u], []⟩ [(x, u)]) ∧ ∀ base : Heap, (K w.params).In base → base.Ns mainGlobals mg → LamX.TabB base mg cT PT → LamX.TabB base mg cV PV → FnX l.prog w (K w.params) mg base lv fa fd [x] (sp PT PV)) :
    PySem.W.WalkO q loose XP YP l.row.toRowW d [] (fun f vs => PySem.call f vs) := by
  refine Att.attach_callB hn hdf fun w s₀ s₁ mg mb fa o pm cd doc a vs ns G Y ho hd hcd hmg hobj hints hlen hbits hg => ?_
  obtain ⟨ft, cT, PT, fv, cV, PV, fd, e1, T, e1v, TV, nPV, e2, e3⟩ := F w mg fa _ (hY w _ Y) G.T.g hmg
  obtain ⟨ob, fdt, ev, dd, vt, sl, t1, t2, t3, t4, t5, file, tf, flags, tg, inF, text, tt, t6, t7, t8, t9⟩ := T.ex
  have KX := hY w _ Y
  obtain ⟨dL, u1, u2⟩ := List.any_eq_true.mp hrec
  obtain ⟨a', o', fd', c', P', v1, v2, v3, v4, v5, v6⟩ := G.T.tab dL u1
  rw [beq_iff_eq.mp u2, e1] at v1
  obtain rfl : ft = a' := by cases v1; rfl
  have w1 := KX _ _ t1
  rw [w1] at v2
  obtain rfl : ob = o' := by cases v2; rfl
  rw [t2] at v3
  obtain rfl : fdt = fd' := by cases v3; rfl
  rw [t3] at v4
  obtain rfl : cT = c' := by cases v4; rfl
  obtain ⟨hC, hP⟩ := v6
  obtain ⟨oc, vc, x1, x2, x3, x4⟩ := id hC
  have w2 := KX _ _ t4
  rw [w2] at x1
  cases x1
  cases x3
  rw [t5] at x4
  obtain rfl : PT = P' := by cases x4; rfl
  have ne : cT ≠ PT := fun z => by
    have := T.nP
    rw [← z, t4] at this; cases this
  have C : PySem.W.CodeHd s₁.heap cT PT := ⟨_, _, file, tf, flags, tg, inF, text, tt, w2, x2, rfl, t5, by rw [Array.getD_eq_getD_getElem?, t5]; rfl, t6, t7, t8, t9, ne⟩
  obtain ⟨obv, fdtv, evv, ddv, vtv, slv, t1v, t2v, t3v, t4v, t5v, filev, tfv, flagsv, tgv, inFv, textv, ttv, t6v, t7v, t8v, t9v⟩ := TV.ex
  obtain ⟨dLv, u1v, u2v⟩ := List.any_eq_true.mp hrecv
  obtain ⟨a'v, o'v, fd'v, c'v, P'v, v1v, v2v, v3v, v4v, v5v, v6v⟩ := G.T.tab dLv u1v
  rw [beq_iff_eq.mp u2v, e1v] at v1v
  obtain rfl : fv = a'v := by cases v1v; rfl
  have w1v := KX _ _ t1v
  rw [w1v] at v2v
  obtain rfl : obv = o'v := by cases v2v; rfl
  rw [t2v] at v3v
  obtain rfl : fdtv = fd'v := by cases v3v; rfl
  rw [t3v] at v4v
  obtain rfl : cV = c'v := by cases v4v; rfl
  obtain ⟨hCv, hPv⟩ := v6v
  obtain ⟨ocv, vcv, x1v, x2v, x3v, x4v⟩ := id hCv
  have w2v := KX _ _ t4v
  rw [w2v] at x1v
  cases x1v
  cases x3v
  rw [t5v] at x4v
  obtain rfl : PV = P'v := by cases x4v; rfl
  have nev : cV ≠ PV := fun z => by
    have := TV.nP
    rw [← z, t4v] at this; cases this
  have Cv : PySem.W.CodeHd s₁.heap cV PV := ⟨_, _, filev, tfv, flagsv, tgv, inFv, textv, ttv, w2v, x2v, rfl, t5v, by rw [Array.getD_eq_getD_getElem?, t5v]; rfl, t6v, t7v, t8v, t9v, nev⟩
  refine LamX.law_callTs (cs := [(cT, PT), (cV, PV)]) (CX := CX0) (k := lv) (sp := fun vs H Q E => liftS (K w.params) (sp PT PV) vs H Q E ∨ ∃ a xs, H a = some (.lst xs) ∧ ∀ o, liftS (K w.params) (sp PT PV) vs (upd H a (.frz o (.lst xs))) Q E)
    KX G.T.g G.T.b G.T.builtins G.T.nolimit hg (fun p hp => ?_) (fun p hp => ?_) (fun p hp => ?_) G.T.bmain hobj hints (Nat.le_trans hlen (by decide)) hr (fun base b1 b2 b3 => freeze (e3 base b1 b2 (b3 _ List.mem_cons_self) (b3 _ (List.mem_cons_of_mem _ List.mem_cons_self)))) e2 (fun H hH hS => ?_) fun _ _ _ z => z
  · rcases List.mem_cons.mp hp with y | y
    · rw [y]; exact hP
    · rw [List.mem_singleton.mp y]; exact hPv
  · rcases List.mem_cons.mp hp with y | y
    · rw [y]; exact T.nP
    · rw [List.mem_singleton.mp y]; exact TV.nP
  · rcases List.mem_cons.mp hp with y | y
    · rw [y]; exact C
    · rw [List.mem_singleton.mp y]; exact Cv
  · have hT := hH _ List.mem_cons_self
    have hV := hH _ (List.mem_cons_of_mem _ List.mem_cons_self)
    rcases hS with (h | ⟨u, h⟩) | h
    · refine .inr ⟨a, _, h, fun o => lift_start2 nPV nm nmv ?_ ?_ (.inl ⟨o, upd_same⟩) fun m => hsp PT PV ns m⟩
      · rw [upd_ne (by intro z; subst z; rw [h] at hT; cases hT)]; exact hT
      · rw [upd_ne (by intro z; subst z; rw [h] at hV; cases hV)]; exact hV
    · exact .inl (lift_start2 nPV nm nmv hT hV (.inl ⟨u, h⟩) fun m => hsp PT PV ns m)
    · exact .inl (lift_start2 nPV nm nmv hT hV (.inr h) fun m => hsp PT PV ns m)
end Sd

set_option Elab.async false
set_option linter.all false
set_option maxRecDepth 100000
set_option maxHeartbeats 1000000
/-! A def that raises an exception of the program's own; a try around its call. -/
namespace Sd
open PySem PySem.Spec PyProof.Rows L2
/-! ## readings with one more end: what is known when the exception leaves -/
abbrev XSE := Xnds → (M → Prop) → En → M → Prop
def lowSE (K : PySem.W.Frag) (Wf : Hp → Prop) (t : XSE) : TS := fun D σ H => ∃ e m D' G, RepS K H e σ ∧ RepM K H m ∧ t D' G e m ∧ ER K H m D' D ∧ ∀ H' m', Stp H m H' m' → RepM K H' m' → G m' → Wf H'
section
variable {X : Cx} {Wf : Hp → Prop}
theorem PS.up {st : Stmt} {t : XS} (h : PS X st (lowS X.K t)) : PS X st (lowSE X.K Wf fun D _ e m => t D e m) := PS.imp h fun D σ H ⟨e, m, D', _, rs, rm, h, q, _⟩ => ⟨e, m, D', rs, rm, h, q⟩
theorem PSs.up {st : List Stmt} {t : XS} (h : PSs X st (lowS X.K t)) : PSs X st (lowSE X.K Wf fun D _ e m => t D e m) := PSs.imp h fun D σ H ⟨e, m, D', _, rs, rm, h, q, _⟩ => ⟨e, m, D', rs, rm, h, q⟩
def xSeqE (t u : XSE) : XSE := fun D G e m => t { D with nx := u D G } G e m
theorem xes_cons {st : Stmt} {rest : List Stmt} {t u : XSE} (h : PS X st (lowSE X.K Wf t)) (h2 : PSs X rest (lowSE X.K Wf u)) : PSs X (st :: rest) (lowSE X.K Wf (xSeqE t u)) :=
  PSs.imp (pss_cons h h2) fun D σ H ⟨e, m, D', G, rs, rm, h, q, g⟩ => ⟨e, m, _, G, rs, rm, h, ⟨fun σ1 H1 e1 m1 s1 rs1 rm1 h1 => ⟨e1, m1, D', G, rs1, rm1, h1, q.step s1, fun H2 m2 s2 => g H2 m2 (s1.trans s2)⟩, q.rt, q.bk, q.ct⟩, g⟩
theorem xes_one {st : Stmt} {t : XSE} (h : PS X st (lowSE X.K Wf t)) : PSs X [st] (lowSE X.K Wf t) := pss_one h
def xIfX (c : XT) (t u : XSE) : XSE := fun D G e m => c e m fun b m1 => if b = true then t D G e m1 else u D G e m1
theorem xes_if {c : Expr} {a b : List Stmt} {tc : XT} {t u : XSE} {pos : Pos} (hc : PT X c (lowT X.K tc)) (ha : PSs X a (lowSE X.K Wf t)) (hb : PSs X b (lowSE X.K Wf u)) : PS X (.If c a b pos) (lowSE X.K Wf (xIfX tc t u)) :=
  PS.imp (ps_if hc ha hb) fun D σ H ⟨e, m, D', G, rs, rm, h, q, g⟩ => ⟨e, m, _, rs, rm, h, fun b H1 m1 s1 rm1 h1 => by
    cases b with
    | true => exact ⟨e, m1, D', G, rs.ext s1.imm, rm1, h1, q.step s1, fun H2 m2 s2 => g H2 m2 (s1.trans s2)⟩
    | false => exact ⟨e, m1, D', G, rs.ext s1.imm, rm1, h1, q.step s1, fun H2 m2 s2 => g H2 m2 (s1.trans s2)⟩⟩
/-- raise X('a text'), X an own class without an __init__ of its own -/
def xRaise : XSE := fun _ G _ m => G m
theorem xs_raise {C : Addr} {bmB : List Value} {B newId initId : String} {x mm : Str} {j : Nat} {p p2 cpos pos : Pos} (hc : X.calm = true) (tk : Takes X fun cls d _ H => cls = .ref C ∧ d = none ∧ Wf H) (F : ExcBaseFacts B newId initId bmB) (q : PySem.W.excIn X.K C bmB newId = true) (gC : X.mg x = some (.ref C)) (kC : PySem.W.keepIn X.K (.ref C) = true) (r : Raises X (.ref C)) (hg : Gl X x)
    (hdb : (x == ("__debug__" : Str)) = false := by decide) : PS X (.Raise (some (.Call (.Name x p) [.Constant (.str mm) j p2] [] cpos)) none pos) (lowSE X.K Wf xRaise) :=
  PS.imp (ps_raise hc tk (pmk_own F q gC kC r hg hdb)) fun D σ H ⟨e, m, D', G, rs, rm, h, _, g⟩ => ⟨rfl, rfl, g H m .refl rm h⟩
end
/-! ## a def that only raises -/
abbrev XSpE := List D → M → (M → Prop) → Prop
def liftE (K : PySem.W.Frag) (C : Addr) (sp : XSpE) : Sp := fun vs H _ E => ∃ ds m G, Reps K H ds vs ∧ RepM K H m ∧ sp ds m G ∧ ∀ H' m', Stp H m H' m' → RepM K H' m' → G m' → E (.ref C) none H'
abbrev FnE (P : Program) (w : World) (K : PySem.W.Frag) (mg : Str → Option Value) (base : Heap) (k : Nat) (f : Addr) (fd : FuncData) (ps : List Str) (C : Addr) (sp : XSpE) : Prop := FnOk P w K mg base (L2.CX P w) k f fd ps (liftE K C sp)
section
variable {P : Program} {w : World} {K : PySem.W.Frag} {mg : Str → Option Value} {base : Heap}
theorem fnXE {x qual : Str} {st : Stmt} {f C : Addr} {fd : FuncData} {N ps : List Str} {k : Nat} {sp : XSpE} (F : Fun K x qual st f fd) (S : FnScope N ps (defScope st)) (len : ∀ ds m G, sp ds m G → ds.length = ps.length)
    (body : ∃ t : XSE, (∀ (cdv : Value) (A : Around) (outer : List Env) (s : Shared) (H : Hp) (E : XK), Room k (A.deeper (envOfC qual (defScope st) s.heap.objs.size f cdv)) →
        Takes (cxOf (L2.CX P w) P w K mg base N qual (defScope st) f cdv A outer s H E) (fun cls d _ H' => E cls d H') →
        PSs (cxOf (L2.CX P w) P w K mg base N qual (defScope st) f cdv A outer s H E) (defBody st) (lowSE K (fun H' => E (.ref C) none H') t)) ∧
      ∀ ds m G, sp ds m G → t ⟨fun _ _ => False, fun _ _ => False, fun _ _ => False, fun _ _ => False⟩ G (startD N.length ds) m) :
    FnE P w K mg base (k + 1) f fd ps C sp := by
  obtain ⟨t, ht, hq⟩ := body
  have hps : ps.length ≤ N.length := by have := congrArg List.length S.pre; rw [List.length_take] at this; omega
  refine F.okX S (fun vs H QV E ⟨ds, m, G, r, rm, h, q⟩ => by rw [← r.len]; exact len ds m G h) (fun cdv A outer s H vs QV E hr ⟨ds, m, G, r, rm, h, q⟩ => ?_)
  refine ⟨_, ht cdv A outer s H E hr (takes_of rfl rfl rfl rfl), _, m, _, G, reps_start r (by rw [len ds m G h]; exact hps), rm, hq ds m G h, ⟨fun _ _ _ _ _ _ _ h => h.elim, fun _ _ _ _ _ _ _ h => h.elim, fun _ _ _ _ _ _ _ h => h.elim, fun _ _ _ _ _ _ _ h => h.elim⟩, q⟩
end
/-! ## try: one call; except X: a suite that looks at nothing known -/
section
variable {X : Cx} {k : Nat} {f C : Addr} {fd : FuncData} {ps : List Str} {sp : XSpE} {x y : Str} {p np cpos epos hpos pos : Pos} {ex : Expr} {es : List Expr} {t : XA} {b₀ : Stmt} {suite : List Stmt}
def xTryE (sp : XSpE) (t : XA) (ts : XS) : XS := fun D e m => t e m fun ds m1 => sp ds m1 fun m2 => ∀ n, ts D (List.replicate n none) m2
theorem xs_tryE (hs : X.stack = X.env :: X.outer) (hf : X.env.frame = some X.env.locals) (hc : Names X y (.ref C)) (hq : PySem.W.exmOne X.K (.ref C) (.ref C) = some true)
    (F : FnE X.prog X.w X.K X.mg X.base k f fd ps C sp) (hr : Room k X.A) (hg : Gl X x) (hm : X.mg x = some (.ref f)) (hk : PySem.W.keepIn X.K (.ref f) = true) (hb : Binds X.K fd ps [])
    (ha : ∀ pn xe, PA (X.tr pn xe) (ex :: es) (lowA X.K t)) {ts : XS}
    (hsu : ∀ (a : Addr) (oe : Obj) (pn : List (Addr × Obj)), PSs (X.suite a ((a, oe) :: pn)) (b₀ :: suite) (lowS X.K ts))
    (hsw : swapsWith (.Call (.Name x p) (ex :: es) [] cpos) none epos.line X.env = pure false := by rfl)
    (hdb : (x == ("__debug__" : Str)) = false := by decide) (he : starEach (ex :: es) X.env = (false, eval ex X.env) :: starEach es X.env := by rfl) (hpl : (backTo cpos (starEach es X.env)).any (·.1) = false := by rfl) :
    PS X (.Try [.Expr (.Call (.Name x p) (ex :: es) [] cpos) epos] [.ExceptHandler (some (.Name y np)) none (b₀ :: suite) hpos] [] [] pos) (lowS X.K (xTryE sp t ts)) := by
  refine PS.imp (ps_try_only (tb := fun W => fun D σ H => tCall (liftE X.K C sp) [] (fun cls d H' => ∀ σ', W cls d σ' H') (lowA X.K t) σ H fun _ H1 => D.nx σ H1) (ts := fun _ _ _ => lowS X.K ts) (Wout := fun _ _ _ _ => False) hs hf hc (fun u s' ⟨_, _, _, _, _, _, _, _, _, _, _, _, _, _, _, _, z⟩ => z.elim)
    (fun W pn xe tk hp => ?_) fun a oe cls d pn _ _ => hsu a oe pn) fun D σ H ⟨e, m, D', rs, rm, h, q⟩ => ?_
  · refine pss_one (PS.imp (ps_expr (pe_call (X := X.tr pn xe) (CX := L2.CX X.prog X.w) (E := fun cls d H' => ∀ σ', W cls d σ' H') F hr hg hm hk hb .nil (passes_call tk fun cls d σ H h => h σ) (ha pn xe) hdb he hpl) hsw) fun D σ H h => h)
  · refine ⟨e, m, _, rs, rm, h, fun vs H1 ds m1 s1 r1 rm1 h1 => ?_⟩
    show liftE X.K C sp (vs ++ []) H1 _ _
    rw [List.append_nil]
    refine ⟨ds, m1, _, r1, rm1, h1, fun H2 m2 s2 rm2 h2 σ' => ⟨true, hq, fun _ a na => ⟨List.replicate σ'.length none, m2, D', ⟨List.length_replicate .., fun i d hd => ?_⟩, rm2, h2 σ'.length, q.step (s1.trans s2)⟩, fun z => nomatch z⟩⟩
    rw [List.getElem?_replicate] at hd
    split at hd <;> cases hd
end
theorem exm_own {K : PySem.W.Frag} {C : Addr} (b : PySem.W.subIn K (.ref C) (.type "BaseException") = some true) (t : PySem.W.typeIn K (.ref C) = some (.type "type")) (i : PySem.W.isClsIn K C = true) (s : PySem.W.subIn K (.ref C) (.ref C) = some true) : PySem.W.exmOne K (.ref C) (.ref C) = some true := by
  have i' : (PySem.W.clsIn K C).isSome = true := i
  unfold PySem.W.exmOne
  rw [if_pos (by rw [b]; rfl)]
  show (if ((PySem.W.clsIn K C).isSome && PySem.W.typeIn K (.ref C) == some (.type "type")) = true then PySem.W.subIn K (.ref C) (.ref C) else none) = some true
  rw [if_pos (by rw [i', t]; rfl), s]
section
variable (P : Program) (w : World) (K : PySem.W.Frag) (mg : Str → Option Value) (base : Heap)
/-- a def that is called by its name and raises -/
structure Ec (k : Nat) (x : Str) (ps : List Str) (C : Addr) (sp : XSpE) : Prop where
  ex : ∃ f fd, FnE P w K mg base k f fd ps C sp ∧ mg x = some (.ref f) ∧ PySem.W.keepIn K (.ref f) = true ∧ Binds K fd ps []
/-- what is known of an own exception class without an __init__ -/
structure NKx (x : Str) (C : Addr) : Prop where
  q : PySem.W.excIn K C [.type "ValueError", .type "Exception", .type "BaseException", .type "object"] "ValueError.__new__" = true
  g : mg x = some (.ref C)
  k : PySem.W.keepIn K (.ref C) = true
  s : PySem.W.subIn K (.ref C) (.type "BaseException") = some true
  t : PySem.W.typeIn K (.ref C) = some (.type "type")
  e : PySem.W.exmOne K (.ref C) (.ref C) = some true
end
section
variable {X : Cx} {k : Nat} {C : Addr} {ps : List Str} {sp : XSpE} {x y : Str} {p np cpos epos hpos pos : Pos} {ex : Expr} {es : List Expr} {t : XA} {b₀ : Stmt} {suite : List Stmt}
theorem xs_tryED (hs : X.stack = X.env :: X.outer) (hf : X.env.frame = some X.env.locals) (hc : Names X y (.ref C)) (hq : PySem.W.exmOne X.K (.ref C) (.ref C) = some true)
    (c : Ec X.prog X.w X.K X.mg X.base k x ps C sp) (hr : Room k X.A) (hg : Gl X x)
    (ha : ∀ pn xe, PA (X.tr pn xe) (ex :: es) (lowA X.K t)) {ts : XS}
    (hsu : ∀ (a : Addr) (oe : Obj) (pn : List (Addr × Obj)), PSs (X.suite a ((a, oe) :: pn)) (b₀ :: suite) (lowS X.K ts))
    (hsw : swapsWith (.Call (.Name x p) (ex :: es) [] cpos) none epos.line X.env = pure false := by rfl)
    (hdb : (x == ("__debug__" : Str)) = false := by decide) (he : starEach (ex :: es) X.env = (false, eval ex X.env) :: starEach es X.env := by rfl) (hpl : (backTo cpos (starEach es X.env)).any (·.1) = false := by rfl) :
    PS X (.Try [.Expr (.Call (.Name x p) (ex :: es) [] cpos) epos] [.ExceptHandler (some (.Name y np)) none (b₀ :: suite) hpos] [] [] pos) (lowS X.K (xTryE sp t ts)) :=
  let ⟨_, _, F, hm, hk, hb⟩ := c.ex
  xs_tryE hs hf hc hq F hr hg hm hk hb ha hsu hsw hdb he hpl
end
end Sd

set_option Elab.async false
set_option linter.all false
set_option maxRecDepth 100000
set_option maxHeartbeats 4000000
/-! sorted(set(..)) of any number; dict([pairs]) that is locked for good: walked, asked, read -/
namespace Sd
open PySem PySem.Spec PyProof.Rows L2
section
variable {P : Program} {w : World} {A : Around} {E : Value → Shared → Prop} {s : Shared} {a : Addr}
theorem sorted_setA {S : Int → Bool} {n : Nat} {Q : Value → Shared → Prop} (R : SetR w s.heap a S n) (hh : A.handled = none) (hz : n ≤ sizeLine)
    (fin : ∀ s2 p (out : Array Value) (c : Nat) (ks : List Int), (∀ b u, s.heap.get? b = some u → s2.heap.get? b = some u) → s2.gens = s.gens → s2.os = s.os → s.heap.objs.size ≤ p →
      s2.heap.get? p = some (seqObj "list" out c) → IntsAre out.toList ks → ks.Pairwise (· < ·) → (∀ k, k ∈ ks ↔ S k = true) → ks.length = n → Q (.ref p) s2) :
    wpAny (model P w) A (call (.builtin "sorted") [.ref a]) Q E s := by
  obtain ⟨ob, es, ep, tb, hob, hex, hdat, good, nod, mem, bnd, fits, cnt, ris, led⟩ := R
  refine Calls.call_function_entry kind_sorted plain_sorted entry_sorted (args_sorted1 _) ?_
  unfold Builtin.«sorted»
  refine wpAny_bind (m := checkCount "sorted" 1 1 _) (wpAny_pure ?_)
  refine wpAny_bind (collect_set (A := A.in1) hh ⟨ob, hob, hex.1, hdat⟩ fits bnd ris led fun s2 us keep sz gg oo perm => ?_)
  have hul : us.length = n := by rw [perm.length_eq, List.length_map, Array.length_toList]; exact cnt
  have hI : IntsAre us (us.map Builtin.Re.reRawOf) := ints_of us fun u hu => by
    obtain ⟨e, he, q⟩ := List.mem_map.mp (perm.mem_iff.mp hu)
    obtain ⟨k, tk, h1, _⟩ := good e he
    exact ⟨k, tk, by rw [← q, h1]⟩
  have pk : (us.map Builtin.Re.reRawOf).Perm (es.toList.map keyOf) := by
    have z := perm.map Builtin.Re.reRawOf
    rwa [List.map_map] at z
  have hul2 : us.length ≤ sizeLine := by rw [hul]; exact hz
  refine wpAny_bind (wpAny_newList ?_ (by simpa using hul2))
  have hoL : (s2.heap.push (seqObj "list" us.toArray 0)).get? s2.heap.objs.size = some (seqObj "list" us.toArray 0) := Heap.get?_push_size _ rfl
  refine wpAny_bind (wpAny_holding (wpAny_call_entry slot_list_sort ⟨_, hoL, rfl⟩ entry_list_sort (list_sort_treeAny hoL hI hul2 fun out ks a1 a2 a3 => ⟨_, rfl, ?_⟩) (args_list_sort _)))
  obtain ⟨c, hcc⟩ := sortedHeap_at (vs := us) (out := out) hoL
  have pn : ks.Perm (es.toList.map keyOf) := a2.trans pk
  refine wpAny_pure ⟨_, rfl, fin _ s2.heap.objs.size out c ks (fun b u e => ?_) gg oo sz hcc a1 (lt_of_le_nodup ks a3 (pn.nodup_iff.mpr nod)) (fun k => by rw [pn.mem_iff, ← mem k]) ?_⟩
  · have z := keep b u e
    have lt := Heap.lt_size z
    show (sortedHeap (s2.heap.push (seqObj "list" us.toArray 0)) s2.heap.objs.size us out).get? b = some u
    rw [sortedHeap_old (Nat.ne_of_lt lt) (by rw [size_push']; exact Nat.lt_succ_of_lt lt)]
    exact Heap.get?_push_of_some _ z
  · rw [pn.length_eq, List.length_map, Array.length_toList]; exact cnt
end
section
variable {X : Cx}
def tSortSetA (K : PySem.W.Frag) (te : TE) : TE := fun σ H Q => te σ H fun v H1 => ∃ (l : Addr) (ns : List Int), v = .ref l ∧ SqL K H1 l (ns.map V.int) ∧ ns.length ≤ 1000 ∧ ∀ (out : List Int) (p : Addr), out.Pairwise (· < ·) → (∀ k : Int, k ∈ out ↔ k ∈ ns) → H1 p = none → Q (.ref p) (upd H1 p (.lst (out.map V.int)))
theorem pe_sortSetA {e : Expr} {te : TE} {p p2 pos pos2 : Pos} (hc : X.calm = true) (hg : Gl X "sorted") (hm : X.mg "sorted" = none) (hg2 : Gl X "set") (hm2 : X.mg "set" = none) (he : PE X e te)
    (hs : starEach [e] X.env = (false, eval e X.env) :: starEach [] X.env := by rfl)
    (hs2 : starEach [.Call (.Name "set" p2) [e] [] pos2] X.env = (false, eval (.Call (.Name "set" p2) [e] [] pos2) X.env) :: starEach [] X.env := by rfl) :
    PE X (.Call (.Name "sorted" p) [.Call (.Name "set" p2) [e] [] pos2] [] pos) (tSortSetA X.K te) := by
  refine ⟨fun pins s σ H Q I h => ?_⟩
  refine Call_ (ld_blt I hg hm boot_sorted (callWith_builtin1 (args_cons (Call_ (ld_blt I hg2 hm2 boot_set (callWith_type1 (args_cons (thn (he.run pins s σ H _ I h) fun u s1 ⟨v, H1, I1, r1, q1⟩ => args_nil ?_) hs) hs rfl))) hs2) hs2 rfl))
  obtain ⟨l, ns, rfl, hq, h64, q⟩ := q1
  obtain rfl : u = Value.ref l := r1
  obtain ⟨its, rv, p', hz⟩ := I1.list hq
  refine call_setL ns (I1.ok.hd hc) p'.isList (by simpa using ints_of_vals rv) (by unfold scanBound; omega) fun h' tk c R le k => args_nil ?_
  refine sorted_setA (s := { s1 with heap := h', toks := tk }) R (I1.ok.hd hc) (by rw [sizeLine_eq]; omega) fun s' p out c2 ks k2 g o hp hg' hi hsrt hmem hlen => ?_
  have sz : s1.heap.objs.size < h'.objs.size := R.lt
  have kk : ∀ b o, s1.heap.get? b = some o → s'.heap.get? b = some o := fun b o e => k2 b o (k b o e)
  have hp' : s1.heap.objs.size ≤ p := Nat.le_trans (Nat.le_of_lt sz) hp
  have hn : H1 p = none := I1.hok.fresh hp'
  have len : (ks.map V.int).length ≤ sizeLine := by rw [List.length_map, hlen, sizeLine_eq]; omega
  have J : Inv X pins σ (upd H1 p (.lst (ks.map V.int))) { s1 with heap := s'.heap, gens := s'.gens, drawn := s'.drawn, toks := s'.toks } :=
    I1.call (ch := []) (Un.laid kk hp' hn) (I1.hok.laid kk hp' ⟨len, out.toList, c2, vals_of_ints hi, hg'⟩) (by rw [g]; exact I1.bare) (fun _ z => nomatch z)
  have e : s' = { s1 with heap := s'.heap, gens := s'.gens, drawn := s'.drawn, toks := s'.toks } := by
    cases s'; cases s1; cases o; rfl
  rw [e]
  exact ⟨.ref p, _, J, rfl, q ks p hsrt (fun k => by rw [hmem]; simp) hn⟩
/-- sorted(set(x)) of up to a thousand -/
def xSortSetA (t : XE) : XE := fun e m Q => t e m fun x m1 => ∃ ns : List Int, lstD m1 x = some (ns.map .int) ∧ ns.length ≤ 1000 ∧ ∀ (out : List Int) (p : Addr), out.Pairwise (· < ·) → (∀ k : Int, k ∈ out ↔ k ∈ ns) → m1 p = none → Q (.ref p) (updM m1 p (.lst (out.map .int)))
theorem xe_sortSetA {a : Expr} {t : XE} {p p2 pos pos2 : Pos} (hc : X.calm = true) (hg : Gl X "sorted") (hm : X.mg "sorted" = none) (hg2 : Gl X "set") (hm2 : X.mg "set" = none) (ha : PE X a (low X.K t))
    (hs : starEach [a] X.env = (false, eval a X.env) :: starEach [] X.env := by rfl)
    (hs2 : starEach [.Call (.Name "set" p2) [a] [] pos2] X.env = (false, eval (.Call (.Name "set" p2) [a] [] pos2) X.env) :: starEach [] X.env := by rfl) :
    PE X (.Call (.Name "sorted" p) [.Call (.Name "set" p2) [a] [] pos2] [] pos) (low X.K (xSortSetA t)) :=
  PE.imp (pe_sortSetA hc hg hm hg2 hm2 ha hs hs2) fun σ H QV ⟨e, m, Q, rs, rm, h, q⟩ => ⟨e, m, _, rs, rm, h, fun v H1 d m1 s1 r1 rm1 h1 => by
    obtain ⟨ns, hl, h64, h1⟩ := h1
    obtain ⟨l, ys, rfl, sq, ry⟩ := lst_out rm1 r1 hl
    have e2 := reps_ints ry
    subst e2
    refine ⟨l, ns, rfl, sq, h64, fun out p hs hm hp => ?_⟩
    exact q _ _ (.ref p) _ (s1.trans (.newM hp)) (by simp only [Rep]) (new_lst rm1 (reps_of_ints out) hp) (h1 out p hs hm (rm1.none hp))⟩
/-! ### dict([pairs]) -/
theorem reps_prs {K : PySem.W.Frag} {H : Hp} : ∀ (kvs : List (Int × D)) (ys : List V), Reps K H (kvs.map fun p => D.tup [.int p.1, p.2]) ys →
    ∃ (ps : List Addr) (vs : List (Key × V)), ys = ps.map V.ref ∧ Paired (fun p kv => SqT K H p [kV kv.1, kv.2]) ps vs ∧ RepF K H (iKD kvs) vs
  | [], ys, r => by
    simp only [List.map_nil, Reps] at r
    subst r
    exact ⟨[], [], rfl, .nil, rfl⟩
  | (i, d) :: kvs, ys, r => by
    simp only [List.map_cons, Reps, Rep] at r
    obtain ⟨v, vs, rfl, ⟨a, xs, rfl, sq, x1, z, rfl, rfl, x2, z2, rfl, r2, rfl⟩, rr⟩ := r
    obtain ⟨ps, us, rfl, pr, rf⟩ := reps_prs kvs vs rr
    exact ⟨a :: ps, ((.inl i : Key), x2) :: us, rfl, .cons sq pr, x2, us, rfl, r2, rf⟩
theorem putK_out {kvs : List (Key × V)} {k : Key} {v : V} (h : k ∉ kvs.map (·.1)) : putK kvs k v = kvs ++ [(k, v)] := by
  unfold putK
  rw [if_neg]
  simp only [List.any_eq_true, decide_eq_true_eq, not_exists, not_and]
  intro p hp e
  exact h (List.mem_map.mpr ⟨p, hp, e⟩)
theorem mergeK_nodup : ∀ (more acc : List (Key × V)), ((acc ++ more).map (·.1)).Nodup → mergeK acc more = acc ++ more
  | [], acc, _ => by simp [mergeK]
  | (k, v) :: more, acc, h => by
    have hk : k ∉ acc.map (·.1) := fun hm => by
      rw [List.map_append, List.nodup_append] at h
      exact h.2.2 k hm k (by simp) rfl
    have h2 : (((acc ++ [(k, v)]) ++ more).map (·.1)).Nodup := by rw [List.append_assoc]; exact h
    have e := mergeK_nodup more (acc ++ [(k, v)]) h2
    unfold mergeK at e ⊢
    rw [List.foldl_cons, putK_out hk, e, List.append_assoc]
    rfl
theorem keys_rep {K : PySem.W.Frag} {H : Hp} : ∀ (kvs : List (Int × D)) (vs : List (Key × V)), RepF K H (iKD kvs) vs → vs.map (·.1) = kvs.map fun p => (.inl p.1 : Key)
  | [], vs, r => by simp only [iKD, List.map_nil, RepF] at r; subst r; rfl
  | p :: kvs, vs, r => by
    obtain ⟨v, us, e, r1, r2⟩ := r
    subst e
    rw [List.map_cons, keys_rep kvs us r2]; rfl
def xDictF : XC := fun ds m Q => one ds fun x => ∃ kvs : List (Int × D), lstD m x = some (kvs.map fun p => D.tup [.int p.1, p.2]) ∧ (kvs.map (·.1)).Nodup ∧ ∀ p, m p = none → Q (.ref p) (updM m p (.fK (iKD kvs)))
theorem xc_dictF (hc : X.calm = true) : CallR X (.type "dict") (lowC X.K xDictF) := by
  intro pins s σ H xs us QV I rv ⟨ds, m, Q, rd, rm, h, q⟩
  obtain ⟨x, rfl, kvs, hl, nd, h1⟩ := one_out h
  simp only [Reps] at rd
  obtain ⟨y, _, rfl, ry, rfl⟩ := rd
  obtain ⟨a, ys, rfl, sq, rys⟩ := lst_out rm ry hl
  obtain ⟨ps, vs, rfl, pr, rf⟩ := reps_prs kvs ys rys
  obtain ⟨u, rfl, rx⟩ := vals1 rv
  cases rx
  obtain ⟨its, ri, pl, hz⟩ := I.list sq
  have ei := refs_at ri
  subst ei
  rw [List.length_map] at hz
  obtain ⟨prs, rel, hpl, hpr⟩ := pairs_of I pr
  obtain ⟨ol, n, ho, hcl, hdd, hdat⟩ := pl
  have nd2 : (vs.map (·.1)).Nodup := by
    rw [keys_rep _ _ rf]
    have e : (kvs.map fun p => (.inl p.1 : Key)) = (kvs.map (·.1)).map (fun i => (.inl i : Key)) := by rw [List.map_map]; rfl
    rw [e]
    refine (List.nodup_iff_pairwise_ne.mp nd).map _ fun i j ij z => ij (by cases z; rfl)
  have em : mergeK [] vs = vs := mergeK_nodup vs [] nd2
  refine L2.call_dict_pairs (prs := prs) (I.ok.hd hc) ho hcl hdd hdat (by simp [hpl]) (by rw [hpl]; exact hz) (fun j q' e => ?_) fun h' tk hd' k => ?_
  · obtain ⟨b, u, e1, e2, e3⟩ := hpr j q' e
    exact ⟨b, u, by simp [e1], e2, e3⟩
  · have bg : (s.heap.objs.size == sysModules) = false := beq_eq_false_iff_ne.mpr (Nat.ne_of_gt I.big)
    have mk : KV vs (merged [] prs) := by have := KV.merge rel .nil; rwa [em] at this
    have hn : H s.heap.objs.size = none := I.hok.fresh (Nat.le_refl _)
    obtain ⟨od, es, ep, g1, _⟩ := id hd'
    have st : Stp H m (upd H s.heap.objs.size (.frz od (.dK vs))) (updM m s.heap.objs.size (.fK (iKD kvs))) := .newM hn
    refine ⟨.ref s.heap.objs.size, upd H s.heap.objs.size (.frz od (.dK vs)), I.laid (t' := tk) k (Nat.le_refl _) ⟨g1, ?_⟩, rfl, q _ _ (.ref s.heap.objs.size) _ st (by simp only [Rep]) (rm.upd st.imm ⟨od, vs, rfl, RepF.ext st.imm rf⟩) (h1 _ (rm.none hn))⟩
    refine show ObjOk X.prog X.w _ _ _ (.dK vs) from ⟨?_, bg, _, mk, hd'⟩
    have l2 : vs.length = prs.length := rel.length
    rw [l2, hpl]; exact hz
/-- what a locked dict is walked by -/
def iKeyF (t : XE) : XI := fun e m R => t e m fun x m1 => ∃ (a : Addr) (kvs : List (Int × D)), x = .ref a ∧ m1 a = some (.fK (iKD kvs)) ∧ R ⟨kvs.map (fun p => D.int p.1), fun _ => True⟩ m1
theorem xi_keyF {tg l : Expr} {t : XE} (h : PE X l (low X.K t)) : PI X tg l (lowI X.K (iKeyF t)) :=
  PI.imp (pi_keys h) fun σ H R ⟨e, m, Q, rs, rm, h, q⟩ => ⟨e, m, _, rs, rm, h, fun v H1 d m1 s1 r1 rm1 h1 => by
    obtain ⟨a, kvs, rfl, hm, h2⟩ := h1
    simp only [Rep] at r1
    subst r1
    obtain ⟨ho, f1, ob, vs, rfl, f3⟩ := rm1 a _ hm
    have hlen : vs.length = kvs.length := by have := repF_len _ _ f3; unfold iKD at this; rwa [List.length_map] at this
    have hk := keys_rep _ _ f3
    refine ⟨a, ob, rfl, .inl ⟨vs, f1, q _ H1 _ m1 s1 rm1 (fun i H2 m2 im rm2 _ => ?_) h2⟩⟩
    have f2 := im a _ f1 True.intro
    simp only [List.length_map]
    refine ⟨fun hl => ⟨f2, by omega⟩, fun hl => ⟨⟨f2, by omega⟩, fun y H3 ⟨eh, k, v, hkv, ey⟩ => ?_⟩⟩
    subst eh ey
    have e1 : (vs.map (·.1))[i]? = some k := by rw [List.getElem?_map, hkv]; rfl
    rw [hk, List.getElem?_map, List.getElem?_eq_getElem hl] at e1
    cases e1
    exact ⟨.refl, rm2, .int (kvs[i].1), by rw [List.getElem?_map, List.getElem?_eq_getElem hl]; rfl, by simp only [Rep]; rfl⟩⟩
def xDGetF (td ty : XE) : XE := fun e m Q => td e m fun x m1 => ty e m1 fun y m2 => ∃ (a : Addr) (kvs : List (Int × D)) (i : Int) (d : D), x = .ref a ∧ y = .int i ∧ m2 a = some (.fK (iKD kvs)) ∧ getI kvs i = some d ∧ Q d m2
theorem xe_dgetF {o i : Expr} {td ty : XE} {pos : Pos} (hu : X.A.units + 64 < cLine) (ho : PE X o (low X.K td)) (hi : PE X i (low X.K ty)) (hs : NoSl i := by exact fun _ _ => rfl) : PE X (.Subscript o i pos) (low X.K (xDGetF td ty)) :=
  PE.imp (pe_dget (by omega) ho hi hs) fun σ H QV ⟨e, m, Q, rs, rm, h, q⟩ => ⟨e, m, _, rs, rm, h, fun x H1 dx m1 s1 r1 rm1 h1 => ⟨e, m1, _, rs.ext s1.imm, rm1, h1, fun y H2 dy m2 s2 r2 rm2 h2 => by
    obtain ⟨a, kvs, i, d, e2, e3, hm, hg, h4⟩ := h2
    subst e2 e3
    simp only [Rep] at r1 r2
    subst r1 r2
    obtain ⟨ho, f1, ob, vs, f2, f3⟩ := rm2 a _ hm
    subst f2
    obtain ⟨v, e5, r5⟩ := repF_get kvs vs f3 hg
    have g : DGet H2 a (kV (.inl i : Key)) (valV vs (.inl i : Key)) := .inl ⟨vs, .inl i, .inr ⟨ob, f1⟩, rfl, rfl⟩
    rw [e5] at g
    exact ⟨a, v, rfl, g, q v _ d m2 (s1.trans s2) r5 rm2 h4⟩⟩⟩
theorem valV_some {K : PySem.W.Frag} {H : Hp} {i : Int} : ∀ (kvs : List (Int × D)) (vs : List (Key × V)), RepF K H (iKD kvs) vs → (valV vs (.inl i : Key)).isSome = (getI kvs i).isSome
  | [], vs, r => by simp only [iKD, List.map_nil, RepF] at r; subst r; rfl
  | p :: kvs, vs, r => by
    obtain ⟨v, us, e, r1, r2⟩ := r
    subst e
    rw [getI]
    by_cases c : p.1 = i
    · rw [if_pos c, valV_pos (by rw [c])]; rfl
    · rw [if_neg c, valV_neg (fun z => c (by cases z; rfl))]
      exact valV_some kvs us r2
def xInF : XO := fun x y m Q => ∃ (a : Addr) (kvs : List (Int × D)) (i : Int), x = .int i ∧ y = .ref a ∧ m a = some (.fK (iKD kvs)) ∧ Q (.bl (getI kvs i).isSome) m
theorem xo_inF (hu : X.A.units + 65 < cLine) : OpR X (compareOp .In) (lowR X.K xInF) := by
  intro pins s σ H x y v u QV I rx ry ⟨d, e, m, Q, r1, r2, rm, ⟨a, kvs, i, e1, e2, hm, h⟩, q⟩
  subst e1 e2
  simp only [Rep] at r1 r2
  subst r1 r2
  obtain ⟨ho, f1, ob, vs, f2, f3⟩ := rm a _ hm
  subst f2
  obtain rfl : u = Value.ref a := ry
  have g : DGet H a (kV (.inl i : Key)) (valV vs (.inl i : Key)) := .inl ⟨vs, .inl i, .inr ⟨ob, f1⟩, rfl, rfl⟩
  refine d_in (by omega) I g rx fun s3 I3 => ⟨.bl _, H, I3, rfl, q _ H _ m .refl ?_ rm h⟩
  rw [← valV_some kvs vs f3]
  simp only [Rep]
end
end Sd

set_option Elab.async false
set_option linter.all false
set_option maxRecDepth 100000
set_option maxHeartbeats 1000000
/-! texts: f-strings of numbers and texts, str(i), int(text), len, +, split, join, removeprefix, isdecimal -/
namespace Sd
open PySem PySem.Spec PyProof.Rows L2
def asS (d : D) (k : Str → Prop) : Prop := match d with | .str x => k x | _ => False
@[simp] theorem asS_str {x : Str} {k : Str → Prop} : asS (.str x) k = k x := rfl
theorem asS_out {d : D} {k : Str → Prop} (h : asS d k) : ∃ x, d = .str x ∧ k x := by
  unfold asS at h
  split at h
  · exact ⟨_, rfl, h⟩
  · exact h.elim
section
variable {X : Cx}
/-- {i} in a text -/
def xFmtI (t : XE) : XE := fun e m Q => t e m fun x m1 => asI x fun i => i.natAbs.log2 < 1920 ∧ Q (.str (toString i)) m1
theorem xe_fmtI {ex : Expr} {t : XE} {pos : Pos} (h : PE X ex (low X.K t)) : PE X (.FormattedValue ex (-1) none pos) (low X.K (xFmtI t)) :=
  PE.imp (pe_fmt h) fun σ H QV ⟨e, m, Q, rs, rm, h, q⟩ => ⟨e, m, _, rs, rm, h, fun v H1 d m1 s1 r1 rm1 h1 => by
    obtain ⟨i, ei, hz, h2⟩ := asI_out h1
    subst ei
    simp only [Rep] at r1
    exact .inr ⟨i, r1, hz, q _ H1 _ m1 s1 (by simp only [Rep]) rm1 h2⟩⟩
def xJs : List XE → Str → XE
  | [], acc => fun e m Q => Q (.str acc) m
  | t :: ts, acc => fun e m Q => t e m fun x m1 => asS x fun y => (acc ++ y).length ≤ sizeLine ∧ xJs ts (acc ++ y) e m1 Q
inductive XJ (X : Cx) : List Expr → List XE → Prop where
  | nil : XJ X [] []
  | cons {e : Expr} {t : XE} {es : List Expr} {ts : List XE} (h : PE X e (low X.K t)) (r : XJ X es ts) : XJ X (e :: es) (t :: ts)
theorem XJ.pj {es : List Expr} {ts : List XE} (h : XJ X es ts) : PJ X es (ts.map (low X.K)) := by
  induction h with
  | nil => exact .nil
  | cons h r ih => exact .cons h ih
theorem xjs_low {K : PySem.W.Frag} {QV : VK} {Q : D → M → Prop} : ∀ (ts : List XE) (acc : Str) (σ : L2.St) (H : Hp) (e : En) (m : M), RepS K H e σ → RepM K H m → xJs ts acc e m Q →
    (∀ v H' d' m', Stp H m H' m' → Rep K H' d' v → RepM K H' m' → Q d' m' → QV v H') → tJs (ts.map (low K)) acc σ H fun out H1 => QV (.str out) H1
  | [], acc, σ, H, e, m, rs, rm, h, q => q _ H _ m .refl (by simp only [Rep]) rm h
  | t :: ts, acc, σ, H, e, m, rs, rm, h, q => ⟨e, m, _, rs, rm, h, fun v H1 d m1 s1 r1 rm1 h1 => by
      obtain ⟨y, ey, hz, h2⟩ := asS_out h1
      subst ey
      simp only [Rep] at r1
      exact ⟨y, r1, hz, xjs_low ts _ σ H1 e m1 (rs.ext s1.imm) rm1 h2 fun v H' d' m' st => q v H' d' m' (s1.trans st)⟩⟩
theorem xe_js {v1 v2 : Expr} {rest : List Expr} {ts : List XE} {pos : Pos} (h : XJ X (v1 :: v2 :: rest) ts) : PE X (.JoinedStr (v1 :: v2 :: rest) pos) (low X.K (xJs ts Str.empty)) :=
  PE.imp (pe_joined h.pj) fun σ H QV ⟨e, m, Q, rs, rm, h, q⟩ => xjs_low ts _ σ H e m rs rm h q
/-- str(i) -/
def xStrI : XC := fun ds m Q => one ds fun x => asI x fun i => i.natAbs.log2 < 1920 ∧ Q (.str (toString i)) m
theorem xc_strI : CallR X (.type "str") (lowC X.K xStrI) :=
  CallR.imp call_str_int fun xs H QV ⟨ds, m, Q, r, rm, h, q⟩ => by
    obtain ⟨x, ex, h1⟩ := one_out h
    obtain ⟨i, ei, hz, h2⟩ := asI_out h1
    subst ex ei
    simp only [Reps, Rep] at r
    obtain ⟨v, _, rfl, rfl, rfl⟩ := r
    exact ⟨i, rfl, hz, q _ H _ m .refl (by simp only [Rep]) rm h2⟩
/-- int(a text) -/
def xIntS : XC := fun ds m Q => one ds fun x => asS x fun a => ∃ n, PySem.intText? a = some n ∧ a.length ≤ 640 ∧ Q (.int n) m
theorem xc_intS : CallR X (.type "int") (lowC X.K xIntS) :=
  CallR.imp call_int_str fun xs H QV ⟨ds, m, Q, r, rm, h, q⟩ => by
    obtain ⟨x, ex, h1⟩ := one_out h
    obtain ⟨a, ea, n, hn, hz, h2⟩ := asS_out h1
    subst ex ea
    simp only [Reps, Rep] at r
    obtain ⟨v, _, rfl, rfl, rfl⟩ := r
    exact ⟨a, n, rfl, hn, hz, q _ H _ m .refl (by simp only [Rep]) rm h2⟩
/-- len(a text) -/
def xLenS : XC := fun ds m Q => one ds fun x => asS x fun a => a.length ≤ sizeLine ∧ Q (.int a.length) m
theorem xc_lenS : CallR X (.builtin "len") (lowC X.K xLenS) :=
  CallR.imp call_len_str fun xs H QV ⟨ds, m, Q, r, rm, h, q⟩ => by
    obtain ⟨x, ex, h1⟩ := one_out h
    obtain ⟨a, ea, hz, h2⟩ := asS_out h1
    subst ex ea
    simp only [Reps, Rep] at r
    obtain ⟨v, _, rfl, rfl, rfl⟩ := r
    exact ⟨a, rfl, hz, q _ H _ m .refl (by simp only [Rep]) rm h2⟩
/-- text + text -/
def xAddS : XO := fun x y m Q => asS x fun a => asS y fun b => a.length + b.length ≤ sizeLine ∧ Q (.str (a ++ b)) m
theorem xo_addS : OpR X (binaryOp .Add) (lowR X.K xAddS) :=
  OpR.imp op_add_str fun x y H QV ⟨d, e, m, Q, rx, ry, rm, h, q⟩ => by
    obtain ⟨a, ea, h1⟩ := asS_out h
    obtain ⟨b, eb, hz, h2⟩ := asS_out h1
    subst ea eb
    simp only [Rep] at rx ry
    exact ⟨a, b, rx, ry, hz, q _ H _ m .refl (by simp only [Rep]) rm h2⟩
theorem reps_strs {K : PySem.W.Frag} {H : Hp} : ∀ ys : List Str, Reps K H (ys.map D.str) (ys.map V.str)
  | [] => by simp [Reps]
  | n :: ns => by simp only [List.map_cons, Reps]; exact ⟨_, _, rfl, by simp [Rep], reps_strs ns⟩
theorem reps_str_out {K : PySem.W.Frag} {H : Hp} : ∀ (ys : List Str) (vs : List V), Reps K H (ys.map D.str) vs → vs = ys.map V.str
  | [], vs, r => by simp only [List.map_nil, Reps] at r; exact r
  | y :: ys, vs, r => by
    simp only [List.map_cons, Reps, Rep] at r
    obtain ⟨v, us, rfl, rfl, r⟩ := r
    rw [reps_str_out ys us r]; rfl
/-- a.split(b) -/
def xSplit (to tp : XE) : XE := fun e m Q => to e m fun x m1 => asS x fun a => tp e m1 fun y m2 => asS y fun b => (b.length == 0) = false ∧ a.length + 2 ≤ sizeLine ∧ ∀ p, m2 p = none → Q (.ref p) (updM m2 p (.lst ((Txt.split a b).map .str)))
theorem xe_split {o ex : Expr} {to tp : XE} {apos pos : Pos} (ho : PE X o (low X.K to)) (he : PE X ex (low X.K tp)) (hs : starEach [ex] X.env = [(false, eval ex X.env)] := by rfl) (hbase : attributeBase o "split" X.env (eval o X.env) = eval o X.env := by rfl) (hline : (apos.endLine == pos.line) = true := by rfl) :
    PE X (.Call (.Attribute o "split" apos) [ex] [] pos) (low X.K (xSplit to tp)) :=
  PE.imp (pe_split ho he hs hbase hline) fun σ H QV ⟨e, m, Q, rs, rm, h, q⟩ => ⟨e, m, _, rs, rm, h, fun v H1 d m1 s1 r1 rm1 h1 => by
    obtain ⟨a, ea, h2⟩ := asS_out h1
    subst ea
    simp only [Rep] at r1
    refine ⟨⟨a, r1⟩, e, m1, _, rs.ext s1.imm, rm1, h2, fun u H2 d2 m2 s2 r2 rm2 h3 => ?_⟩
    obtain ⟨b, eb, hb, hz, h4⟩ := asS_out h3
    subst eb
    simp only [Rep] at r2
    refine ⟨a, b, r1, by rw [r2], hb, hz, fun p hp => ?_⟩
    exact q _ _ (.ref p) _ (s1.trans (s2.trans (.newM hp))) (by simp only [Rep]) (new_lst rm2 (reps_strs _) hp) (h4 p (rm2.none hp))⟩
/-- sep.join(xs) -/
def xJoin (to tp : XE) : XE := fun e m Q => to e m fun x m1 => asS x fun a => tp e m1 fun y m2 => ∃ ys : List Str, lstD m2 y = some (ys.map .str) ∧ (ys.map (·.length)).sum + ys.length * a.length ≤ 16777216 ∧ Q (.str (Txt.join a ys)) m2
theorem xe_join {o ex : Expr} {to tp : XE} {apos pos : Pos} (ho : PE X o (low X.K to)) (he : PE X ex (low X.K tp)) (hs : starEach [ex] X.env = [(false, eval ex X.env)] := by rfl) (hbase : attributeBase o "join" X.env (eval o X.env) = eval o X.env := by rfl) (hline : (apos.endLine == pos.line) = true := by rfl) :
    PE X (.Call (.Attribute o "join" apos) [ex] [] pos) (low X.K (xJoin to tp)) :=
  PE.imp (pe_join ho he hs hbase hline) fun σ H QV ⟨e, m, Q, rs, rm, h, q⟩ => ⟨e, m, _, rs, rm, h, fun v H1 d m1 s1 r1 rm1 h1 => by
    obtain ⟨a, ea, h2⟩ := asS_out h1
    subst ea
    simp only [Rep] at r1
    refine ⟨⟨a, r1⟩, e, m1, _, rs.ext s1.imm, rm1, h2, fun u H2 d2 m2 s2 r2 rm2 h3 => ?_⟩
    obtain ⟨ys, hl, hz, h4⟩ := h3
    obtain ⟨p, vs, rfl, sq, rv⟩ := lst_out rm2 r2 hl
    have ev := reps_str_out ys vs rv
    subst ev
    exact ⟨a, p, ys, r1, rfl, .inl sq, hz, q _ _ (.str _) _ (s1.trans s2) (by simp only [Rep]) rm2 h4⟩⟩
/-- a.removeprefix(b) -/
def xRmPre (to tp : XE) : XE := fun e m Q => to e m fun x m1 => asS x fun a => tp e m1 fun y m2 => asS y fun b => a.length ≤ sizeLine ∧ Q (.str (Txt.removeprefix a b)) m2
theorem xe_rmPre {o ex : Expr} {to tp : XE} {apos pos : Pos} (ho : PE X o (low X.K to)) (he : PE X ex (low X.K tp)) (hs : starEach [ex] X.env = [(false, eval ex X.env)] := by rfl) (hbase : attributeBase o "removeprefix" X.env (eval o X.env) = eval o X.env := by rfl) (hline : (apos.endLine == pos.line) = true := by rfl) :
    PE X (.Call (.Attribute o "removeprefix" apos) [ex] [] pos) (low X.K (xRmPre to tp)) :=
  PE.imp (pe_m1 PySem.F.slot_str_removeprefix PySem.F.type_str_removeprefix mt_removeprefix ho he hs hbase hline) fun σ H QV ⟨e, m, Q, rs, rm, h, q⟩ => ⟨e, m, _, rs, rm, h, fun v H1 d m1 s1 r1 rm1 h1 => by
    obtain ⟨a, ea, h2⟩ := asS_out h1
    subst ea
    simp only [Rep] at r1
    refine ⟨⟨a, r1⟩, e, m1, _, rs.ext s1.imm, rm1, h2, fun u H2 d2 m2 s2 r2 rm2 h3 => ?_⟩
    obtain ⟨b, eb, hz, h4⟩ := asS_out h3
    subst eb
    simp only [Rep] at r2
    exact ⟨a, b, r1, by rw [r2], hz, q _ _ (.str _) _ (s1.trans s2) (by simp only [Rep]) rm2 h4⟩⟩
/-- a.isdecimal() -/
def xIsDec (to : XE) : XE := fun e m Q => to e m fun x m1 => asS x fun a => Q (.bl (Txt.isdecimal a)) m1
theorem xe_isDec {o : Expr} {to : XE} {apos pos : Pos} (ho : PE X o (low X.K to)) (hbase : attributeBase o "isdecimal" X.env (eval o X.env) = eval o X.env := by rfl) (hline : (apos.endLine == pos.line) = true := by rfl) :
    PE X (.Call (.Attribute o "isdecimal" apos) [] [] pos) (low X.K (xIsDec to)) :=
  PE.imp (pe_m0 PySem.F.slot_str_isdecimal PySem.F.type_str_isdecimal mt_isdecimal ho hbase hline) fun σ H QV ⟨e, m, Q, rs, rm, h, q⟩ => ⟨e, m, _, rs, rm, h, fun v H1 d m1 s1 r1 rm1 h1 => by
    obtain ⟨a, ea, h2⟩ := asS_out h1
    subst ea
    simp only [Rep] at r1
    exact ⟨⟨a, r1⟩, a, r1, rfl, trivial, q _ _ (.bl _) _ s1 (by simp only [Rep]) rm1 h2⟩⟩
theorem eq_str {m : M} {x y : Str} {k : Bool → Prop} (hx : PyData.strOk x = true) (hy : PyData.strOk y = true) (h : k (decide (x = y))) : eqD m (.str x) (.str y) k := by
  have sh : ∀ z : Str, PyData.strOk z = true → SeqAt.shaped (.str z) = true := fun z hz => by
    unfold SeqAt.shaped
    rw [PyData.canLay0, PyData.depth, hz, Bool.true_and]
    exact decide_eq_true (by omega)
  refine ⟨.str x, .str y, rfl, rfl, sh x hx, sh y hy, ?_⟩
  have e : PyData.eqv (.str x) (.str y) = decide (x = y) := by
    rw [PyData.eqv, Bool.eq_iff_iff, beq_iff_eq, decide_eq_true_eq]
  rw [e]; exact h
end
end Sd

set_option Elab.async false
set_option linter.all false
set_option maxRecDepth 100000
set_option maxHeartbeats 1000000
/-! xs.reverse() -/
namespace Sd
open PySem PySem.Spec PyProof.Rows L2
section
variable {X : Cx}
def xRvs (to : XE) : XE := fun e m Q => to e m fun o m1 => asL m1 o fun p ds => Q .non (updM m1 p (.lst ds.reverse))
theorem xe_rvs {o : Expr} {to : XE} {apos cpos : Pos} (ho : PE X o (low X.K to)) (hbase : attributeBase o "reverse" X.env (eval o X.env) = eval o X.env := by rfl) (hline : (apos.endLine == cpos.line) = true := by rfl) :
    PE X (.Call (.Attribute o "reverse" apos) [] [] cpos) (low X.K (xRvs to)) :=
  PE.imp (pe_bm0 PySem.F.plainAttrs_list PySem.F.slot_list_reverse PySem.F.type_list_reverse mt_reverse ho hbase hline) fun σ H QV ⟨e, m, Q, rs, rm, h, q⟩ => ⟨e, m, _, rs, rm, h, fun vo H1 o m1 s1 r1 rm1 h1 => by
    obtain ⟨p, ds, rfl, hm, h1⟩ := asL_out h1
    simp only [Rep] at r1
    obtain ⟨ho, h3, xs, rfl, rx⟩ := rm1 p _ hm
    have st : Stp H1 m1 (upd H1 p (.lst xs.reverse)) (updM m1 p (.lst ds.reverse)) := .write h3 (fun z => z) hm
    exact ⟨by subst r1; exact .inl ⟨rfl, xs, .inl (.inl h3)⟩, p, xs, r1, rfl, h3, q _ _ .non _ (s1.trans st) (by simp only [Rep]) (rm1.upd st.imm ⟨_, rfl, (reps_rev rx).ext st.imm⟩) h1⟩⟩
end
end Sd

set_option Elab.async false
set_option linter.all false
set_option maxRecDepth 100000
set_option maxHeartbeats 4000000
/-! an own exception whose __init__ hands a text to super().__init__ and keeps one number -/
namespace Sd
open PySem PySem.Spec PyProof.Rows L2 PySem.W
abbrev veTail : List Value := [.type "ValueError", .type "Exception", .type "BaseException", .type "object"]
theorem str_len (x y : Str) : (x ++ y).length = x.length + y.length := by
  obtain ⟨⟨a⟩⟩ := x
  obtain ⟨⟨b⟩⟩ := y
  show (Array.mk a ++ Array.mk b).size = _
  simp; rfl
/-- what is known of such a class at C, its __init__ at fI keeping the field n -/
structure OxT (P : Program) (K : PySem.W.Frag) (mg : Str → Option Value) (C fI : Addr) (x n : Str) : Prop where
  T : OexC K C
  gC : mg x = some (.ref C)
  iC : PySem.W.findIn K (.ref C) "__init__" = some (some (.ref fI))
  tI : PySem.W.typeIn K (.ref fI) = some (.type "function")
  noN : PySem.W.findIn K (.ref C) n = some none
  sup : PySem.W.ks_superIn K C C "__init__" = some (some (.builtin "ValueError.__init__"))
  sub : PySem.W.mroIn K C (.ref C) = some true
  isV : PySem.W.subIn K (.ref C) (.type "ValueError") = some true
  exq : PySem.W.excInitIn K C veTail "ValueError.__new__" = true
  noA : PySem.W.nsIn K cStatics "thirdparty.any" = some none
  gs : mg "super" = none
  top : (P.main.scope.names.lookup ("super" : Str)).isSome = false
def spOx (C : Addr) (n : Str) : Sp := fun vs H Q _ => ∃ (a : Addr) (i : Int), vs = [.ref a, .int i] ∧ i.natAbs.log2 < 1920 ∧ (Str.ofString (toString i)).length ≤ 1000 ∧ H a = some (exo a C none) ∧ ∀ dx, H dx = none → dx ≠ a → Q .non (upd (upd H dx (exd dx [(n, .int i)])) a (exo a C (some dx)))
section
variable {P : Program} {w : World} {A : Around} {E : Value → Shared → Prop} {g : Array GenState} {d : Drawn} {t : Nat} {os : OsState} {h : Heap}
/-- ValueError.__init__ bound to an exception, called -/
theorem call_mwV {K : Frag} {C u e t0 : Addr} {rest : List Value} {Q : Value → Shared → Prop} (X : K.In h) (q : excInitIn K C veTail "ValueError.__new__" = true) (hu : h.get? u = some (kxs_mw "ValueError.__init__" e))
    (he : h.get? e = some ({ cls := .ref C, dict := none, data := .fields #[.ref t0, .none, .none, .none, .bool false, .none] } : Obj)) (hz : rest.length ≤ sizeLine)
    (hq : ∀ h2 t2, (∀ b o, b ≠ e → h.get? b = some o → h2.get? b = some o) → h2.get? e = some ({ cls := .ref C, dict := none, data := .fields #[.ref t2, .none, .none, .none, .bool false, .none] } : Obj) → Q .none ⟨h2, g, d, t, os⟩) :
    wpAny (model P w) A (call (.ref u) rest) Q E ⟨h, g, d, t, os⟩ := by
  obtain ⟨nm, N', qn, bs, bm, hdct, sn, sub, ab, col, dd, k0, k1, k2, k3, k5, hC, hT⟩ := excInit_of X q
  have FB := PySem.F.excBase_ValueError
  refine wpAny_call (codeAny_of_tree ?_)
  show wpAny _ A.in1 (callAny (.ref u) ⟨rest, []⟩) _ _ _
  simp only [callAny]
  refine wpAny_bind (wpAny_load hu ?_)
  simp only [kxs_mw, show (Value.type "method-wrapper" == Value.type "method" || Value.type "method-wrapper" == Value.type "builtin_function_or_method" || Value.type "method-wrapper" == Value.type "method-wrapper") = true by decide, if_true]
  refine KFB.if_so (by decide) ?_
  refine wpAny_bind (check_bound_init FB.toExcCallFacts hC he rfl ?_)
  refine wpAny_bind (wpAny_pure (wpAny_pure ?_))
  refine ⟨plainId_quiet FB.init.plain _, codeAny_builtin FB.initEntry ?_⟩
  exact exc_init_tree (cls := .ref C) (t0 := t0) (dv := none) (c2 := .none) (c3 := .none) (b4 := .bool false) he hz fun h2 k2 e2 _ => hq h2 h.objs.size k2 e2
end
section
variable {P : Program} {w : World} {K : Frag} {mg : Str → Option Value} {base : Heap} {CX : CXT} {k : Nat} {C fI cc cda : Addr} {x n qual pre post file : Str} {params : Arguments} {scope : Scope} {kV doc pm ct oc ccl cl : Value} {an od cdd cld : Option Addr} {osl ccs csl : Array (Option Value)} {vs11 : Array Value} {tf : Tok}
  {p0 p1 p2 p3 p4 q1 q2 q3 q4 q5 r1 r2 r3 r4 : Pos} {j1 j2 : Nat} {ar : Arg}
theorem ox_run (T : OxT P K mg C fI x n)
    (lk : K.lookup fI = some ⟨oc, od, .func (ksFn "__init__" qual params
      [.Expr (.Call (.Attribute (.Call (.Name "super" p0) [] [] p1) "__init__" p2) [.JoinedStr [.Constant (.str pre) j1 q1, .FormattedValue (.Name n q2) (-1) none q3, .Constant (.str post) j2 q4] q5] [] p3) p4,
       .Assign [.Attribute (.Name "self" r1) n r2] (.Name n r3) r4] scope .none kV doc pm an (.ref cda) ct cc), osl⟩)
    (hcd : codeIn K (.ref cda) qual = true) (hcode : K.lookup cda = some ⟨ccl, cdd, .fields vs11, ccs⟩) (hvs : vs11[2]? = some (.str file tf)) (hfile : ((P.main.file : Str) == file) = true)
    (hcell : K.lookup cc = some ⟨cl, cld, .cell (some (.ref C)), csl⟩)
    (hpar : (params.posonlyargs ++ params.args).head? = some ar) (har : ar.arg = "self") (hsk : scope.kind = .function) (hco : scope.isCoroutine = false) (hgen : scope.isGenerator = false)
    (hns : scope.names.lookup ("super" : Str) = some .globalImplicit) (hnc : scope.names.lookup ("__class__" : Str) = some .free) (hnl : scope.names.lookup ("self" : Str) = some .local) (hnn : scope.names.lookup n = some .local) (hcl : ∀ y ∈ scope.names, y.2 ≠ .cell)
    (hev : ∀ env : Env, ∃ pl : Sem Bool, eval (.Call (.Attribute (.Call (.Name "super" p0) [] [] p1) "__init__" p2) [.JoinedStr [.Constant (.str pre) j1 q1, .FormattedValue (.Name n q2) (-1) none q3, .Constant (.str post) j2 q4] q5] [] p3) env = (do
      let ov ← attributeBase (.Call (.Name "super" p0) [] [] p1) "__init__" env (eval (.Call (.Name "super" p0) [] [] p1) env)
      standAt p2.atName
      let (f, first) ← holding [ov] (getMethod ov "__init__" pl)
      callWith p3 f first (backTo p3 (starEach [.JoinedStr [.Constant (.str pre) j1 q1, .FormattedValue (.Name n q2) (-1) none q3, .Constant (.str post) j2 q4] q5] env)) []))
    (hne : n ≠ "self") (hnd : (n == ("__debug__" : Str)) = false) (hpre : pre.length ≤ 1000) (hpost : post.length ≤ 1000)
    (hb : L2.Binds K (ksFn "__init__" qual params [.Expr (.Call (.Attribute (.Call (.Name "super" p0) [] [] p1) "__init__" p2) [.JoinedStr [.Constant (.str pre) j1 q1, .FormattedValue (.Name n q2) (-1) none q3, .Constant (.str post) j2 q4] q5] [] p3) p4,
       .Assign [.Attribute (.Name "self" r1) n r2] (.Name n r3) r4] scope .none kV doc pm an (.ref cda) ct cc) ["self", n] []) :
    FnOk P w K mg base CX (k + 1) fI (ksFn "__init__" qual params
      [.Expr (.Call (.Attribute (.Call (.Name "super" p0) [] [] p1) "__init__" p2) [.JoinedStr [.Constant (.str pre) j1 q1, .FormattedValue (.Name n q2) (-1) none q3, .Constant (.str post) j2 q4] q5] [] p3) p4,
       .Assign [.Attribute (.Name "self" r1) n r2] (.Name n r3) r4] scope .none kV doc pm an (.ref cda) ct cc) ["self", n] (spOx C n) := by
  refine ⟨fun vs H Q E ⟨a, i, e, _⟩ => by rw [e]; rfl, fun A outer s H args us vs Q E hr e0 hbd rv ⟨a, i, ev, hlg, hil, hH, hq⟩ => ?_⟩
  subst ev
  cases rv with
  | @cons _ u0 _ ur ra rr =>
  cases rr with
  | @cons _ u1 _ ur2 ri rr2 =>
  cases rr2
  obtain rfl : u0 = Value.ref a := ra
  obtain ⟨ti, rfl⟩ := ri
  obtain ⟨t0, hx⟩ := exo_at e0.hok hH
  have KX : K.In s.heap := e0.mod.kin.keeps fun b o e => (e0.bs b o e).1
  have kb : ∀ b o, base.get? b = some o → s.heap.get? b = some o := fun b o e => (e0.bs b o e).1
  have lim : s.heap.NoLimit := e0.mod.nolimit.keeps kb
  obtain ⟨nm, q, N, bs, bm, sn, sub, ab, col, dd, k0, k1, k2, k3, k5, hC, hbm⟩ := T.T.cls
  have hcls : clsIn K C = some { name := nm, bases := bs, mro := .ref C :: bm, ns := N, qualname := q, hasDict := true, slotNames := sn, subclasses := sub, abstract := ab, collection := col, hasDel := false } := by unfold clsIn; rw [hC]
  refine ks_codeAny_call_defAt (binds := [(("self" : Str), Value.ref a), (n, Value.int i ti)]) hr.depth (KX _ _ lk) rfl lim (codeRec_of KX hcd) rfl hbd hcl (fun y hy => ?_) (fun h₁ hNs kk => ?_) hco hgen hsk
  · rcases List.mem_cons.mp hy with z | z
    · rw [z]; exact hnl
    · rw [List.mem_singleton.mp z]; exact hnn
  have X1 : K.In h₁ := KX.keeps kk
  have hx1 := kk _ _ hx
  have hne2 : ((n : Str) == ("self" : Str)) = false := by simpa using hne
  have hne3 : (("self" : Str) == n) = false := by simpa using Ne.symm hne
  have self1 : ([(("self" : Str), Value.ref a), (n, Value.int i ti)].reverse.lookup ("self" : Str)) = some (.ref a) := by
    show List.lookup ("self" : Str) [(n, Value.int i ti), (("self" : Str), Value.ref a)] = _
    rw [List.lookup_cons, hne3]; simp [List.lookup]
  have num1 : ([(("self" : Str), Value.ref a), (n, Value.int i ti)].reverse.lookup n) = some (Value.int i ti) := by
    show List.lookup n [(n, Value.int i ti), (("self" : Str), Value.ref a)] = _
    rw [List.lookup_cons]; simp
  have nc : ∀ c, ({ cls := .ref C, dict := none, data := .fields #[.ref t0, .none, .none, .none, .bool false, .none] } : Obj).data ≠ .cls c := fun c z => nomatch z
  obtain ⟨mb, hmb, hbt⟩ := e0.mod.blt
  have I1 : InstAt h₁ a ({ cls := .ref C, dict := none, data := .fields #[.ref t0, .none, .none, .none, .bool false, .none] } : Obj) C none := ⟨hx1, rfl, rfl, trivial⟩
  have hint : interactive (callEnv (ksFn "__init__" qual params
      [.Expr (.Call (.Attribute (.Call (.Name "super" p0) [] [] p1) "__init__" p2) [.JoinedStr [.Constant (.str pre) j1 q1, .FormattedValue (.Name n q2) (-1) none q3, .Constant (.str post) j2 q4] q5] [] p3) p4,
       .Assign [.Attribute (.Name "self" r1) n r2] (.Name n r3) r4] scope .none kV doc pm an (.ref cda) ct cc) s.heap.objs.size fI) = false := by
    unfold interactive
    show ((scope.kind == .module) && _) = false
    rw [hsk]; rfl
  obtain ⟨pl, hpl⟩ := hev (callEnv (ksFn "__init__" qual params
      [.Expr (.Call (.Attribute (.Call (.Name "super" p0) [] [] p1) "__init__" p2) [.JoinedStr [.Constant (.str pre) j1 q1, .FormattedValue (.Name n q2) (-1) none q3, .Constant (.str post) j2 q4] q5] [] p3) p4,
       .Assign [.Attribute (.Name "self" r1) n r2] (.Name n r3) r4] scope .none kV doc pm an (.ref cda) ct cc) s.heap.objs.size fI)
  refine ks_wpAt_execs_cons (ks_wpAt_Expr_any (ks_wpAt_MethodCall (pl := pl) (ks_wpAt_super_base (fd := ksFn "__init__" qual params
      [.Expr (.Call (.Attribute (.Call (.Name "super" p0) [] [] p1) "__init__" p2) [.JoinedStr [.Constant (.str pre) j1 q1, .FormattedValue (.Name n q2) (-1) none q3, .Constant (.str post) j2 q4] q5] [] p3) p4,
       .Assign [.Attribute (.Name "self" r1) n r2] (.Name n r3) r4] scope .none kV doc pm an (.ref cda) ct cc) hns hnc (by decide) rfl (X1 _ _ lk) rfl hpar rfl (X1 _ _ hcode) rfl hvs hfile T.top ?_) hpl) hint)
  refine ks_loadName_global hsk hns (Calls.loadGlobal_builtin (e0.mod.glob.keeps fun b o e => kk b o (kb b o e)) T.gs (hmb.keeps fun b o e => kk b o (kb b o e)) ((hbt _ (by decide)).trans (by decide +kernel : bootBuiltins "super" = some (.type "super"))) ⟨rfl, ?_⟩)
  refine wpAny_loadName_free hsk hnc rfl ⟨_, X1 _ _ hcell, rfl⟩ ?_
  rw [har]
  refine wpAny_loadName_local hsk hnl hNs self1 ?_
  have hD := X1 _ _ hC
  refine ks_wpAny_isType_cls hD rfl ⟨rfl, ?_⟩
  refine ks_wpAny_call_super hD rfl hx1 rfl nc (looks_mroIn X1 T.sub) (fun h2 eso k2 => ?_)
  have X2 : K.In h2 := X1.keeps k2
  have hx2 := k2 _ _ hx1
  have I2 : InstAt h2 a ({ cls := .ref C, dict := none, data := .fields #[.ref t0, .none, .none, .none, .bool false, .none] } : Obj) C none := ⟨hx2, rfl, rfl, trivial⟩
  have hf : alongIn K "__init__" (((Value.ref C :: bm).dropWhile (· != .ref C)).drop 1) = some (some (.builtin "ValueError.__init__")) := by
    have z := T.sup
    unfold ks_superIn at z
    rw [hcls] at z
    exact z
  refine kxs_getMethod kxs_ValueError eso (looks_opaque X2 T.noA) (l₀ := .ref C :: bm) (fun A Q E s k q => wpAny_bind ((looks_clsIn X2 hcls) A _ E s k (wpAny_pure q))) rfl X2 hf (I2.type.andThen (looks_subIn X2 T.isV)) (ks_ne X2 I2 hcls) (by decide) ?_
  refine kxs_callWith (i := "ValueError.__init__") (x := a) rfl (Calls.evalArgs_plain (Calls.spliced_cons ?_))
  have k3 : ∀ b o, h2.get? b = some o → (h2.push (kxs_mw "ValueError.__init__" a)).get? b = some o := fun b o e => Heap.get?_push_of_some _ e
  have hmw : (h2.push (kxs_mw "ValueError.__init__" a)).get? h2.objs.size = some (kxs_mw "ValueError.__init__" a) := Heap.get?_push_size _ rfl
  have X3 : K.In (h2.push (kxs_mw "ValueError.__init__" a)) := X2.keeps k3
  have hx3 := k3 _ _ hx2
  have Ns3 := (hNs.keeps k2).keeps k3
  have nau : h2.objs.size ≠ a := fun z => by
    have lt := Heap.lt_size hx2
    rw [z] at lt
    exact Nat.lt_irrefl _ lt
  generalize h2.push (kxs_mw "ValueError.__init__" a) = h3 at k3 hmw X3 hx3 Ns3 ⊢
  have sz : ∀ z : Str, z.length ≤ 5000 → z.length ≤ sizeLine := fun z hz => by rw [sizeLine_eq]; omega
  have e0l : Str.empty.length = 0 := rfl
  refine wpAny_JoinedStr (pos := q5) ?_
  refine Calls.Constant_str ⟨pre, _, rfl, sz _ (by rw [str_len, e0l]; omega), wpAny_FormattedValue_plain (wpAny_Name (wpAny_loadName_local hsk hnn Ns3 num1 (wpAny_formatField_int hlg ⟨_, _, rfl, sz _ (by rw [str_len, str_len, e0l]; omega), Calls.Constant_str ⟨post, _, rfl, sz _ (by rw [str_len, str_len, str_len, e0l]; omega), ⟨sz _ (by rw [str_len, str_len, str_len, e0l]; omega), ?_⟩⟩⟩)) hnd)⟩
  refine Calls.spliced_nil ⟨hmw, ?_⟩
  refine call_mwV X3 T.exq hmw hx3 (show 1 ≤ sizeLine by rw [sizeLine_eq]; decide) fun h4 t4 k4 hx4 => ?_
  have kall : ∀ b o, b ≠ a → s.heap.get? b = some o → h4.get? b = some o := fun b o hb e => k4 b o hb (k3 b o (k2 b o (kk b o e)))
  have noK : ∀ b o, K.lookup b = some o → b ≠ a := fun b o e z => by
    rw [z] at e
    have z2 := (e0.bs _ _ (e0.mod.kin _ _ e)).2
    rw [hH] at z2
    cases z2
  have X4 : K.In h4 := fun b o e => kall b o (noK b o e) (KX b o e)
  have aL : s.heap.objs.size ≠ a := Nat.ne_of_gt (Heap.lt_size hx)
  have Ns4 : h4.Ns s.heap.objs.size fun y => ([(("self" : Str), Value.ref a), (n, Value.int i ti)].reverse.lookup y) := by
    obtain ⟨oL, es, ep, hL, rr⟩ := Ns3
    exact ⟨oL, es, ep, k4 _ _ aL hL, rr⟩
  show _root_.PySem.wpAt _ _ _ (execs [.Assign [.Attribute (.Name "self" r1) n r2] (.Name n r3) r4] _) _ _ _
  refine ks_wpAt_execs_cons (ks_wpAt_Assign_Attr (wpAt_of_wpAny (wpAny_Name (wpAny_loadName_local hsk hnn Ns4 num1 (wpAny_Name (wpAny_loadName_local hsk hnl Ns4 self1 ?_) (by decide))) hnd)) ?_)
  · refine set_plain X4 (ox := { cls := .ref C, dict := none, data := .fields #[.ref t4, .none, .none, .none, .bool false, .none] }) (od := none) ⟨hx4, rfl, rfl, trivial⟩ T.T.sa ?_
    refine HandSPX.exc_osa X4 hx4 hcls (show HandSPX.refsVE (.ref C :: bm) = true from hbm) rfl T.noN (fun h5 tk5 dx k5 dn dne hx5 hn5 => ?_)
    show _root_.PySem.wpAt _ _ _ (execs [] _) _ _ _
    refine wpAt_of_wpAny (wpAny_execs_nil ?_)
    have dbig : s.heap.objs.size ≤ dx := Nat.le_trans (Nat.le_of_lt Ns4.lt) dn
    have hnd : H dx = none := e0.hok.fresh dbig
    have k5' : ∀ b o, b ≠ a → s.heap.get? b = some o → h5.get? b = some o := fun b o hb e => k5 b o hb (kall b o hb e)
    have mu : Mut (upd H dx (exd dx [(n, V.int i)]) a) := by rw [upd_ne (Ne.symm dne), hH]; exact True.intro
    have U1 : Un (frs outer) [] H (upd H dx (exd dx [(n, V.int i)])) s.heap s.heap := Un.laid (fun _ _ e => e) dbig hnd
    have U2 : Un (frs outer) [] (upd H dx (exd dx [(n, V.int i)])) (upd (upd H dx (exd dx [(n, V.int i)])) a (exo a C (some dx))) s.heap h5 := Un.write mu (.inl rfl) k5' ⟨_, hx5⟩
    have rel : ∀ f, RelO (([(n, V.int i)] : List (Str × V)).lookup f) (if f = n then some (Value.int i ti) else none) := fun f => relO_put (fs := []) (mA := fun _ => none) (show RelV (V.int i) (Value.int i ti) from ⟨ti, rfl⟩) (fun _ => True.intro) f
    refine ⟨.non, _, rfl, e0.bare, U1.trans U2, fun b o q => ?_, rfl, hq dx hnd dne⟩
    by_cases hb : b = a
    · rw [hb, upd_same] at q
      rw [hb]
      cases q
      exact exo_ok hx5
    rw [upd_ne hb] at q
    by_cases hd : b = dx
    · rw [hd, upd_same] at q
      rw [hd]
      cases q
      exact exd_ok hn5 rel
    rw [upd_ne hd] at q
    have nOwn : ∀ c y, H c = some (.own y) → c ≠ a ∧ c ≠ dx := fun c y e => ⟨at_ne hH e exo_own, ne_of_none e hnd⟩
    refine (e0.hok b o q).stay (fun c v hc z => k5' c v ?_ z) (fun c hc => ?_) fun c xs hc => ?_
    · rcases hc with hc | hc
      · rw [hc]; exact hb
      · exact (nOwn c _ hc).1
    · rw [upd_ne (nOwn c _ hc).1, upd_ne (nOwn c _ hc).2]; exact hc
    · rw [upd_ne (at_ne hH hc exo_tup), upd_ne (ne_of_none hc hnd)]; exact hc
  · rfl
end
end Sd

set_option Elab.async false
set_option linter.all false
set_option maxRecDepth 100000
set_option maxHeartbeats 2000000
/-! defs that return or raise: readings with one more way out, by class and by what the exception keeps -/
namespace Sd
open PySem PySem.Spec PyProof.Rows L2
abbrev XG2 := Addr → List (Str × Int) → M → Prop
abbrev XS2 := Xnds → XG2 → En → M → Prop
abbrev XE2 := En → M → (D → M → Prop) → XG2 → Prop
abbrev XSp2 := List D → M → (D → M → Prop) → XG2 → Prop
def OutX (K : PySem.W.Frag) (H : Hp) (m : M) (W : XK) (G : XG2) : Prop := ∀ C fs d H' m', Stp H m H' m' → RepM K H' m' → ExD H' d fs → G C fs m' → W (.ref C) d H'
theorem OutX.step {K : PySem.W.Frag} {H H1 : Hp} {m m1 : M} {W : XK} {G : XG2} (h : OutX K H m W G) (s : Stp H m H1 m1) : OutX K H1 m1 W G := fun C fs d H' m' s2 => h C fs d H' m' (s.trans s2)
def lowX (K : PySem.W.Frag) (W : XK) (t : XS2) : TS := fun D σ H => ∃ e m D' G, RepS K H e σ ∧ RepM K H m ∧ t D' G e m ∧ ER K H m D' D ∧ OutX K H m W G
def lowXE (K : PySem.W.Frag) (W : XK) (t : XE2) : TE := fun σ H QV => ∃ e m Q G, RepS K H e σ ∧ RepM K H m ∧ t e m Q G ∧ (∀ v H' d' m', Stp H m H' m' → Rep K H' d' v → RepM K H' m' → Q d' m' → QV v H') ∧ OutX K H m W G
section
variable {X : Cx} {W : XK}
theorem PS.upX {st : Stmt} {t : XS} (h : PS X st (lowS X.K t)) : PS X st (lowX X.K W fun D _ e m => t D e m) := PS.imp h fun D σ H ⟨e, m, D', _, rs, rm, h, q, _⟩ => ⟨e, m, D', rs, rm, h, q⟩
theorem PSs.upX {st : List Stmt} {t : XS} (h : PSs X st (lowS X.K t)) : PSs X st (lowX X.K W fun D _ e m => t D e m) := PSs.imp h fun D σ H ⟨e, m, D', _, rs, rm, h, q, _⟩ => ⟨e, m, D', rs, rm, h, q⟩
theorem PE.upX {ex : Expr} {t : XE} (h : PE X ex (low X.K t)) : PE X ex (lowXE X.K W fun e m Q _ => t e m Q) := PE.imp h fun σ H QV ⟨e, m, Q, _, rs, rm, h, q, _⟩ => ⟨e, m, Q, rs, rm, h, q⟩
def xSeq2 (t u : XS2) : XS2 := fun D G e m => t { D with nx := u D G } G e m
theorem xx_cons {st : Stmt} {rest : List Stmt} {t u : XS2} (h : PS X st (lowX X.K W t)) (h2 : PSs X rest (lowX X.K W u)) : PSs X (st :: rest) (lowX X.K W (xSeq2 t u)) :=
  PSs.imp (pss_cons h h2) fun D σ H ⟨e, m, D', G, rs, rm, h, q, g⟩ => ⟨e, m, _, G, rs, rm, h, ⟨fun σ1 H1 e1 m1 s1 rs1 rm1 h1 => ⟨e1, m1, D', G, rs1, rm1, h1, q.step s1, g.step s1⟩, q.rt, q.bk, q.ct⟩, g⟩
theorem xx_one {st : Stmt} {t : XS2} (h : PS X st (lowX X.K W t)) : PSs X [st] (lowX X.K W t) := pss_one h
def xIf2 (c : XT) (t u : XS2) : XS2 := fun D G e m => c e m fun b m1 => if b = true then t D G e m1 else u D G e m1
theorem xx_if {c : Expr} {a b : List Stmt} {tc : XT} {t u : XS2} {pos : Pos} (hc : PT X c (lowT X.K tc)) (ha : PSs X a (lowX X.K W t)) (hb : PSs X b (lowX X.K W u)) : PS X (.If c a b pos) (lowX X.K W (xIf2 tc t u)) :=
  PS.imp (ps_if hc ha hb) fun D σ H ⟨e, m, D', G, rs, rm, h, q, g⟩ => ⟨e, m, _, rs, rm, h, fun b H1 m1 s1 rm1 h1 => by
    cases b with
    | true => exact ⟨e, m1, D', G, rs.ext s1.imm, rm1, h1, q.step s1, g.step s1⟩
    | false => exact ⟨e, m1, D', G, rs.ext s1.imm, rm1, h1, q.step s1, g.step s1⟩⟩
/-- raise X('a text') -/
def xRaise2 (C : Addr) : XS2 := fun _ G _ m => G C [] m
theorem xx_raise {C : Addr} {bmB : List Value} {B newId initId : String} {x mm : Str} {j : Nat} {p p2 cpos pos : Pos} (hc : X.calm = true) (tk : Takes X fun cls d _ H => W cls d H) (F : ExcBaseFacts B newId initId bmB) (q : PySem.W.excIn X.K C bmB newId = true) (gC : X.mg x = some (.ref C)) (kC : PySem.W.keepIn X.K (.ref C) = true) (r : Raises X (.ref C)) (hg : Gl X x)
    (hdb : (x == ("__debug__" : Str)) = false := by decide) : PS X (.Raise (some (.Call (.Name x p) [.Constant (.str mm) j p2] [] cpos)) none pos) (lowX X.K W (xRaise2 C)) :=
  PS.imp (ps_raise hc (tk.imp (W' := fun cls d _ H => cls = .ref C ∧ d = none ∧ W (.ref C) none H) fun c d σ H ⟨h1, h2, h3⟩ => by subst h1 h2; exact h3) (pmk_own F q gC kC r hg hdb)) fun D σ H ⟨e, m, D', G, rs, rm, h, _, g⟩ => ⟨rfl, rfl, g C [] none H m .refl rm rfl h⟩
/-- raise X(i), X keeping the number by the name n -/
def xRaiseN (C : Addr) (n : Str) (t : XE) : XS2 := fun _ G e m => t e m fun x m1 => asI x fun i => (i.natAbs.log2 < 1920 ∧ (Str.ofString (toString i)).length ≤ 1000) ∧ G C [(n, i)] m1
theorem xx_raiseN {C fI : Addr} {x n : Str} {ex : Expr} {t : XE} {k : Nat} {fd : FuncData} {p cpos pos : Pos} (hc : X.calm = true) (tk : Takes X fun cls d _ H => W cls d H) (T : OxT X.prog X.K X.mg C fI x n)
    (F : FnOk X.prog X.w X.K X.mg X.base (fun _ _ _ _ _ _ => False) k fI fd ["self", n] (spOx C n)) (hr : Room (k + 1) X.A) (hb : Binds X.K fd ["self", n] []) (hg : Gl X x) (he : PE X ex (low X.K t))
    (hdb : (x == ("__debug__" : Str)) = false := by decide) (hs : starEach [ex] X.env = (false, eval ex X.env) :: starEach [] X.env := by rfl) :
    PS X (.Raise (some (.Call (.Name x p) [ex] [] cpos)) none pos) (lowX X.K W (xRaiseN C n t)) :=
  PS.imp (ps_raise hc tk (pmk_oex (CX := fun _ _ _ _ _ _ => False) T.T T.iC T.tI F hr hb .nil (fun _ _ _ _ _ _ _ z => z.elim) hg T.gC (pa_cons he pa_nil hs) hdb hs rfl)) fun D σ H ⟨e, m, D', G, rs, rm, h, _, g⟩ => ⟨e, m, _, rs, rm, h, fun v H1 d m1 s1 r1 rm1 h1 => by
    obtain ⟨i, ei, ⟨hlg, hil⟩, h2⟩ := asI_out h1
    subst ei
    simp only [Rep] at r1
    subst r1
    refine ⟨by simp, fun a ha => ⟨a, i, rfl, hlg, hil, upd_same, fun dx hdx hne => ⟨rfl, dx, [(n, .int i)], ?_, ?_, ?_, ?_⟩⟩⟩
    · exact upd_same
    · rw [upd_ne hne, upd_same]
    · rw [upd_ne hne] at hdx; exact hdx
    · have hd1 : H1 dx = none := by rw [upd_ne hne] at hdx; exact hdx
      have e2 : upd (del (upd (upd (upd H1 a (exo a C none)) dx (exd dx [(n, V.int i)])) a (exo a C (some dx))) a) dx (.xd [(n, V.int i)]) = upd H1 dx (.xd [(n, V.int i)]) := by
        funext b
        by_cases c : b = dx
        · rw [c, upd_same, upd_same]
        · rw [upd_ne c, upd_ne c]
          by_cases c2 : b = a
          · rw [c2, del_same, ha]
          · rw [del_ne c2, upd_ne c2, upd_ne c, upd_ne c2]
      rw [e2]
      have st : Stp H1 m1 (upd H1 dx (.xd [(n, V.int i)])) m1 := .new hd1
      exact g C [(n, i)] (some dx) _ m1 (s1.trans st) (fun b o e => by
        obtain ⟨u, f1, f2⟩ := rm1 b o e
        exact ⟨u, by rw [upd_ne (ne_of_none f1 hd1)]; exact f1, f2.ext st.imm⟩) ⟨dx, rfl, upd_same⟩ h2⟩
/-! a for whose body may raise -/
def xLoop2 (ok : M → Prop) (g : XG) (tb : XS2) (N : Xnds) (G : XG2) : List D → En → M → Prop
  | [], e, m => ok m ∧ N.nx e m
  | d :: ds, e, m => ok m ∧ g d e m fun e1 m1 => tb ⟨xLoop2 ok g tb N G ds, N.rt, N.nx, xLoop2 ok g tb N G ds⟩ G e1 m1
theorem xLoop2_ind {ok : M → Prop} {g : XG} {tb : XS2} {N : Xnds} {G : XG2} (I : List D → En → M → Prop) (h0 : ∀ e m, I [] e m → ok m ∧ N.nx e m)
    (h1 : ∀ d ds e m (R : En → M → Prop), I (d :: ds) e m → (∀ e m, I ds e m → R e m) → ok m ∧ g d e m fun e1 m1 => tb ⟨R, N.rt, N.nx, R⟩ G e1 m1) : ∀ xs e m, I xs e m → xLoop2 ok g tb N G xs e m
  | [], e, m, h => h0 e m h
  | d :: ds, e, m, h => h1 d ds e m _ h fun e1 m1 => xLoop2_ind I h0 h1 ds e1 m1
def xFor2 (wi : XI) (g : XG) (tb : XS2) : XS2 := fun D G e m => wi e m fun w m1 => xLoop2 w.ok g tb D G w.xs e m1
theorem xx_for {tg iter : Expr} {body : List Stmt} {wi : XI} {g : XG} {vs : List Nat} {tb : XS2} {pos : Pos} (hp : PassesOwn (model X.prog X.w) X.A X.env X.xe) (hc : X.calm = true) (hi : PI X tg iter (lowI X.K wi)) (hg : PG X tg (lowG X.K vs g)) (hb : PSs X body (lowX X.K W tb))
    (hs : ∀ x, foldedSetIterable iter X.env x = pure x := by intro _; rfl) : PS X (.For tg iter body [] pos) (lowX X.K W (xFor2 wi g tb)) :=
  PS.imp (ps_for hp hc hi hg hb hs) fun D σ H ⟨e, m, D', G, rs, rm, h, q, g0⟩ => ⟨e, m, _, rs, rm, h, fun J H1 w m1 s1 rm1 wk h1 => by
    refine ⟨fun i r σ H' => ∃ e m, i + r = w.xs.length ∧ Stp H1 m1 H' m ∧ RepS X.K H' e σ ∧ RepM X.K H' m ∧ xLoop2 w.ok g tb D' G (w.xs.drop i) e m, ⟨w.xs.length, e, m1, by omega, .refl, rs.ext s1.imm, rm1, by rw [List.drop_zero]; exact h1⟩, fun i r σ2 H2 hw => ?_⟩
    obtain ⟨e2, m2, hl, s2, rs2, rm2, h2⟩ := hw
    by_cases hlt : i < w.xs.length
    · rw [List.drop_eq_getElem_cons hlt] at h2
      obtain ⟨ok, h2⟩ := h2
      obtain ⟨_, hgo⟩ := wk i H2 m2 s2.imm rm2 ok
      obtain ⟨go, yl⟩ := hgo hlt
      refine .inr ⟨go, fun σ3 H3 => ∃ e3 m3, Stp H1 m1 H3 m3 ∧ RepS X.K H3 e3 σ3 ∧ RepM X.K H3 m3 ∧ xLoop2 w.ok g tb D' G (w.xs.drop (i + 1)) e3 m3, fun σ3 H3 ⟨e3, m3, s3, rs3, rm3, h3⟩ => ⟨r - 1, by omega, e3, m3, by omega, s3, rs3, rm3, h3⟩, fun x H3 y => ?_⟩
      obtain ⟨s3, rm3, d, hd, rd⟩ := yl x H3 y
      rw [List.getElem?_eq_getElem hlt] at hd
      cases hd
      refine ⟨_, e2, m2, _, rd, rs2.ext s3.imm, rm3, h2, fun σ4 H4 e4 m4 _ s4 rs4 rm4 h4 => ⟨e4, m4, _, G, rs4, rm4, h4, ?_, g0.step (s1.trans (s2.trans (s3.trans s4)))⟩⟩
      have S4 := s2.trans (s3.trans s4)
      have Q4 := (q.step s1).step S4
      exact ⟨fun σ5 H5 e5 m5 s5 rs5 rm5 h5 => ⟨e5, m5, S4.trans s5, rs5, rm5, h5⟩, Q4.rt, Q4.nx, fun σ5 H5 e5 m5 s5 rs5 rm5 h5 => ⟨e5, m5, S4.trans s5, rs5, rm5, h5⟩⟩
    · rw [List.drop_eq_nil_of_le (by omega)] at h2
      exact .inl ⟨(wk i H2 m2 s2.imm rm2 h2.1).1 (by omega), q.nx σ2 H2 e2 m2 (s1.trans s2) rs2 rm2 h2.2⟩⟩
end
/-! a def that returns or raises -/
def liftX (K : PySem.W.Frag) (sp : XSp2) : Sp := fun vs H QV E => ∃ ds m Q G, Reps K H ds vs ∧ RepM K H m ∧ sp ds m Q G ∧ (∀ v H' d' m', Stp H m H' m' → Rep K H' d' v → RepM K H' m' → Q d' m' → QV v H') ∧ OutX K H m E G
abbrev Fn2 (P : Program) (w : World) (K : PySem.W.Frag) (mg : Str → Option Value) (base : Heap) (k : Nat) (f : Addr) (fd : FuncData) (ps : List Str) (sp : XSp2) : Prop := FnOk P w K mg base (L2.CX P w) k f fd ps (liftX K sp)
section
variable {P : Program} {w : World} {K : PySem.W.Frag} {mg : Str → Option Value} {base : Heap}
theorem fnX2 {x qual : Str} {st : Stmt} {f : Addr} {fd : FuncData} {N ps : List Str} {k : Nat} {sp : XSp2} (F : Fun K x qual st f fd) (S : FnScope N ps (defScope st)) (len : ∀ ds m Q G, sp ds m Q G → ds.length = ps.length)
    (body : ∃ t : XS2, (∀ (cdv : Value) (A : Around) (outer : List Env) (s : Shared) (H : Hp) (E : XK), Room k (A.deeper (envOfC qual (defScope st) s.heap.objs.size f cdv)) →
        Takes (cxOf (L2.CX P w) P w K mg base N qual (defScope st) f cdv A outer s H E) (fun cls d _ H' => E cls d H') →
        PassesOwn (model P w) (cxOf (L2.CX P w) P w K mg base N qual (defScope st) f cdv A outer s H E).A (cxOf (L2.CX P w) P w K mg base N qual (defScope st) f cdv A outer s H E).env (cxOf (L2.CX P w) P w K mg base N qual (defScope st) f cdv A outer s H E).xe →
        PSs (cxOf (L2.CX P w) P w K mg base N qual (defScope st) f cdv A outer s H E) (defBody st) (lowX K E t)) ∧
      ∀ ds m Q G, sp ds m Q G → t ⟨fun _ m' => ∃ m2, Sub m2 m' ∧ Q .non m2, fun d m' => ∃ m2, Sub m2 m' ∧ Q d m2, fun _ _ => False, fun _ _ => False⟩ G (startD N.length ds) m) :
    Fn2 P w K mg base (k + 1) f fd ps sp := by
  obtain ⟨t, ht, hq⟩ := body
  have hps : ps.length ≤ N.length := by have := congrArg List.length S.pre; rw [List.length_take] at this; omega
  refine F.okX S (fun vs H QV E ⟨ds, m, Q, G, r, rm, h, q⟩ => by rw [← r.len]; exact len ds m Q G h) (fun cdv A outer s H vs QV E hr ⟨ds, m, Q, G, r, rm, h, q, g⟩ => ?_)
  refine ⟨_, ht cdv A outer s H E hr (takes_of rfl rfl rfl rfl) (passes_of rfl), _, m, _, G, reps_start r (by rw [len ds m Q G h]; exact hps), rm, hq ds m Q G h, ?_, g⟩
  exact ⟨fun σ H' e m' st rs rm' ⟨m2, sb, h⟩ => q .non H' .non m2 (st.sub sb) (by simp only [Rep]) (rm'.sub sb) h, fun v H' d m' st rv rm' ⟨m2, sb, h⟩ => q v H' d m2 (st.sub sb) rv (rm'.sub sb) h, fun _ _ _ _ _ _ _ h => h.elim, fun _ _ _ _ _ _ _ h => h.elim⟩
end
/-! a call of such a def -/
section
variable {X : Cx} {W : XK} {k : Nat} {f : Addr} {fd : FuncData} {ps : List Str} {sp : XSp2} {x : Str} {p cpos pos : Pos} {ex : Expr} {es : List Expr} {t : XA}
def xCall2 (sp : XSp2) (t : XA) : XE2 := fun e m Q G => t e m fun ds m1 => sp ds m1 Q G
theorem xe_call2 (tk : Takes X fun cls d _ H => W cls d H) (F : Fn2 X.prog X.w X.K X.mg X.base k f fd ps sp) (hr : Room k X.A) (hg : Gl X x) (hm : X.mg x = some (.ref f)) (hk : PySem.W.keepIn X.K (.ref f) = true) (hb : Binds X.K fd ps []) (ha : PA X (ex :: es) (lowA X.K t))
    (hdb : (x == ("__debug__" : Str)) = false := by decide) (he : starEach (ex :: es) X.env = (false, eval ex X.env) :: starEach es X.env := by rfl) (hpl : (backTo cpos (starEach es X.env)).any (·.1) = false := by rfl) :
    PE X (.Call (.Name x p) (ex :: es) [] cpos) (lowXE X.K W (xCall2 sp t)) :=
  PE.imp (pe_call (CX := L2.CX X.prog X.w) (E := W) F hr hg hm hk hb .nil (passes_call tk fun cls d σ H h => h) ha hdb he hpl) fun σ H QV ⟨e, m, Q, G, rs, rm, h, q, g⟩ => ⟨e, m, _, rs, rm, h, fun vs H1 ds m1 s1 r1 rm1 h1 => by
    show liftX X.K sp (vs ++ []) H1 _ _
    rw [List.append_nil]
    exact ⟨ds, m1, Q, G, r1, rm1, h1, fun v H' d' m' s2 => q v H' d' m' (s1.trans s2), g.step s1⟩⟩
/-- the statement of one expression -/
def xDrop2 (t : XE2) : XS2 := fun D G e m => t e m (fun _ m1 => D.nx e m1) G
theorem xx_expr {t : XE2} (h : PE X ex (lowXE X.K W t)) (hs : swapsWith ex none pos.line X.env = pure false := by rfl) : PS X (.Expr ex pos) (lowX X.K W (xDrop2 t)) :=
  PS.imp (ps_expr h hs) fun D σ H ⟨e, m, D', G, rs, rm, h, q, g⟩ => ⟨e, m, _, G, rs, rm, h, fun v H' d' m' s1 r1 rm1 h1 => q.nx σ H' e m' s1 (rs.ext s1.imm) rm1 h1, g⟩
def xRet2 (t : XE2) : XS2 := fun D G e m => t e m (fun d m1 => D.rt d m1) G
theorem xx_ret {t : XE2} (h : PE X ex (lowXE X.K W t)) : PS X (.Return (some ex) pos) (lowX X.K W (xRet2 t)) :=
  PS.imp (ps_ret h) fun D σ H ⟨e, m, D', G, rs, rm, h, q, g⟩ => ⟨e, m, _, G, rs, rm, h, fun v H' d' m' s1 r1 rm1 h1 => q.rt v H' d' m' s1 r1 rm1 h1, g⟩
end
section
variable (P : Program) (w : World) (K : PySem.W.Frag) (mg : Str → Option Value) (base : Heap)
/-- a def that is called by its name and returns or raises -/
structure D2 (k : Nat) (x : Str) (ps : List Str) (sp : XSp2) : Prop where
  ex : ∃ f fd, Fn2 P w K mg base k f fd ps sp ∧ mg x = some (.ref f) ∧ PySem.W.keepIn K (.ref f) = true ∧ Binds K fd ps []
/-- a class whose __init__ keeps one number: all that raising one asks -/
structure K2 (k : Nat) (x n : Str) (C : Addr) : Prop where
  ex : ∃ fI fd, OxT P K mg C fI x n ∧ FnOk P w K mg base (fun _ _ _ _ _ _ => False) k fI fd ["self", n] (spOx C n) ∧ Binds K fd ["self", n] []
end
section
variable {X : Cx} {W : XK} {k : Nat} {ps : List Str} {sp : XSp2} {x : Str} {p cpos pos : Pos} {ex : Expr} {es : List Expr} {t : XA}
theorem xe_call2D (tk : Takes X fun cls d _ H => W cls d H) (c : D2 X.prog X.w X.K X.mg X.base k x ps sp) (hr : Room k X.A) (hg : Gl X x) (ha : PA X (ex :: es) (lowA X.K t))
    (hdb : (x == ("__debug__" : Str)) = false := by decide) (he : starEach (ex :: es) X.env = (false, eval ex X.env) :: starEach es X.env := by rfl) (hpl : (backTo cpos (starEach es X.env)).any (·.1) = false := by rfl) :
    PE X (.Call (.Name x p) (ex :: es) [] cpos) (lowXE X.K W (xCall2 sp t)) :=
  let ⟨_, _, F, hm, hk, hb⟩ := c.ex
  xe_call2 tk F hr hg hm hk hb ha hdb he hpl
theorem xx_raise2D {C : Addr} {n : Str} {t : XE} (hc : X.calm = true) (tk : Takes X fun cls d _ H => W cls d H) (c : K2 X.prog X.w X.K X.mg X.base k x n C) (hr : Room (k + 1) X.A) (hg : Gl X x) (he : PE X ex (low X.K t))
    (hdb : (x == ("__debug__" : Str)) = false := by decide) (hs : starEach [ex] X.env = (false, eval ex X.env) :: starEach [] X.env := by rfl) :
    PS X (.Raise (some (.Call (.Name x p) [ex] [] cpos)) none pos) (lowX X.K W (xRaiseN C n t)) :=
  let ⟨_, _, T, F, hb⟩ := c.ex
  xx_raiseN hc tk T F hr hb hg he hdb hs
end
end Sd

set_option Elab.async false
set_option linter.all false
set_option maxRecDepth 100000
set_option maxHeartbeats 4000000
/-! what an except suite asks of its exception: isinstance, a number it keeps; count and index of a list of truth values -/
namespace Sd
open PySem PySem.Spec PyProof.Rows L2 PySem.W
section
variable {prog : Program} {w : World} {A : Around} {E : Value → Shared → Prop} {s : Shared} {K : Frag} {x D : Addr} {ox : Obj} {od : Option Obj}
theorem found_class (hc : (clsIn K D).isSome = true) {a g : Value} {nm : Str} (ha : findIn K (.ref D) nm = some (some a)) (hg : specialIn K a "__get__" = some (some g)) (ht : takesIn K a = some true) : findObj K D od nm = some (.bind g a) := by
  obtain ⟨cd, e⟩ := Option.isSome_iff_exists.mp hc
  unfold findObj
  rw [e, Option.bind_some, ha, Option.bind_some]
  simp [hg, ht]
theorem exc_class {Q : Option Value → Shared → Prop} (C : ExcC K D) (X : K.In s.heap) (I : InstAt s.heap x ox D od) (hq : Q (some (.ref D)) { s with toks := s.toks + 1 }) : wpAny (model prog w) A (getAttr? (.ref x) "__class__") Q E s := by
  have fd : findObj K D od "__class__" = some (.bind (.builtin "getset_descriptor.__get__") (.builtin "object.__class__")) := found_class (by obtain ⟨cd, e, _⟩ := any_some C.hd; rw [e]; rfl) C.ha C.hn C.ht
  obtain ⟨hp, g, d, t, os⟩ := s
  have l0 := I.type (M := model prog w)
  have l1 := looks_findIn (M := model prog w) X C.hg
  have l2 := looks_findIn (M := model prog w) X C.hk
  have l3 := looks_find (M := model prog w) X I fd
  have sb : Looks (model prog w) hp (isInstance (.ref x) (.type "BaseException")) true := l0.andThen (looks_subIn X C.hs)
  have b0 : (false && onTheHeap (Value.builtin "BaseException.__getattribute__")) = false := rfl
  have b2 : (Value.builtin "BaseException.__getattribute__" == Value.builtin "object.__getattribute__") = false := by decide +kernel
  have b1 : (onTheHeap (Value.ref D) && Value.builtin "BaseException.__getattribute__" == Value.builtin "object.__getattribute__") = false := by rw [b2]; rfl
  unfold getAttr? getAttrBy? getAttrBy
  refine wpAny_bind (wpAny_mkText (wpAny_bind (wpAny_attempt (wpAny_holding (wpAny_bind (l0.at (wpAny_bind (l1.at ?_))))))))
  show wpAny _ _ (if (onTheHeap (Value.ref D) && Value.builtin "BaseException.__getattribute__" == Value.builtin "object.__getattribute__") = true then _ else _) _ _ _
  rw [b1, if_neg Bool.false_ne_true]
  unfold getAttrByItsOwn hookBefore
  refine wpAny_bind ?_
  rw [if_pos (show onTheHeap (Value.ref D) = true from rfl)]
  refine l2.at ?_
  refine wpAny_bind (wpAny_attempt (wpAny_holding ?_))
  unfold callGetattribute
  rw [b0, if_neg Bool.false_ne_true]
  unfold boundAndCalled
  rw [PySem.F.excAttr_ValueError.ga.bind (.ref x)]
  refine wpAny_bind (wpAny_pure ?_)
  show wpAny _ _ (call (.builtin "BaseException.__getattribute__") [.ref x, .str "__class__" t]) _ _ _
  refine wpAny_call (codeAny_call_builtin PySem.F.excAttr_ValueError.ga.plain PySem.F.entry_bexc_ga ?_)
  refine @check_slot (model prog w) _ _ ⟨hp, g, d, t + 1, os⟩ "BaseException.__getattribute__" "BaseException" "__getattribute__" (.ref x) [.str "__class__" t] [] _ (by decide +kernel) (by decide +kernel) sb (PySem.F.args_bexc_ga (.ref x) (.str "__class__" t)) ?_
  unfold Builtin.«object.__getattribute__»
  refine wpAny_bind (wpAny_of_eq (a := ((Value.ref x : Value), [Value.str "__class__" t])) (by first | rfl | (simp only [slotArgs]; rfl)) ?_)
  refine wpAny_bind (wpAny_pure (wpAny_bind (l0.at (wpAny_bind (l3.at ?_)))))
  show wpAny _ _ (holding [Value.builtin "object.__class__"] (call (.builtin "getset_descriptor.__get__") [.builtin "object.__class__", .ref x, .ref D]) >>= ret) _ _ _
  refine wpAny_bind (wpAny_holding (wpAny_call (class_get (s := ⟨hp, g, d, t + 1, os⟩) (ox := ox) (od := od) X I C.hm ?_)))
  refine wpAny_pure ?_
  show wpAny _ _ (handedOut (.ref D)) _ _ _
  rw [handedOut_of (v := .ref D) rfl]
  first
    | exact wpAny_pure (wpAny_pure hq)
    | exact wpAny_pure hq
    | exact wpAny_pure (wpAny_bind (wpAny_pure (wpAny_pure hq)))
theorem exc_kit (C : ExcC K D) : KitX K (.ref x) (.ref D) (fun h => InstAt h x ox D od) where
  ty := fun _ _ _ I => I.type
  it := fun _ _ X _ => by
    obtain ⟨cd, e, _⟩ := any_some C.hd
    unfold clsIn at e
    split at e
    · rename_i ho
      intro A' Q' E' s' k q
      unfold isType loadHead
      exact wpAny_bind (wpAny_loadPart (k _ _ (X _ _ ho)) (wpAny_pure q))
    · cases e
  ne := fun h tp dd its n sl X htp => by
    obtain ⟨cd, e, _⟩ := any_some C.hd
    refine Bool.eq_false_iff.mpr fun q => ?_
    have e2 : D = tp := Value.ref.inj (beq_iff_eq.mp q)
    subst e2
    unfold clsIn at e
    split at e
    · rename_i ho
      have z := (X _ _ ho).symm.trans htp
      cases z
    · cases e
  ca := fun X I q => exc_class C X I q
end
/-- isinstance(e, c), e the suite's exception, its dict known -/
def rIs2 (K : Frag) (D a : Addr) (d : Option Addr) : List V → Hp → VK → Prop := fun xs H Q => ∃ (c : V) (cv : Value) (b : Bool), xs = [.ref a, c] ∧ (∀ u, RelV c u → u = cv) ∧ kitOne K (.ref D) cv = some b ∧ (∀ dd, d = some dd → ∃ fs, H dd = some (.xd fs)) ∧ Q (.bl b) H
theorem call_is2 {X : Cx} {a D : Addr} {d : Option Addr} {oe : Obj} {pn : List (Addr × Obj)} (C : ExcC X.K D) (hz : Zc (.ref D) d oe) (hf : ∃ vs, oe.data = .fields vs) : CallR (X.suite a ((a, oe) :: pn)) (.builtin "isinstance") (rIs2 X.K D a d) := by
  intro pins s σ H xs us Q I r h
  obtain ⟨c, cv, b, rfl, hcv, e, hd, q⟩ := h
  obtain ⟨u0, u1, rfl, rx, rt⟩ := vals2 r
  cases rx
  have ec := hcv _ rt
  subst ec
  obtain ⟨hget, _⟩ := I.pin (a, oe) (List.mem_append.mpr (.inl List.mem_cons_self))
  obtain ⟨vs, hv⟩ := hf
  have J : ∃ od, InstAt s.heap a oe D od := by
    obtain ⟨oc, odd, oda, osl⟩ := oe
    obtain ⟨h1, h2⟩ := hz
    dsimp only at h1 h2 hv
    subst h1 h2 hv
    cases odd with
    | none => exact ⟨none, hget, rfl, rfl, trivial⟩
    | some dd =>
      obtain ⟨fs, hH⟩ := hd dd rfl
      obtain ⟨mA, ⟨o, es, ep, ho, _⟩, _⟩ := I.hok dd _ hH
      exact ⟨some o, hget, rfl, rfl, ho⟩
  obtain ⟨od, J⟩ := J
  exact kia_one (exc_kit C) I.kIn J e (fun z => nomatch z) fun tk => ⟨.bl b, H, I.kept (t' := tk) fun _ _ z => z, rfl, q⟩
/-- a class that _law_word may be told of: cs are the classes by which it asks, in turn; this one stands at idx -/
structure ExW (K : Frag) (cs : List Addr) (D : Addr) (idx : Nat) : Prop where
  c : ExcC K D
  xf : XfC K D
  is : ∀ (i : Nat) (C : Addr), cs[i]? = some C → kitOne K (.ref D) (.ref C) = some (decide (i = idx))
  ve : kitOne K (.ref D) (.type "ValueError") = some true
  fld : ∀ n ∈ (["number", "done", "row"] : List Str), findIn K (.ref D) n = some none
section
variable {X : Cx} {a D : Addr} {d : Option Addr} {cs : List Addr} {idx : Nat} {oe : Obj} {pn : List (Addr × Obj)}
def xIs2 (cs : List Addr) (idx : Nat) (a : Addr) (d : Option Addr) : XC := fun ds m Q => two ds fun x c => ∃ fs, x = .exc a d fs ∧ ((∃ i C, c = .ref C ∧ cs[i]? = some C ∧ Q (.bl (decide (i = idx))) m) ∨ (c = .ty "ValueError" ∧ Q (.bl true) m))
theorem exd_xd {H : Hp} {d : Option Addr} {fs : List (Str × Int)} (h : ExD H d fs) : ∀ dd, d = some dd → ∃ gs, H dd = some (.xd gs) := fun dd e => by
  cases fs with
  | nil => cases (show d = none from h).symm.trans e
  | cons p fs =>
    obtain ⟨d2, e1, e2⟩ := h
    cases e1.symm.trans e
    exact ⟨_, e2⟩
theorem xc_is2 (W : ExW X.K cs D idx) (hz : Zc (.ref D) d oe) (hf : ∃ vs, oe.data = .fields vs) : CallR (X.suite a ((a, oe) :: pn)) (.builtin "isinstance") (lowC X.K (xIs2 cs idx a d)) :=
  CallR.imp (call_is2 W.c hz hf) fun xs H QV ⟨ds, m, Q, r, rm, h, q⟩ => by
    obtain ⟨x, c, ex, h0⟩ := two_out h
    obtain ⟨fs, e1, h2⟩ := h0
    subst ex e1
    simp only [Reps, Rep] at r
    obtain ⟨v, _, rfl, ⟨rfl, xd⟩, v2, _, rfl, rc, rfl⟩ := r
    rcases h2 with ⟨i, C, ec, hi, h9⟩ | ⟨ec, h9⟩
    · subst ec
      simp only [Rep] at rc
      subst rc
      exact ⟨.ref C, .ref C, _, rfl, fun u e => e, W.is i C hi, exd_xd xd, q _ H _ m .refl (by simp only [Rep]) rm h9⟩
    · subst ec
      simp only [Rep] at rc
      subst rc
      exact ⟨.ty "ValueError", .type "ValueError", _, rfl, fun u e => e, W.ve, exd_xd xd, q _ H _ m .refl (by simp only [Rep]) rm h9⟩
/-- a number that the suite's exception keeps -/
def xXf (a : Addr) (d : Option Addr) (n : Str) (t : XE) : XE := fun e m Q => t e m fun x m1 => ∃ fs i, x = .exc a d fs ∧ fs.lookup n = some i ∧ Q (.int i) m1
theorem look_ints (n : Str) : ∀ fs : List (Str × Int), (fs.map fun p => (p.1, V.int p.2)).lookup n = (fs.lookup n).map V.int
  | [] => rfl
  | p :: fs => by
    rw [List.map_cons, List.lookup_cons, List.lookup_cons]
    cases n == p.1 with
    | true => rfl
    | false => exact look_ints n fs
theorem xe_xf {n : Str} {t : XE} {ex : Expr} {pos : Pos} (W : ExW X.K cs D idx) (hz : Zc (.ref D) d oe) (hf : ∃ vs, oe.data = .fields vs) (hn : n ∈ (["number", "done", "row"] : List Str)) (h : PE (X.suite a ((a, oe) :: pn)) ex (low X.K t)) (hb : attributeBase ex n X.env (eval ex X.env) = eval ex X.env := by rfl) :
    PE (X.suite a ((a, oe) :: pn)) (.Attribute ex n pos) (low X.K (xXf a d n t)) :=
  PE.imp (pe_xf W.xf (W.fld n hn) hz hf h hb) fun σ H QV ⟨e, m, Q, rs, rm, h, q⟩ => ⟨e, m, _, rs, rm, h, fun v H1 dx m1 s1 r1 rm1 h1 => by
    obtain ⟨fs, i, e1, hl, h1⟩ := h1
    subst e1
    simp only [Rep] at r1
    obtain ⟨rfl, xd⟩ := r1
    cases fs with
    | nil => cases hl
    | cons p fs =>
      obtain ⟨dd, e1, e2⟩ := xd
      refine ⟨rfl, rfl, dd, _, .int i, e1, e2, by rw [look_ints, hl]; rfl, q _ H1 _ m1 s1 (by simp only [Rep]) rm1 h1⟩⟩
end
/-! count and index of a list of truth values -/
section
variable {X : Cx}
theorem countP_U {y : V} : ∀ {ys : List V} {us : List Value}, Vals ys us → ys.all flatV = true → us.countP (eqU y) = ys.countP (fun z => eqV z y)
  | _, _, .nil, _ => rfl
  | z :: ys, u :: us, .cons r t, f => by
    rw [List.all_cons, Bool.and_eq_true] at f
    rw [List.countP_cons, List.countP_cons, countP_U t f.2, eqU_of r f.1]
def rCntF (K : Frag) : V → List V → Hp → VK → Prop := fun x xs H Q => ∃ (p : Addr) (ys : List V) (y : V), x = .ref p ∧ xs = [y] ∧ SqL K H p ys ∧ flatV y = true ∧ ys.all flatV = true ∧ Q (.int (ys.countP (fun z => eqV z y) : Nat)) H
theorem mt_cntF : MtR X "list.count" (rCntF X.K) := by
  intro pins s σ H x xs v us Q I rx rxs h
  obtain ⟨p, ys, y, rfl, rfl, hs, fy, fys, q⟩ := h
  cases rx
  obtain ⟨u, rfl, ru⟩ := rxs.one
  obtain ⟨its, rv, ⟨⟨cls, dd, data, sl⟩, n, ho, hc, hdn, hd⟩, hlen⟩ := I.list hs
  simp only at hc hd
  subst hc hd
  refine call_meets PySem.F.slot_list_count ⟨_, ho, rfl⟩ PySem.F.entry_list_count (PySem.F.args_list_count_2 _ _)
    (SeqAt.list_countAt p its.toArray n dd sl u (eqU y)) ⟨ho, fun z hz => mem_eqAt ru fy rv fys z (by simpa using hz), ?_⟩
  refine ⟨.int (ys.countP (fun z => eqV z y) : Nat), H, I.tok _, ⟨s.toks, ?_⟩, q⟩
  show Value.int ((its.toArray.toList.countP (eqU y) : Nat) : Int) s.toks = _
  rw [show its.toArray.toList = its from rfl, countP_U rv fys]
theorem reps_bls {K : Frag} {H : Hp} : ∀ (bs : List Bool) (vs : List V), Reps K H (bs.map D.bl) vs → vs = bs.map V.bl
  | [], vs, r => by simp only [List.map_nil, Reps] at r; exact r
  | y :: ys, vs, r => by
    simp only [List.map_cons, Reps, Rep] at r
    obtain ⟨v, us, rfl, rfl, r⟩ := r
    rw [reps_bls ys us r]; rfl
theorem flat_bls (bs : List Bool) : (bs.map V.bl).all flatV = true := by
  rw [List.all_map]
  exact List.all_eq_true.mpr fun _ _ => rfl
theorem cnt_bls (b : Bool) : ∀ bs : List Bool, (bs.map V.bl).countP (fun z => eqV z (V.bl b)) = bs.count b
  | [] => rfl
  | c :: bs => by
    rw [List.map_cons, List.countP_cons, cnt_bls b bs, List.count_cons]; rfl
def xCnt (to te : XE) : XE := fun e m Q => to e m fun o m1 => ∃ bs : List Bool, lstD m1 o = some (bs.map .bl) ∧ te e m1 fun y m2 => ∃ b, y = .bl b ∧ lstD m2 o = some (bs.map .bl) ∧ Q (.int (bs.count b : Nat)) m2
theorem xe_cnt {o ex : Expr} {to te : XE} {apos cpos : Pos} (ho : PE X o (low X.K to)) (he : PE X ex (low X.K te))
    (hbase : attributeBase o "count" X.env (eval o X.env) = eval o X.env := by rfl)
    (hfew : ((backTo cpos (starEach [ex] X.env)).all (fun x => !x.1) && (backToKw cpos (keywordEach [] X.env)).all (fun x => x.1.isSome)
      && decide ([ex].length + ([] : List Keyword).length + (if ([] : List Keyword).isEmpty then 0 else 1) < 30)) = true := by rfl)
    (hline : (apos.endLine == cpos.line) = true := by rfl) (hs : starEach [ex] X.env = (false, eval ex X.env) :: starEach [] X.env := by rfl) (hplain : (backTo cpos (starEach [] X.env)).any (·.1) = false := by rfl) :
    PE X (.Call (.Attribute o "count" apos) [ex] [] cpos) (low X.K (xCnt to te)) :=
  PE.imp (pe_bm PySem.F.plainAttrs_list PySem.F.slot_list_count PySem.F.type_list_count mt_cntF ho (pa_cons he pa_nil hs) hbase hfew hline hs hplain) fun σ H QV ⟨e, m, Q, rs, rm, h, q⟩ => ⟨e, m, _, rs, rm, h, fun vo H1 o m1 s1 r1 rm1 h1 => by
    obtain ⟨bs, hl, h1⟩ := h1
    obtain ⟨p, ys, rfl, sq, ry⟩ := lst_out rm1 r1 hl
    refine ⟨.inl ⟨rfl, ys, sq⟩, e, m1, _, rs.ext s1.imm, rm1, h1, fun y H2 dy m2 s2 r2 rm2 h2 => ?_⟩
    obtain ⟨b, e1, hl2, h2⟩ := h2
    subst e1
    simp only [Rep] at r2
    subst r2
    obtain ⟨p2, zs, e2, sq2, rz⟩ := lst_out rm2 (r1.ext s2.imm) hl2
    cases e2
    have ez := reps_bls bs zs rz
    subst ez
    exact ⟨p, _, .bl b, rfl, rfl, sq2, rfl, flat_bls bs, by rw [cnt_bls]; exact q _ _ (.int _) _ (s1.trans s2) (by simp only [Rep]) rm2 h2⟩⟩
def xIdx (to te : XE) : XE := fun e m Q => to e m fun o m1 => ∃ bs : List Bool, lstD m1 o = some (bs.map .bl) ∧ te e m1 fun y m2 => ∃ (b : Bool) (j : Nat), y = .bl b ∧ lstD m2 o = some (bs.map .bl) ∧ bs[j]? = some b ∧ (∀ (k : Nat) (c : Bool), k < j → bs[k]? = some c → c ≠ b) ∧ Q (.int (j : Nat)) m2
theorem xe_idx {o ex : Expr} {to te : XE} {apos cpos : Pos} (ho : PE X o (low X.K to)) (he : PE X ex (low X.K te))
    (hbase : attributeBase o "index" X.env (eval o X.env) = eval o X.env := by rfl)
    (hfew : ((backTo cpos (starEach [ex] X.env)).all (fun x => !x.1) && (backToKw cpos (keywordEach [] X.env)).all (fun x => x.1.isSome)
      && decide ([ex].length + ([] : List Keyword).length + (if ([] : List Keyword).isEmpty then 0 else 1) < 30)) = true := by rfl)
    (hline : (apos.endLine == cpos.line) = true := by rfl) (hs : starEach [ex] X.env = (false, eval ex X.env) :: starEach [] X.env := by rfl) (hplain : (backTo cpos (starEach [] X.env)).any (·.1) = false := by rfl) :
    PE X (.Call (.Attribute o "index" apos) [ex] [] cpos) (low X.K (xIdx to te)) :=
  PE.imp (pe_bm PySem.F.plainAttrs_list PySem.F.slot_list_index PySem.F.type_list_index mt_index ho (pa_cons he pa_nil hs) hbase hfew hline hs hplain) fun σ H QV ⟨e, m, Q, rs, rm, h, q⟩ => ⟨e, m, _, rs, rm, h, fun vo H1 o m1 s1 r1 rm1 h1 => by
    obtain ⟨bs, hl, h1⟩ := h1
    obtain ⟨p, ys, rfl, sq, ry⟩ := lst_out rm1 r1 hl
    refine ⟨.inl ⟨rfl, ys, sq⟩, e, m1, _, rs.ext s1.imm, rm1, h1, fun y H2 dy m2 s2 r2 rm2 h2 => ?_⟩
    obtain ⟨b, j, e1, hl2, hj, hno, h2⟩ := h2
    subst e1
    simp only [Rep] at r2
    subst r2
    obtain ⟨p2, zs, e2, sq2, rz⟩ := lst_out rm2 (r1.ext s2.imm) hl2
    cases e2
    have ez := reps_bls bs zs rz
    subst ez
    refine ⟨p, _, .bl b, j, .bl b, rfl, rfl, sq2, rfl, flat_bls bs, by rw [List.getElem?_map, hj]; rfl, by simp [eqV], fun k z hk hz => ?_, q _ _ (.int _) _ (s1.trans s2) (by simp only [Rep]) rm2 h2⟩
    rw [List.getElem?_map] at hz
    obtain ⟨c, hc, rfl⟩ := Option.map_eq_some_iff.mp hz
    simpa [eqV] using hno k c hk hc⟩
/-- a class of the module, as a value -/
def xCls (C : Addr) : XE := fun _ m Q => Q (.ref C) m
theorem xe_cls {x : Str} {C : Addr} {pos : Pos} (hg : Gl X x) (hm : X.mg x = some (.ref C)) (hd : (x == ("__debug__" : Str)) = false := by decide) : PE X (.Name x pos) (low X.K (xCls C)) :=
  PE.imp (pe_glob (v := .ref C) hg hm rfl hd) fun σ H QV ⟨e, m, Q, rs, rm, h, q⟩ => q _ H _ m .refl (by simp only [Rep]) rm h
end
end Sd

set_option Elab.async false
set_option linter.all false
set_option maxRecDepth 100000
set_option maxHeartbeats 4000000
/-! _law_word(lambda: f(..)): a def that calls what it gets and tells what is refused -/
namespace Sd
open PySem PySem.Spec PyProof.Rows L2
def wordD (idx : Nat) (fs : List (Str × Int)) : Option D :=
  match idx with
  | 0 => (fs.lookup ("number" : Str)).map fun i => .tup [.str "walkers", .int i]
  | 1 => (fs.lookup ("number" : Str)).map fun i => .tup [.str "chain", .int i]
  | 2 => (fs.lookup ("number" : Str)).map fun i => .tup [.str "deed", .int i]
  | 3 => (fs.lookup ("number" : Str)).bind fun i => (fs.lookup ("done" : Str)).map fun j => .tup [.str "halted", .int i, .int j]
  | 4 => (fs.lookup ("row" : Str)).map fun i => .tup [.str "text", .int i]
  | 5 => some (.tup [.str "place"])
  | 6 => some (.tup [.str "time"])
  | 7 => some (.tup [.str "point"])
  | 8 => some (.tup [.str "walker"])
  | 9 => some (.tup [.str "never"])
  | _ => none
/-- what an exception must be, so that _law_word tells what is wanted -/
def WordX (K : PySem.W.Frag) (cs : List Addr) (aR : Addr) (Q : VK) : XK := fun cls d H => ∃ (C : Addr) (idx : Nat) (fs : List (Str × Int)) (m : M) (Q' : D → M → Prop) (dv : D), cls = .ref C ∧ ExW K cs C idx ∧ PySem.W.exmOne K (.ref C) (.ref aR) = some true ∧ ExD H d fs ∧ RepM K H m ∧ wordD idx fs = some dv ∧ Q' dv m ∧
  ∀ v H' d' m', Stp H m H' m' → Rep K H' d' v → RepM K H' m' → Q' d' m' → Q v H'
def TTw (K : PySem.W.Frag) (cs : List Addr) (aR : Addr) : (XK → Hp → VK → Prop) → Hp → VK → Prop := fun tl H Q => tl (WordX K cs aR Q) H fun _ H' => Q .non H'
section
variable {X : Cx}
/-- the suite's reading: D' from what is known of the exception -/
theorem word_gives {Ng : List Str} {q : Str} {sg : Scope} {g : Addr} {cdg : Value} {cs : List Addr} {aR : Addr} {b₀ : Stmt} {suite : List Stmt} {j i : Nat} {p1 p2 p3 p4 p5 p6 p7 p8 : Pos} {N0 : Nat}
    (hge : sg.names.lookup ("RoadError" : Str) = some NameKind.globalImplicit) (hme : X.mg ("RoadError" : Str) = some (.ref aR)) (h0 : ∀ f : Addr, (L2.start Ng [V.ref f])[0]? = some (some (V.ref f))) (hNd : Ng.Nodup) (hi : Ng[i]? = some ("e" : Str)) (hle : sg.names.lookup ("e" : Str) = some NameKind.local) (hN0 : Ng.length = N0)
    (hw : ∀ (a : Addr) (d : Option Addr) (idx : Nat), ∃ t : XS, (∀ (A : Around) (s : Shared) (H : Hp) (D : Addr) (oe : Obj) (pn : List (Addr × Obj)), A = X.A → ExW X.K cs D idx → Zc (.ref D) d oe → (∃ vs, oe.data = .fields vs) →
      PSs ((cxOf C8.CX0 X.prog X.w X.K X.mg X.base Ng "_law_word" sg g cdg A X.stack s H C8.E0).nox.suite a ((a, oe) :: pn)) (b₀ :: suite) (lowS X.K t)) ∧
      (∀ (fs : List (Str × Int)) (dv : D) (m : M) (Q' : D → M → Prop), wordD idx fs = some dv → Q' dv m → t ⟨fun _ _ => False, fun d' m' => ∃ m2, Sub m2 m' ∧ Q' d' m2, fun _ _ => False, fun _ _ => False⟩ ((List.replicate N0 none).set i (some (.exc a d fs))) m)) :
    LamX.GivesTo X Ng "_law_word" sg g cdg [.Try [.Expr (.Call (.Name "_law_work" p1) [] [] p2) p3] [.ExceptHandler (some (.Name "RoadError" p4)) (some "e") (b₀ :: suite) p5] [] [] p6, .Return (some (.Constant .none j p7)) p8] "_law_work" q (TTw X.K cs aR) := by
  intro f c' s H Q tl act hc h
  have hsu := fun a d idx => Classical.choose_spec (hw a d idx)
  obtain ⟨ts, hts⟩ : ∃ ts : Addr → Option Addr → Nat → XS, ts = fun a d idx => Classical.choose (hw a d idx) := ⟨_, rfl⟩
  have hsu : ∀ a d idx, _ := fun a d idx => (show Classical.choose (hw a d idx) = ts a d idx by rw [hts]) ▸ hsu a d idx
  have hgl : Gl (cxOf C8.CX0 X.prog X.w X.K X.mg X.base Ng "_law_word" sg g cdg X.A X.stack s H C8.E0).nox "RoadError" := hge
  refine ⟨_, pss_cons (ps_try_as (X := (cxOf C8.CX0 X.prog X.w X.K X.mg X.base Ng "_law_word" sg g cdg X.A X.stack s H C8.E0).nox) (c := .ref aR) (i := i)
      (tb := fun W D σ H => ∃ Ech : XK, (∀ cls d σ' H', Ech cls d H' → W cls d σ' H') ∧ σ[0]? = some (some (.ref f)) ∧ H c' = some (LamX.CodeO c' q) ∧ tl Ech H fun _ H' => D.nx σ H')
      (ts := fun a cls d D σ H => ∃ (C : Addr) (idx : Nat), cls = .ref C ∧ ExW X.K cs C idx ∧ (σ.length = N0 → lowS X.K (ts a d idx) D σ H)) (Wout := fun _ _ _ _ => False)
      rfl rfl hNd hi hle ⟨hgl, by decide, .inl hme⟩ LamX.takes0 (fun W pn xe tk _ => ?_) (fun a oe cls d pn hz hf => ?_)) (pss_one (ps_ret pe_non)), ?_⟩
  · refine ⟨fun pins s' σ H' D I h' => ?_⟩
    obtain ⟨Ech, hW, h1, h2, h3⟩ := h'
    have hp := act W pn xe Ech p1 p2 tk hW
    have hq := pss_one (ps_expr (pos := p3) hp rfl)
    exact hq.run pins s' σ H' D I ⟨h1, h2, h3⟩
  · refine ⟨fun pins s' σ H' D I h' => ?_⟩
    obtain ⟨C, idx, e, W, h'⟩ := h'
    subst e
    exact ((hsu a d idx).1 X.A s H C oe pn rfl W hz hf).run pins s' σ H' D I (h' (by rw [I.len, ← hN0]; rfl))
  · refine ⟨WordX X.K cs aR Q, fun cls d σ' H' hw => ?_, h0 f, hc, h⟩
    obtain ⟨C, idx, fs, m, Q', dv, e, W, hx, xd, rm, hd, hq, q⟩ := hw
    subst e
    refine ⟨true, hx, fun _ a ha => ⟨C, idx, rfl, W, fun hl => ⟨_, m, _, ⟨by rw [List.length_set, List.length_set, List.length_replicate, ← hl, List.length_set], fun k dk hk => ?_⟩, rm, (hsu a d idx).2 fs dv m Q' hd hq, ?_⟩⟩, fun z => nomatch z⟩
    · rw [List.length_set] at hl
      by_cases e : i = k
      · subst e
        by_cases hik : i < N0
        · rw [List.getElem?_set_self (by rw [List.length_replicate]; exact hik)] at hk
          cases hk
          exact ⟨.ref a, List.getElem?_set_self (by rw [hl]; exact hik), by simp only [Rep]; exact ⟨trivial, xd⟩⟩
        · rw [List.getElem?_eq_none (by rw [List.length_set, List.length_replicate]; omega)] at hk; cases hk
      · rw [List.getElem?_set_ne e, List.getElem?_replicate] at hk
        split at hk <;> cases hk
    · exact ⟨fun _ _ _ _ _ _ _ z => z.elim, fun v H2 d' m' st rv rm' ⟨m2, sb, hq2⟩ => q v H2 d' m2 (st.sub sb) rv (rm'.sub sb) hq2, fun _ _ _ _ _ _ _ z => z.elim, fun _ _ _ _ _ _ _ z => z.elim⟩
end
end Sd

set_option Elab.async false
set_option linter.all false
set_option maxRecDepth 100000
set_option maxHeartbeats 4000000
/-! _law_word(lambda: f(..)) in the layer -/
namespace Sd
open PySem PySem.Spec PyProof.Rows L2
theorem repM_ext {K : PySem.W.Frag} {H H2 : Hp} {m : M} (eN : LamX.ExtN H H2) (T2 : ∀ b r, tabQ m b = some r → LamX.TabS H2 b r) (rm : RepM K H m) : RepM K H2 m := fun b o hb => by
  have im : ImmX H H2 := (stp_ext (m := m) eN).imm
  obtain ⟨u, g1, g2⟩ := rm b o hb
  cases o with
  | tab r =>
    obtain ⟨ps2, f1, f2, f3⟩ := T2 b r (tabQ_eq hb)
    exact ⟨_, f1, ps2, rfl, f2, f3⟩
  | lst ds => obtain ⟨xs, e5, _⟩ := id g2; exact ⟨u, eN b u g1 (by subst e5; exact fun _ z => nomatch z), g2.ext im⟩
  | ins C fs => obtain ⟨dx, xs, e5, _⟩ := id g2; exact ⟨u, eN b u g1 (by subst e5; exact fun _ z => nomatch z), g2.ext im⟩
  | dK kvs => obtain ⟨xs, e5, _⟩ := id g2; exact ⟨u, eN b u g1 (by subst e5; exact fun _ z => nomatch z), g2.ext im⟩
  | dT kvs => obtain ⟨xs, e5, _⟩ := id g2; exact ⟨u, eN b u g1 (by subst e5; exact fun _ z => nomatch z), g2.ext im⟩
  | fK kvs => obtain ⟨ob, xs, e5, _⟩ := id g2; exact ⟨u, eN b u g1 (by subst e5; exact fun _ z => nomatch z), g2.ext im⟩
/-- what the text's _law_word is: a def that gives its lambda the suite's telling -/
structure WordC (P : Program) (w : World) (K : PySem.W.Frag) (mg : Str → Option Value) (base : Heap) (cs : List Addr) (aR : Addr) : Prop where
  ex : ∃ (st : Stmt) (g : Addr) (fd : FuncData) (Ng : List Str), Fun K "_law_word" "_law_word" st g fd ∧ mg "_law_word" = some (.ref g) ∧ PySem.W.keepIn K (.ref g) = true ∧ L2.Binds K fd ["_law_work"] [] ∧ FnScope Ng ["_law_work"] (defScope st) ∧ Ng[0]? = some ("_law_work" : Str) ∧ Vis (defScope st) "_law_work" ∧
    ∀ (X : Cx) (q : Str) (cdv : Value), X.prog = P → X.w = w → X.K = K → X.mg = mg → X.base = base → Room 1 X.A → LamX.GivesTo X Ng "_law_word" (defScope st) g cdv (defBody st) "_law_work" q (TTw X.K cs aR)
section
variable {X : Cx}
def tLamQ (P : Addr) (q : Str) (TT : (XK → Hp → VK → Prop) → Hp → VK → Prop) (t : XK → TE) : TE := fun σ H Q => ∃ tq : Addr → Option Str, tq P = some q ∧ (∀ b r, tq b = some r → LamX.TabS H b r) ∧
  ∀ H1, LamX.ExtN H H1 → (∀ b r, tq b = some r → LamX.TabS H1 b r) → TT (fun E H' Q' => t E σ H' Q') H1 Q
theorem pe_word {cs : List Addr} {aR : Addr} {c P : Addr} {k : Nat} {params : Arguments} {body : Expr} {scope : Scope} {t : XK → TE} {p lpos pos : Pos} (C : WordC X.prog X.w X.K X.mg X.base cs aR) (hg : Gl X "_law_word")
    (TB : LamX.TabB X.base X.mg c P) (hcode : X.env.code = .ref c) (hr : Room (k + 2) X.A) (hr1 : Room 1 X.A) (L : LamX.LamS X.env.scope scope) (hdef : defaultsOf params X.env = ([], []))
    (hbind : ∀ (q : Str) (cl : List (Str × Addr)) (pm cv ctv : Value), bindArgs (PySem.W.kla_fn "<lambda>" q params body scope cl pm cv ctv) ⟨[], []⟩ = pure [])
    (hbody : ∀ (A : Around) (outer : List Env) (s : Shared) (H : Hp) (E : XK) (f c' : Addr), Room k (A.deeper (LamX.lamEnv X scope s.heap.objs.size f c')) → PE (LamX.lamCx X A outer s H E scope f c') body (t E)) :
    PE X (.Call (.Name "_law_word" p) [.Lambda params body scope lpos] [] pos) (tLamQ P (X.env.qual ++ "<lambda>") (TTw X.K cs aR) t) := by
  obtain ⟨st, g, fd, Ng, F, hm, hk, hb, Sg, hNg, hva, hG⟩ := C.ex
  obtain ⟨oc, od, kV, doc, pm, an, cdv, ct, osl, rfl, lk, hcd⟩ := F.ex
  refine ⟨fun pins s σ H Q I h => ?_⟩
  obtain ⟨tq, hP, hT, h⟩ := h
  obtain ⟨T, hTd⟩ : ∃ T : List (Addr × Str), T = (List.range s.heap.objs.size).filterMap fun b => (tq b).map fun r => (b, r) := ⟨_, rfl⟩
  have mT : ∀ b r, (b, r) ∈ T ↔ tq b = some r := fun b r => by
    rw [hTd, List.mem_filterMap]
    constructor
    · rintro ⟨x, _, e⟩
      cases q : tq x with
      | none => rw [q] at e; cases e
      | some y => rw [q] at e; cases e; exact q
    · intro e
      obtain ⟨ps, e1, _⟩ := hT b r e
      exact ⟨b, List.mem_range.mpr (I.hok.lt e1), by rw [e]; rfl⟩
  exact (LamX.pe_lamcall (T := T) (TT := TTw X.K cs aR) hg hm hk lk hcd hb Sg hNg hva (hG X _ cdv rfl rfl rfl rfl rfl hr1) TB hcode ((mT _ _).mpr hP) (fun p hp e => by have := (mT p.1 p.2).mp hp; rw [e, hP] at this; exact (Option.some.inj this).symm) hr L hdef hbind hbody (by decide) (by decide) (by decide)).run pins s σ H Q I
    ⟨fun p hp => hT _ _ ((mT p.1 p.2).mp hp), fun H1 eN T1 => h H1 eN fun b r e => T1 _ ((mT b r).mpr e)⟩
/-- what a call tells: nothing, or the word of what it raises -/
def xWord (P : Addr) (q : Str) (ok : Addr → Nat → Prop) (tb : XE2) : XE := fun e m Q => m P = some (.tab q) ∧ tb e m (fun _ m1 => Q .non m1) fun C fs m1 => ∃ idx dv, ok C idx ∧ wordD idx fs = some dv ∧ Q dv m1
theorem xe_word {cs : List Addr} {aR : Addr} {c P : Addr} {k : Nat} {params : Arguments} {body : Expr} {scope : Scope} {tb : XE2} {ok : Addr → Nat → Prop} {q : Str} {p lpos pos : Pos} (C : WordC X.prog X.w X.K X.mg X.base cs aR)
    (hok : ∀ C idx, ok C idx → ExW X.K cs C idx ∧ PySem.W.exmOne X.K (.ref C) (.ref aR) = some true) (hg : Gl X "_law_word") (TB : LamX.TabB X.base X.mg c P) (hcode : X.env.code = .ref c) (hr : Room (k + 2) X.A) (hr1 : Room 1 X.A) (L : LamX.LamS X.env.scope scope)
    (hbody : ∀ (A : Around) (outer : List Env) (s : Shared) (H : Hp) (E : XK) (f c' : Addr), Room k (A.deeper (LamX.lamEnv X scope s.heap.objs.size f c')) → PE (LamX.lamCx X A outer s H E scope f c') body (lowXE X.K E tb))
    (hq : X.env.qual ++ "<lambda>" = q := by rfl) (hdef : defaultsOf params X.env = ([], []) := by rfl)
    (hbind : ∀ (q : Str) (cl : List (Str × Addr)) (pm cv ctv : Value), bindArgs (PySem.W.kla_fn "<lambda>" q params body scope cl pm cv ctv) ⟨[], []⟩ = pure [] := by intros; rfl) :
    PE X (.Call (.Name "_law_word" p) [.Lambda params body scope lpos] [] pos) (low X.K (xWord P q ok tb)) := by
  subst hq
  refine PE.imp (pe_word C hg TB hcode hr hr1 L hdef hbind hbody) fun σ H QV h0 => ?_
  obtain ⟨e, m, Q, rs, rm, h, qq⟩ := h0
  obtain ⟨htab, hb⟩ := h
  refine ⟨tabQ m, tabQ_eq htab, fun b r hb => ?_, fun H2 eN T2 => ?_⟩
  · obtain ⟨ho3, g1, ps3, g2, g3, g4⟩ := rm b _ (tabQ_out hb)
    subst g2
    exact ⟨ps3, g1, g3, g4⟩
  have sN : Stp H m H2 m := stp_ext eN
  exact ⟨e, m, _, _, rs.ext sN.imm, repM_ext eN T2 rm, hb, fun v H' d' m' st rv rm' hq => qq .non H' .non m' (sN.trans st) (by simp only [Rep]) rm' hq, fun C fs d H' m' st rm' xd hG => by
    obtain ⟨idx, dv, ok, hw, hq⟩ := hG
    exact ⟨C, idx, fs, m', Q, dv, rfl, (hok _ _ ok).1, (hok _ _ ok).2, xd, rm', hw, hq, fun v H3 d' m3 st3 rv3 rm3 hq3 => qq v H3 d' m3 ((sN.trans st).trans st3) rv3 rm3 hq3⟩⟩
end
end Sd

set_option Elab.async false
set_option linter.all false
set_option maxRecDepth 100000
set_option maxHeartbeats 4000000
/-! what the written part says of the program's exception classes -/
namespace Sd
open PySem PySem.Spec PyProof.Rows L2 PySem.W
def oexB (K : Frag) (C : Addr) : Bool := match K.lookup C with
  | some ⟨.type "type", _, .cls cd, sl⟩ => (match cd.mro, sl.toList with
    | .ref C' :: bm, [_, _, _, _, some (.builtin n), _] => C' == C && n == "ValueError.__new__" && !cd.hasDel && cd.hasDict && PySem.HandSPX.refsVE bm
    | _, _ => false)
  | _ => false
theorem oex_of {K : Frag} {C : Addr} (q : oexB K C = true) (sa : findIn K (.ref C) "__setattr__" = some (some (.builtin "object.__setattr__"))) (b : subIn K (.ref C) (.type "BaseException") = some true) (t : typeIn K (.ref C) = some (.type "type")) (k : keepIn K (.ref C) = true) : OexC K C := by
  refine ⟨?_, sa, b, t, k⟩
  unfold oexB at q
  split at q
  · rename_i dd cd sl ho
    split at q
    · rename_i C' bm k0 k1 k2 k3 n k5 hm hs
      simp only [Bool.and_eq_true, beq_iff_eq, Bool.not_eq_true'] at q
      obtain ⟨⟨⟨⟨rfl, rfl⟩, hdel⟩, hd⟩, ht⟩ := q
      obtain ⟨nm, bs, mro, ns, qn, hdc, sn, sub, ab, col, del⟩ := cd
      dsimp only at hm hdel hd
      subst hm hdel hd
      have hsl : sl = #[k0, k1, k2, k3, some (.builtin "ValueError.__new__"), k5] := by
        obtain ⟨l⟩ := sl
        simp only at hs
        rw [hs]
      subst hsl
      exact ⟨nm, qn, ns, bs, bm, sn, sub, ab, col, dd, k0, k1, k2, k3, k5, ho, ht⟩
    · cases q
  · cases q
theorem kit_of {K : Frag} {D C : Addr} {b : Bool} (i : isClsIn K C = true) (t : typeIn K (.ref C) = some (.type "type")) (s : subIn K (.ref D) (.ref C) = some b) (h : subIn K (.ref D) (.ref D) = some true) : kitOne K (.ref D) (.ref C) = some b := by
  have i' : (clsIn K C).isSome = true := i
  unfold kitOne
  by_cases e : D = C
  · subst e
    rw [if_pos (by simp)]
    rw [h] at s
    exact s
  · rw [if_neg (by simpa using e)]
    show (if ((clsIn K C).isSome && typeIn K (.ref C) == some (.type "type")) = true then subIn K (.ref D) (.ref C) else none) = some b
    rw [if_pos (by rw [i', t]; rfl), s]
theorem kit_ve {K : Frag} {D : Addr} (s : subIn K (.ref D) (.type "ValueError") = some true) : kitOne K (.ref D) (.type "ValueError") = some true := by
  unfold kitOne
  rw [if_neg (by simp)]
  show (if kitMeta "ValueError" = true then subIn K (.ref D) (.type "ValueError") else none) = some true
  rw [if_pos (by decide +kernel), s]
theorem exm_of2 {K : Frag} {D R : Addr} (b : subIn K (.ref R) (.type "BaseException") = some true) (i : isClsIn K R = true) (t : typeIn K (.ref R) = some (.type "type")) (s : subIn K (.ref D) (.ref R) = some true) : exmOne K (.ref D) (.ref R) = some true := by
  have i' : (clsIn K R).isSome = true := i
  unfold exmOne
  rw [if_pos (by rw [b]; rfl)]
  show (if ((clsIn K R).isSome && typeIn K (.ref R) == some (.type "type")) = true then subIn K (.ref D) (.ref R) else none) = some true
  rw [if_pos (by rw [i', t]; rfl), s]
theorem ten {P : Nat → Addr → Prop} {c0 c1 c2 c3 c4 c5 c6 c7 c8 c9 : Addr} (h0 : P 0 c0) (h1 : P 1 c1) (h2 : P 2 c2) (h3 : P 3 c3) (h4 : P 4 c4) (h5 : P 5 c5) (h6 : P 6 c6) (h7 : P 7 c7) (h8 : P 8 c8) (h9 : P 9 c9) :
    ∀ (i : Nat) (C : Addr), [c0, c1, c2, c3, c4, c5, c6, c7, c8, c9][i]? = some C → P i C := fun i C h =>
  match i, h with
  | 0, h => by cases h; exact h0
  | 1, h => by cases h; exact h1
  | 2, h => by cases h; exact h2
  | 3, h => by cases h; exact h3
  | 4, h => by cases h; exact h4
  | 5, h => by cases h; exact h5
  | 6, h => by cases h; exact h6
  | 7, h => by cases h; exact h7
  | 8, h => by cases h; exact h8
  | 9, h => by cases h; exact h9
  | _ + 10, h => by cases h
theorem exw_of {K : Frag} {D : Addr} {idx : Nat} {cs : List Addr} (hg : findIn K (.ref D) "__getattribute__" = some (some (.builtin "BaseException.__getattribute__"))) (hk : findIn K (.ref D) "__getattr__" = some none) (hs : subIn K (.ref D) (.type "BaseException") = some true) (hd : hasDictIn K D = true)
    (ha : findIn K (.ref D) "__class__" = some (some (.builtin "object.__class__"))) (hn : specialIn K (.builtin "object.__class__") "__get__" = some (some (.builtin "getset_descriptor.__get__"))) (ht : takesIn K (.builtin "object.__class__") = some true) (hm : mroIn K D (.type "object") = some true)
    (self : subIn K (.ref D) (.ref D) = some true) (is : ∀ (i : Nat) (C : Addr), cs[i]? = some C → isClsIn K C = true ∧ typeIn K (.ref C) = some (.type "type") ∧ subIn K (.ref D) (.ref C) = some (decide (i = idx)))
    (ve : subIn K (.ref D) (.type "ValueError") = some true) (f1 : findIn K (.ref D) "number" = some none) (f2 : findIn K (.ref D) "done" = some none) (f3 : findIn K (.ref D) "row" = some none) : ExW K cs D idx where
  c := ⟨hg, hk, hs, hd, ha, hn, ht, hm⟩
  xf := ⟨hg, hk, hs, hd⟩
  is := fun i C h => kit_of (is i C h).1 (is i C h).2.1 (is i C h).2.2 self
  ve := kit_ve ve
  fld := fun n hn => by
    rcases List.mem_cons.mp hn with z | hn
    · rw [z]; exact f1
    rcases List.mem_cons.mp hn with z | hn
    · rw [z]; exact f2
    · rw [List.mem_singleton.mp hn]; exact f3
end Sd

set_option Elab.async false
set_option linter.all false
set_option maxRecDepth 100000
set_option maxHeartbeats 4000000
/-! texts: their signs, slices, what is in them, one behind another -/
namespace Sd
open PySem PySem.Spec PyProof.Rows L2
section
variable {X : Cx}
/-- s[i] of a text, i told from 0 on -/
def xIxS (to ti : XE) : XE := fun e m Q => to e m fun x m1 => ti e m1 fun y m2 => asS x fun z => asI y fun i => ∃ c, 0 ≤ i ∧ i < 2 ^ 63 ∧ i < z.length ∧ z.cps[i.toNat]? = some c ∧ Q (.str ⟨#[c]⟩) m2
theorem xe_ixS {a b : Expr} {ta tb : XE} {pos : Pos} (ha : PE X a (low X.K ta)) (hb : PE X b (low X.K tb)) (hs : PlainIxT b := by exact fun _ _ => rfl) : PE X (.Subscript a b pos) (low X.K (xIxS ta tb)) :=
  PE.imp (pe_item_str ha hb hs) fun σ H QV ⟨e, m, Q, rs, rm, h, q⟩ => ⟨e, m, _, rs, rm, h, fun x H1 d m1 s1 r1 rm1 h1 => ⟨e, m1, _, rs.ext s1.imm, rm1, h1, fun y H2 d2 m2 s2 r2 rm2 h2 => by
    obtain ⟨z, ez, h3⟩ := asS_out h2
    obtain ⟨i, ei, c, h0, h63, hl, hc, h4⟩ := asI_out h3
    subst ez ei
    simp only [Rep] at r1 r2
    exact ⟨z, i, c, r1, r2, h0, h63, hl, hc, q _ H2 _ m2 (s1.trans s2) (by simp only [Rep]) rm2 h4⟩⟩⟩
/-- s[lo:hi] of a text -/
def xSlS (te : XE) (tl th : XP) : XE := fun e m Q => te e m fun x m1 => tl e m1 fun lo m2 => th e m2 fun hi m3 => asS x fun z => z.length ≤ sizeLine ∧ Q (.str (Txt.slice z lo hi)) m3
theorem xe_slS {ex : Expr} {lo hi : Option Expr} {te : XE} {tl th : XP} {pos p2 : Pos} (he : PE X ex (low X.K te)) (hl : PO X lo (lowP X.K tl)) (hu : PO X hi (lowP X.K th)) : PE X (.Subscript ex (.Slice lo hi none p2) pos) (low X.K (xSlS te tl th)) :=
  PE.imp (pe_slice C8.sl_txt he hl hu) fun σ H QV ⟨e, m, Q, rs, rm, h, q⟩ => ⟨e, m, _, rs, rm, h, fun v H1 d m1 s1 r1 rm1 h1 => ⟨e, m1, _, rs.ext s1.imm, rm1, h1, fun lo H2 m2 s2 rm2 h2 => ⟨e, m2, _, rs.ext (s1.trans s2).imm, rm2, h2, fun hi H3 m3 s3 rm3 h3 => by
    obtain ⟨z, ez, hz, h4⟩ := asS_out h3
    subst ez
    simp only [Rep] at r1
    exact ⟨z, r1, hz, q _ H3 _ m3 (s1.trans (s2.trans s3)) (by simp only [Rep]) rm3 h4⟩⟩⟩⟩
/-- whether the one text is in the other -/
def inS (i j : Str) : Bool := !(Builtin.Str.occurrences j i 0 j.length 1).isEmpty
def xInS : XO := fun x y m Q => asS x fun i => asS y fun j => Q (.bl (inS i j)) m
def xNotInS : XO := fun x y m Q => asS x fun i => asS y fun j => Q (.bl (!(inS i j))) m
theorem xo_inS : OpR X (compareOp .In) (lowR X.K xInS) :=
  OpR.imp op_in_str fun x y H QV ⟨d, e, m, Q, rx, ry, rm, h, q⟩ => by
    obtain ⟨a, ea, h1⟩ := asS_out h
    obtain ⟨b, eb, h2⟩ := asS_out h1
    subst ea eb
    simp only [Rep] at rx ry
    exact ⟨a, b, rx, ry, q _ H _ m .refl (by simp only [Rep]; rfl) rm h2⟩
theorem xo_notInS : OpR X (compareOp .NotIn) (lowR X.K xNotInS) :=
  OpR.imp op_notin_str fun x y H QV ⟨d, e, m, Q, rx, ry, rm, h, q⟩ => by
    obtain ⟨a, ea, h1⟩ := asS_out h
    obtain ⟨b, eb, h2⟩ := asS_out h1
    subst ea eb
    simp only [Rep] at rx ry
    exact ⟨a, b, rx, ry, q _ H _ m .refl (by simp only [Rep]; rfl) rm h2⟩
/-- the signs of a text, one behind another -/
def signs (x : Str) : List D := x.cps.toList.map fun c => D.str ⟨#[c]⟩
def iTxt (t : XE) : XI := fun e m Q => t e m fun d m1 => asS d fun x => Q ⟨signs x, fun _ => True⟩ m1
theorem xi_str {tg l : Expr} {t : XE} (h : PE X l (low X.K t)) : PI X tg l (lowI X.K (iTxt t)) :=
  PI.imp (pi_str h) fun σ H R ⟨e, m, Q, rs, rm, h, q⟩ => ⟨e, m, _, rs, rm, h, fun v H1 d m1 s1 r1 rm1 h1 => by
    obtain ⟨x, ex, h9⟩ := asS_out h1
    subst ex
    simp only [Rep] at r1
    have hlen : (signs x).length = x.cps.size := by unfold signs; simp
    refine ⟨x, r1, q _ H1 _ m1 s1 rm1 (fun i H2 m2 im rm2 _ => ?_) h9⟩
    refine ⟨fun hl => by rw [hlen] at hl; exact hl, fun hl => ?_⟩
    rw [hlen] at hl
    refine ⟨hl, fun y H3 ⟨eh, c, hc, hy⟩ => ?_⟩
    subst eh hy
    refine ⟨.refl, rm2, .str ⟨#[c]⟩, ?_, by simp only [Rep]⟩
    unfold signs
    rw [List.getElem?_map, Array.getElem?_toList, hc]; rfl⟩
/-- a text, once or not at all -/
def xMulS : XO := fun x y m Q => asS x fun z => asI y fun i => (i = 0 ∧ Q (.str Str.empty) m) ∨ (i = 1 ∧ Q (.str z) m)
theorem op_mulS : OpR X (binaryOp .Mult) (fun x y H Q => ∃ z i, x = .str z ∧ y = .int i ∧ ((i = 0 ∧ Q (.str Str.empty) H) ∨ (i = 1 ∧ Q (.str z) H))) := by
  intro pins s σ H x y v u Q I rx ry h
  obtain ⟨z, i, rfl, rfl, h⟩ := h
  obtain ⟨t, rfl⟩ := rx
  obtain ⟨t', rfl⟩ := ry
  rcases h with ⟨rfl, q⟩ | ⟨rfl, q⟩
  · exact PySem.P.mul_str_none (by decide) (by decide) ⟨.str Str.empty, H, I.tok _, ⟨_, rfl⟩, q⟩
  · refine PySem.P.mul_str (by decide) (fun _ e => by simp at e) (fun _ e => by simp at e) ?_
    rw [if_neg (by decide), if_pos (by simp)]
    exact ⟨.str z, H, I.tok _, ⟨t, rfl⟩, q⟩
theorem xo_mulS : OpR X (binaryOp .Mult) (lowR X.K xMulS) :=
  OpR.imp op_mulS fun x y H QV ⟨d, e, m, Q, rx, ry, rm, h, q⟩ => by
    obtain ⟨z, ez, h1⟩ := asS_out h
    obtain ⟨i, ei, h2⟩ := asI_out h1
    subst ez ei
    simp only [Rep] at rx ry
    refine ⟨z, i, rx, ry, ?_⟩
    rcases h2 with ⟨e, h2⟩ | ⟨e, h2⟩
    · exact .inl ⟨e, q _ H _ m .refl (by simp only [Rep]) rm h2⟩
    · exact .inr ⟨e, q _ H _ m .refl (by simp only [Rep]) rm h2⟩
theorem Reps.rep {K : PySem.W.Frag} {H : Hp} {ds : List D} {vs : List V} (r : Reps K H ds vs) : ∀ k : Nat, Reps K H (List.replicate k ds).flatten (List.replicate k vs).flatten
  | 0 => by simp [Reps]
  | k + 1 => by
    rw [List.replicate_succ, List.replicate_succ, List.flatten_cons, List.flatten_cons]
    exact r.append (Reps.rep r k)
/-- a list times a number -/
def xRepL : XO := fun x y m Q => asL m x fun a ds => asI y fun k => 0 ≤ k ∧ k < 1000 ∧ ds.length * k.toNat ≤ sizeLine ∧ ∀ p, m p = none → Q (.ref p) (updM m p (.lst (List.replicate k.toNat ds).flatten))
theorem xo_repL : OpR X (binaryOp .Mult) (lowR X.K xRepL) :=
  OpR.imp op_rep fun x y H QV ⟨d, e, m, Q, rx, ry, rm, h, q⟩ => by
    obtain ⟨a, ds, ea, ha, h1⟩ := asL_out h
    obtain ⟨k, ek, k0, k1, hz, h2⟩ := asI_out h1
    subst ea ek
    simp only [Rep] at rx ry
    obtain ⟨_, g1, xs, rfl, r1⟩ := rm a _ ha
    exact ⟨a, k, xs, rx, ry, g1, by omega, by omega, by rw [← r1.len]; exact hz, fun p hp => q _ _ (.ref p) _ (.newM hp) (by simp only [Rep]) (new_lst rm (Reps.rep r1 _) hp) (h2 p (rm.none hp))⟩
end
end Sd

set_option Elab.async false
set_option linter.all false
set_option maxRecDepth 100000
set_option maxHeartbeats 4000000
/-! words of figures, by cases -/
namespace Sd
open PySem PySem.Spec PyProof.Rows L2 Builtin.Str
theorem dec_ascii : ((List.range 128).all fun c => !(Unicode.isDecimal c) || (decide (48 ≤ c) && decide (c ≤ 57))) = true := by decide +kernel
theorem dec_at {c : Nat} (h : c < 128) (d : Unicode.isDecimal c = true) : 48 ≤ c ∧ c ≤ 57 := by
  have := List.all_eq_true.mp dec_ascii c (List.mem_range.mpr h)
  rw [d] at this
  simpa using this
def figOk (w : Str) : Bool := match PySem.intText? w with
  | some n => decide (w.length ≤ 3) && (decide (n.natAbs.log2 < 1920) && (PyData.strOk w && PyData.strOk (toString n : String)))
  | none => false
theorem fig1 : ((List.range 10).all fun c => figOk ⟨#[48 + c]⟩ && figOk ⟨#[45, 48 + c]⟩) = true := by decide +kernel
theorem fig2 : ((List.range 10).all fun c => (List.range 10).all fun d => figOk ⟨#[48 + c, 48 + d]⟩ && figOk ⟨#[45, 48 + c, 48 + d]⟩) = true := by decide +kernel
/-- a text by its signs -/
def ofL (l : List Nat) : Str := ⟨⟨l⟩⟩
theorem ofL_tl (w : Str) : ofL w.cps.toList = w := by
  obtain ⟨⟨l⟩⟩ := w; rfl
/-- the figures of a word: what is behind a sign -/
def figL : List Nat → List Nat
  | 45 :: r => r
  | l => l
theorem rm_cons (c : Nat) (r : List Nat) : Txt.removeprefix (ofL (c :: r)) "-" = ofL (figL (c :: r)) := by
  have sub : subAt (ofL (c :: r)) "-" 0 = decide (c = 45) := by
    show ((⟨c :: r⟩ : Array Nat).extract 0 (0 + 1) == #[45]) = _
    rw [Bool.eq_iff_iff, beq_iff_eq, decide_eq_true_eq]
    constructor
    · intro h
      have := congrArg Array.toList h
      simp at this
      exact this
    · intro h
      subst h
      apply Array.toList_inj.mp
      simp
  unfold Txt.removeprefix
  rw [sub]
  by_cases h : c = 45
  · subst h
    rw [if_pos (by simp)]
    show (if (r.length + 1) - 1 == r.length + 1 then _ else strSub (ofL (45 :: r)) 1 (r.length + 1)) = ofL r
    rw [if_neg (by simp)]
    show Str.mk ((⟨45 :: r⟩ : Array Nat).extract 1 (r.length + 1)) = Str.mk ⟨r⟩
    congr 1
    apply Array.toList_inj.mp
    simp
  · rw [if_neg (by simpa using h)]
    show ofL (c :: r) = ofL (figL (c :: r))
    congr 1
    unfold figL
    split
    · rename_i e; cases e; exact absurd rfl h
    · rfl
theorem rm_nil : Txt.removeprefix (ofL []) "-" = ofL [] := by decide +kernel
theorem rm_ofL (l : List Nat) : Txt.removeprefix (ofL l) "-" = ofL (figL l) := by
  cases l with
  | nil => exact rm_nil
  | cons c r => exact rm_cons c r
theorem dec_ofL (l : List Nat) : Txt.isdecimal (ofL l) = (decide (0 < l.length) && l.all Unicode.isDecimal) := by
  show (decide (l.length > 0) && (⟨l⟩ : Array Nat).all Unicode.isDecimal) = _
  congr 1
  simp
theorem fig_at {c : Nat} (h : 48 ≤ c ∧ c ≤ 57) : figOk (ofL [c]) = true ∧ figOk (ofL [45, c]) = true := by
  have := List.all_eq_true.mp fig1 (c - 48) (List.mem_range.mpr (by omega))
  rw [Bool.and_eq_true, show 48 + (c - 48) = c by omega] at this
  exact this
theorem fig_at2 {c d : Nat} (h : 48 ≤ c ∧ c ≤ 57) (k : 48 ≤ d ∧ d ≤ 57) : figOk (ofL [c, d]) = true ∧ figOk (ofL [45, c, d]) = true := by
  have := List.all_eq_true.mp (List.all_eq_true.mp fig2 (c - 48) (List.mem_range.mpr (by omega))) (d - 48) (List.mem_range.mpr (by omega))
  rw [Bool.and_eq_true, show 48 + (c - 48) = c by omega, show 48 + (d - 48) = d by omega] at this
  exact this
/-- a word of plain signs whose figures are one or two digits: its number can be read -/
theorem fig_ok {l : List Nat} (ha : ∀ c ∈ l, c < 128) (hd : Txt.isdecimal (ofL (figL l)) = true) (h2 : (figL l).length ≤ 2) : figOk (ofL l) = true ∧ ((∃ c, figL l = [c] ∧ 48 ≤ c ∧ c ≤ 57) ∨ ∃ c d, figL l = [c, d] ∧ (48 ≤ c ∧ c ≤ 57) ∧ (48 ≤ d ∧ d ≤ 57)) := by
  rw [dec_ofL, Bool.and_eq_true, decide_eq_true_eq] at hd
  obtain ⟨h0, hall⟩ := hd
  have sub : ∀ c ∈ figL l, c < 128 := fun c hc => by
    unfold figL at hc
    split at hc
    · exact ha c (List.mem_cons_of_mem _ hc)
    · exact ha c hc
  have dig : ∀ c ∈ figL l, 48 ≤ c ∧ c ≤ 57 := fun c hc => dec_at (sub c hc) (List.all_eq_true.mp hall c hc)
  have two : l = figL l ∨ l = 45 :: figL l := by
    unfold figL
    split
    · exact .inr rfl
    · exact .inl rfl
  generalize figL l = f at *
  match f, h0, h2 with
  | [c], _, _ =>
    have hc := dig c List.mem_cons_self
    refine ⟨?_, .inl ⟨c, rfl, hc⟩⟩
    rcases two with e | e <;> rw [e]
    · exact (fig_at hc).1
    · exact (fig_at hc).2
  | [c, d], _, _ =>
    have hc := dig c List.mem_cons_self
    have hd := dig d (List.mem_cons_of_mem _ List.mem_cons_self)
    refine ⟨?_, .inr ⟨c, d, rfl, hc, hd⟩⟩
    rcases two with e | e <;> rw [e]
    · exact (fig_at2 hc hd).1
    · exact (fig_at2 hc hd).2
/-- no zero ahead, no zero with a sign -/
def numOk (l : List Nat) : Bool := !(decide ((figL l).head? = some 48) && (decide ((figL l).length = 2) || decide (l ≠ [48])))
def strNum (w : Str) : Bool := match PySem.intText? w with
  | some n => decide (((toString n : String) : Str) = w)
  | none => false
theorem fig3 : ((List.range 10).all fun c => (strNum (ofL [48 + c]) == numOk [48 + c]) && (strNum (ofL [45, 48 + c]) == numOk [45, 48 + c])) = true := by decide +kernel
theorem fig4 : ((List.range 10).all fun c => (List.range 10).all fun d => (strNum (ofL [48 + c, 48 + d]) == numOk [48 + c, 48 + d]) && (strNum (ofL [45, 48 + c, 48 + d]) == numOk [45, 48 + c, 48 + d])) = true := by decide +kernel
theorem str_num {l : List Nat} (ha : ∀ c ∈ l, c < 128) (hd : Txt.isdecimal (ofL (figL l)) = true) (h2 : (figL l).length ≤ 2) : strNum (ofL l) = numOk l := by
  obtain ⟨_, hc⟩ := fig_ok ha hd h2
  have two : l = figL l ∨ l = 45 :: figL l := by
    unfold figL
    split
    · exact .inr rfl
    · exact .inl rfl
  rcases hc with ⟨c, e, hc⟩ | ⟨c, d, e, hc, hd'⟩
  · have := List.all_eq_true.mp fig3 (c - 48) (List.mem_range.mpr (by omega))
    rw [Bool.and_eq_true, show 48 + (c - 48) = c by omega, beq_iff_eq, beq_iff_eq] at this
    rw [e] at two
    rcases two with z | z <;> rw [z]
    · exact this.1
    · exact this.2
  · have := List.all_eq_true.mp (List.all_eq_true.mp fig4 (c - 48) (List.mem_range.mpr (by omega))) (d - 48) (List.mem_range.mpr (by omega))
    rw [Bool.and_eq_true, show 48 + (c - 48) = c by omega, show 48 + (d - 48) = d by omega, beq_iff_eq, beq_iff_eq] at this
    rw [e] at two
    rcases two with z | z <;> rw [z]
    · exact this.1
    · exact this.2
/-- the number of a word, if it is written as numbers are -/
def numB (l : List Nat) : Option Int := if (Txt.isdecimal (ofL (figL l)) && (decide ((figL l).length ≤ 2) && numOk l)) = true then PySem.intText? (ofL l) else none
theorem numB_some {l : List Nat} (ha : ∀ c ∈ l, c < 128) (h : (Txt.isdecimal (ofL (figL l)) && (decide ((figL l).length ≤ 2) && numOk l)) = true) : ∃ n, numB l = some n ∧ PySem.intText? (ofL l) = some n ∧ (ofL l).length ≤ 3 := by
  have h' := h
  rw [Bool.and_eq_true, Bool.and_eq_true, decide_eq_true_eq] at h'
  obtain ⟨k, _⟩ := fig_ok ha h'.1 h'.2.1
  unfold figOk at k
  cases e : PySem.intText? (ofL l) with
  | none => rw [e] at k; cases k
  | some n =>
    rw [e] at k
    rw [Bool.and_eq_true, decide_eq_true_eq] at k
    exact ⟨n, by unfold numB; rw [if_pos h, e], rfl, k.1⟩
end Sd

set_option Elab.async false
set_option linter.all false
set_option maxRecDepth 100000
set_option maxHeartbeats 4000000
/-! raising with what is known no longer; an argument that raises -/
namespace Sd
open PySem PySem.Spec PyProof.Rows L2
/-- raised with more in memory than is told -/
def subG (G : XG2) : XG2 := fun C fs m' => ∃ m2, Sub m2 m' ∧ G C fs m2
theorem OutX.sub {K : PySem.W.Frag} {H : Hp} {m : M} {W : XK} {G : XG2} (h : OutX K H m W G) : OutX K H m W (subG G) := fun C fs d H' m' st rm xd ⟨m2, sb, g⟩ => h C fs d H' m2 (st.sub sb) (rm.sub sb) xd g
section
variable {P : Program} {w : World} {K : PySem.W.Frag} {mg : Str → Option Value} {base : Heap}
/-- fnX2, what is raised told with less -/
theorem fnX3 {x qual : Str} {st : Stmt} {f : Addr} {fd : FuncData} {N ps : List Str} {k : Nat} {sp : XSp2} (F : Fun K x qual st f fd) (S : FnScope N ps (defScope st)) (len : ∀ ds m Q G, sp ds m Q G → ds.length = ps.length)
    (body : ∃ t : XS2, (∀ (cdv : Value) (A : Around) (outer : List Env) (s : Shared) (H : Hp) (E : XK), Room k (A.deeper (envOfC qual (defScope st) s.heap.objs.size f cdv)) →
        Takes (cxOf (L2.CX P w) P w K mg base N qual (defScope st) f cdv A outer s H E) (fun cls d _ H' => E cls d H') →
        PassesOwn (model P w) (cxOf (L2.CX P w) P w K mg base N qual (defScope st) f cdv A outer s H E).A (cxOf (L2.CX P w) P w K mg base N qual (defScope st) f cdv A outer s H E).env (cxOf (L2.CX P w) P w K mg base N qual (defScope st) f cdv A outer s H E).xe →
        PSs (cxOf (L2.CX P w) P w K mg base N qual (defScope st) f cdv A outer s H E) (defBody st) (lowX K E t)) ∧
      ∀ ds m Q G, sp ds m Q G → t ⟨fun _ m' => ∃ m2, Sub m2 m' ∧ Q .non m2, fun d m' => ∃ m2, Sub m2 m' ∧ Q d m2, fun _ _ => False, fun _ _ => False⟩ (subG G) (startD N.length ds) m) :
    Fn2 P w K mg base (k + 1) f fd ps sp := by
  obtain ⟨t, ht, hq⟩ := body
  have hps : ps.length ≤ N.length := by have := congrArg List.length S.pre; rw [List.length_take] at this; omega
  refine F.okX S (fun vs H QV E ⟨ds, m, Q, G, r, rm, h, q⟩ => by rw [← r.len]; exact len ds m Q G h) (fun cdv A outer s H vs QV E hr ⟨ds, m, Q, G, r, rm, h, q, g⟩ => ?_)
  refine ⟨_, ht cdv A outer s H E hr (takes_of rfl rfl rfl rfl) (passes_of rfl), _, m, _, _, reps_start r (by rw [len ds m Q G h]; exact hps), rm, hq ds m Q G h, ?_, g.sub⟩
  exact ⟨fun σ H' e m' st rs rm' ⟨m2, sb, h⟩ => q .non H' .non m2 (st.sub sb) (by simp only [Rep]) (rm'.sub sb) h, fun v H' d m' st rv rm' ⟨m2, sb, h⟩ => q v H' d m2 (st.sub sb) rv (rm'.sub sb) h, fun _ _ _ _ _ _ _ h => h.elim, fun _ _ _ _ _ _ _ h => h.elim⟩
end
section
variable {X : Cx} {W : XK}
/-- xs.append(f(..)), f returning or raising -/
def xApp2 (to : XE) (te : XE2) : XE2 := fun e m Q G => to e m fun o m1 => asL m1 o fun _ _ => te e m1 (fun y m2 => asL m2 o fun p ds => ds.length < sizeLine ∧ Q .non (updM m2 p (.lst (ds ++ [y])))) G
theorem xe_append2 {o ex : Expr} {to : XE} {te : XE2} {apos cpos : Pos} (ho : PE X o (low X.K to)) (he : PE X ex (lowXE X.K W te))
    (hbase : attributeBase o "append" X.env (eval o X.env) = eval o X.env := by rfl)
    (hfew : ((backTo cpos (starEach [ex] X.env)).all (fun x => !x.1) && (backToKw cpos (keywordEach [] X.env)).all (fun x => x.1.isSome)
      && decide ([ex].length + ([] : List Keyword).length + (if ([] : List Keyword).isEmpty then 0 else 1) < 30)) = true := by rfl)
    (hline : (apos.endLine == cpos.line) = true := by rfl) (hs : starEach [ex] X.env = (false, eval ex X.env) :: starEach [] X.env := by rfl) (hplain : (backTo cpos (starEach [] X.env)).any (·.1) = false := by rfl) :
    PE X (.Call (.Attribute o "append" apos) [ex] [] cpos) (lowXE X.K W (xApp2 to te)) :=
  PE.imp (pe_bm PySem.F.plainAttrs_list PySem.F.slot_list_append PySem.F.type_list_append mt_append ho (pa_cons he pa_nil hs) hbase hfew hline hs hplain) fun σ H QV ⟨e, m, Q, G, rs, rm, h, q, g⟩ => ⟨e, m, _, rs, rm, h, fun vo H1 o m1 s1 r1 rm1 h1 => by
    obtain ⟨p, ds, rfl, hm, h1⟩ := asL_out h1
    simp only [Rep] at r1
    obtain ⟨ho, h3, xs, rfl, rx⟩ := rm1 p _ hm
    refine ⟨by subst r1; exact .inl ⟨rfl, xs, .inl (.inl h3)⟩, e, m1, _, G, rs.ext s1.imm, rm1, h1, fun y H2 d m2 s2 r2 rm2 h2 => ?_, g.step s1⟩
    obtain ⟨p', ds', ep, hm', hl, h2⟩ := asL_out h2
    cases ep
    obtain ⟨ho', h4, ys, rfl, ry⟩ := rm2 p _ hm'
    have st : Stp H2 m2 (upd H2 p (.lst (ys ++ [y]))) (updM m2 p (.lst (ds' ++ [d]))) := .write h4 (fun z => z) hm'
    refine ⟨p, ys, y, r1, rfl, h4, by rw [← ry.len]; exact hl, q _ _ .non _ (s1.trans (s2.trans st)) (by simp only [Rep]) (rm2.upd st.imm ⟨_, rfl, ?_⟩) h2⟩
    exact (ry.append (by simp only [Reps]; exact ⟨y, [], rfl, r2, rfl⟩)).ext st.imm⟩
theorem hide2 {t u : XS2} {D : Xnds} {G : XG2} {e : En} {m : M} (h : ∀ K1, K1 = u D G → t { D with nx := K1 } G e m) : xSeq2 t u D G e m := h _ rfl
/-- x = f(..), f returning or raising -/
def xAsg2 (t : XE2) (g : XG) : XS2 := fun D G e m => t e m (fun d m1 => g d e m1 D.nx) G
end
end Sd

set_option Elab.async false
set_option linter.all false
set_option maxRecDepth 100000
set_option maxHeartbeats 4000000
/-! a text cut at a sign -/
namespace Sd
open PySem PySem.Spec PyProof.Rows L2
def cutL (s : Nat) : List Nat → List Nat → List (List Nat)
  | acc, [] => [acc]
  | acc, c :: r => if c = s then acc :: cutL s [] r else cutL s (acc ++ [c]) r
theorem cutL_spl (s : Nat) : ∀ (l acc : List Nat), TL.spl [s] 0 acc l = cutL s acc l
  | [], acc => TL.spl_nil [s] 0 acc
  | c :: r, acc => by
    unfold cutL
    by_cases h : c = s
    · subst h
      rw [if_pos rfl, TL.spl_hit (acc := acc) (show TL.pre [c] (c :: r) = true from TL.pre_self [c] r)]
      rw [show ([c] : List Nat).length - 1 = 0 from rfl, cutL_spl c r []]
    · rw [if_neg h, TL.spl_miss (TL.pre_of_head [] r h), cutL_spl s r (acc ++ [c])]
theorem cutL_ne (s : Nat) : ∀ (l acc : List Nat), cutL s acc l ≠ []
  | [], acc => by unfold cutL; simp
  | c :: r, acc => by
    unfold cutL
    split
    · simp
    · exact cutL_ne s r _
theorem cutL_mem (s : Nat) (p : Nat → Prop) : ∀ (l acc : List Nat), (∀ c ∈ acc, p c) → (∀ c ∈ l, p c) → ∀ x ∈ cutL s acc l, ∀ c ∈ x, p c
  | [], acc, ha, _, x, hx => by
    unfold cutL at hx
    rw [List.mem_singleton.mp hx]; exact ha
  | c :: r, acc, ha, hl, x, hx => by
    have hr : ∀ d ∈ r, p d := fun d hd => hl d (List.mem_cons_of_mem _ hd)
    unfold cutL at hx
    split at hx
    · rcases List.mem_cons.mp hx with z | z
      · rw [z]; exact ha
      · exact cutL_mem s p r [] (fun _ z => nomatch z) hr x z
    · exact cutL_mem s p r (acc ++ [c]) (fun d hd => by
        rcases List.mem_append.mp hd with z | z
        · exact ha d z
        · rw [List.mem_singleton.mp z]; exact hl c List.mem_cons_self) hr x hx
theorem cutL_len (s : Nat) : ∀ (l acc : List Nat), (cutL s acc l).length ≤ l.length + 1 ∧ ∀ x ∈ cutL s acc l, x.length ≤ acc.length + l.length
  | [], acc => by
    unfold cutL
    exact ⟨by simp, fun x hx => by rw [List.mem_singleton.mp hx]; simp⟩
  | c :: r, acc => by
    unfold cutL
    split
    · obtain ⟨h1, h2⟩ := cutL_len s r []
      refine ⟨by simp only [List.length_cons]; omega, fun x hx => ?_⟩
      rcases List.mem_cons.mp hx with z | z
      · rw [z]; omega
      · have := h2 x z; simp at this ⊢; omega
    · obtain ⟨h1, h2⟩ := cutL_len s r (acc ++ [c])
      refine ⟨by simp only [List.length_cons]; omega, fun x hx => ?_⟩
      have := h2 x hx; simp at this ⊢; omega
theorem kind_ascii {l : List Nat} (h : ∀ c ∈ l, c < 128) : Builtin.Str.strKind (ofL l) = 1 := by
  show (if (⟨l⟩ : Array Nat).all (· < 256) = true then 1 else _) = 1
  rw [if_pos]
  simp only [List.all_toArray, List.all_eq_true, decide_eq_true_eq]
  intro c hc
  have := h c hc
  omega
theorem split_ofL {l : List Nat} {s : Nat} (h : ∀ c ∈ l, c < 128) (hs : s < 128) : Txt.split (ofL l) (ofL [s]) = (cutL s [] l).map ofL := by
  refine TL.map_tl_inj ?_
  rw [TL.split_spl _ _ (by show [s] ≠ []; simp) (by rw [kind_ascii h, kind_ascii (l := [s]) (fun c hc => by rw [List.mem_singleton.mp hc]; exact hs)]; exact Nat.lt_irrefl _)]
  show TL.spl [s] 0 [] l = _
  rw [cutL_spl, List.map_map]
  exact (List.map_id' _).symm
end Sd

set_option Elab.async false
set_option linter.all false
set_option maxRecDepth 100000
set_option maxHeartbeats 4000000
/-! what is walked, kept or looked up, its call raising; a number among numbers -/
namespace Sd
open PySem PySem.Spec PyProof.Rows L2
abbrev XI2 := En → M → (Wk → M → Prop) → XG2 → Prop
def lowXI (K : PySem.W.Frag) (W : XK) (t : XI2) : TI := fun σ H R => ∃ e m Q G, RepS K H e σ ∧ RepM K H m ∧ t e m Q G ∧ (∀ J H' w m', Stp H m H' m' → RepM K H' m' → Walks K H' J w → Q w m' → R J H') ∧ OutX K H m W G
section
variable {X : Cx} {W : XK}
/-- f(..).field, f returning or raising -/
def xFld2 (C : Addr) (f : Str) (ta : XE2) : XE2 := fun e m Q G => ta e m (fun x m1 => asIns m1 C x fun _ fs => oat (fs.lookup f) fun d => Q d m1) G
theorem xe_fldX {C : Addr} {f : Str} {o : Expr} {ta : XE2} {pos : Pos} (ha : PE X o (lowXE X.K W ta)) (c : Cls X.K C) (n : NoAttr X.K C f) (hb : attributeBase o f X.env (eval o X.env) = eval o X.env := by rfl) : PE X (.Attribute o f pos) (lowXE X.K W (xFld2 C f ta)) :=
  PE.imp (pe_fld ha hb) fun σ H QV ⟨e, m, Q, G, rs, rm, h, q, g⟩ => ⟨e, m, _, G, rs, rm, h, fun v H1 d m1 s1 r1 rm1 h1 => by
    obtain ⟨a, fs, rfl, hm, h1⟩ := asIns_out h1
    obtain ⟨w, hw, h1⟩ := oat_out h1
    simp only [Rep] at r1
    obtain ⟨ho, ha, dx, vs, rfl, rf⟩ := rm1 a _ hm
    obtain ⟨z, hz, rz⟩ := rf.look.1 w hw
    exact ⟨a, C, dx, vs, z, r1, ha, c, n, hz, q z H1 w m1 s1 rz rm1 h1⟩, g⟩
def iLst2 (t : XE2) : XI2 := fun e m R G => t e m (fun x m1 => asL m1 x fun p ds => R ⟨ds, fun m => m p = some (.lst ds)⟩ m1) G
theorem xi_listX {tg l : Expr} {t : XE2} (h : PE X l (lowXE X.K W t)) : PI X tg l (lowXI X.K W (iLst2 t)) :=
  PI.imp (pi_list h) fun σ H R ⟨e, m, Q, G, rs, rm, h, q, g⟩ => ⟨e, m, _, G, rs, rm, h, fun v H1 d m1 s1 r1 rm1 h1 => by
    obtain ⟨p, ds, ed, hm, h9⟩ := asL_out h1
    subst ed
    simp only [Rep] at r1
    obtain ⟨ho, h3, xs, rfl, rx⟩ := rm1 p _ hm
    refine ⟨p, r1, ⟨xs, .inl (.inl h3)⟩, q _ H1 _ m1 s1 rm1 (fun i H2 m2 im rm2 ok => ?_) h9⟩
    obtain ⟨ho2, h4, ys, rfl, ry⟩ := rm2 p _ ok
    have sq2 : SqL X.K H2 p ys := .inl (.inl h4)
    refine ⟨fun hl => ⟨ys, sq2, by rw [← ry.len]; exact hl⟩, fun hl => ?_⟩
    obtain ⟨x, hx, rd⟩ := ry.get (List.getElem?_eq_getElem hl)
    refine ⟨⟨ys, x, sq2, hx⟩, fun y H3 ⟨eh, hy⟩ => ?_⟩
    subst eh
    have := hy ys sq2
    rw [hx] at this; cases this
    exact ⟨.refl, rm2, _, List.getElem?_eq_getElem hl, rd⟩, g⟩
def xFor3 (wi : XI2) (g : XG) (tb : XS2) : XS2 := fun D G e m => wi e m (fun w m1 => xLoop2 w.ok g tb D G w.xs e m1) G
theorem xx_forX {tg iter : Expr} {body : List Stmt} {wi : XI2} {g : XG} {vs : List Nat} {tb : XS2} {pos : Pos} (hp : PassesOwn (model X.prog X.w) X.A X.env X.xe) (hc : X.calm = true) (hi : PI X tg iter (lowXI X.K W wi)) (hg : PG X tg (lowG X.K vs g)) (hb : PSs X body (lowX X.K W tb))
    (hs : ∀ x, foldedSetIterable iter X.env x = pure x := by intro _; rfl) : PS X (.For tg iter body [] pos) (lowX X.K W (xFor3 wi g tb)) :=
  PS.imp (ps_for hp hc hi hg hb hs) fun D σ H ⟨e, m, D', G, rs, rm, h, q, g0⟩ => ⟨e, m, _, G, rs, rm, h, fun J H1 w m1 s1 rm1 wk h1 => by
    refine ⟨fun i r σ H' => ∃ e m, i + r = w.xs.length ∧ Stp H1 m1 H' m ∧ RepS X.K H' e σ ∧ RepM X.K H' m ∧ xLoop2 w.ok g tb D' G (w.xs.drop i) e m, ⟨w.xs.length, e, m1, by omega, .refl, rs.ext s1.imm, rm1, by rw [List.drop_zero]; exact h1⟩, fun i r σ2 H2 hw => ?_⟩
    obtain ⟨e2, m2, hl, s2, rs2, rm2, h2⟩ := hw
    by_cases hlt : i < w.xs.length
    · rw [List.drop_eq_getElem_cons hlt] at h2
      obtain ⟨ok, h2⟩ := h2
      obtain ⟨_, hgo⟩ := wk i H2 m2 s2.imm rm2 ok
      obtain ⟨go, yl⟩ := hgo hlt
      refine .inr ⟨go, fun σ3 H3 => ∃ e3 m3, Stp H1 m1 H3 m3 ∧ RepS X.K H3 e3 σ3 ∧ RepM X.K H3 m3 ∧ xLoop2 w.ok g tb D' G (w.xs.drop (i + 1)) e3 m3, fun σ3 H3 ⟨e3, m3, s3, rs3, rm3, h3⟩ => ⟨r - 1, by omega, e3, m3, by omega, s3, rs3, rm3, h3⟩, fun x H3 y => ?_⟩
      obtain ⟨s3, rm3, d, hd, rd⟩ := yl x H3 y
      rw [List.getElem?_eq_getElem hlt] at hd
      cases hd
      refine ⟨_, e2, m2, _, rd, rs2.ext s3.imm, rm3, h2, fun σ4 H4 e4 m4 _ s4 rs4 rm4 h4 => ⟨e4, m4, _, G, rs4, rm4, h4, ?_, g0.step (s1.trans (s2.trans (s3.trans s4)))⟩⟩
      have S4 := s2.trans (s3.trans s4)
      have Q4 := (q.step s1).step S4
      exact ⟨fun σ5 H5 e5 m5 s5 rs5 rm5 h5 => ⟨e5, m5, S4.trans s5, rs5, rm5, h5⟩, Q4.rt, Q4.nx, fun σ5 H5 e5 m5 s5 rs5 rm5 h5 => ⟨e5, m5, S4.trans s5, rs5, rm5, h5⟩⟩
    · rw [List.drop_eq_nil_of_le (by omega)] at h2
      exact .inl ⟨(wk i H2 m2 s2.imm rm2 h2.1).1 (by omega), q.nx σ2 H2 e2 m2 (s1.trans s2) rs2 rm2 h2.2⟩, g0⟩
theorem xx_asg {tg ex : Expr} {t : XE2} {g : XG} {vs : List Nat} {pos : Pos} (he : PE X ex (lowXE X.K W t)) (hg : PG X tg (lowG X.K vs g)) (hs : swapsWithSole [tg] ex pos.line X.env = pure false := by rfl) (hw : swappedStores [tg] ex X.env = pure none := by rfl)
    (h1 : (assignEach [tg] X.env).map (·.2) = [assign tg X.env] := by rfl) : PS X (.Assign [tg] ex pos) (lowX X.K W (xAsg2 t g)) :=
  PS.imp (ps_asg he hg hs hw h1) fun D σ H ⟨e, m, D', G, rs, rm, h, q, g⟩ => ⟨e, m, _, G, rs, rm, h, fun v H1 d m1 s1 r1 rm1 h1 => ⟨d, e, m1, _, r1, rs.ext s1.imm, rm1, h1, fun σ2 H2 e2 m2 _ s2 rs2 rm2 h2 => q.nx σ2 H2 e2 m2 (s1.trans s2) rs2 rm2 h2⟩, g⟩
theorem xx_set {i : Nat} {x : Str} {ex : Expr} {t : XE2} {pos pos' : Pos} (hN : X.N.Nodup) (hi : X.N[i]? = some x) (hx : Loc X.env.scope x) (he : PE X ex (lowXE X.K W t)) (hs : swapsWith ex (some (.Name x pos')) pos.line X.env = pure false := by rfl) (hf : X.fn x = true ∨ X.env.scope.names.lookup x = some .local := by first | exact .inl rfl | exact .inr rfl | assumption) :
    PS X (.Assign [.Name x pos'] ex pos) (lowX X.K W (xAsg2 t (gNm i))) :=
  PS.imp (ps_set hN hi hx he hs hf) fun D σ H ⟨e, m, D', G, rs, rm, h, q, g⟩ => ⟨e, m, _, G, rs, rm, h, fun v H1 d m1 s1 r1 rm1 h1 => q.nx _ H1 _ m1 s1 ((rs.ext s1.imm).set i r1) rm1 h1, g⟩
/-- a number among a tuple's numbers -/
def allI : List D → Option (List Int)
  | [] => some []
  | .int i :: r => (allI r).map (i :: ·)
  | _ :: _ => none
theorem allI_rep {K : PySem.W.Frag} {H : Hp} : ∀ {ds : List D} {js : List Int} {vs : List V}, allI ds = some js → Reps K H ds vs → vs = js.map V.int
  | [], js, vs, h, r => by
    cases h
    simp only [Reps] at r
    rw [r]; rfl
  | d :: ds, js, vs, h, r => by
    cases d with
    | int i =>
      simp only [allI] at h
      cases e : allI ds with
      | none => rw [e] at h; cases h
      | some js' =>
        rw [e] at h
        cases h
        simp only [Reps, Rep] at r
        obtain ⟨_, us, rfl, rfl, r2⟩ := r
        rw [allI_rep e r2]; rfl
    | _ => simp [allI] at h
theorem int_flat (js : List Int) : (js.map V.int).all flatV = true := by
  induction js with
  | nil => rfl
  | cons j js ih => rw [List.map_cons, List.all_cons, ih]; rfl
theorem inV_int (i : Int) (js : List Int) : inV (.int i) (js.map V.int) = js.any fun j => decide (j = i) := by
  unfold inV
  rw [List.any_map]
  congr 1
def xNotInT : XO := fun x y m Q => asI x fun i => asT y fun ds => oat (allI ds) fun js => Q (.bl (!(js.any fun j => decide (j = i)))) m
theorem xo_notInT : OpR X (compareOp .NotIn) (lowR X.K xNotInT) :=
  OpR.imp op_notIn_seq fun x y H QV ⟨d, e, m, Q, rx, ry, rm, h, q⟩ => by
    obtain ⟨i, ei, h1⟩ := asI_out h
    obtain ⟨ds, ed, h2⟩ := asT_out h1
    obtain ⟨js, ej, h3⟩ := oat_out h2
    subst ei ed
    simp only [Rep] at rx ry
    obtain ⟨a, xs, rfl, sq, r1⟩ := ry
    have e := allI_rep ej r1
    subst e rx
    refine ⟨a, _, rfl, .inr sq, rfl, int_flat js, ?_⟩
    rw [if_pos rfl, inV_int]
    exact q _ H _ m .refl (by simp only [Rep]) rm h3
/-- one sign that isn't in a text -/
theorem inS_sign (c : Nat) (z : Str) : inS ⟨#[c]⟩ z = decide (c ∈ z.cps.toList) := PySem.StrLaws.found_one z c
end
/-! a def that may raise, called where it doesn't -/
def of2 (sp : XSp2) : XSp := fun ds m Q => sp ds m Q fun _ _ _ => False
theorem fnX_of2 {P : Program} {w : World} {K : PySem.W.Frag} {mg : Str → Option Value} {base : Heap} {k : Nat} {f : Addr} {fd : FuncData} {ps : List Str} {sp : XSp2} (F : Fn2 P w K mg base k f fd ps sp) : FnX P w K mg base k f fd ps (of2 sp) :=
  ⟨fun vs H QV E ⟨ds, m, Q, r, rm, h, q⟩ => F.len vs H QV (fun _ _ _ => False) ⟨ds, m, Q, _, r, rm, h, q, fun _ _ _ _ _ _ _ _ z => z.elim⟩,
   fun A outer s H args us vs QV E hr he hb hv ⟨ds, m, Q, r, rm, h, q⟩ => by
    refine codeAny_mono (F.run A outer s H args us vs QV (fun _ _ _ => False) hr he hb hv ⟨ds, m, Q, _, r, rm, h, q, fun _ _ _ _ _ _ _ _ z => z.elim⟩) fun r s' hq => ?_
    cases r with
    | ok x => cases x with
      | ret u => exact hq
      | _ => exact hq.elim
    | error e =>
      obtain ⟨_, _, _, _, _, _, _, _, _, _, _, _, hE⟩ := hq
      exact hE.elim⟩
end Sd

/-! Fractions: the mathematics. -/
set_option linter.all false
namespace Sd
/-- the least of some -/
def minR : List Rat → Option Rat
  | [] => none
  | r :: rs => match minR rs with
    | none => some r
    | some s => if s < r then some s else some r
/-- the divisor by which a fraction comes to lowest terms -/
def gcdS (t b : Int) : Int := if b < 0 then -(Nat.gcd t.natAbs b.natAbs : Int) else (Nat.gcd t.natAbs b.natAbs : Int)
theorem gcdS_ne {t b : Int} (hb : b ≠ 0) : gcdS t b ≠ 0 := by
  have : 0 < Nat.gcd t.natAbs b.natAbs := Nat.gcd_pos_of_pos_right _ (by omega)
  unfold gcdS
  split <;> omega
theorem gcdS_le {t b : Int} (hb : b ≠ 0) : (gcdS t b).natAbs ≤ b.natAbs := by
  have : Nat.gcd t.natAbs b.natAbs ≤ b.natAbs := Nat.gcd_le_right _ (by omega)
  unfold gcdS
  split <;> omega
theorem gcd_low (t b : Int) (hb : b ≠ 0) : t.fdiv (gcdS t b) = ((t : Rat) / (b : Rat)).num ∧ b.fdiv (gcdS t b) = (((t : Rat) / (b : Rat)).den : Int) := by
  rw [← Rat.divInt_eq_div, Rat.num_divInt, Rat.den_divInt, if_neg hb]
  have hg : b.gcd t = Nat.gcd t.natAbs b.natAbs := by rw [Int.gcd_eq_natAbs_gcd_natAbs, Nat.gcd_comm]
  rw [hg]
  have hp : 0 < Nat.gcd t.natAbs b.natAbs := Nat.gcd_pos_of_pos_right _ (by omega)
  have d1 : (Nat.gcd t.natAbs b.natAbs : Int) ∣ t := Int.ofNat_dvd_left.mpr (Nat.gcd_dvd_left _ _)
  have d2 : (Nat.gcd t.natAbs b.natAbs : Int) ∣ b := Int.ofNat_dvd_left.mpr (Nat.gcd_dvd_right _ _)
  unfold gcdS
  generalize Nat.gcd t.natAbs b.natAbs = g at *
  have hg0 : (g : Int) ≠ 0 := by omega
  by_cases h : b < 0
  · rw [if_pos h, Int.fdiv_neg hg0, if_pos d1, Int.fdiv_neg hg0, if_pos d2, Int.fdiv_eq_ediv_of_nonneg _ (by omega), Int.fdiv_eq_ediv_of_nonneg _ (by omega), Int.sign_eq_neg_one_of_neg h]
    refine ⟨?_, ?_⟩
    · rw [Int.neg_one_mul, Int.neg_ediv_of_dvd d1]
    · rw [Int.natCast_ediv, ← Int.neg_ediv_of_dvd d2]
      congr 1
      omega
  · rw [if_neg h, Int.fdiv_eq_ediv_of_nonneg _ (by omega), Int.fdiv_eq_ediv_of_nonneg _ (by omega), Int.sign_eq_one_of_pos (by omega)]
    refine ⟨by rw [Int.one_mul], ?_⟩
    rw [Int.natCast_ediv]
    congr 1
    omega
theorem den_le {t b : Int} (hb : b ≠ 0) : (((t : Rat) / (b : Rat)).den : Int) ≤ b.natAbs := by
  rw [← Rat.divInt_eq_div, Rat.den_divInt, if_neg hb]
  have := Nat.div_le_self b.natAbs (b.gcd t)
  omega
theorem minR_mem : ∀ {rs : List Rat} {r : Rat}, minR rs = some r → r ∈ rs ∧ ∀ s ∈ rs, r ≤ s
  | [], _, h => by simp [minR] at h
  | x :: rs, r, h => by
    unfold minR at h
    split at h
    · rename_i q
      cases rs with
      | nil => cases h; simp
      | cons y ys => exfalso; unfold minR at q; split at q <;> (try split at q) <;> cases q
    · rename_i s q
      obtain ⟨h1, h2⟩ := minR_mem q
      split at h
      · cases h
        refine ⟨List.mem_cons_of_mem _ h1, fun z hz => ?_⟩
        rcases List.mem_cons.mp hz with rfl | hz
        · grind
        · exact h2 z hz
      · cases h
        refine ⟨List.mem_cons_self, fun z hz => ?_⟩
        rcases List.mem_cons.mp hz with rfl | hz
        · grind
        · have := h2 z hz
          grind
/-- the greatest of some -/
def maxR : List Rat → Option Rat
  | [] => none
  | r :: rs => match maxR rs with
    | none => some r
    | some s => if r < s then some s else some r
theorem maxR_mem : ∀ {rs : List Rat} {r : Rat}, maxR rs = some r → r ∈ rs ∧ ∀ s ∈ rs, s ≤ r
  | [], _, h => by simp [maxR] at h
  | x :: rs, r, h => by
    unfold maxR at h
    split at h
    · rename_i q
      cases rs with
      | nil => cases h; simp
      | cons y ys => exfalso; unfold maxR at q; split at q <;> (try split at q) <;> cases q
    · rename_i s q
      obtain ⟨h1, h2⟩ := maxR_mem q
      split at h
      · cases h
        refine ⟨List.mem_cons_of_mem _ h1, fun z hz => ?_⟩
        rcases List.mem_cons.mp hz with rfl | hz
        · grind
        · exact h2 z hz
      · cases h
        refine ⟨List.mem_cons_self, fun z hz => ?_⟩
        rcases List.mem_cons.mp hz with rfl | hz
        · grind
        · have := h2 z hz
          grind
theorem maxR_none {rs : List Rat} (h : maxR rs = none) : rs = [] := by
  cases rs with
  | nil => rfl
  | cons y ys => exfalso; unfold maxR at h; split at h <;> (try split at h) <;> cases h
theorem minR_none {rs : List Rat} (h : minR rs = none) : rs = [] := by
  cases rs with
  | nil => rfl
  | cons y ys => exfalso; unfold minR at h; split at h <;> (try split at h) <;> cases h
theorem below_iff (r s : Rat) : (r.num * (s.den : Int) < s.num * (r.den : Int)) ↔ r < s := (Rat.lt_iff r s).symm
end Sd

/-! The course of a rumour as a plain function. -/
set_option linter.all false
namespace Sd
abbrev Wl := Int × Int
def posR (w : Wl) (t : Rat) : Rat := (w.1 : Rat) + (w.2 : Rat) * t
structure EndS where
  bg : Int
  way : Int
  line : Wl
  driver : Option Nat
  drives : List (Rat × Nat)
def EndS.lead (E : EndS) (w : Wl) : Int := E.way * (E.line.2 - w.2)
def EndS.level (E : EndS) (w : Wl) (t : Rat) : Prop := posR w t = posR E.line t
instance (E : EndS) (w : Wl) (t : Rat) : Decidable (E.level w t) := inferInstanceAs (Decidable (_ = _))
def EndS.take (E : EndS) (t : Rat) (k : Nat) (w : Wl) : EndS := { E with line := w, driver := some k, drives := E.drives ++ [(t, k)] }
abbrev Kn := Option (Rat × Option Nat)
structure CoS where
  ws : List Wl
  start : Int
  hi : Int
  left : EndS
  right : EndS
  knows : List Kn
def CoS.entry (S : CoS) (w : Wl) : EndS := if w.1 < S.start then S.left else S.right
/-- who comes in at this time knows -/
def tellL (S : CoS) (t : Rat) : List Wl → List Kn → List Kn
  | w :: ws, kn :: ks => (if kn = none ∧ (S.entry w).level w t then some (t, (S.entry w).driver) else kn) :: tellL S t ws ks
  | _, _ => []
def CoS.tell (S : CoS) (t : Rat) : CoS := { S with knows := tellL S t S.ws S.knows }
/-- the quickest of those who are level: from the number k on, the best so far and its lead -/
def pick (E : EndS) (t : Rat) : List Wl → Nat → Option Nat → Int → Option Nat
  | [], _, q, _ => q
  | w :: ws, k, q, l => if E.lead w < l ∧ E.level w t then pick E t ws (k + 1) (some k) (E.lead w) else pick E t ws (k + 1) q l
def EndS.drive (E : EndS) (t : Rat) (ws : List Wl) : EndS := match pick E t ws 0 none 0 with
  | none => E
  | some k => E.take t k (ws.getD k (0, 0))
def CoS.work (S : CoS) (t : Rat) : CoS := { S with knows := tellL S t S.ws S.knows, left := S.left.drive t S.ws, right := S.right.drive t S.ws }
def meet (w l : Wl) : Rat := ((l.1 - w.1 : Int) : Rat) / ((w.2 - l.2 : Int) : Rat)
def catchR (E : EndS) (w : Wl) : List Rat := if E.lead w < 0 then [meet w E.line] else []
def timesW (S : CoS) (w : Wl) (kn : Kn) : List Rat := match kn with
  | none => if 0 < (S.entry w).lead w then [meet w (S.entry w).line] else []
  | some _ => catchR S.left w ++ catchR S.right w
def timesL (S : CoS) : List Wl → List Kn → List Rat
  | w :: ws, kn :: ks => timesW S w kn ++ timesL S ws ks
  | _, _ => []
def CoS.next (S : CoS) : Option Rat := minR (timesL S S.ws S.knows)
def runC : Nat → CoS → Rat → CoS
  | 0, S, t => S.work t
  | n + 1, S, t => match (S.work t).next with
    | none => S.work t
    | some u => runC n (S.work t) u
def end0 (start way : Int) : EndS := ⟨start, way, (start, 0), none, []⟩
def co0 (ws : List Wl) (start : Int) : CoS := ⟨ws, start, start, end0 start (-1), end0 start 1, ws.map fun _ => none⟩
/-- who is between the ends at time 0 knows -/
def insK (lo hi : Int) (w : Wl) : Kn := if lo ≤ w.1 ∧ w.1 ≤ hi then some (0, none) else none
def coG (ws : List Wl) (lo hi : Int) : CoS := ⟨ws, lo, hi, end0 lo (-1), end0 hi 1, ws.map (insK lo hi)⟩
def courseG (ws : List Wl) (lo hi : Int) : CoS := runC (3 * ws.length + 1) (coG ws lo hi) 0
def course (ws : List Wl) (start : Int) : CoS := runC (3 * ws.length + 1) (co0 ws start) 0
/-! ### it comes to an end -/
def unk : List Kn → Nat
  | [] => 0
  | none :: ks => unk ks + 1
  | some _ :: ks => unk ks
def quick (E : EndS) : List Wl → Nat
  | [] => 0
  | w :: ws => if E.lead w < 0 then quick E ws + 1 else quick E ws
def mu (S : CoS) : Nat := unk S.knows + quick S.left S.ws + quick S.right S.ws
theorem meet_level {w l : Wl} (h : w.2 ≠ l.2) : posR w (meet w l) = posR l (meet w l) := by
  unfold posR meet
  have h' : ((w.2 : Rat) - (l.2 : Rat)) ≠ 0 := by
    intro e
    exact h (Rat.intCast_inj.mp (by grind))
  rw [Rat.intCast_sub, Rat.intCast_sub]
  grind
theorem lead_ne {E : EndS} {w : Wl} (h : E.lead w ≠ 0) : w.2 ≠ E.line.2 := by
  intro e
  apply h
  unfold EndS.lead
  rw [e, Int.sub_self, Int.mul_zero]
theorem pick_le (E : EndS) (t : Rat) : ∀ (ws : List Wl) (k : Nat) (q : Option Nat) (l : Int) (j : Nat), pick E t ws k q l = some j → (q = some j ∨ ∃ i w, ws[i]? = some w ∧ j = k + i ∧ E.lead w < l ∧ E.level w t)
  | [], k, q, l, j, h => .inl h
  | w :: ws, k, q, l, j, h => by
    unfold pick at h
    split at h
    · rename_i c
      rcases pick_le E t ws (k + 1) (some k) (E.lead w) j h with e | ⟨i, v, hv, hj, hl, hlev⟩
      · cases e
        exact .inr ⟨0, w, rfl, by omega, c.1, c.2⟩
      · exact .inr ⟨i + 1, v, by simpa using hv, by omega, Int.lt_trans hl c.1, hlev⟩
    · rcases pick_le E t ws (k + 1) q l j h with e | ⟨i, v, hv, hj, hl, hlev⟩
      · exact .inl e
      · exact .inr ⟨i + 1, v, by simpa using hv, by omega, hl, hlev⟩
theorem pick_some (E : EndS) (t : Rat) : ∀ (ws : List Wl) (k : Nat) (q : Option Nat) (l : Int), (q ≠ none ∨ ∃ w ∈ ws, E.lead w < l ∧ E.level w t) → pick E t ws k q l ≠ none
  | [], k, q, l, h => by
    rcases h with h | ⟨w, hw, _⟩
    · exact h
    · cases hw
  | w :: ws, k, q, l, h => by
    unfold pick
    split
    · exact pick_some E t ws _ _ _ (.inl (by simp))
    · rename_i c
      refine pick_some E t ws _ _ _ ?_
      rcases h with h | ⟨v, hv, hl, hlev⟩
      · exact .inl h
      · rcases List.mem_cons.mp hv with e | hv
        · subst e; exact absurd ⟨hl, hlev⟩ c
        · exact .inr ⟨v, hv, hl, hlev⟩
theorem quick_mono {E F : EndS} (h : ∀ w, F.lead w < 0 → E.lead w < 0) : ∀ ws : List Wl, quick F ws ≤ quick E ws
  | [] => Nat.le_refl _
  | w :: ws => by
    have ih := quick_mono h ws
    unfold quick
    by_cases c : F.lead w < 0
    · rw [if_pos c, if_pos (h w c)]; omega
    · rw [if_neg c]; split <;> omega
theorem quick_lt {E F : EndS} (h : ∀ w, F.lead w < 0 → E.lead w < 0) {v : Wl} (h1 : E.lead v < 0) (h2 : ¬ F.lead v < 0) : ∀ {ws : List Wl}, v ∈ ws → quick F ws < quick E ws
  | w :: ws, hv => by
    unfold quick
    rcases List.mem_cons.mp hv with e | hv
    · subst e
      rw [if_neg h2, if_pos h1]
      have := quick_mono h ws
      omega
    · have ih := quick_lt h h1 h2 hv
      by_cases c : F.lead w < 0
      · rw [if_pos c, if_pos (h w c)]; omega
      · rw [if_neg c]; split <;> omega
/-- who drives is quicker than the end was: fewer are quicker -/
theorem drive_quick (E : EndS) (hw : E.way = 1 ∨ E.way = -1) (t : Rat) (ws : List Wl) : (E.drive t ws).way = E.way ∧ quick (E.drive t ws) ws ≤ quick E ws ∧ ((∃ w ∈ ws, E.lead w < 0 ∧ E.level w t) → quick (E.drive t ws) ws < quick E ws) := by
  unfold EndS.drive
  cases e : pick E t ws 0 none 0 with
  | none =>
    refine ⟨rfl, Nat.le_refl _, fun ⟨w, h1, h2, h3⟩ => ?_⟩
    exact absurd e (pick_some E t ws 0 none 0 (.inr ⟨w, h1, h2, h3⟩))
  | some k =>
    rcases pick_le E t ws 0 none 0 k e with z | ⟨i, v, hv, hk, hl, hlev⟩
    · cases z
    · obtain rfl : k = i := by omega
      have hg : ws.getD k (0, 0) = v := by rw [List.getD_eq_getElem?_getD, hv]; rfl
      simp only [hg]
      have hm : v ∈ ws := List.mem_of_getElem? hv
      have h1 : ∀ w, (E.take t k v).lead w < 0 → E.lead w < 0 := fun w h => by
        unfold EndS.lead at hl ⊢
        have h' : E.way * (v.2 - w.2) < 0 := h
        rcases hw with z | z
        · rw [z] at h' hl ⊢; omega
        · rw [z] at h' hl ⊢; omega
      have h2 : ¬ (E.take t k v).lead v < 0 := by
        unfold EndS.lead EndS.take
        simp
      have h3 := quick_lt h1 hl h2 hm
      exact ⟨rfl, Nat.le_of_lt h3, fun _ => h3⟩
theorem tell_unk (S : CoS) (t : Rat) : ∀ (ws : List Wl) (ks : List Kn), ws.length = ks.length → (tellL S t ws ks).length = ks.length ∧ unk (tellL S t ws ks) ≤ unk ks ∧ ((∃ (i : Nat) (w : Wl), ws[i]? = some w ∧ ks[i]? = some none ∧ (S.entry w).level w t) → unk (tellL S t ws ks) < unk ks)
  | [], [], _ => ⟨rfl, Nat.le_refl _, fun ⟨i, w, h, _⟩ => by simp at h⟩
  | [], _ :: _, h => by simp at h
  | _ :: _, [], h => by simp at h
  | w :: ws, kn :: ks, h => by
    obtain ⟨i1, i2, i3⟩ := tell_unk S t ws ks (by simpa using h)
    unfold tellL
    refine ⟨by rw [List.length_cons, List.length_cons, i1], ?_, fun ⟨i, v, h1, h2, h3⟩ => ?_⟩
    · by_cases c : kn = none ∧ (S.entry w).level w t
      · rw [if_pos c, c.1]; simp only [unk]; omega
      · rw [if_neg c]
        cases kn <;> simp only [unk] <;> omega
    · cases i with
      | zero =>
        simp at h1 h2
        subst h1 h2
        rw [if_pos ⟨rfl, h3⟩]; simp only [unk]; omega
      | succ i =>
        have ih := i3 ⟨i, v, by simpa using h1, by simpa using h2, h3⟩
        by_cases c : kn = none ∧ (S.entry w).level w t
        · rw [if_pos c, c.1]; simp only [unk]; omega
        · rw [if_neg c]
          cases kn <;> simp only [unk] <;> omega
/-- of which walker an instant of next_time is -/
theorem times_mem (S : CoS) : ∀ (ws : List Wl) (ks : List Kn) (t : Rat), t ∈ timesL S ws ks → ∃ (i : Nat) (w : Wl) (kn : Kn), ws[i]? = some w ∧ ks[i]? = some kn ∧ t ∈ timesW S w kn
  | w :: ws, kn :: ks, t, h => by
    unfold timesL at h
    rcases List.mem_append.mp h with h | h
    · exact ⟨0, w, kn, rfl, rfl, h⟩
    · obtain ⟨i, v, k, h1, h2, h3⟩ := times_mem S ws ks t h
      exact ⟨i + 1, v, k, by simpa using h1, by simpa using h2, h3⟩
  | [], _, t, h => by simp [timesL] at h
  | _ :: _, [], t, h => by simp [timesL] at h
structure CoS.Ok (S : CoS) : Prop where
  len : S.ws.length = S.knows.length
  lw : S.left.way = -1
  rw : S.right.way = 1
theorem CoS.Ok.work {S : CoS} (h : S.Ok) (t : Rat) : (S.work t).Ok :=
  ⟨by have := (tell_unk S t S.ws S.knows h.len).1; show S.ws.length = (tellL S t S.ws S.knows).length; rw [this, h.len], (drive_quick S.left (.inr h.lw) t S.ws).1.trans h.lw, (drive_quick S.right (.inl h.rw) t S.ws).1.trans h.rw⟩
theorem CoS.Ok.entryWay {S : CoS} (h : S.Ok) (w : Wl) : (S.entry w).way = 1 ∨ (S.entry w).way = -1 := by
  unfold CoS.entry; split
  · exact .inr h.lw
  · exact .inl h.rw
theorem mu_work {S : CoS} (h : S.Ok) {u : Rat} (hn : S.next = some u) : mu (S.work u) < mu S := by
  obtain ⟨hm, _⟩ := minR_mem hn
  obtain ⟨i, w, kn, h1, h2, h3⟩ := times_mem S _ _ u hm
  obtain ⟨_, t2, t3⟩ := tell_unk S u S.ws S.knows h.len
  obtain ⟨_, l2, l3⟩ := drive_quick S.left (.inr h.lw) u S.ws
  obtain ⟨_, r2, r3⟩ := drive_quick S.right (.inl h.rw) u S.ws
  have hw : w ∈ S.ws := List.mem_of_getElem? h1
  show unk (tellL S u S.ws S.knows) + quick (S.left.drive u S.ws) S.ws + quick (S.right.drive u S.ws) S.ws < unk S.knows + quick S.left S.ws + quick S.right S.ws
  have lev : ∀ E : EndS, E.lead w ≠ 0 → u = meet w E.line → E.level w u := fun E hE e => by
    unfold EndS.level; rw [e]; exact meet_level (lead_ne hE)
  cases kn with
  | none =>
    unfold timesW at h3
    simp only at h3
    split at h3
    · rename_i c
      have := t3 ⟨i, w, h1, h2, lev _ (by omega) (by simpa using h3)⟩
      omega
    · cases h3
  | some p =>
    unfold timesW catchR at h3
    simp only at h3
    rcases List.mem_append.mp h3 with h3 | h3
    · split at h3
      · rename_i c
        have := l3 ⟨w, hw, c, lev _ (by omega) (by simpa using h3)⟩
        omega
      · cases h3
    · split at h3
      · rename_i c
        have := r3 ⟨w, hw, c, lev _ (by omega) (by simpa using h3)⟩
        omega
      · cases h3
/-- enough turns -/
theorem runC_more : ∀ (n : Nat) (S : CoS) (t : Rat), (S.work t).Ok → mu (S.work t) < n → runC n S t = runC (n + 1) S t
  | 0, S, t, _, h => absurd h (Nat.not_lt_zero _)
  | n + 1, S, t, ok, h => by
    rw [runC, runC]
    cases e : (S.work t).next with
    | none => rfl
    | some u => exact runC_more n _ u (ok.work u) (by have := mu_work ok e; omega)
/-! ### from one place -/
theorem posR_0 (w : Wl) : posR w 0 = (w.1 : Rat) := by unfold posR; grind
theorem lvl0 (w : Wl) (s way : Int) : (end0 s way).level w 0 ↔ w.1 = s := by
  unfold EndS.level end0
  simp only [posR_0]
  exact Rat.intCast_inj
theorem ins_tell (S T : CoS) (s : Int) (hS : S.left = end0 s (-1)) (hS2 : S.right = end0 s 1) (hT : T.left = end0 s (-1)) (hT2 : T.right = end0 s 1) : ∀ vs : List Wl,
    tellL S 0 vs (vs.map (insK s s)) = tellL T 0 vs (vs.map fun _ => none)
  | [] => rfl
  | w :: vs => by
    have ih := ins_tell S T s hS hS2 hT hT2 vs
    have eS : (S.entry w).driver = none ∧ ((S.entry w).level w 0 ↔ w.1 = s) := by
      unfold CoS.entry; split
      · rw [hS]; exact ⟨rfl, lvl0 w s _⟩
      · rw [hS2]; exact ⟨rfl, lvl0 w s _⟩
    have eT : (T.entry w).driver = none ∧ ((T.entry w).level w 0 ↔ w.1 = s) := by
      unfold CoS.entry; split
      · rw [hT]; exact ⟨rfl, lvl0 w s _⟩
      · rw [hT2]; exact ⟨rfl, lvl0 w s _⟩
    simp only [List.map_cons, tellL]
    rw [ih, eT.1]
    congr 1
    by_cases c : w.1 = s
    · have : insK s s w = some (0, none) := by unfold insK; rw [if_pos (by omega)]
      rw [this, if_neg (by simp), if_pos (by simp [eT.2.mpr c])]
    · have : insK s s w = none := by unfold insK; rw [if_neg (by omega)]
      rw [this, if_neg (fun z => c (eS.2.mp z.2)), if_neg (fun z => c (eT.2.mp z.2))]
theorem work_coG (ws : List Wl) (s : Int) : (coG ws s s).work 0 = (co0 ws s).work 0 := by
  have := ins_tell (coG ws s s) (co0 ws s) s rfl rfl rfl rfl ws
  unfold CoS.work
  rw [show (coG ws s s).ws = ws from rfl, show (coG ws s s).knows = ws.map (insK s s) from rfl, show (co0 ws s).ws = ws from rfl, show (co0 ws s).knows = ws.map (fun _ => none) from rfl, this]
  rfl
theorem courseG_one (ws : List Wl) (s : Int) : courseG ws s s = course ws s := by
  unfold courseG course
  rw [runC, runC, work_coG]
theorem runC_hi : ∀ (n : Nat) (S : CoS) (t : Rat), (runC n S t).hi = S.hi
  | 0, S, t => rfl
  | n + 1, S, t => by
    rw [runC]
    cases (S.work t).next with
    | none => rfl
    | some u => exact runC_hi n _ u
end Sd

/-! What holds of a course: the invariant, and how any time looks. -/
set_option linter.all false
set_option maxHeartbeats 1000000
namespace Sd
theorem posR_lin (w l : Wl) (s : Rat) (h : w.2 ≠ l.2) : posR w s - posR l s = ((w.2 : Rat) - (l.2 : Rat)) * (s - meet w l) := by
  have e := meet_level h
  unfold posR at *
  grind
theorem cast_lt {a b : Int} (h : a < b) : (a : Rat) < (b : Rat) := Rat.intCast_lt_intCast.mpr h
theorem cast_le {a b : Int} (h : a ≤ b) : (a : Rat) ≤ (b : Rat) := Rat.intCast_le_intCast.mpr h
/-- who isn't quicker to the right stays behind -/
theorem stay_le {w l : Wl} {t s : Rat} (h : posR w t ≤ posR l t) (hp : w.2 ≤ l.2) (hs : t ≤ s) : posR w s ≤ posR l s := by
  have := Rat.mul_nonneg (a := (l.2 : Rat) - (w.2 : Rat)) (b := s - t) (by have := cast_le hp; grind) (by grind)
  unfold posR at *
  grind
theorem stay_lt {w l : Wl} {t s : Rat} (h : posR w t < posR l t) (hp : w.2 ≤ l.2) (hs : t ≤ s) : posR w s < posR l s := by
  have := Rat.mul_nonneg (a := (l.2 : Rat) - (w.2 : Rat)) (b := s - t) (by have := cast_le hp; grind) (by grind)
  unfold posR at *
  grind
/-- who is quicker to the right is behind till they meet -/
theorem till_le {w l : Wl} {s : Rat} (hp : l.2 < w.2) (hs : s ≤ meet w l) : posR w s ≤ posR l s := by
  have e := posR_lin w l s (by omega)
  have := Rat.mul_nonneg (a := (w.2 : Rat) - (l.2 : Rat)) (b := meet w l - s) (by have := cast_lt hp; grind) (by grind)
  grind
theorem till_lt {w l : Wl} {s : Rat} (hp : l.2 < w.2) (hs : s < meet w l) : posR w s < posR l s := by
  have e := posR_lin w l s (by omega)
  have := Rat.mul_pos (a := (w.2 : Rat) - (l.2 : Rat)) (b := meet w l - s) (by have := cast_lt hp; grind) (by grind)
  grind
theorem meet_comm (w l : Wl) : meet w l = meet l w := by
  unfold meet
  rw [show (l.1 - w.1 : Int) = -(w.1 - l.1) by omega, show (w.2 - l.2 : Int) = -(l.2 - w.2) by omega, Rat.intCast_neg, Rat.intCast_neg]
  generalize ((w.1 - l.1 : Int) : Rat) = a
  generalize ((l.2 - w.2 : Int) : Rat) = b
  rw [Rat.div_def, Rat.div_def]
  by_cases z : b = 0
  · subst z
    rw [show -(0 : Rat) = 0 by grind, Rat.inv_zero]
    grind
  · have h1 := Rat.mul_inv_cancel b z
    have h2 := Rat.mul_inv_cancel (-b) (by grind)
    generalize b⁻¹ = c at *
    generalize (-b)⁻¹ = d at *
    have : c + d = 0 := by
      have e : b * (c + d) = 0 := by grind
      rcases Rat.mul_eq_zero.mp e with q | q
      · exact absurd q z
      · exact q
    grind
theorem after_of_lt {w l : Wl} {t : Rat} (h : posR w t < posR l t) (hp : l.2 < w.2) : t < meet w l := by
  have e := posR_lin w l t (by omega)
  have c := cast_lt hp
  by_cases z : t < meet w l
  · exact z
  · have := Rat.mul_nonneg (a := (w.2 : Rat) - (l.2 : Rat)) (b := t - meet w l) (by grind) (by grind)
    grind
/-- what holds behind the work at a time -/
structure Iv (S : CoS) (t : Rat) : Prop where
  ok : S.Ok
  t0 : 0 ≤ t
  kt : ∀ (i : Nat) (p : Rat × Option Nat), S.knows[i]? = some (some p) → 0 ≤ p.1 ∧ p.1 ≤ t
  inn : ∀ (i : Nat) (w : Wl) (p : Rat × Option Nat), S.ws[i]? = some w → S.knows[i]? = some (some p) → posR S.left.line t ≤ posR w t ∧ posR w t ≤ posR S.right.line t
  qL : ∀ (i : Nat) (w : Wl) (p : Rat × Option Nat), S.ws[i]? = some w → S.knows[i]? = some (some p) → posR w t = posR S.left.line t → 0 ≤ S.left.lead w
  qR : ∀ (i : Nat) (w : Wl) (p : Rat × Option Nat), S.ws[i]? = some w → S.knows[i]? = some (some p) → posR w t = posR S.right.line t → 0 ≤ S.right.lead w
  out : ∀ (i : Nat) (w : Wl), S.ws[i]? = some w → S.knows[i]? = some none → (w.1 < S.start → posR w t < posR S.left.line t) ∧ (¬ w.1 < S.start → posR S.right.line t < posR w t)
  mid : posR S.left.line t ≤ (S.start : Rat) ∧ (S.start : Rat) ≤ posR S.right.line t
  pl : S.left.line.2 ≤ 0
  pr : 0 ≤ S.right.line.2
/-- what holds ahead of the work at a time -/
structure Pv (S : CoS) (t : Rat) : Prop where
  ok : S.Ok
  t0 : 0 ≤ t
  kt : ∀ (i : Nat) (p : Rat × Option Nat), S.knows[i]? = some (some p) → 0 ≤ p.1 ∧ p.1 ≤ t
  inn : ∀ (i : Nat) (w : Wl) (p : Rat × Option Nat), S.ws[i]? = some w → S.knows[i]? = some (some p) → posR S.left.line t ≤ posR w t ∧ posR w t ≤ posR S.right.line t
  out : ∀ (i : Nat) (w : Wl), S.ws[i]? = some w → S.knows[i]? = some none → (w.1 < S.start → posR w t ≤ posR S.left.line t) ∧ (¬ w.1 < S.start → posR S.right.line t ≤ posR w t)
  mid : posR S.left.line t ≤ (S.start : Rat) ∧ (S.start : Rat) ≤ posR S.right.line t
  pl : S.left.line.2 ≤ 0
  pr : 0 ≤ S.right.line.2
theorem tellL_get (S : CoS) (t : Rat) : ∀ (ws : List Wl) (ks : List Kn) (i : Nat) (w : Wl) (k : Kn), ws[i]? = some w → ks[i]? = some k → (tellL S t ws ks)[i]? = some (if k = none ∧ (S.entry w).level w t then some (t, (S.entry w).driver) else k)
  | w :: ws, k :: ks, 0, _, _, h1, h2 => by simp at h1 h2; subst h1 h2; rfl
  | w :: ws, k :: ks, i + 1, v, l, h1, h2 => by
    rw [tellL, List.getElem?_cons_succ]
    exact tellL_get S t ws ks i v l (by simpa using h1) (by simpa using h2)
  | [], _, _, _, _, h1, _ => by simp at h1
  | _ :: _, [], _, _, _, _, h2 => by simp at h2
theorem get_both {S : CoS} (ok : S.Ok) {i : Nat} {k : Kn} (h : S.knows[i]? = some k) : ∃ w, S.ws[i]? = some w := by
  have hl := (List.getElem?_eq_some_iff.mp h).1
  exact ⟨_, List.getElem?_eq_getElem (by rw [ok.len]; exact hl)⟩
theorem get_kn {S : CoS} (ok : S.Ok) {i : Nat} {w : Wl} (h : S.ws[i]? = some w) : ∃ k, S.knows[i]? = some k := by
  have hl := (List.getElem?_eq_some_iff.mp h).1
  exact ⟨_, List.getElem?_eq_getElem (by rw [← ok.len]; exact hl)⟩
theorem pick_best (E : EndS) (t : Rat) : ∀ (ws : List Wl) (k : Nat) (q : Option Nat) (l : Int) (j : Nat), pick E t ws k q l = some j → (q = some j ∧ ∀ w ∈ ws, E.level w t → l ≤ E.lead w) ∨ ∃ i v, ws[i]? = some v ∧ j = k + i ∧ E.lead v < l ∧ E.level v t ∧ ∀ w ∈ ws, E.level w t → E.lead v ≤ E.lead w
  | [], k, q, l, j, h => .inl ⟨h, fun w hw => nomatch hw⟩
  | w :: ws, k, q, l, j, h => by
    unfold pick at h
    split at h
    · rename_i c
      rcases pick_best E t ws (k + 1) (some k) (E.lead w) j h with ⟨e, b⟩ | ⟨i, v, hv, hj, hl, hlev, b⟩
      · cases e
        refine .inr ⟨0, w, rfl, by omega, c.1, c.2, fun x hx lx => ?_⟩
        rcases List.mem_cons.mp hx with rfl | hx
        · exact Int.le_refl _
        · exact b x hx lx
      · refine .inr ⟨i + 1, v, by simpa using hv, by omega, Int.lt_trans hl c.1, hlev, fun x hx lx => ?_⟩
        rcases List.mem_cons.mp hx with rfl | hx
        · exact Int.le_of_lt hl
        · exact b x hx lx
    · rename_i c
      rcases pick_best E t ws (k + 1) q l j h with ⟨e, b⟩ | ⟨i, v, hv, hj, hl, hlev, b⟩
      · refine .inl ⟨e, fun x hx lx => ?_⟩
        rcases List.mem_cons.mp hx with rfl | hx
        · by_cases z : E.lead x < l
          · exact absurd ⟨z, lx⟩ c
          · omega
        · exact b x hx lx
      · refine .inr ⟨i + 1, v, by simpa using hv, by omega, hl, hlev, fun x hx lx => ?_⟩
        rcases List.mem_cons.mp hx with rfl | hx
        · by_cases z : E.lead x < l
          · exact absurd ⟨z, lx⟩ c
          · omega
        · exact b x hx lx
theorem pick_none (E : EndS) (t : Rat) {ws : List Wl} (h : pick E t ws 0 none 0 = none) : ∀ w ∈ ws, E.level w t → 0 ≤ E.lead w := fun w hw lw => by
  by_cases z : E.lead w < 0
  · exact absurd h (pick_some E t ws 0 none 0 (.inr ⟨w, hw, z, lw⟩))
  · omega
/-- the end behind the drive: at the same point, and none of those who are level is quicker -/
theorem drive_spec (E : EndS) (t : Rat) (ws : List Wl) (hw : E.way = 1 ∨ E.way = -1) : (E.drive t ws).way = E.way ∧ posR (E.drive t ws).line t = posR E.line t ∧ (∀ w ∈ ws, posR w t = posR E.line t → 0 ≤ (E.drive t ws).lead w) ∧
    ((E.drive t ws = E) ∨ ∃ k v, ws[k]? = some v ∧ E.lead v < 0 ∧ posR v t = posR E.line t ∧ E.drive t ws = E.take t k v) := by
  unfold EndS.drive
  cases e : pick E t ws 0 none 0 with
  | none => exact ⟨rfl, rfl, fun w hw lw => pick_none E t e w hw lw, .inl rfl⟩
  | some k =>
    rcases pick_best E t ws 0 none 0 k e with ⟨z, _⟩ | ⟨i, v, hv, hk, hl, hlev, b⟩
    · cases z
    · obtain rfl : k = i := by omega
      have hg : ws.getD k (0, 0) = v := by rw [List.getD_eq_getElem?_getD, hv]; rfl
      simp only [hg]
      refine ⟨rfl, hlev, fun w hm lw => ?_, .inr ⟨k, v, hv, hl, hlev, rfl⟩⟩
      have := b w hm lw
      unfold EndS.lead at *
      show 0 ≤ E.way * (v.2 - w.2)
      rcases hw with z | z
      · rw [z] at this ⊢; omega
      · rw [z] at this ⊢; omega
theorem lead_left {S : CoS} (ok : S.Ok) (w : Wl) : S.left.lead w = w.2 - S.left.line.2 := by unfold EndS.lead; rw [ok.lw]; omega
theorem lead_right {S : CoS} (ok : S.Ok) (w : Wl) : S.right.lead w = S.right.line.2 - w.2 := by unfold EndS.lead; rw [ok.rw]; omega
theorem work_iv {S : CoS} {u : Rat} (h : Pv S u) : Iv (S.work u) u := by
  obtain ⟨_, l2, l3, l4⟩ := drive_spec S.left u S.ws (.inr h.ok.lw)
  obtain ⟨_, r2, r3, r4⟩ := drive_spec S.right u S.ws (.inl h.ok.rw)
  have LR : posR S.left.line u ≤ posR S.right.line u := by have := h.mid; grind
  -- who knows behind the tell
  have kn : ∀ (i : Nat) (w : Wl) (p : Rat × Option Nat), S.ws[i]? = some w → (S.work u).knows[i]? = some (some p) → S.knows[i]? = some (some p) ∨ (p.1 = u ∧ S.knows[i]? = some none ∧ (S.entry w).level w u) := fun i w p hw hp => by
    obtain ⟨k, hk⟩ := get_kn h.ok hw
    have e := tellL_get S u S.ws S.knows i w k hw hk
    have hp' : (tellL S u S.ws S.knows)[i]? = some (some p) := hp
    rw [e] at hp'
    split at hp'
    · rename_i c
      cases hp'
      exact .inr ⟨rfl, by rw [hk, c.1], c.2⟩
    · cases hp'
      exact .inl hk
  have hin : ∀ (i : Nat) (w : Wl) (p : Rat × Option Nat), S.ws[i]? = some w → (S.work u).knows[i]? = some (some p) → posR S.left.line u ≤ posR w u ∧ posR w u ≤ posR S.right.line u := fun i w p hw hp => by
    rcases kn i w p hw hp with q | ⟨_, _, q⟩
    · exact h.inn i w p hw q
    · unfold EndS.level CoS.entry at q
      split at q
      · rw [q]; exact ⟨Rat.le_refl, LR⟩
      · rw [q]; exact ⟨LR, Rat.le_refl⟩
  refine ⟨h.ok.work u, h.t0, fun i p hp => ?_, fun i w p hw hp => ?_, fun i w p hw hp e => ?_, fun i w p hw hp e => ?_, fun i w hw hp => ?_, ?_, ?_, ?_⟩
  · obtain ⟨w, hw⟩ := get_both (h.ok.work u) hp
    rcases kn i w p hw hp with q | ⟨q, _⟩
    · have := h.kt i p q; exact this
    · rw [q]; exact ⟨h.t0, Rat.le_refl⟩
  · show posR (S.left.drive u S.ws).line u ≤ _ ∧ _ ≤ posR (S.right.drive u S.ws).line u
    rw [l2, r2]
    exact hin i w p hw hp
  · have e' : posR w u = posR (S.left.drive u S.ws).line u := e
    rw [l2] at e'
    exact l3 w (List.mem_of_getElem? hw) e'
  · have e' : posR w u = posR (S.right.drive u S.ws).line u := e
    rw [r2] at e'
    exact r3 w (List.mem_of_getElem? hw) e'
  · have hw' : S.ws[i]? = some w := hw
    obtain ⟨k, hk⟩ := get_kn h.ok hw'
    have e := tellL_get S u S.ws S.knows i w k hw' hk
    have hp' : (tellL S u S.ws S.knows)[i]? = some none := hp
    rw [e] at hp'
    split at hp'
    · cases hp'
    · rename_i c
      cases hp'
      obtain ⟨o1, o2⟩ := h.out i w hw' hk
      have nl : ¬ (S.entry w).level w u := fun z => c ⟨rfl, z⟩
      show (w.1 < S.start → posR w u < posR (S.left.drive u S.ws).line u) ∧ (¬ w.1 < S.start → posR (S.right.drive u S.ws).line u < posR w u)
      rw [l2, r2]
      unfold EndS.level CoS.entry at nl
      refine ⟨fun z => ?_, fun z => ?_⟩
      · rw [if_pos z] at nl
        have := o1 z
        grind
      · rw [if_neg z] at nl
        have := o2 z
        grind
  · show posR (S.left.drive u S.ws).line u ≤ _ ∧ _ ≤ posR (S.right.drive u S.ws).line u
    rw [l2, r2]
    exact h.mid
  · show (S.left.drive u S.ws).line.2 ≤ 0
    rcases l4 with e | ⟨k, v, _, hl, _, e⟩
    · rw [e]; exact h.pl
    · rw [e]
      rw [lead_left h.ok] at hl
      show v.2 ≤ 0
      have := h.pl
      omega
  · show 0 ≤ (S.right.drive u S.ws).line.2
    rcases r4 with e | ⟨k, v, _, hl, _, e⟩
    · rw [e]; exact h.pr
    · rw [e]
      rw [lead_right h.ok] at hl
      show 0 ≤ v.2
      have := h.pr
      omega
theorem times_in (S : CoS) : ∀ (ws : List Wl) (ks : List Kn) (i : Nat) (w : Wl) (k : Kn) (t : Rat), ws[i]? = some w → ks[i]? = some k → t ∈ timesW S w k → t ∈ timesL S ws ks
  | w :: ws, k :: ks, 0, _, _, t, h1, h2, h => by simp at h1 h2; subst h1 h2; rw [timesL]; exact List.mem_append_left _ h
  | w :: ws, k :: ks, i + 1, v, l, t, h1, h2, h => by rw [timesL]; exact List.mem_append_right _ (times_in S ws ks i v l t (by simpa using h1) (by simpa using h2) h)
  | [], _, _, _, _, _, h1, _, _ => by simp at h1
  | _ :: _, [], _, _, _, _, _, h2, _ => by simp at h2
/-- not later than the next time -/
def Ahead (S : CoS) (s : Rat) : Prop := ∀ u, S.next = some u → s ≤ u
def AheadS (S : CoS) (s : Rat) : Prop := ∀ u, S.next = some u → s < u
theorem AheadS.le {S : CoS} {s : Rat} (h : AheadS S s) : Ahead S s := fun u e => Rat.le_of_lt (h u e)
theorem next_le {S : CoS} {i : Nat} {w : Wl} {k : Kn} {t : Rat} (h1 : S.ws[i]? = some w) (h2 : S.knows[i]? = some k) (h : t ∈ timesW S w k) : ∃ u, S.next = some u ∧ u ≤ t := by
  have hm := times_in S S.ws S.knows i w k t h1 h2 h
  cases e : S.next with
  | none => rw [minR_none e] at hm; cases hm
  | some u => exact ⟨u, rfl, (minR_mem e).2 t hm⟩
section
variable {S : CoS} {t s : Rat} (h : Iv S t) (hs : t ≤ s)
theorem Iv.mid_at (h : Iv S t) (hs : t ≤ s) : posR S.left.line s ≤ (S.start : Rat) ∧ (S.start : Rat) ≤ posR S.right.line s := by
  obtain ⟨h1, h2⟩ := h.mid
  have a := Rat.mul_nonneg (a := -(S.left.line.2 : Rat)) (b := s - t) (by have := cast_le h.pl; grind) (by grind)
  have b := Rat.mul_nonneg (a := (S.right.line.2 : Rat)) (b := s - t) (by have := cast_le h.pr; grind) (by grind)
  unfold posR at *
  constructor <;> grind
theorem Iv.inn_at (h : Iv S t) (hs : t ≤ s) (ha : Ahead S s) {i : Nat} {w : Wl} {p : Rat × Option Nat} (h1 : S.ws[i]? = some w) (h2 : S.knows[i]? = some (some p)) : posR S.left.line s ≤ posR w s ∧ posR w s ≤ posR S.right.line s := by
  obtain ⟨a, b⟩ := h.inn i w p h1 h2
  constructor
  · by_cases z : S.left.line.2 ≤ w.2
    · exact stay_le a z hs
    · have hl : S.left.lead w < 0 := by rw [lead_left h.ok]; omega
      obtain ⟨u, e, hu⟩ := next_le (t := meet w S.left.line) h1 h2 (by simp only [timesW, catchR]; rw [if_pos hl]; simp)
      have := ha u e
      rw [meet_comm] at hu
      exact till_le (by omega) (by grind)
  · by_cases z : w.2 ≤ S.right.line.2
    · exact stay_le b z hs
    · have hl : S.right.lead w < 0 := by rw [lead_right h.ok]; omega
      obtain ⟨u, e, hu⟩ := next_le (t := meet w S.right.line) h1 h2 (by simp only [timesW, catchR]; rw [if_pos hl]; simp)
      have := ha u e
      exact till_le (by omega) (by grind)
theorem Iv.out_at (h : Iv S t) (hs : t ≤ s) (ha : Ahead S s) {i : Nat} {w : Wl} (h1 : S.ws[i]? = some w) (h2 : S.knows[i]? = some none) : (w.1 < S.start → posR w s ≤ posR S.left.line s) ∧ (¬ w.1 < S.start → posR S.right.line s ≤ posR w s) := by
  obtain ⟨a, b⟩ := h.out i w h1 h2
  constructor
  · intro z
    by_cases c : w.2 ≤ S.left.line.2
    · exact stay_le (Rat.le_of_lt (a z)) c hs
    · have hl : 0 < (S.entry w).lead w := by unfold CoS.entry; rw [if_pos z, lead_left h.ok]; omega
      obtain ⟨u, e, hu⟩ := next_le (t := meet w S.left.line) h1 h2 (by simp only [timesW]; rw [if_pos hl]; unfold CoS.entry; rw [if_pos z]; simp)
      have := ha u e
      exact till_le (by omega) (by grind)
  · intro z
    by_cases c : S.right.line.2 ≤ w.2
    · exact stay_le (Rat.le_of_lt (b z)) c hs
    · have hl : 0 < (S.entry w).lead w := by unfold CoS.entry; rw [if_neg z, lead_right h.ok]; omega
      obtain ⟨u, e, hu⟩ := next_le (t := meet w S.right.line) h1 h2 (by simp only [timesW]; rw [if_pos hl]; unfold CoS.entry; rw [if_neg z]; simp)
      have := ha u e
      rw [meet_comm] at hu
      exact till_le (by omega) (by grind)
theorem Iv.out_atS (h : Iv S t) (hs : t ≤ s) (ha : AheadS S s) {i : Nat} {w : Wl} (h1 : S.ws[i]? = some w) (h2 : S.knows[i]? = some none) : (w.1 < S.start → posR w s < posR S.left.line s) ∧ (¬ w.1 < S.start → posR S.right.line s < posR w s) := by
  obtain ⟨a, b⟩ := h.out i w h1 h2
  constructor
  · intro z
    by_cases c : w.2 ≤ S.left.line.2
    · exact stay_lt (a z) c hs
    · have hl : 0 < (S.entry w).lead w := by unfold CoS.entry; rw [if_pos z, lead_left h.ok]; omega
      obtain ⟨u, e, hu⟩ := next_le (t := meet w S.left.line) h1 h2 (by simp only [timesW]; rw [if_pos hl]; unfold CoS.entry; rw [if_pos z]; simp)
      have := ha u e
      exact till_lt (by omega) (by grind)
  · intro z
    by_cases c : S.right.line.2 ≤ w.2
    · exact stay_lt (b z) c hs
    · have hl : 0 < (S.entry w).lead w := by unfold CoS.entry; rw [if_neg z, lead_right h.ok]; omega
      obtain ⟨u, e, hu⟩ := next_le (t := meet w S.right.line) h1 h2 (by simp only [timesW]; rw [if_pos hl]; unfold CoS.entry; rw [if_neg z]; simp)
      have := ha u e
      rw [meet_comm] at hu
      exact till_lt (by omega) (by grind)
/-- the next time is later -/
theorem Iv.next_gt (h : Iv S t) {u : Rat} (e : S.next = some u) : t < u := by
  obtain ⟨hm, _⟩ := minR_mem e
  obtain ⟨i, w, kn, h1, h2, h3⟩ := times_mem S _ _ u hm
  cases kn with
  | none =>
    obtain ⟨a, b⟩ := h.out i w h1 h2
    simp only [timesW] at h3
    split at h3
    · rename_i c
      rw [List.mem_singleton.mp h3]
      unfold CoS.entry at c ⊢
      by_cases z : w.1 < S.start
      · rw [if_pos z] at c ⊢
        rw [lead_left h.ok] at c
        exact after_of_lt (a z) (by omega)
      · rw [if_neg z] at c ⊢
        rw [lead_right h.ok] at c
        rw [meet_comm]
        exact after_of_lt (b z) (by omega)
    · cases h3
  | some p =>
    obtain ⟨a, b⟩ := h.inn i w p h1 h2
    simp only [timesW, catchR] at h3
    rcases List.mem_append.mp h3 with h3 | h3
    · split at h3
      · rename_i c
        rw [List.mem_singleton.mp h3]
        have ne : posR w t ≠ posR S.left.line t := fun z => by have := h.qL i w p h1 h2 z; omega
        rw [lead_left h.ok] at c
        rw [meet_comm]
        exact after_of_lt (by grind) (by omega)
      · cases h3
    · split at h3
      · rename_i c
        rw [List.mem_singleton.mp h3]
        have ne : posR w t ≠ posR S.right.line t := fun z => by have := h.qR i w p h1 h2 z; omega
        rw [lead_right h.ok] at c
        exact after_of_lt (by grind) (by omega)
      · cases h3
theorem Iv.pv (h : Iv S t) {u : Rat} (e : S.next = some u) : Pv S u := by
  have lt := h.next_gt e
  have ah : Ahead S u := fun v ev => by rw [e] at ev; cases ev; exact Rat.le_refl
  exact ⟨h.ok, by have := h.t0; grind, fun i p hp => by have := h.kt i p hp; grind, fun i w p h1 h2 => h.inn_at (Rat.le_of_lt lt) ah h1 h2, fun i w h1 h2 => h.out_at (Rat.le_of_lt lt) ah h1 h2, h.mid_at (Rat.le_of_lt lt), h.pl, h.pr⟩
end
theorem pv0 (ws : List Wl) (st : Int) : Pv (co0 ws st) 0 := by
  have e0 : ∀ w : Wl, posR w 0 = (w.1 : Rat) := fun w => by unfold posR; grind
  refine ⟨⟨by simp [co0], rfl, rfl⟩, Rat.le_refl, fun i p hp => ?_, fun i w p h1 h2 => ?_, fun i w h1 h2 => ?_, ?_, Int.le_refl _, Int.le_refl _⟩
  · have : (ws.map fun _ => (none : Kn))[i]? = some (some p) := hp
    rw [List.getElem?_map] at this
    cases q : ws[i]? <;> rw [q] at this <;> cases this
  · have : (ws.map fun _ => (none : Kn))[i]? = some (some p) := h2
    rw [List.getElem?_map] at this
    cases q : ws[i]? <;> rw [q] at this <;> cases this
  · show (w.1 < st → posR w 0 ≤ posR (st, 0) 0) ∧ (¬ w.1 < st → posR (st, 0) 0 ≤ posR w 0)
    rw [e0, e0]
    exact ⟨fun z => cast_le (by show w.1 ≤ st; omega), fun z => cast_le (by show st ≤ w.1; omega)⟩
  · show posR (st, 0) 0 ≤ (st : Rat) ∧ (st : Rat) ≤ posR (st, 0) 0
    rw [e0]
    exact ⟨Rat.le_refl, Rat.le_refl⟩
end Sd

/-! Any time of a course. -/
set_option linter.all false
set_option maxHeartbeats 1000000
namespace Sd
/-- R is S behind works later than s -/
structure Lat (s : Rat) (S R : CoS) : Prop where
  ws : R.ws = S.ws
  st : R.start = S.start
  k1 : ∀ (i : Nat) (p : Rat × Option Nat), S.knows[i]? = some (some p) → R.knows[i]? = some (some p)
  k2 : ∀ (i : Nat), S.knows[i]? = some none → R.knows[i]? = some none ∨ ∃ p : Rat × Option Nat, R.knows[i]? = some (some p) ∧ s < p.1
  dl : ∃ rest, R.left.drives = S.left.drives ++ rest ∧ ∀ d ∈ rest, s < d.1
  dr : ∃ rest, R.right.drives = S.right.drives ++ rest ∧ ∀ d ∈ rest, s < d.1
theorem Lat.refl {s : Rat} {S : CoS} : Lat s S S := ⟨rfl, rfl, fun _ _ h => h, fun _ h => .inl h, ⟨[], by simp, fun _ h => nomatch h⟩, ⟨[], by simp, fun _ h => nomatch h⟩⟩
theorem Lat.trans {s s' : Rat} {S T R : CoS} (a : Lat s S T) (b : Lat s' T R) (h : s ≤ s') : Lat s S R := by
  refine ⟨b.ws.trans a.ws, b.st.trans a.st, fun i p e => b.k1 i p (a.k1 i p e), fun i e => ?_, ?_, ?_⟩
  · rcases a.k2 i e with q | ⟨p, q, lt⟩
    · rcases b.k2 i q with z | ⟨p, z, lt⟩
      · exact .inl z
      · exact .inr ⟨p, z, by grind⟩
    · exact .inr ⟨p, b.k1 i p q, lt⟩
  · obtain ⟨r, e, l⟩ := a.dl
    obtain ⟨r', e', l'⟩ := b.dl
    exact ⟨r ++ r', by rw [e', e, List.append_assoc], fun d hd => by
      rcases List.mem_append.mp hd with hd | hd
      · exact l d hd
      · have := l' d hd; grind⟩
  · obtain ⟨r, e, l⟩ := a.dr
    obtain ⟨r', e', l'⟩ := b.dr
    exact ⟨r ++ r', by rw [e', e, List.append_assoc], fun d hd => by
      rcases List.mem_append.mp hd with hd | hd
      · exact l d hd
      · have := l' d hd; grind⟩
theorem drive_app (E : EndS) (t : Rat) (ws : List Wl) (hw : E.way = 1 ∨ E.way = -1) {s : Rat} (h : s < t) : ∃ rest, (E.drive t ws).drives = E.drives ++ rest ∧ ∀ d ∈ rest, s < d.1 := by
  rcases (drive_spec E t ws hw).2.2.2 with e | ⟨k, v, _, _, _, e⟩
  · rw [e]; exact ⟨[], by simp, fun _ h => nomatch h⟩
  · rw [e]; exact ⟨[(t, k)], rfl, fun d hd => by rw [List.mem_singleton.mp hd]; exact h⟩
theorem lat_work {S : CoS} (ok : S.Ok) {s u : Rat} (h : s < u) : Lat s S (S.work u) := by
  refine ⟨rfl, rfl, fun i p e => ?_, fun i e => ?_, drive_app S.left u S.ws (.inr ok.lw) h, drive_app S.right u S.ws (.inl ok.rw) h⟩
  · obtain ⟨w, hw⟩ := get_both ok e
    have := tellL_get S u S.ws S.knows i w _ hw e
    show (tellL S u S.ws S.knows)[i]? = _
    rw [this, if_neg (fun z => nomatch z.1)]
  · obtain ⟨w, hw⟩ := get_both ok e
    have := tellL_get S u S.ws S.knows i w _ hw e
    show (tellL S u S.ws S.knows)[i]? = _ ∨ ∃ p : Rat × Option Nat, (tellL S u S.ws S.knows)[i]? = _ ∧ _
    rw [this]
    split
    · exact .inr ⟨_, rfl, h⟩
    · exact .inl rfl
theorem runC_none {n : Nat} {S : CoS} {t : Rat} (e : (S.work t).next = none) : runC n S t = S.work t := by
  cases n with
  | zero => rfl
  | succ n => rw [runC, e]
theorem runC_lat : ∀ (n : Nat) (S : CoS) (t : Rat), Iv (S.work t) t → Lat t (S.work t) (runC n S t)
  | 0, S, t, _ => .refl
  | n + 1, S, t, h => by
    rw [runC]
    cases e : (S.work t).next with
    | none => exact .refl
    | some u => exact (lat_work h.ok (h.next_gt e)).trans (runC_lat n _ u (work_iv (h.pv e))) (Rat.le_of_lt (h.next_gt e))
/-- whatever holds behind each work and is carried on to the next one -/
theorem hist (J : CoS → Rat → Prop) (hJ : ∀ S t u, Iv S t → J S t → S.next = some u → J (S.work u) u) : ∀ (n : Nat) (S : CoS) (t : Rat), Iv (S.work t) t → J (S.work t) t → mu (S.work t) ≤ n → ∀ s, t ≤ s →
    ∃ S' t', Iv S' t' ∧ J S' t' ∧ t' ≤ s ∧ AheadS S' s ∧ Lat s S' (runC n S t)
  | n, S, t, h, j, hm, s, hs => by
    cases e : (S.work t).next with
    | none => exact ⟨S.work t, t, h, j, hs, (fun u eu => by rw [e] at eu; cases eu), by rw [runC_none e]; exact .refl⟩
    | some u =>
      have lt := h.next_gt e
      cases n with
      | zero => have := mu_work h.ok e; omega
      | succ n =>
        rw [runC, e]
        have hu := work_iv (h.pv e)
        by_cases z : s < u
        · exact ⟨S.work t, t, h, j, hs, (fun v ev => by rw [e] at ev; cases ev; exact z), (lat_work h.ok z).trans (runC_lat n _ u hu) (Rat.le_of_lt z)⟩
        · exact hist J hJ n (S.work t) u hu (hJ _ _ _ h j e) (by have := mu_work h.ok e; omega) s (by grind)
theorem course_hist (J : CoS → Rat → Prop) (hJ : ∀ S t u, Iv S t → J S t → S.next = some u → J (S.work u) u) (ws : List Wl) (st : Int) (h0 : J ((co0 ws st).work 0) 0) {s : Rat} (hs : 0 ≤ s) :
    ∃ S t, Iv S t ∧ J S t ∧ t ≤ s ∧ AheadS S s ∧ Lat s S (course ws st) := by
  refine hist J hJ _ _ 0 (work_iv (pv0 ws st)) h0 ?_ s hs
  have h1 : ∀ ks : List Kn, unk ks ≤ ks.length := fun ks => by
    induction ks with
    | nil => exact Nat.le_refl _
    | cons k ks ih => cases k <;> simp only [unk, List.length_cons] <;> omega
  have h2 : ∀ (E : EndS) (v : List Wl), quick E v ≤ v.length := fun E v => by
    induction v with
    | nil => exact Nat.le_refl _
    | cons k ks ih => simp only [quick, List.length_cons]; split <;> omega
  have h4 : ((co0 ws st).work 0).knows.length = ws.length := by
    have := (tell_unk (co0 ws st) 0 ws (ws.map fun _ => none) (by simp)).1
    show (tellL (co0 ws st) 0 ws (ws.map fun _ => none)).length = _
    rw [this, List.length_map]
  have a := h1 ((co0 ws st).work 0).knows
  have b := h2 ((co0 ws st).work 0).left ws
  have c := h2 ((co0 ws st).work 0).right ws
  show unk _ + quick _ ws + quick _ ws ≤ _
  omega
/-- whose the ends are, and who has been at each place that is known -/
structure Dv (S : CoS) (t : Rat) : Prop where
  l : S.left.line = (S.start, 0) ∨ ∃ (i : Nat) (p : Rat × Option Nat), S.ws[i]? = some S.left.line ∧ S.knows[i]? = some (some p)
  r : S.right.line = (S.start, 0) ∨ ∃ (i : Nat) (p : Rat × Option Nat), S.ws[i]? = some S.right.line ∧ S.knows[i]? = some (some p)
  cl : ∀ x : Int, x < S.start → posR S.left.line t ≤ (x : Rat) → ∃ (i : Nat) (w : Wl) (p : Rat × Option Nat), S.ws[i]? = some w ∧ S.knows[i]? = some (some p) ∧ w.2 ≠ 0 ∧ p.1 ≤ meet w (x, 0) ∧ meet w (x, 0) ≤ t
  cr : ∀ x : Int, S.start < x → (x : Rat) ≤ posR S.right.line t → ∃ (i : Nat) (w : Wl) (p : Rat × Option Nat), S.ws[i]? = some w ∧ S.knows[i]? = some (some p) ∧ w.2 ≠ 0 ∧ p.1 ≤ meet w (x, 0) ∧ meet w (x, 0) ≤ t
/-- at any time till the next work -/
structure DvAt (S : CoS) (s : Rat) : Prop where
  cl : ∀ x : Int, x < S.start → posR S.left.line s ≤ (x : Rat) → ∃ (i : Nat) (w : Wl) (p : Rat × Option Nat), S.ws[i]? = some w ∧ S.knows[i]? = some (some p) ∧ w.2 ≠ 0 ∧ p.1 ≤ meet w (x, 0) ∧ meet w (x, 0) ≤ s
  cr : ∀ x : Int, S.start < x → (x : Rat) ≤ posR S.right.line s → ∃ (i : Nat) (w : Wl) (p : Rat × Option Nat), S.ws[i]? = some w ∧ S.knows[i]? = some (some p) ∧ w.2 ≠ 0 ∧ p.1 ≤ meet w (x, 0) ∧ meet w (x, 0) ≤ s
theorem pos_stand (x : Int) (s : Rat) : posR (x, 0) s = (x : Rat) := by unfold posR; grind
theorem Dv.at {S : CoS} {t s : Rat} (h : Iv S t) (d : Dv S t) (hs : t ≤ s) : DvAt S s := by
  refine ⟨fun x hx hp => ?_, fun x hx hp => ?_⟩
  · by_cases z : posR S.left.line t ≤ (x : Rat)
    · obtain ⟨i, w, p, a, b, c, e, f⟩ := d.cl x hx z
      exact ⟨i, w, p, a, b, c, e, by grind⟩
    · rcases d.l with e | ⟨i, p, hw, hp'⟩
      · rw [e, pos_stand] at hp
        have := cast_lt hx
        grind
      · have hn : S.left.line.2 < 0 := by
          have := h.pl
          by_cases q : S.left.line.2 = 0
          · exfalso
            have e1 : posR S.left.line s = posR S.left.line t := by unfold posR; rw [q]; grind
            grind
          · omega
        have a1 := after_of_lt (w := (x, 0)) (l := S.left.line) (t := t) (by rw [pos_stand]; grind) hn
        have a2 : meet S.left.line (x, 0) ≤ s := by
          by_cases q : meet S.left.line (x, 0) ≤ s
          · exact q
          · have := till_lt (w := (x, 0)) (l := S.left.line) (s := s) hn (by rw [meet_comm]; grind)
            rw [pos_stand] at this
            grind
        rw [meet_comm] at a1
        exact ⟨i, S.left.line, p, hw, hp', by omega, by have := h.kt i p hp'; grind, a2⟩
  · by_cases z : (x : Rat) ≤ posR S.right.line t
    · obtain ⟨i, w, p, a, b, c, e, f⟩ := d.cr x hx z
      exact ⟨i, w, p, a, b, c, e, by grind⟩
    · rcases d.r with e | ⟨i, p, hw, hp'⟩
      · rw [e, pos_stand] at hp
        have := cast_lt hx
        grind
      · have hn : 0 < S.right.line.2 := by
          have := h.pr
          by_cases q : S.right.line.2 = 0
          · exfalso
            have e1 : posR S.right.line s = posR S.right.line t := by unfold posR; rw [q]; grind
            grind
          · omega
        have a1 := after_of_lt (w := S.right.line) (l := (x, 0)) (t := t) (by rw [pos_stand]; grind) hn
        have a2 : meet S.right.line (x, 0) ≤ s := by
          by_cases q : meet S.right.line (x, 0) ≤ s
          · exact q
          · have := till_lt (w := S.right.line) (l := (x, 0)) (s := s) hn (by grind)
            rw [pos_stand] at this
            grind
        exact ⟨i, S.right.line, p, hw, hp', by omega, by have := h.kt i p hp'; grind, a2⟩
theorem dv_work {S : CoS} {u : Rat} (h : Pv S u) (d : (S.left.line = (S.start, 0) ∨ ∃ (i : Nat) (p : Rat × Option Nat), S.ws[i]? = some S.left.line ∧ S.knows[i]? = some (some p)) ∧ (S.right.line = (S.start, 0) ∨ ∃ (i : Nat) (p : Rat × Option Nat), S.ws[i]? = some S.right.line ∧ S.knows[i]? = some (some p)) ∧ DvAt S u) : Dv (S.work u) u := by
  have W := work_iv h
  have K : ∀ (i : Nat) (p : Rat × Option Nat), S.knows[i]? = some (some p) → (S.work u).knows[i]? = some (some p) := fun i p e => by
    obtain ⟨w, hw⟩ := get_both h.ok e
    have := tellL_get S u S.ws S.knows i w _ hw e
    show (tellL S u S.ws S.knows)[i]? = _
    rw [this, if_neg (fun z => nomatch z.1)]
  obtain ⟨_, l2, l3, l4⟩ := drive_spec S.left u S.ws (.inr h.ok.lw)
  obtain ⟨_, r2, r3, r4⟩ := drive_spec S.right u S.ws (.inl h.ok.rw)
  have LR : posR (S.left.drive u S.ws).line u ≤ posR (S.right.drive u S.ws).line u := by have := W.mid; exact Rat.le_trans this.1 this.2
  refine ⟨?_, ?_, fun x hx hp => ?_, fun x hx hp => ?_⟩
  · show (S.left.drive u S.ws).line = _ ∨ ∃ (i : Nat) (p : Rat × Option Nat), S.ws[i]? = some (S.left.drive u S.ws).line ∧ _
    rcases l4 with e | ⟨k, v, hv, _, hpv, e⟩
    · rw [e]
      rcases d.1 with q | ⟨i, p, a, b⟩
      · exact .inl q
      · exact .inr ⟨i, p, a, K i p b⟩
    · have ev : (S.left.drive u S.ws).line = v := by rw [e]; rfl
      rw [ev]
      obtain ⟨kn, hk⟩ := get_kn W.ok (show (S.work u).ws[k]? = some v from hv)
      cases kn with
      | some p => exact .inr ⟨k, p, hv, hk⟩
      | none =>
        exfalso
        obtain ⟨o1, o2⟩ := W.out k v hv hk
        have o1' : v.1 < S.start → posR v u < posR (S.left.drive u S.ws).line u := o1
        have o2' : ¬ v.1 < S.start → posR (S.right.drive u S.ws).line u < posR v u := o2
        by_cases z : v.1 < S.start
        · have := o1' z; grind
        · have := o2' z; grind
  · show (S.right.drive u S.ws).line = _ ∨ ∃ (i : Nat) (p : Rat × Option Nat), S.ws[i]? = some (S.right.drive u S.ws).line ∧ _
    rcases r4 with e | ⟨k, v, hv, _, hpv, e⟩
    · rw [e]
      rcases d.2.1 with q | ⟨i, p, a, b⟩
      · exact .inl q
      · exact .inr ⟨i, p, a, K i p b⟩
    · have ev : (S.right.drive u S.ws).line = v := by rw [e]; rfl
      rw [ev]
      obtain ⟨kn, hk⟩ := get_kn W.ok (show (S.work u).ws[k]? = some v from hv)
      cases kn with
      | some p => exact .inr ⟨k, p, hv, hk⟩
      | none =>
        exfalso
        obtain ⟨o1, o2⟩ := W.out k v hv hk
        have o1' : v.1 < S.start → posR v u < posR (S.left.drive u S.ws).line u := o1
        have o2' : ¬ v.1 < S.start → posR (S.right.drive u S.ws).line u < posR v u := o2
        by_cases z : v.1 < S.start
        · have := o1' z; grind
        · have := o2' z; grind
  · have hp' : posR (S.left.drive u S.ws).line u ≤ (x : Rat) := hp
    rw [l2] at hp'
    obtain ⟨i, w, p, a, b, c⟩ := d.2.2.cl x hx hp'
    exact ⟨i, w, p, a, K i p b, c⟩
  · have hp' : (x : Rat) ≤ posR (S.right.drive u S.ws).line u := hp
    rw [r2] at hp'
    obtain ⟨i, w, p, a, b, c⟩ := d.2.2.cr x hx hp'
    exact ⟨i, w, p, a, K i p b, c⟩
theorem dv_next {S : CoS} {t u : Rat} (h : Iv S t) (d : Dv S t) (e : S.next = some u) : Dv (S.work u) u :=
  dv_work (h.pv e) ⟨d.l, d.r, d.at h (Rat.le_of_lt (h.next_gt e))⟩
theorem dv0 (ws : List Wl) (st : Int) : Dv ((co0 ws st).work 0) 0 := by
  refine dv_work (pv0 ws st) ⟨.inl rfl, .inl rfl, fun x hx hp => ?_, fun x hx hp => ?_⟩
  · have hp' : posR (st, 0) 0 ≤ (x : Rat) := hp
    rw [pos_stand] at hp'
    have := cast_lt (show x < st from hx)
    grind
  · have hp' : (x : Rat) ≤ posR (st, 0) 0 := hp
    rw [pos_stand] at hp'
    have := cast_lt (show st < x from hx)
    grind
/-- how a time of a course looks: the ends go along these lines -/
structure View (C S : CoS) (s : Rat) : Prop where
  ok : S.Ok
  lat : Lat s S C
  mid : posR S.left.line s ≤ (S.start : Rat) ∧ (S.start : Rat) ≤ posR S.right.line s
  inn : ∀ (i : Nat) (w : Wl) (p : Rat × Option Nat), C.ws[i]? = some w → C.knows[i]? = some (some p) → p.1 ≤ s → posR S.left.line s ≤ posR w s ∧ posR w s ≤ posR S.right.line s
  out : ∀ (i : Nat) (w : Wl), C.ws[i]? = some w → (∀ p : Rat × Option Nat, C.knows[i]? = some (some p) → s < p.1) → posR w s < posR S.left.line s ∨ posR S.right.line s < posR w s
  l : S.left.line = (S.start, 0) ∨ ∃ (i : Nat) (p : Rat × Option Nat), C.ws[i]? = some S.left.line ∧ C.knows[i]? = some (some p) ∧ p.1 ≤ s
  r : S.right.line = (S.start, 0) ∨ ∃ (i : Nat) (p : Rat × Option Nat), C.ws[i]? = some S.right.line ∧ C.knows[i]? = some (some p) ∧ p.1 ≤ s
  at' : DvAt S s
  kt : ∀ (i : Nat) (p : Rat × Option Nat), S.knows[i]? = some (some p) → 0 ≤ p.1 ∧ p.1 ≤ s
theorem course_ok (ws : List Wl) (st : Int) : ∀ (n : Nat) (S : CoS) (t : Rat), S.Ok → (runC n S t).Ok
  | 0, S, t, h => h.work t
  | n + 1, S, t, h => by
    rw [runC]
    cases (S.work t).next with
    | none => exact h.work t
    | some u => exact course_ok ws st n _ u (h.work t)
theorem view_of (ws : List Wl) (st : Int) {S : CoS} {t s : Rat} (h : Iv S t) (d : Dv S t) (ht : t ≤ s) (ha : AheadS S s) (L : Lat s S (course ws st)) : View (course ws st) S s := by
  have okC : (course ws st).Ok := course_ok ws st _ _ _ ⟨by simp [co0], rfl, rfl⟩
  have known : ∀ (i : Nat) (p : Rat × Option Nat), (course ws st).knows[i]? = some (some p) → p.1 ≤ s → S.knows[i]? = some (some p) := fun i p e hp => by
    obtain ⟨w, hw⟩ := get_both okC e
    rw [L.ws] at hw
    obtain ⟨k, hk⟩ := get_kn h.ok hw
    cases k with
    | none =>
      rcases L.k2 i hk with q | ⟨p', q, lt⟩
      · rw [q] at e; cases e
      · rw [q] at e; cases e; grind
    | some p' =>
      have := L.k1 i p' hk
      rw [this] at e; cases e
      exact hk
  refine ⟨h.ok, L, h.mid_at ht, fun i w p hw hk hp => ?_, fun i w hw hk => ?_, ?_, ?_, d.at h ht, fun i p hp => ?_⟩
  · rw [L.ws] at hw
    exact h.inn_at ht ha.le hw (known i p hk hp)
  · rw [L.ws] at hw
    obtain ⟨k, hk'⟩ := get_kn h.ok hw
    cases k with
    | some p =>
      have := hk p (L.k1 i p hk')
      have := h.kt i p hk'
      grind
    | none =>
      obtain ⟨a, b⟩ := h.out_atS ht ha hw hk'
      by_cases z : w.1 < S.start
      · exact .inl (a z)
      · exact .inr (b z)
  · rcases d.l with e | ⟨i, p, a, b⟩
    · exact .inl e
    · exact .inr ⟨i, p, by rw [L.ws]; exact a, L.k1 i p b, by have := h.kt i p b; grind⟩
  · rcases d.r with e | ⟨i, p, a, b⟩
    · exact .inl e
    · exact .inr ⟨i, p, by rw [L.ws]; exact a, L.k1 i p b, by have := h.kt i p b; grind⟩
  · have := h.kt i p hp
    grind
theorem course_view (ws : List Wl) (st : Int) {s : Rat} (hs : 0 ≤ s) : ∃ S, View (course ws st) S s := by
  obtain ⟨S, t, h, d, ht, ha, L⟩ := course_hist Dv (fun S t u h d e => dv_next h d e) ws st (dv0 ws st) hs
  exact ⟨S, view_of ws st h d ht ha L⟩
theorem runC_ws : ∀ (n : Nat) (S : CoS) (t : Rat), (runC n S t).ws = S.ws ∧ (runC n S t).start = S.start
  | 0, S, t => ⟨rfl, rfl⟩
  | n + 1, S, t => by
    rw [runC]
    cases (S.work t).next with
    | none => exact ⟨rfl, rfl⟩
    | some u => exact runC_ws n _ u
theorem cws (ws : List Wl) (st : Int) : (course ws st).ws = ws := (runC_ws _ _ _).1
theorem cst (ws : List Wl) (st : Int) : (course ws st).start = st := (runC_ws _ _ _).2
theorem course_kt {ws : List Wl} {st : Int} {i : Nat} {p : Rat × Option Nat} (hk : (course ws st).knows[i]? = some (some p)) : 0 ≤ p.1 := by
  by_cases z : 0 ≤ p.1
  · exact z
  · obtain ⟨S, v⟩ := course_view ws st (Rat.le_refl (a := 0))
    have okC : (course ws st).Ok := course_ok ws st _ _ _ ⟨by simp [co0], rfl, rfl⟩
    obtain ⟨w, hw⟩ := get_both okC hk
    rw [v.lat.ws] at hw
    obtain ⟨k, hk'⟩ := get_kn v.ok hw
    cases k with
    | none =>
      rcases v.lat.k2 i hk' with q | ⟨p', q, lt⟩
      · rw [q] at hk; cases hk
      · rw [q] at hk; cases hk; grind
    | some p' =>
      have := v.lat.k1 i p' hk'
      rw [this] at hk; cases hk
      exact (v.kt i p hk').1
end Sd

/-! The drives of an end, one after another. -/
set_option linter.all false
set_option maxHeartbeats 1000000
namespace Sd
def lineOf (ws : List Wl) (st : Int) (l : List (Rat × Nat)) : Wl := match l.getLast? with
  | none => (st, 0)
  | some d => ws.getD d.2 (0, 0)
theorem lineOf_snoc {ws : List Wl} {st : Int} {l : List (Rat × Nat)} {t : Rat} {k : Nat} {w : Wl} (h : ws[k]? = some w) : lineOf ws st (l ++ [(t, k)]) = w := by
  simp [lineOf, List.getD_eq_getElem?_getD, h]
inductive DCh (ws : List Wl) (st way : Int) : List (Rat × Nat) → Prop
  | nil : DCh ws st way []
  | snoc {l : List (Rat × Nat)} {t : Rat} {k : Nat} {w : Wl} : DCh ws st way l → ws[k]? = some w → 0 ≤ t → (∀ d ∈ l, d.1 < t) → posR (lineOf ws st l) t = posR w t → way * (lineOf ws st l).2 < way * w.2 → DCh ws st way (l ++ [(t, k)])
structure EJ (ws : List Wl) (st way : Int) (E : EndS) (t : Rat) : Prop where
  ch : DCh ws st way E.drives
  ln : lineOf ws st E.drives = E.line
  le : ∀ d ∈ E.drives, d.1 ≤ t
  wy : E.way = way
theorem EJ.mono {ws : List Wl} {st way : Int} {E : EndS} {t s : Rat} (h : EJ ws st way E t) (hs : t ≤ s) : EJ ws st way E s := ⟨h.ch, h.ln, fun d hd => Rat.le_trans (h.le d hd) hs, h.wy⟩
theorem ej_drive {ws : List Wl} {st way : Int} {E : EndS} {u : Rat} (hw : way = 1 ∨ way = -1) (ch : DCh ws st way E.drives) (ln : lineOf ws st E.drives = E.line) (lt : ∀ d ∈ E.drives, d.1 < u) (wy : E.way = way) (u0 : 0 ≤ u) : EJ ws st way (E.drive u ws) u := by
  obtain ⟨h1, _, _, h4⟩ := drive_spec E u ws (by rw [wy]; exact hw)
  rcases h4 with e | ⟨k, v, hv, hl, hp, e⟩
  · rw [e]; exact ⟨ch, ln, fun d hd => Rat.le_of_lt (lt d hd), wy⟩
  · rw [e]
    refine ⟨.snoc ch hv u0 lt (by rw [ln]; exact hp.symm) ?_, lineOf_snoc hv, fun d hd => ?_, wy⟩
    · rw [ln]
      unfold EndS.lead at hl
      rw [wy, Int.mul_sub] at hl
      omega
    · rcases List.mem_append.mp hd with hd | hd
      · exact Rat.le_of_lt (lt d hd)
      · rw [List.mem_singleton.mp hd]; exact Rat.le_refl
structure DJ (S : CoS) (t : Rat) : Prop where
  l : EJ S.ws S.start (-1) S.left t
  r : EJ S.ws S.start 1 S.right t
  t0 : 0 ≤ t
theorem dj_work {S : CoS} {t u : Rat} (h : DJ S t) (lt : t < u) : DJ (S.work u) u :=
  have u0 : 0 ≤ u := Rat.le_of_lt (by have := h.t0; grind)
  ⟨ej_drive (.inr rfl) h.l.ch h.l.ln (fun d hd => by have := h.l.le d hd; grind) h.l.wy u0, ej_drive (.inl rfl) h.r.ch h.r.ln (fun d hd => by have := h.r.le d hd; grind) h.r.wy u0, u0⟩
theorem dj0 (ws : List Wl) (st : Int) : DJ ((co0 ws st).work 0) 0 :=
  ⟨ej_drive (.inr rfl) .nil rfl (fun _ h => nomatch h) rfl Rat.le_refl, ej_drive (.inl rfl) .nil rfl (fun _ h => nomatch h) rfl Rat.le_refl, Rat.le_refl⟩
theorem course_chain (ws : List Wl) (st : Int) {s : Rat} (hs : 0 ≤ s) : ∃ S, View (course ws st) S s ∧ DJ S s := by
  obtain ⟨S, t, h, ⟨d, j⟩, ht, ha, L⟩ := course_hist (fun S t => Dv S t ∧ DJ S t) (fun S t u h d e => ⟨dv_next h d.1 e, dj_work d.2 (h.next_gt e)⟩) ws st ⟨dv0 ws st, dj0 ws st⟩ hs
  exact ⟨S, view_of ws st h d ht ha L, ⟨j.l.mono ht, j.r.mono ht, hs⟩⟩
theorem run_dj : ∀ (n : Nat) (S : CoS) (t : Rat), Iv (S.work t) t → DJ (S.work t) t → ∃ t', DJ (runC n S t) t'
  | 0, S, t, _, j => ⟨t, j⟩
  | n + 1, S, t, h, j => by
    rw [runC]
    cases e : (S.work t).next with
    | none => exact ⟨t, j⟩
    | some u => exact run_dj n _ u (work_iv (h.pv e)) (dj_work j (h.next_gt e))
theorem course_dch (ws : List Wl) (st : Int) : DCh ws st (-1) (course ws st).left.drives ∧ DCh ws st 1 (course ws st).right.drives := by
  obtain ⟨t, j⟩ := run_dj (3 * ws.length + 1) (co0 ws st) 0 (work_iv (pv0 ws st)) (dj0 ws st)
  have a := j.l.ch
  have b := j.r.ch
  rw [show (runC (3 * ws.length + 1) (co0 ws st) 0).ws = ws from cws ws st, show (runC (3 * ws.length + 1) (co0 ws st) 0).start = st from cst ws st] at a b
  exact ⟨a, b⟩
theorem DCh.split {ws : List Wl} {st way : Int} {l : List (Rat × Nat)} (h : DCh ws st way l) : ∀ {pre post : List (Rat × Nat)} {x : Rat × Nat}, l = pre ++ x :: post →
    ∃ w, ws[x.2]? = some w ∧ 0 ≤ x.1 ∧ (∀ d ∈ pre, d.1 < x.1) ∧ posR (lineOf ws st pre) x.1 = posR w x.1 ∧ way * (lineOf ws st pre).2 < way * w.2 ∧ ∀ d ∈ post, x.1 < d.1 := by
  induction h with
  | nil => intro pre post x e; cases pre <;> cases e
  | @snoc l t k w h hk t0 lt hp hq ih =>
    intro pre post x e
    rcases List.eq_nil_or_concat post with z | ⟨post', y, z⟩
    · subst z
      obtain ⟨e1, e2⟩ := List.append_inj' e rfl
      cases e2
      subst e1
      exact ⟨w, hk, t0, lt, hp, hq, fun _ h => nomatch h⟩
    · subst z
      rw [List.concat_eq_append, ← List.cons_append, ← List.append_assoc] at e
      obtain ⟨e1, e2⟩ := List.append_inj' e rfl
      cases e2
      obtain ⟨v, a, b, c, d, f, g⟩ := ih e1
      refine ⟨v, a, b, c, d, f, fun q hq => ?_⟩
      rw [List.concat_eq_append] at hq
      rcases List.mem_append.mp hq with hq | hq
      · exact g q hq
      · rw [List.mem_singleton.mp hq]
        exact lt x (by rw [e1]; simp)
/-- those of a list of drives that are at a time or ahead of it -/
def upTo (s : Rat) (l : List (Rat × Nat)) : List (Rat × Nat) := l.filter fun d => decide (d.1 ≤ s)
def before (s : Rat) (l : List (Rat × Nat)) : List (Rat × Nat) := l.filter fun d => decide (d.1 < s)
theorem upTo_app {s : Rat} {a b : List (Rat × Nat)} (h1 : ∀ d ∈ a, d.1 ≤ s) (h2 : ∀ d ∈ b, s < d.1) : upTo s (a ++ b) = a := by
  unfold upTo
  rw [List.filter_append, List.filter_eq_self.mpr (fun d hd => decide_eq_true (h1 d hd)), List.filter_eq_nil_iff.mpr (fun d hd => by have := h2 d hd; simp; grind), List.append_nil]
theorem before_app {s : Rat} {a b : List (Rat × Nat)} (h1 : ∀ d ∈ a, d.1 < s) (h2 : ∀ d ∈ b, s ≤ d.1) : before s (a ++ b) = a := by
  unfold before
  rw [List.filter_append, List.filter_eq_self.mpr (fun d hd => decide_eq_true (h1 d hd)), List.filter_eq_nil_iff.mpr (fun d hd => by have := h2 d hd; simp; grind), List.append_nil]
theorem view_line {ws : List Wl} {st : Int} {S : CoS} {s : Rat} (v : View (course ws st) S s) (j : DJ S s) :
    S.left.line = lineOf ws st (upTo s (course ws st).left.drives) ∧ S.right.line = lineOf ws st (upTo s (course ws st).right.drives) := by
  have e1 : S.ws = ws := by rw [← v.lat.ws]; exact cws ws st
  have e2 : S.start = st := by rw [← v.lat.st]; exact cst ws st
  obtain ⟨r1, a1, b1⟩ := v.lat.dl
  obtain ⟨r2, a2, b2⟩ := v.lat.dr
  rw [a1, a2, upTo_app j.l.le b1, upTo_app j.r.le b2]
  have l := j.l.ln
  have r := j.r.ln
  rw [e1, e2] at l r
  exact ⟨l.symm, r.symm⟩
end Sd

/-! Who knows when, looked at at all times at which lines meet. -/
set_option linter.all false
set_option maxHeartbeats 1000000
namespace Sd
/-- behind the work at this time: each end is level with the start, or with one who knew earlier; who knows just now is at an end -/
structure Near (S : CoS) (t : Rat) : Prop where
  l : posR S.left.line t = (S.start : Rat) ∨ ∃ (i : Nat) (w : Wl) (p : Rat × Option Nat), S.ws[i]? = some w ∧ S.knows[i]? = some (some p) ∧ p.1 < t ∧ posR w t = posR S.left.line t
  r : posR S.right.line t = (S.start : Rat) ∨ ∃ (i : Nat) (w : Wl) (p : Rat × Option Nat), S.ws[i]? = some w ∧ S.knows[i]? = some (some p) ∧ p.1 < t ∧ posR w t = posR S.right.line t
  k : ∀ (i : Nat) (w : Wl) (p : Rat × Option Nat), S.ws[i]? = some w → S.knows[i]? = some (some p) → p.1 = t → posR w t = posR S.left.line t ∨ posR w t = posR S.right.line t
theorem work_keeps {S : CoS} (ok : S.Ok) (u : Rat) (i : Nat) (p : Rat × Option Nat) (e : S.knows[i]? = some (some p)) : (S.work u).knows[i]? = some (some p) := by
  obtain ⟨w, hw⟩ := get_both ok e
  have := tellL_get S u S.ws S.knows i w _ hw e
  show (tellL S u S.ws S.knows)[i]? = _
  rw [this, if_neg (fun z => nomatch z.1)]
theorem near_k {S : CoS} (ok : S.Ok) {u : Rat} (old : ∀ (i : Nat) (p : Rat × Option Nat), S.knows[i]? = some (some p) → p.1 < u) (i : Nat) (w : Wl) (p : Rat × Option Nat) (hw : S.ws[i]? = some w) (hk : (S.work u).knows[i]? = some (some p)) (e : p.1 = u) :
    posR w u = posR (S.work u).left.line u ∨ posR w u = posR (S.work u).right.line u := by
  obtain ⟨kn, hkn⟩ := get_kn ok hw
  have h := tellL_get S u S.ws S.knows i w _ hw hkn
  have h2 : (tellL S u S.ws S.knows)[i]? = some (some p) := hk
  rw [h] at h2
  have e1 : posR (S.work u).left.line u = posR S.left.line u := (drive_spec S.left u S.ws (.inr ok.lw)).2.1
  have e2 : posR (S.work u).right.line u = posR S.right.line u := (drive_spec S.right u S.ws (.inl ok.rw)).2.1
  rw [e1, e2]
  by_cases c : kn = none ∧ (S.entry w).level w u
  · have lv := c.2
    unfold EndS.level CoS.entry at lv
    split at lv
    · exact .inl lv
    · exact .inr lv
  · rw [if_neg c] at h2
    cases h2
    have := old i p hkn
    grind
theorem near_next {S : CoS} {t u : Rat} (h : Iv S t) (d : Dv S t) (e : S.next = some u) : Near (S.work u) u := by
  have lt := h.next_gt e
  have e1 : posR (S.work u).left.line u = posR S.left.line u := (drive_spec S.left u S.ws (.inr h.ok.lw)).2.1
  have e2 : posR (S.work u).right.line u = posR S.right.line u := (drive_spec S.right u S.ws (.inl h.ok.rw)).2.1
  have old : ∀ (i : Nat) (p : Rat × Option Nat), S.knows[i]? = some (some p) → p.1 < u := fun i p hp => by have := h.kt i p hp; grind
  refine ⟨?_, ?_, fun i w p hw hk ep => near_k h.ok old i w p hw hk ep⟩
  · rw [e1]
    rcases d.l with z | ⟨i, p, a, b⟩
    · left; rw [z, pos_stand]; rfl
    · exact .inr ⟨i, _, p, a, work_keeps h.ok u i p b, old i p b, rfl⟩
  · rw [e2]
    rcases d.r with z | ⟨i, p, a, b⟩
    · left; rw [z, pos_stand]; rfl
    · exact .inr ⟨i, _, p, a, work_keeps h.ok u i p b, old i p b, rfl⟩
theorem near0 (ws : List Wl) (st : Int) : Near ((co0 ws st).work 0) 0 := by
  have ok : (co0 ws st).Ok := ⟨by simp [co0], rfl, rfl⟩
  have e1 : posR ((co0 ws st).work 0).left.line 0 = posR (co0 ws st).left.line 0 := (drive_spec (co0 ws st).left 0 ws (.inr rfl)).2.1
  have e2 : posR ((co0 ws st).work 0).right.line 0 = posR (co0 ws st).right.line 0 := (drive_spec (co0 ws st).right 0 ws (.inl rfl)).2.1
  refine ⟨.inl (by rw [e1]; exact pos_stand st 0), .inl (by rw [e2]; exact pos_stand st 0), fun i w p hw hk ep => near_k ok (fun i p h => ?_) i w p hw hk ep⟩
  have h' : (ws.map fun _ => (none : Kn))[i]? = some (some p) := h
  rw [List.getElem?_map] at h'
  cases q : ws[i]? with
  | none => rw [q] at h'; cases h'
  | some v => rw [q] at h'; cases h'
/-- a time of a course by what can be seen of it -/
structure Seen (ws : List Wl) (st : Int) (s L R : Rat) : Prop where
  mid : L ≤ (st : Rat) ∧ (st : Rat) ≤ R
  l : L = (st : Rat) ∨ ∃ (i : Nat) (w : Wl) (p : Rat × Option Nat), ws[i]? = some w ∧ (course ws st).knows[i]? = some (some p) ∧ p.1 < s ∧ posR w s = L
  r : R = (st : Rat) ∨ ∃ (i : Nat) (w : Wl) (p : Rat × Option Nat), ws[i]? = some w ∧ (course ws st).knows[i]? = some (some p) ∧ p.1 < s ∧ posR w s = R
  inn : ∀ (i : Nat) (w : Wl) (p : Rat × Option Nat), ws[i]? = some w → (course ws st).knows[i]? = some (some p) → p.1 ≤ s → L ≤ posR w s ∧ posR w s ≤ R
  out : ∀ (i : Nat) (w : Wl), ws[i]? = some w → (∀ p : Rat × Option Nat, (course ws st).knows[i]? = some (some p) → s < p.1) → posR w s < L ∨ R < posR w s
  now : ∀ (i : Nat) (w : Wl) (p : Rat × Option Nat), ws[i]? = some w → (course ws st).knows[i]? = some (some p) → p.1 = s → posR w s = L ∨ posR w s = R
theorem course_seen (ws : List Wl) (st : Int) {s : Rat} (hs : 0 ≤ s) : ∃ L R, Seen ws st s L R := by
  obtain ⟨S, t, h, ⟨d, n⟩, ht, ha, La⟩ := course_hist (fun S t => Dv S t ∧ Near S t) (fun S t u h d e => ⟨dv_next h d.1 e, near_next h d.1 e⟩) ws st ⟨dv0 ws st, near0 ws st⟩ hs
  have v := view_of ws st h d ht ha La
  have es : S.start = st := by rw [← La.st]; exact cst ws st
  have ew : S.ws = ws := by rw [← La.ws]; exact cws ws st
  have okC : (course ws st).Ok := course_ok ws st _ _ _ ⟨by simp [co0], rfl, rfl⟩
  have known : ∀ (i : Nat) (p : Rat × Option Nat), (course ws st).knows[i]? = some (some p) → p.1 ≤ s → S.knows[i]? = some (some p) := fun i p e hp => by
    obtain ⟨w, hw⟩ := get_both okC e
    rw [La.ws] at hw
    obtain ⟨k, hk⟩ := get_kn h.ok hw
    cases k with
    | none =>
      rcases La.k2 i hk with q | ⟨p', q, lt⟩
      · rw [q] at e; cases e
      · rw [q] at e; cases e; grind
    | some p' =>
      have := La.k1 i p' hk
      rw [this] at e; cases e
      exact hk
  refine ⟨posR S.left.line s, posR S.right.line s, by rw [← es]; exact v.mid, ?_, ?_, fun i w p hw hk hp => v.inn i w p (by rw [cws]; exact hw) hk hp, fun i w hw hk => v.out i w (by rw [cws]; exact hw) hk, fun i w p hw hk hp => ?_⟩
  · by_cases z : t = s
    · subst z
      rcases n.l with q | ⟨i, w, p, a, b, c, e⟩
      · exact .inl (by rw [q, es])
      · exact .inr ⟨i, w, p, by rw [← ew]; exact a, La.k1 i p b, c, e⟩
    · rcases d.l with q | ⟨i, p, a, b⟩
      · exact .inl (by rw [q, pos_stand, es])
      · exact .inr ⟨i, _, p, by rw [← ew]; exact a, La.k1 i p b, by have := h.kt i p b; grind, rfl⟩
  · by_cases z : t = s
    · subst z
      rcases n.r with q | ⟨i, w, p, a, b, c, e⟩
      · exact .inl (by rw [q, es])
      · exact .inr ⟨i, w, p, by rw [← ew]; exact a, La.k1 i p b, c, e⟩
    · rcases d.r with q | ⟨i, p, a, b⟩
      · exact .inl (by rw [q, pos_stand, es])
      · exact .inr ⟨i, _, p, by rw [← ew]; exact a, La.k1 i p b, by have := h.kt i p b; grind, rfl⟩
  · have hk' := known i p hk (by rw [hp]; exact Rat.le_refl)
    have := h.kt i p hk'
    have z : t = s := by grind
    subst z
    exact n.k i w p (by rw [ew]; exact hw) hk' hp
/-- who comes in later than at once comes in where it meets the start, or one who knew earlier, of another pace -/
theorem know_meet {ws : List Wl} {st : Int} {i : Nat} {w : Wl} {p : Rat × Option Nat} (hw : ws[i]? = some w) (hk : (course ws st).knows[i]? = some (some p)) (hp : 0 < p.1) :
    ∃ l : Wl, (l = (st, 0) ∨ l ∈ ws) ∧ l.2 ≠ w.2 ∧ posR w p.1 = posR l p.1 := by
  have p0 : 0 ≤ p.1 := Rat.le_of_lt hp
  obtain ⟨L, R, v⟩ := course_seen ws st p0
  have late : ∀ s, s < p.1 → ∀ p' : Rat × Option Nat, (course ws st).knows[i]? = some (some p') → s < p'.1 := fun s hs p' e => by rw [hk] at e; cases e; exact hs
  have stand : ∀ x : Rat, posR w p.1 = x → x = (st : Rat) → ∃ l : Wl, (l = (st, 0) ∨ l ∈ ws) ∧ l.2 ≠ w.2 ∧ posR w p.1 = posR l p.1 := fun x e1 e2 => by
    refine ⟨(st, 0), .inl rfl, fun z => ?_, by rw [pos_stand, e1, e2]⟩
    obtain ⟨L0, R0, v0⟩ := course_seen ws st (Rat.le_refl (a := 0))
    have o := v0.out i w hw (late 0 hp)
    have m := v0.mid
    have z' : w.2 = 0 := z.symm
    have e : posR w 0 = (st : Rat) := by
      rw [← e2, ← e1]; unfold posR; rw [z']; grind
    grind
  have other : ∀ (j : Nat) (w' : Wl) (p' : Rat × Option Nat), ws[j]? = some w' → (course ws st).knows[j]? = some (some p') → p'.1 < p.1 → posR w p.1 = posR w' p.1 → ∃ l : Wl, (l = (st, 0) ∨ l ∈ ws) ∧ l.2 ≠ w.2 ∧ posR w p.1 = posR l p.1 := fun j w' p' hw' hk' lt e => by
    refine ⟨w', .inr (List.mem_of_getElem? hw'), fun z => ?_, e⟩
    have q0 : 0 ≤ p'.1 := course_kt hk'
    obtain ⟨L0, R0, v0⟩ := course_seen ws st q0
    have o := v0.out i w hw (late p'.1 lt)
    have n := v0.inn j w' p' hw' hk' Rat.le_refl
    have e' : posR w p'.1 = posR w' p'.1 := by
      unfold posR at e ⊢
      rw [z] at e ⊢
      grind
    grind
  rcases v.now i w p hw hk rfl with e | e
  · rcases v.l with q | ⟨j, w', p', a, b, c, f⟩
    · exact stand L e q
    · exact other j w' p' a b c (by rw [e, f])
  · rcases v.r with q | ⟨j, w', p', a, b, c, f⟩
    · exact stand R e q
    · exact other j w' p' a b c (by rw [e, f])
/-! ### one's own look at all such times -/
def nearL (t : Rat) : List Wl → List (Option Rat) → List Rat
  | w :: ws, some _ :: fs => posR w t :: nearL t ws fs
  | _ :: ws, none :: fs => nearL t ws fs
  | _, _ => []
def inb (near : List Rat) (x : Rat) : Bool := near.any (fun y => decide (y ≤ x)) && near.any fun y => decide (x ≤ y)
def lookW (near : List Rat) (t : Rat) : List Wl → List (Option Rat) → List (Option Rat)
  | w :: ws, f :: fs => (if f = none ∧ inb near (posR w t) = true then some t else f) :: lookW near t ws fs
  | _, _ => []
def lookT (ws : List Wl) (st : Int) : List Rat → List (Option Rat) → List (Option Rat)
  | [], fs => fs
  | t :: ts, fs => lookT ws st ts (lookW ((st : Rat) :: nearL t ws fs) t ws fs)
theorem nearL_mem (t : Rat) (y : Rat) : ∀ (ws : List Wl) (fs : List (Option Rat)), y ∈ nearL t ws fs ↔ ∃ (i : Nat) (w : Wl) (q : Rat), ws[i]? = some w ∧ fs[i]? = some (some q) ∧ y = posR w t
  | [], fs => by simp [nearL]
  | _ :: _, [] => by simp [nearL]
  | w :: ws, f :: fs => by
    have ih := nearL_mem t y ws fs
    cases f with
    | none =>
      rw [nearL, ih]
      constructor
      · intro ⟨i, v, q, a, b, c⟩; exact ⟨i + 1, v, q, by simpa using a, by simpa using b, c⟩
      · intro ⟨i, v, q, a, b, c⟩
        cases i with
        | zero => simp at b
        | succ i => exact ⟨i, v, q, by simpa using a, by simpa using b, c⟩
    | some x =>
      rw [nearL, List.mem_cons, ih]
      constructor
      · rintro (e | ⟨i, v, q, a, b, c⟩)
        · exact ⟨0, w, x, rfl, rfl, e⟩
        · exact ⟨i + 1, v, q, by simpa using a, by simpa using b, c⟩
      · intro ⟨i, v, q, a, b, c⟩
        cases i with
        | zero => simp at a b; subst a; exact .inl c
        | succ i => exact .inr ⟨i, v, q, by simpa using a, by simpa using b, c⟩
theorem lookW_ext (near : List Rat) (t : Rat) (g f : Kn → Option Rat) : ∀ (ws : List Wl) (ks : List Kn), ws.length = ks.length →
    (∀ (i : Nat) (w : Wl) (k : Kn), ws[i]? = some w → ks[i]? = some k → (if g k = none ∧ inb near (posR w t) = true then some t else g k) = f k) → lookW near t ws (ks.map g) = ks.map f
  | [], [], _, _ => rfl
  | w :: ws, k :: ks, hl, h => by
    rw [List.map_cons, lookW, h 0 w k rfl rfl, lookW_ext near t g f ws ks (by simpa using hl) fun i v l a b => h (i + 1) v l (by simpa using a) (by simpa using b), List.map_cons]
  | [], _ :: _, h, _ => by simp at h
  | _ :: _, [], h, _ => by simp at h
/-- what is found when these times are still to be looked at -/
def cutT (ts : List Rat) : Kn → Option Rat
  | none => none
  | some p => if p.1 ∈ ts then none else some p.1
theorem lookT_know (ws : List Wl) (st : Int) : ∀ ts : List Rat, ts.Pairwise (· < ·) → (∀ t ∈ ts, 0 ≤ t) →
    (∀ (i : Nat) (p : Rat × Option Nat), (course ws st).knows[i]? = some (some p) → p.1 ∈ ts ∨ ∀ t ∈ ts, p.1 < t) →
    lookT ws st ts ((course ws st).knows.map (cutT ts)) = (course ws st).knows.map fun k => k.map (·.1)
  | [], _, _, _ => by
    rw [lookT]
    refine List.map_congr_left fun k _ => ?_
    cases k <;> simp [cutT]
  | t :: ts, hs, h0, hk => by
    have hlt := (List.pairwise_cons.mp hs).1
    have hs' := (List.pairwise_cons.mp hs).2
    have okC : (course ws st).Ok := course_ok ws st _ _ _ ⟨by simp [co0], rfl, rfl⟩
    have len : ws.length = (course ws st).knows.length := by rw [← okC.len, cws]
    obtain ⟨L, R, v⟩ := course_seen ws st (h0 t List.mem_cons_self)
    have cut : ∀ (i : Nat) (q : Rat), ((course ws st).knows.map (cutT (t :: ts)))[i]? = some (some q) ↔ ∃ p : Rat × Option Nat, (course ws st).knows[i]? = some (some p) ∧ p.1 = q ∧ p.1 < t := fun i q => by
      rw [List.getElem?_map]
      constructor
      · intro e
        cases z : (course ws st).knows[i]? with
        | none => rw [z] at e; cases e
        | some k =>
          rw [z] at e
          cases k with
          | none => cases e
          | some p =>
            simp only [Option.map_some, cutT] at e
            by_cases c : p.1 ∈ t :: ts
            · rw [if_pos c] at e; cases e
            · rw [if_neg c] at e
              cases e
              rcases hk i p z with y | y
              · exact absurd y c
              · exact ⟨p, rfl, rfl, y t List.mem_cons_self⟩
      · intro ⟨p, e, eq, lt⟩
        have c : ¬ p.1 ∈ t :: ts := fun z => by
          rcases List.mem_cons.mp z with z | z
          · grind
          · have := hlt _ z; grind
        rw [e]
        simp only [Option.map_some, cutT]
        rw [if_neg c, eq]
    have near : ∀ x : Rat, inb ((st : Rat) :: nearL t ws ((course ws st).knows.map (cutT (t :: ts)))) x = true ↔ L ≤ x ∧ x ≤ R := fun x => by
      have all : ∀ y ∈ ((st : Rat) :: nearL t ws ((course ws st).knows.map (cutT (t :: ts)))), L ≤ y ∧ y ≤ R := fun y hy => by
        rcases List.mem_cons.mp hy with e | hy
        · rw [e]; exact v.mid
        · obtain ⟨i, w, q, a, b, c⟩ := (nearL_mem t y _ _).mp hy
          obtain ⟨p, b1, b2, b3⟩ := (cut i q).mp b
          rw [c]
          exact v.inn i w p a b1 (Rat.le_of_lt b3)
      have hL : L ∈ ((st : Rat) :: nearL t ws ((course ws st).knows.map (cutT (t :: ts)))) := by
        rcases v.l with e | ⟨i, w, p, a, b, c, e⟩
        · rw [e]; exact List.mem_cons_self
        · exact List.mem_cons_of_mem _ ((nearL_mem t L _ _).mpr ⟨i, w, p.1, a, (cut i p.1).mpr ⟨p, b, rfl, c⟩, e.symm⟩)
      have hR : R ∈ ((st : Rat) :: nearL t ws ((course ws st).knows.map (cutT (t :: ts)))) := by
        rcases v.r with e | ⟨i, w, p, a, b, c, e⟩
        · rw [e]; exact List.mem_cons_self
        · exact List.mem_cons_of_mem _ ((nearL_mem t R _ _).mpr ⟨i, w, p.1, a, (cut i p.1).mpr ⟨p, b, rfl, c⟩, e.symm⟩)
      unfold inb
      rw [Bool.and_eq_true, List.any_eq_true, List.any_eq_true]
      constructor
      · rintro ⟨⟨y, hy, cy⟩, z, hz, cz⟩
        have a := (all y hy).1
        have b := (all z hz).2
        have c := of_decide_eq_true cy
        have d := of_decide_eq_true cz
        exact ⟨Rat.le_trans a c, Rat.le_trans d b⟩
      · intro ⟨a, b⟩
        exact ⟨⟨L, hL, decide_eq_true a⟩, R, hR, decide_eq_true b⟩
    rw [lookT, lookW_ext _ t (cutT (t :: ts)) (cutT ts) ws _ len fun i w k hw hkn => ?_]
    · refine lookT_know ws st ts hs' (fun x hx => h0 x (List.mem_cons_of_mem _ hx)) fun i p e => ?_
      rcases hk i p e with z | z
      · rcases List.mem_cons.mp z with z | z
        · exact .inr fun x hx => by rw [z]; exact hlt x hx
        · exact .inl z
      · exact .inr fun x hx => z x (List.mem_cons_of_mem _ hx)
    · cases k with
      | none =>
        have o := v.out i w hw fun p e => by rw [hkn] at e; cases e
        have c : ¬ inb ((st : Rat) :: nearL t ws ((course ws st).knows.map (cutT (t :: ts)))) (posR w t) = true := fun z => by
          have := (near _).mp z; grind
        rw [if_neg (fun z => c z.2)]; rfl
      | some p =>
        by_cases e : p.1 = t
        · have n := v.inn i w p hw hkn (by rw [e]; exact Rat.le_refl)
          have c1 : p.1 ∈ t :: ts := by rw [e]; exact List.mem_cons_self
          have c2 : ¬ p.1 ∈ ts := fun z => by have := hlt _ z; grind
          simp only [cutT, if_pos c1, if_neg c2]
          rw [if_pos ⟨trivial, (near _).mpr n⟩, e]
        · by_cases q : p.1 ∈ ts
          · have c1 : p.1 ∈ t :: ts := List.mem_cons_of_mem _ q
            have lt := hlt _ q
            have o := v.out i w hw fun p' e' => by rw [hkn] at e'; cases e'; exact lt
            have c : ¬ inb ((st : Rat) :: nearL t ws ((course ws st).knows.map (cutT (t :: ts)))) (posR w t) = true := fun z => by
              have := (near _).mp z; grind
            simp only [cutT, if_pos c1, if_pos q]
            rw [if_neg (fun z => c z.2)]
          · have c1 : ¬ p.1 ∈ t :: ts := fun z => by
              rcases List.mem_cons.mp z with z | z
              · exact e z
              · exact q z
            simp only [cutT, if_neg c1, if_neg q]
            rw [if_neg (fun z => nomatch z.1)]
/-- all that is found of nothing, by rising times among which are 0 and all at which two lines meet -/
theorem look_all (ws : List Wl) (st : Int) (ts : List Rat) (hs : ts.Pairwise (· < ·)) (h0 : ∀ t ∈ ts, 0 ≤ t) (hz : (0 : Rat) ∈ ts)
    (hm : ∀ w ∈ ws, ∀ l : Wl, (l = (st, 0) ∨ l ∈ ws) → ∀ t, 0 < t → l.2 ≠ w.2 → posR w t = posR l t → t ∈ ts) :
    lookT ws st ts (ws.map fun _ => none) = (course ws st).knows.map fun k => k.map (·.1) := by
  have okC : (course ws st).Ok := course_ok ws st _ _ _ ⟨by simp [co0], rfl, rfl⟩
  have len : ws.length = (course ws st).knows.length := by rw [← okC.len, cws]
  have all : ∀ (i : Nat) (p : Rat × Option Nat), (course ws st).knows[i]? = some (some p) → p.1 ∈ ts := fun i p e => by
    by_cases z : p.1 = 0
    · rw [z]; exact hz
    · obtain ⟨w, hw⟩ := get_both okC e
      rw [cws] at hw
      have := course_kt e
      have pos : 0 < p.1 := by grind
      obtain ⟨l, a, b, c⟩ := know_meet hw e pos
      exact hm w (List.mem_of_getElem? hw) l a p.1 pos b c
  rw [← lookT_know ws st ts hs h0 fun i p e => .inl (all i p e)]
  congr 1
  apply List.ext_getElem?
  intro i
  rw [List.getElem?_map, List.getElem?_map]
  cases e : (course ws st).knows[i]? with
  | none =>
    have : ws[i]? = none := by rw [List.getElem?_eq_none_iff] at e ⊢; omega
    rw [this]; rfl
  | some k =>
    obtain ⟨w, hw⟩ := get_both okC e
    rw [cws] at hw
    rw [hw]
    cases k with
    | none => rfl
    | some p => simp only [Option.map_some, cutT, if_pos (all i p e)]
end Sd

/-! Who can be told by when: a spreading without a course; the course tells the first such times. -/
set_option linter.all false
set_option maxHeartbeats 1000000
namespace Sd
/-- by this time this line has been where it's known -/
inductive Reach (ws : List Wl) (st : Int) : Wl → Rat → Prop
  | start {w : Wl} {t s : Rat} : w ∈ ws → 0 ≤ t → t ≤ s → posR w t = (st : Rat) → Reach ws st w s
  | meet {w l : Wl} {t' t s : Rat} : w ∈ ws → Reach ws st l t' → t' ≤ t → t ≤ s → posR w t = posR l t → Reach ws st w s
theorem Reach.mono {ws : List Wl} {st : Int} {w : Wl} {t s : Rat} (h : Reach ws st w t) (hs : t ≤ s) : Reach ws st w s := by
  cases h with
  | start a b c d => exact .start a b (Rat.le_trans c hs) d
  | meet a b c d e => exact .meet a b c (Rat.le_trans d hs) e
theorem Reach.mem {ws : List Wl} {st : Int} {w : Wl} {t : Rat} (h : Reach ws st w t) : w ∈ ws := by cases h <;> assumption
theorem Reach.nonneg {ws : List Wl} {st : Int} {w : Wl} {t : Rat} (h : Reach ws st w t) : 0 ≤ t := by
  induction h with
  | start a b c d => exact Rat.le_trans b c
  | meet a b c d e ih => exact Rat.le_trans (Rat.le_trans ih c) d
/-- more walkers: no later -/
theorem Reach.sub {ws vs : List Wl} {st : Int} {w : Wl} {t : Rat} (hs : ∀ x ∈ ws, x ∈ vs) (h : Reach ws st w t) : Reach vs st w t := by
  induction h with
  | start a b c d => exact .start (hs _ a) b c d
  | meet a b c d e ih => exact .meet (hs _ a) ih c d e
/-- what is told by a course is so -/
structure RJ (S : CoS) (t : Rat) : Prop where
  dv : Dv S t
  iv : Iv S t
  re : ∀ (i : Nat) (w : Wl) (p : Rat × Option Nat), S.ws[i]? = some w → S.knows[i]? = some (some p) → Reach S.ws S.start w p.1
theorem rj_work {S : CoS} {t u : Rat} (h : Iv S t) (j : RJ S t) (e : S.next = some u) : RJ (S.work u) u := by
  have lt := h.next_gt e
  refine ⟨dv_next h j.dv e, work_iv (h.pv e), fun i w p hw hk => ?_⟩
  obtain ⟨k, hk0⟩ := get_kn h.ok (show S.ws[i]? = some w from hw)
  have g := tellL_get S u S.ws S.knows i w k hw hk0
  have hk' : (tellL S u S.ws S.knows)[i]? = some (some p) := hk
  rw [g] at hk'
  show Reach S.ws S.start w p.1
  by_cases c : k = none ∧ (S.entry w).level w u
  · rw [if_pos c] at hk'
    cases hk'
    have wm : w ∈ S.ws := List.mem_of_getElem? hw
    have u0 : 0 ≤ u := Rat.le_of_lt (by have := h.t0; grind)
    have lev := c.2
    unfold EndS.level CoS.entry at lev
    have fin : ∀ l : Wl, posR w u = posR l u → (l = (S.start, 0) ∨ ∃ (i : Nat) (p : Rat × Option Nat), S.ws[i]? = some l ∧ S.knows[i]? = some (some p)) → Reach S.ws S.start w u := fun l hl hd => by
      rcases hd with e | ⟨i', p', a, b⟩
      · exact .start wm u0 Rat.le_refl (by rw [hl, e, pos_stand])
      · exact .meet wm (j.re i' l p' a b) (Rat.le_of_lt (by have := (h.kt i' p' b).2; grind)) Rat.le_refl hl
    split at lev
    · exact fin _ lev j.dv.l
    · exact fin _ lev j.dv.r
  · rw [if_neg c] at hk'
    cases hk'
    exact j.re i w p hw hk0
theorem rj0 (ws : List Wl) (st : Int) : RJ ((co0 ws st).work 0) 0 := by
  refine ⟨dv0 ws st, work_iv (pv0 ws st), fun i w p hw hk => ?_⟩
  have hw' : ws[i]? = some w := hw
  have hk0 : (co0 ws st).knows[i]? = some none := by
    show (ws.map fun _ => (none : Kn))[i]? = _
    rw [List.getElem?_map, hw']; rfl
  have g := tellL_get (co0 ws st) 0 ws (co0 ws st).knows i w none hw' hk0
  have hk' : (tellL (co0 ws st) 0 ws (co0 ws st).knows)[i]? = some (some p) := hk
  rw [g] at hk'
  show Reach ws st w p.1
  by_cases c : (none : Kn) = none ∧ ((co0 ws st).entry w).level w 0
  · rw [if_pos c] at hk'
    cases hk'
    refine .start (List.mem_of_getElem? hw') Rat.le_refl Rat.le_refl ?_
    have lev := c.2
    unfold CoS.entry at lev
    have e : w.1 = st := by
      split at lev
      · exact (lvl0 w st _).mp lev
      · exact (lvl0 w st _).mp lev
    rw [posR_0, e]
  · rw [if_neg c] at hk'
    cases hk'
theorem course_reach {ws : List Wl} {st : Int} {i : Nat} {w : Wl} {p : Rat × Option Nat} (hw : ws[i]? = some w) (hk : (course ws st).knows[i]? = some (some p)) : Reach ws st w p.1 := by
  have p0 := course_kt hk
  obtain ⟨S, t, h, j, ht, ha, L⟩ := course_hist RJ (fun S t u h j e => rj_work h j e) ws st (rj0 ws st) p0
  have ew : S.ws = ws := by rw [← L.ws]; exact cws ws st
  have es : S.start = st := by rw [← L.st]; exact cst ws st
  obtain ⟨k, hk0⟩ := get_kn h.ok (show S.ws[i]? = some w by rw [ew]; exact hw)
  cases k with
  | none =>
    rcases L.k2 i hk0 with q | ⟨p', q, lt⟩
    · rw [q] at hk; cases hk
    · rw [q] at hk; cases hk; grind
  | some p' =>
    have := L.k1 i p' hk0
    rw [this] at hk; cases hk
    have := j.re i w p (by rw [ew]; exact hw) hk0
    rw [ew, es] at this
    exact this
theorem seen_told {ws : List Wl} {st : Int} {s L R : Rat} (v : Seen ws st s L R) {i : Nat} {w : Wl} (hw : ws[i]? = some w) (h : L ≤ posR w s ∧ posR w s ≤ R) : ∃ p : Rat × Option Nat, (course ws st).knows[i]? = some (some p) ∧ p.1 ≤ s := by
  apply Classical.byContradiction
  intro no
  have o := v.out i w hw fun p e => by
    apply Classical.byContradiction
    intro z
    exact no ⟨p, e, by grind⟩
  grind
/-- who can be told by then is told by then -/
theorem reach_course {ws : List Wl} {st : Int} {w : Wl} {s : Rat} (h : Reach ws st w s) : ∀ i : Nat, ws[i]? = some w → ∃ p : Rat × Option Nat, (course ws st).knows[i]? = some (some p) ∧ p.1 ≤ s := by
  induction h with
  | start a b c d =>
    intro i hi
    obtain ⟨L, R, v⟩ := course_seen ws st b
    obtain ⟨p, e, hp⟩ := seen_told v hi (by rw [d]; exact v.mid)
    exact ⟨p, e, Rat.le_trans hp c⟩
  | meet a b c d e ih =>
    intro i hi
    obtain ⟨j, hj⟩ := List.mem_iff_getElem?.mp b.mem
    obtain ⟨p, hp, le⟩ := ih j hj
    obtain ⟨L, R, v⟩ := course_seen ws st (Rat.le_trans b.nonneg c)
    have n := v.inn j _ p hj hp (Rat.le_trans le c)
    rw [← e] at n
    obtain ⟨p', e', hp'⟩ := seen_told v hi n
    exact ⟨p', e', Rat.le_trans hp' d⟩
/-- the first time of each: told just by the spreading -/
def Least (P : Rat → Prop) : Option Rat → Prop
  | none => ∀ s, ¬ P s
  | some t => P t ∧ ∀ s, P s → t ≤ s
theorem Least.uniq {P Q : Rat → Prop} (h : ∀ s, P s ↔ Q s) : ∀ {a b : Option Rat}, Least P a → Least Q b → a = b
  | none, none, _, _ => rfl
  | none, some t, h1, h2 => absurd ((h t).mpr h2.1) (h1 t)
  | some t, none, h1, h2 => absurd ((h t).mp h1.1) (h2 t)
  | some t, some s, h1, h2 => by
    have a := h1.2 s ((h s).mpr h2.1)
    have b := h2.2 t ((h t).mp h1.1)
    rw [Rat.le_antisymm a b]
theorem course_least {ws : List Wl} {st : Int} {i : Nat} {w : Wl} {k : Kn} (hw : ws[i]? = some w) (hk : (course ws st).knows[i]? = some k) : Least (Reach ws st w) (k.map (·.1)) := by
  cases k with
  | none =>
    intro s h
    obtain ⟨p, e, _⟩ := reach_course h i hw
    rw [hk] at e; cases e
  | some p =>
    refine ⟨course_reach hw hk, fun s h => ?_⟩
    obtain ⟨p', e, le⟩ := reach_course h i hw
    rw [hk] at e; cases e
    exact le
/-- a place, too -/
def RPlace (ws : List Wl) (st : Int) (x : Rat) (s : Rat) : Prop := (x = (st : Rat) ∧ 0 ≤ s) ∨ ∃ (l : Wl) (t' t : Rat), Reach ws st l t' ∧ t' ≤ t ∧ t ≤ s ∧ posR l t = x
theorem RPlace.sub {ws vs : List Wl} {st : Int} {x t : Rat} (hs : ∀ x ∈ ws, x ∈ vs) (h : RPlace ws st x t) : RPlace vs st x t := by
  rcases h with h | ⟨l, a, b, c, d⟩
  · exact .inl h
  · exact .inr ⟨l, a, b, c.sub hs, d⟩
/-- a place that isn't the start is told by one who goes -/
theorem reach_goes {ws : List Wl} {st : Int} {l : Wl} {t' : Rat} (h : Reach ws st l t') : ∀ (t x : Rat), t' ≤ t → posR l t = x → x ≠ (st : Rat) → ∃ (v : Wl) (a b : Rat), Reach ws st v a ∧ v.2 ≠ 0 ∧ a ≤ b ∧ b ≤ t ∧ posR v b = x := by
  induction h with
  | @start w t0 s0 hm h0 hs hp =>
    intro t x ht hx hne
    by_cases z : w.2 = 0
    · exfalso
      apply hne
      rw [← hx, ← hp]
      unfold posR; rw [z]; grind
    · exact ⟨w, _, t, .start hm h0 hs hp, z, ht, Rat.le_refl, hx⟩
  | @meet w l a t0 s0 hm hr h1 h2 hp ih =>
    intro t x ht hx hne
    by_cases z : w.2 = 0
    · have e : posR w t0 = x := by rw [← hx]; unfold posR; rw [z]; grind
      obtain ⟨v, c, b, h3, h4, h5, h6, h7⟩ := ih t0 x h1 (by rw [← hp]; exact e) hne
      exact ⟨v, c, b, h3, h4, h5, Rat.le_trans h6 (Rat.le_trans h2 ht), h7⟩
    · exact ⟨w, _, t, .meet hm hr h1 h2 hp, z, ht, Rat.le_refl, hx⟩
theorem meet_uniq {w l : Wl} {t : Rat} (hn : w.2 ≠ l.2) (h : posR w t = posR l t) : t = meet w l := by
  have e := posR_lin w l t hn
  have hd : ((w.2 : Rat) - (l.2 : Rat)) ≠ 0 := fun z => hn (Rat.intCast_inj.mp (by grind))
  rw [h] at e
  grind
/-- the spreading of walkers that are told otherwise: moved, seen from the other side, quicker -/
theorem Reach.map {ws : List Wl} {st st' : Int} {f : Wl → Wl} {g : Rat → Rat} {c : Rat} (hc : 0 < c) (hf : ∀ w t, posR (f w) (c * t) = g (posR w t)) (hg : g (st : Rat) = (st' : Rat)) {w : Wl} {t : Rat} (h : Reach ws st w t) : Reach (ws.map f) st' (f w) (c * t) := by
  have mono : ∀ a b : Rat, a ≤ b → c * a ≤ c * b := fun a b h => Rat.mul_le_mul_of_nonneg_left h (Rat.le_of_lt hc)
  induction h with
  | start a b d e => exact .start (List.mem_map_of_mem a) (Rat.mul_nonneg (Rat.le_of_lt hc) b) (mono _ _ d) (by rw [hf, e, hg])
  | meet a b d e p ih => exact .meet (List.mem_map_of_mem a) ih (mono _ _ d) (mono _ _ e) (by rw [hf, hf, p])
theorem RPlace.map {ws : List Wl} {st st' : Int} {f : Wl → Wl} {g : Rat → Rat} {c : Rat} (hc : 0 < c) (hf : ∀ w t, posR (f w) (c * t) = g (posR w t)) (hg : g (st : Rat) = (st' : Rat)) {x t : Rat} (h : RPlace ws st x t) : RPlace (ws.map f) st' (g x) (c * t) := by
  have mono : ∀ a b : Rat, a ≤ b → c * a ≤ c * b := fun a b h => Rat.mul_le_mul_of_nonneg_left h (Rat.le_of_lt hc)
  rcases h with ⟨e, h0⟩ | ⟨l, a, b, h1, h2, h3, h4⟩
  · exact .inl ⟨by rw [e, hg], Rat.mul_nonneg (Rat.le_of_lt hc) h0⟩
  · exact .inr ⟨f l, c * a, c * b, h1.map hc hf hg, mono _ _ h2, mono _ _ h3, by rw [hf, h4]⟩
def mir (w : Wl) : Wl := (-w.1, -w.2)
theorem mir_mir (w : Wl) : mir (mir w) = w := by unfold mir; simp
theorem posR_mir (w : Wl) (t : Rat) : posR (mir w) (1 * t) = -(posR w t) := by
  unfold posR mir
  simp only [Rat.intCast_neg]
  grind
theorem rplace_mir (ws : List Wl) (st : Int) (x s : Rat) : RPlace (ws.map mir) (-st) (-x) s ↔ RPlace ws st x s := by
  constructor
  · intro h
    have := h.map (f := mir) (g := fun y => -y) (c := 1) (st' := st) (by decide) posR_mir (by rw [Rat.intCast_neg]; grind)
    rw [List.map_map, show (mir ∘ mir) = id from funext mir_mir, List.map_id, Rat.one_mul, Rat.neg_neg] at this
    exact this
  · intro h
    have := h.map (f := mir) (g := fun y => -y) (c := 1) (st' := -st) (by decide) posR_mir (by rw [Rat.intCast_neg])
    rwa [Rat.one_mul] at this
theorem reach_mir (ws : List Wl) (st : Int) (w : Wl) (s : Rat) : Reach (ws.map mir) (-st) (mir w) s ↔ Reach ws st w s := by
  constructor
  · intro h
    have := h.map (f := mir) (g := fun y => -y) (c := 1) (st' := st) (by decide) posR_mir (by rw [Rat.intCast_neg]; grind)
    rw [List.map_map, show (mir ∘ mir) = id from funext mir_mir, List.map_id, Rat.one_mul, mir_mir] at this
    exact this
  · intro h
    have := h.map (f := mir) (g := fun y => -y) (c := 1) (st' := -st) (by decide) posR_mir (by rw [Rat.intCast_neg])
    rwa [Rat.one_mul] at this
end Sd

set_option Elab.async false
set_option linter.all false
set_option maxRecDepth 100000
set_option maxHeartbeats 1000000
/-! Who tells: one who knew strictly earlier, and is at that point. -/
namespace Sd
def EDr (S : CoS) (t : Rat) (E : EndS) : Prop := (E.driver = none ∧ E.line = (S.start, 0)) ∨ ∃ (j : Nat) (v : Wl) (q : Rat × Option Nat), E.driver = some j ∧ S.ws[j]? = some v ∧ E.line = v ∧ S.knows[j]? = some (some q) ∧ q.1 ≤ t
structure TJ (S : CoS) (t : Rat) : Prop where
  kn : ∀ (i : Nat) (w : Wl) (p : Rat) (j : Nat), S.ws[i]? = some w → S.knows[i]? = some (some (p, some j)) → ∃ (v : Wl) (q : Rat × Option Nat), S.ws[j]? = some v ∧ S.knows[j]? = some (some q) ∧ q.1 < p ∧ posR w p = posR v p
  k0 : ∀ (i : Nat) (w : Wl) (p : Rat), S.ws[i]? = some w → S.knows[i]? = some (some (p, none)) → posR w p = (S.start : Rat)
  dl : EDr S t S.left
  dr : EDr S t S.right
theorem tell_keep (S : CoS) (u : Rat) {i : Nat} {w : Wl} {q : Rat × Option Nat} (hw : S.ws[i]? = some w) (hk : S.knows[i]? = some (some q)) : (S.work u).knows[i]? = some (some q) := by
  have g := tellL_get S u S.ws S.knows i w (some q) hw hk
  rw [if_neg (fun z => nomatch z.1)] at g
  exact g
theorem edr_drive {S : CoS} {t u : Rat} (iw : Iv (S.work u) u) (lt : t ≤ u) {E : EndS} (hw : E.way = 1 ∨ E.way = -1) (h : EDr S t E)
    (lv : ∀ (k : Nat) (v : Wl), S.ws[k]? = some v → posR v u = posR E.line u → (S.work u).knows[k]? ≠ some none) : EDr (S.work u) u (E.drive u S.ws) := by
  obtain ⟨h1, _, _, h4⟩ := drive_spec E u S.ws hw
  rcases h4 with e | ⟨k, v, hv, hl, hp, e⟩
  · rw [e]
    rcases h with ⟨a, b⟩ | ⟨j, v, q, a, b, c, d, f⟩
    · exact .inl ⟨a, b⟩
    · exact .inr ⟨j, v, q, a, b, c, tell_keep S u b d, Rat.le_trans f lt⟩
  · rw [e]
    obtain ⟨kk, hk⟩ := get_kn iw.ok (show (S.work u).ws[k]? = some v from hv)
    cases kk with
    | none => exact absurd hk (lv k v hv hp)
    | some q => exact .inr ⟨k, v, q, rfl, hv, rfl, hk, (iw.kt k q hk).2⟩
theorem tj_step {S : CoS} {t u : Rat} (ok : S.Ok) (iw : Iv (S.work u) u) (le : t ≤ u) (fr : (S.left.driver = none ∧ S.right.driver = none) ∨ t < u) (j : TJ S t) : TJ (S.work u) u := by
  have pL : posR (S.work u).left.line u = posR S.left.line u := (drive_spec S.left u S.ws (.inr ok.lw)).2.1
  have pR : posR (S.work u).right.line u = posR S.right.line u := (drive_spec S.right u S.ws (.inl ok.rw)).2.1
  have lL : ∀ (k : Nat) (v : Wl), S.ws[k]? = some v → posR v u = posR S.left.line u → (S.work u).knows[k]? ≠ some none := fun k v hv hp hk => by
    obtain ⟨o1, o2⟩ := iw.out k v hv hk
    have m1 := iw.mid
    by_cases z : v.1 < (S.work u).start
    · have := o1 z; rw [pL] at this; grind
    · have := o2 z; grind
  have lR : ∀ (k : Nat) (v : Wl), S.ws[k]? = some v → posR v u = posR S.right.line u → (S.work u).knows[k]? ≠ some none := fun k v hv hp hk => by
    obtain ⟨o1, o2⟩ := iw.out k v hv hk
    have m1 := iw.mid
    by_cases z : v.1 < (S.work u).start
    · have := o1 z; grind
    · have := o2 z; rw [pR] at this; grind
  have ed : ∀ w, EDr S t (S.entry w) ∧ ((S.entry w).driver = none ∨ t < u) := fun w => by
    unfold CoS.entry
    split
    · exact ⟨j.dl, fr.imp (fun h => h.1) id⟩
    · exact ⟨j.dr, fr.imp (fun h => h.2) id⟩
  refine ⟨fun i w p j0 hw hk => ?_, fun i w p hw hk => ?_, edr_drive iw le (.inr ok.lw) j.dl lL, edr_drive iw le (.inl ok.rw) j.dr lR⟩
  · obtain ⟨k, hk0⟩ := get_kn ok (show S.ws[i]? = some w from hw)
    have g := tellL_get S u S.ws S.knows i w k hw hk0
    have hk' : (tellL S u S.ws S.knows)[i]? = some (some (p, some j0)) := hk
    rw [g] at hk'
    by_cases c : k = none ∧ (S.entry w).level w u
    · rw [if_pos c] at hk'
      have z := Option.some.inj (Option.some.inj hk')
      have e1 : u = p := congrArg Prod.fst z
      have e2 : (S.entry w).driver = some j0 := congrArg Prod.snd z
      obtain ⟨d, dl⟩ := ed w
      rcases d with ⟨d1, _⟩ | ⟨j', v, q, d1, d2, d3, d4, d5⟩
      · rw [d1] at e2; cases e2
      · rw [d1] at e2
        cases e2
        rcases dl with dl | dl
        · rw [d1] at dl; cases dl
        · subst e1
          refine ⟨v, q, d2, tell_keep S u d2 d4, by grind, ?_⟩
          have lev := c.2
          unfold EndS.level at lev
          rw [d3] at lev
          exact lev
    · rw [if_neg c] at hk'
      cases hk'
      obtain ⟨v, q, a, b, c2, d⟩ := j.kn i w p j0 hw hk0
      exact ⟨v, q, a, tell_keep S u a b, c2, d⟩
  · obtain ⟨k, hk0⟩ := get_kn ok (show S.ws[i]? = some w from hw)
    have g := tellL_get S u S.ws S.knows i w k hw hk0
    have hk' : (tellL S u S.ws S.knows)[i]? = some (some (p, none)) := hk
    rw [g] at hk'
    show posR w p = (S.start : Rat)
    by_cases c : k = none ∧ (S.entry w).level w u
    · rw [if_pos c] at hk'
      have z := Option.some.inj (Option.some.inj hk')
      have e1 : u = p := congrArg Prod.fst z
      have e2 : (S.entry w).driver = none := congrArg Prod.snd z
      obtain ⟨d, dl⟩ := ed w
      rcases d with ⟨_, d1⟩ | ⟨j', v, q, d1, _⟩
      · subst e1
        have lev := c.2
        unfold EndS.level at lev
        rw [d1, pos_stand] at lev
        exact lev
      · rw [d1] at e2; cases e2
    · rw [if_neg c] at hk'
      cases hk'
      exact j.k0 i w p hw hk0
theorem tj0 (ws : List Wl) (st : Int) : TJ ((co0 ws st).work 0) 0 := by
  refine tj_step (t := 0) (pv0 ws st).ok (work_iv (pv0 ws st)) Rat.le_refl (.inl ⟨rfl, rfl⟩) ⟨fun i w p j hw hk => ?_, fun i w p hw hk => ?_, .inl ⟨rfl, rfl⟩, .inl ⟨rfl, rfl⟩⟩
  · have : (ws.map fun _ => (none : Kn))[i]? = some (some (p, some j)) := hk
    rw [List.getElem?_map] at this
    cases h : ws[i]? <;> rw [h] at this <;> cases this
  · have : (ws.map fun _ => (none : Kn))[i]? = some (some (p, none)) := hk
    rw [List.getElem?_map] at this
    cases h : ws[i]? <;> rw [h] at this <;> cases this
theorem tj_work {S : CoS} {t u : Rat} (h : Iv S t) (j : TJ S t) (e : S.next = some u) : TJ (S.work u) u :=
  tj_step h.ok (work_iv (h.pv e)) (Rat.le_of_lt (h.next_gt e)) (.inr (h.next_gt e)) j
theorem course_tj {ws : List Wl} {st : Int} {i : Nat} {w : Wl} {p : Rat × Option Nat} (hw : ws[i]? = some w) (hk : (course ws st).knows[i]? = some (some p)) :
    ∃ (S : CoS) (t : Rat), TJ S t ∧ S.ws = ws ∧ S.start = st ∧ S.knows[i]? = some (some p) ∧ Lat p.1 S (course ws st) := by
  have p0 := course_kt hk
  obtain ⟨S, t, h, j, ht, ha, L⟩ := course_hist TJ (fun S t u h j e => tj_work h j e) ws st (tj0 ws st) p0
  have ew : S.ws = ws := by rw [← L.ws]; exact cws ws st
  have es : S.start = st := by rw [← L.st]; exact cst ws st
  refine ⟨S, t, j, ew, es, ?_, L⟩
  obtain ⟨k, hk0⟩ := get_kn h.ok (show S.ws[i]? = some w by rw [ew]; exact hw)
  cases k with
  | none =>
    rcases L.k2 i hk0 with q | ⟨p', q, lt⟩
    · rw [q] at hk; cases hk
    · rw [q] at hk; cases hk; grind
  | some p' =>
    have := L.k1 i p' hk0
    rw [this] at hk; cases hk
    exact hk0
/-- who tells knew strictly earlier, and is at the same point then -/
theorem course_teller {ws : List Wl} {st : Int} {i j : Nat} {w : Wl} {p : Rat} (hw : ws[i]? = some w) (hk : (course ws st).knows[i]? = some (some (p, some j))) :
    ∃ (v : Wl) (q : Rat × Option Nat), ws[j]? = some v ∧ (course ws st).knows[j]? = some (some q) ∧ q.1 < p ∧ posR w p = posR v p := by
  obtain ⟨S, t, J, ew, es, hS, L⟩ := course_tj hw hk
  obtain ⟨v, q, a, b, c, d⟩ := J.kn i w p j (by rw [ew]; exact hw) hS
  exact ⟨v, q, by rw [← ew]; exact a, L.k1 j q b, c, d⟩
/-- who is told by nobody is at the start then -/
theorem course_first {ws : List Wl} {st : Int} {i : Nat} {w : Wl} {p : Rat} (hw : ws[i]? = some w) (hk : (course ws st).knows[i]? = some (some (p, none))) : posR w p = (st : Rat) := by
  obtain ⟨S, t, J, ew, es, hS, L⟩ := course_tj hw hk
  have := J.k0 i w p (by rw [ew]; exact hw) hS
  rw [es] at this
  exact this
end Sd

set_option Elab.async false
set_option linter.all false
set_option maxRecDepth 100000
set_option maxHeartbeats 4000000
namespace Sd
open PySem PySem.Spec PyProof.Rows L2
local macro_rules | `(tactic| walk_at "rd") => `(tactic| try simp only [xSeq, xAsg, gNm, xRet, xRetN, xIfS, xNext, xDrop, xFor, iRg1, iRg2, iEnuD, gTp, gCo, gNo, gSet, xVar, xC, xOp, xI, xI0, xNeg, xEq, xNe, xIs, xIsNot, xB, xAndT, xOrT, xNotT, xAnd, xOr, xNot, xIfE, xChain, xIx, xNil, xCons, xTup, xLst, xGc, xCall, xMeth, xMake, xFld, xFldS, xApp, xPar, xPar3, xLc, xYes, xCB, xLen, xAbs, x2I, xInt, xList, xTupOf, xIsi, xIsT, iTp, iLst, iZpX, xCat, xCatT, xSlL, xSlT, xpNone, xpSome, xGcS, xBreak, xCont, xIn, xNotIn, xIntB, asBl_bl, xLstRg1, xLstRg2, xTupH, xDNewT, xDNewK, xDPutK, xDGetK, iEnuL, xEqZ, xNeZ, iRevRg1, xLstRev, iZpY, xSortSet, xSortSetA, xRvs, xFmtI, xJs, xStrI, xIntS, xLenS, xAddS, xSplit, xJoin, xRmPre, xIsDec, asS_str, xWord, xCall2, xSeq2, xIf2, xFor2, xRaise2, xRaiseN, xDrop2, xRet2, xIxS, xSlS, xInS, xNotInS, iTxt, xMulS, xRepL, xApp2, xAsg2, xFld2, iLst2, xFor3, xNotInT, asT_tup, xCnt, xIdx, xCls, xXf, xInF, xDGetF, iKeyF, xDictF, iRg3, xRevSl, iSq, seqD_wsX, immD_wsX, immD_tup, oget_some, asI_int, asB_bl, oat_some, one_one, two_two, tri_tri, asT_tup, seqD_tup, seqD_lck, List.getElem?_cons_zero, List.getElem?_cons_succ, List.set_cons_zero, List.set_cons_succ, List.length_cons, List.length_nil])
def topS (i : Nat) : Stmt := PySem.Challenge.pw_saidroad_k16_texts_refused.main.body.getD i (.Pass ⟨0, 0, 0, 0⟩)

def frD (r : Rat) : D := .tup [.int r.num, .int (r.den : Int)]
def wkD (w : Int × Int) : D := .tup [.int w.1, .int w.2]
def pairD (a b : Int) : D := .tup [.int a, .int b]
def wsD (ws : List Wl) : D := .tup (ws.map wkD)
def drvD : Option Nat → D
  | none => .non
  | some k => .int (k : Int)
def drvsD (l : List (Rat × Nat)) : List D := l.map fun p => .tup [frD p.1, .int (p.2 : Int)]
def knD : Kn → D
  | none => .non
  | some p => .tup [frD p.1, drvD p.2]
def minD (o : Option Rat) : D := match o with | none => .non | some r => frD r
theorem two_sz : 2 ≤ sizeLine := two_line
theorem le_sz {n : Nat} (h : n ≤ 1000) : n ≤ sizeLine := Nat.le_of_lt (small1000 h)
theorem lt_sz {n : Nat} (h : n ≤ 1000) : n < sizeLine := small1000 h
theorem atI_0 {α : Type} {x : α} {xs : List α} : atI (x :: xs) 0 = some x := atI_nat (j := 0) rfl
theorem atI_1 {α : Type} {x y : α} {xs : List α} : atI (x :: y :: xs) 1 = some y := atI_nat (j := 1) rfl
theorem atI_map {α : Type} {f : α → D} {xs : List α} {i : Nat} {x : α} (h : xs[i]? = some x) : atI (xs.map f) (i : Int) = some (f x) := atI_nat (by rw [List.getElem?_map, h]; rfl)
abbrev Sml (b : Int) : Prop := b.natAbs < 2 ^ 64
theorem cmul_r {a b : Int} (h : Sml b) : CMul a b := .inr (by unfold Sml at h; omega)
theorem cmul_l {a b : Int} (h : Sml a) : CMul a b := .inl (by unfold Sml at h; omega)
theorem log_small {b : Int} (h : Sml b) : b.natAbs.log2 < 9000 := by
  by_cases z : b.natAbs = 0
  · rw [z]; decide
  · exact Nat.lt_of_lt_of_le ((Nat.log2_lt z).mpr h) (by decide)
structure WSm (w : Wl) : Prop where
  h1 : -1000000000 ≤ w.1
  h2 : w.1 ≤ 1000000000
  h3 : -9 ≤ w.2
  h4 : w.2 ≤ 9
theorem WSm.s1 {w : Wl} (h : WSm w) : Sml w.1 := by have := h.h1; have := h.h2; unfold Sml; omega
theorem WSm.s2 {w : Wl} (h : WSm w) : Sml w.2 := by have := h.h3; have := h.h4; unfold Sml; omega
structure WOk (w : Wl) : Prop where
  h1 : -99 ≤ w.1
  h2 : w.1 ≤ 99
  h3 : -9 ≤ w.2
  h4 : w.2 ≤ 9
theorem WOk.sm {w : Wl} (h : WOk w) : WSm w := ⟨by have := h.h1; omega, by have := h.h2; omega, h.h3, h.h4⟩
theorem WOk.s1 {w : Wl} (h : WOk w) : Sml w.1 := h.sm.s1
theorem WOk.s2 {w : Wl} (h : WOk w) : Sml w.2 := h.sm.s2
theorem updM_updM {m : M} {a : Addr} {o u : O} : updM (updM m a o) a u = updM m a u := by
  funext b; unfold updM; split <;> rfl
theorem isNon_fr {r : Rat} : isNon (frD r) = false := rfl
/-! ### == of fractions -/
theorem toPy_fr (m : M) (r : Rat) : toPyM m (frD r) = some (.tuple [.int r.num, .int (r.den : Int)]) := by simp [toPyM, frD, toPy, toPys]
theorem eq_fr {m : M} {r s : Rat} {k : Bool → Prop} (h : k (decide (r = s))) : eqD m (frD r) (frD s) k := by
  refine ⟨_, _, toPy_fr m r, toPy_fr m s, rfl, rfl, ?_⟩
  have e : PyData.eqv (.tuple [.int r.num, .int (r.den : Int)]) (.tuple [.int s.num, .int (s.den : Int)]) = decide (r = s) := by
    simp only [PyData.eqv, PyData.eqvAll, Bool.and_true]
    rw [Bool.eq_iff_iff]
    simp only [Bool.and_eq_true, beq_iff_eq, decide_eq_true_eq]
    constructor
    · intro ⟨h1, h2⟩
      exact Rat.ext h1 (by omega)
    · intro h
      subst h
      exact ⟨rfl, rfl⟩
  rw [e]
  exact h
/-! ### ratios -/
def spLowest : XSp := fun ds m Q => two ds fun x y => asI x fun t => asI y fun b => b ≠ 0 ∧ Sml b ∧ Q (frD ((t : Rat) / (b : Rat))) m
def spBelow : XSp := fun ds m Q => ∃ n1 d1 n2 d2 : Int, ds = [pairD n1 d1, pairD n2 d2] ∧ Sml d1 ∧ Sml d2 ∧ Q (.bl (decide (n1 * d2 < n2 * d1))) m
def spLeast : XSp := fun ds m Q => ∃ (a : Addr) (rs : List Rat), ds = [.ref a] ∧ m a = some (.lst (rs.map frD)) ∧ (∀ r ∈ rs, Sml r.den) ∧ Q (minD (minR rs)) m
def spPoint : XSp := fun ds m Q => ∃ (a u n d : Int), ds = [pairD a u, pairD n d] ∧ Sml a ∧ Sml u ∧ d ≠ 0 ∧ Sml d ∧ Q (frD (((a * d + u * n : Int) : Rat) / (d : Rat))) m
def spMeeting : XSp := fun ds m Q => ∃ (w l : Wl), ds = [wkD w, wkD l] ∧ w.2 ≠ l.2 ∧ Sml (w.2 - l.2) ∧ Q (frD (meet w l)) m
def spMost : XSp := fun ds m Q => ∃ (a : Addr) (rs : List Rat), ds = [.ref a] ∧ m a = some (.lst (rs.map frD)) ∧ (∀ r ∈ rs, Sml r.den) ∧ Q (minD (maxR rs)) m
theorem len_lowest {ds m Q} (h : spLowest ds m Q) : ds.length = 2 := by obtain ⟨x, y, rfl, _⟩ := two_out h; rfl
theorem len_is_below {ds m Q} (h : spBelow ds m Q) : ds.length = 2 := by obtain ⟨_, _, _, _, rfl, _⟩ := h; rfl
theorem len_least {ds m Q} (h : spLeast ds m Q) : ds.length = 1 := by obtain ⟨_, _, rfl, _⟩ := h; rfl
theorem len_most {ds m Q} (h : spMost ds m Q) : ds.length = 1 := by obtain ⟨_, _, rfl, _⟩ := h; rfl
theorem len_point_of {ds m Q} (h : spPoint ds m Q) : ds.length = 2 := by obtain ⟨_, _, _, _, rfl, _⟩ := h; rfl
theorem len_meeting {ds m Q} (h : spMeeting ds m Q) : ds.length = 2 := by obtain ⟨_, _, rfl, _⟩ := h; rfl
/-- the least so far, item by item -/
def minF : Option Rat → List Rat → Option Rat
  | b, [] => b
  | none, r :: rs => minF (some r) rs
  | some b, r :: rs => if r < b then minF (some r) rs else minF (some b) rs
theorem minF_cs (b r : Rat) (rs : List Rat) : minF (some b) (r :: rs) = if r < b then minF (some r) rs else minF (some b) rs := rfl
theorem minF_some : ∀ (rs : List Rat) (b : Rat), minF (some b) rs = some (match minR rs with | none => b | some s => if s < b then s else b)
  | [], b => rfl
  | r :: rs, b => by
    unfold minF minR
    rw [minF_some rs r, minF_some rs b]
    cases e : minR rs with
    | none => simp only; split <;> rfl
    | some s => simp only; split <;> split <;> (try split) <;> (try simp only [Option.some.injEq]) <;> grind
theorem minF_none (rs : List Rat) : minF none rs = minR rs := by
  cases rs with
  | nil => rfl
  | cons r rs =>
    unfold minF
    rw [minF_some]
    rw [minR]
    cases minR rs with
    | none => rfl
    | some s => simp only; split <;> rfl
def maxF : Option Rat → List Rat → Option Rat
  | b, [] => b
  | none, r :: rs => maxF (some r) rs
  | some b, r :: rs => if b < r then maxF (some r) rs else maxF (some b) rs
theorem maxF_cs (b r : Rat) (rs : List Rat) : maxF (some b) (r :: rs) = if b < r then maxF (some r) rs else maxF (some b) rs := rfl
theorem maxF_some : ∀ (rs : List Rat) (b : Rat), maxF (some b) rs = some (match maxR rs with | none => b | some s => if b < s then s else b)
  | [], b => rfl
  | r :: rs, b => by
    unfold maxF maxR
    rw [maxF_some rs r, maxF_some rs b]
    cases e : maxR rs with
    | none => simp only; split <;> rfl
    | some s => simp only; split <;> split <;> (try split) <;> (try simp only [Option.some.injEq]) <;> grind
theorem maxF_none (rs : List Rat) : maxF none rs = maxR rs := by
  cases rs with
  | nil => rfl
  | cons r rs =>
    unfold maxF
    rw [maxF_some]
    rw [maxR]
    cases maxR rs with
    | none => rfl
    | some s => simp only; split <;> rfl
/-! ### the ends of a course -/
def endF (E : EndS) (dl : Addr) : List (Str × D) := [("begin", .int E.bg), ("way", .int E.way), ("line", wkD E.line), ("driver", drvD E.driver), ("drives", .ref dl)]
def coF (ws : List Wl) (aL aR kn : Addr) : List (Str × D) := [("lines", wsD ws), ("left", .ref aL), ("right", .ref aR), ("knows", .ref kn)]
theorem lk_end_begin (E : EndS) (dl : Addr) : (endF E dl).lookup ("begin" : Str) = some (.int E.bg : D) := rfl
theorem lk_end_way (E : EndS) (dl : Addr) : (endF E dl).lookup ("way" : Str) = some (.int E.way : D) := rfl
theorem lk_end_line (E : EndS) (dl : Addr) : (endF E dl).lookup ("line" : Str) = some (wkD E.line : D) := rfl
theorem lk_end_driver (E : EndS) (dl : Addr) : (endF E dl).lookup ("driver" : Str) = some (drvD E.driver : D) := rfl
theorem lk_end_drives (E : EndS) (dl : Addr) : (endF E dl).lookup ("drives" : Str) = some (.ref dl : D) := rfl
theorem lk_end_lead (E : EndS) (dl : Addr) : (endF E dl).lookup ("lead" : Str) = none := rfl
theorem lk_end_is_level (E : EndS) (dl : Addr) : (endF E dl).lookup ("is_level" : Str) = none := rfl
theorem lk_end_take (E : EndS) (dl : Addr) : (endF E dl).lookup ("take" : Str) = none := rfl
theorem lk_co_lines (ws : List Wl) (aL aR kn : Addr) : (coF ws aL aR kn).lookup ("lines" : Str) = some (wsD ws : D) := rfl
theorem lk_co_left (ws : List Wl) (aL aR kn : Addr) : (coF ws aL aR kn).lookup ("left" : Str) = some (.ref aL : D) := rfl
theorem lk_co_right (ws : List Wl) (aL aR kn : Addr) : (coF ws aL aR kn).lookup ("right" : Str) = some (.ref aR : D) := rfl
theorem lk_co_knows (ws : List Wl) (aL aR kn : Addr) : (coF ws aL aR kn).lookup ("knows" : Str) = some (.ref kn : D) := rfl
theorem lk_co_is_begun (ws : List Wl) (aL aR kn : Addr) : (coF ws aL aR kn).lookup ("is_begun" : Str) = none := rfl
theorem lk_co_tell_those_inside (ws : List Wl) (aL aR kn : Addr) : (coF ws aL aR kn).lookup ("tell_those_inside" : Str) = none := rfl
theorem lk_co_entry (ws : List Wl) (aL aR kn : Addr) : (coF ws aL aR kn).lookup ("entry" : Str) = none := rfl
theorem lk_co_tell (ws : List Wl) (aL aR kn : Addr) : (coF ws aL aR kn).lookup ("tell" : Str) = none := rfl
theorem lk_co_drive (ws : List Wl) (aL aR kn : Addr) : (coF ws aL aR kn).lookup ("drive" : Str) = none := rfl
theorem lk_co_next_time (ws : List Wl) (aL aR kn : Addr) : (coF ws aL aR kn).lookup ("next_time" : Str) = none := rfl
theorem lk_co_is_told (ws : List Wl) (aL aR kn : Addr) : (coF ws aL aR kn).lookup ("is_told" : Str) = none := rfl
theorem lk_co_ends (ws : List Wl) (aL aR kn : Addr) : (coF ws aL aR kn).lookup ("ends" : Str) = none := rfl
theorem lk_co_known (ws : List Wl) (aL aR kn : Addr) : (coF ws aL aR kn).lookup ("known" : Str) = none := rfl
theorem lk_co_bringer (ws : List Wl) (aL aR kn : Addr) : (coF ws aL aR kn).lookup ("bringer" : Str) = none := rfl
theorem pd_end_line (E : EndS) (dl : Addr) (w : Wl) : putD "line" (wkD w) (endF E dl) = endF { E with line := w } dl := rfl
theorem pd_end_driver (E : EndS) (dl : Addr) (k : Nat) : putD "driver" (.int (k : Int)) (endF E dl) = endF { E with driver := some k } dl := rfl

section
variable (aEnd : Addr)
def EndAt (m : M) (e dl : Addr) (E : EndS) : Prop := m e = some (.ins aEnd (endF E dl)) ∧ (E.way = 1 ∨ E.way = -1) ∧ WSm E.line
def spLead : XSp := fun ds m Q => ∃ e dl E w, ds = [.ref e, wkD w] ∧ EndAt aEnd m e dl E ∧ Q (.int (E.lead w)) m
def spIsLevel : XSp := fun ds m Q => ∃ e dl E w t, ds = [.ref e, wkD w, frD t] ∧ EndAt aEnd m e dl E ∧ WSm w ∧ Sml t.den ∧ Q (.bl (decide (E.level w t))) m
def spTake : XSp := fun ds m Q => ∃ (e dl : Addr) (E : EndS) (t : Rat) (k : Nat) (w : Wl), ds = [.ref e, frD t, .int (k : Int), wkD w] ∧ m e = some (.ins aEnd (endF E dl)) ∧ m dl = some (.lst (drvsD E.drives)) ∧ E.drives.length < 1000 ∧
  Q .non (updM (updM m e (.ins aEnd (endF (E.take t k w) dl))) dl (.lst (drvsD (E.take t k w).drives)))
def spEndInit : XSp := fun ds m Q => ∃ e st way, ds = [.ref e, .int st, .int way] ∧ m e = some (.ins aEnd []) ∧ ∀ dl, dl ≠ e → m dl = none → Q .non (updM (updM m dl (.lst [])) e (.ins aEnd (endF (end0 st way) dl)))
end
theorem len_End_lead {aEnd ds m Q} (h : spLead aEnd ds m Q) : ds.length = 2 := by obtain ⟨_, _, _, _, rfl, _⟩ := h; rfl
theorem len_End_is_level {aEnd ds m Q} (h : spIsLevel aEnd ds m Q) : ds.length = 3 := by obtain ⟨_, _, _, _, _, rfl, _⟩ := h; rfl
theorem len_End_take {aEnd ds m Q} (h : spTake aEnd ds m Q) : ds.length = 4 := by obtain ⟨_, _, _, _, _, _, rfl, _⟩ := h; rfl
theorem len_End___init__ {aEnd ds m Q} (h : spEndInit aEnd ds m Q) : ds.length = 3 := by obtain ⟨_, _, _, rfl, _⟩ := h; rfl
theorem point_eq (w : Wl) (t : Rat) : ((w.1 * (t.den : Int) + w.2 * t.num : Int) : Rat) / ((t.den : Int) : Rat) = posR w t := by
  have h1 : ((t.den : Int) : Rat) ≠ 0 := by
    intro e
    have := Rat.intCast_inj.mp (e.trans (by rfl : (0 : Rat) = ((0 : Int) : Rat)))
    have := t.den_pos
    omega
  have h2 : t = (t.num : Rat) / ((t.den : Int) : Rat) := by
    have := Rat.num_divInt_den t
    rw [← Rat.divInt_eq_div]; exact this.symm
  unfold posR
  rw [Rat.intCast_add, Rat.intCast_mul, Rat.intCast_mul]
  generalize ((t.den : Int) : Rat) = d at *
  generalize (t.num : Rat) = n at *
  rw [h2]
  grind
theorem den_ne (t : Rat) : (t.den : Int) ≠ 0 := by have := t.den_pos; omega

local macro_rules | `(tactic| walk_at "lk") => `(tactic| try simp only [lk_end_begin, lk_end_way, lk_end_line, lk_end_driver, lk_end_drives, lk_end_lead, lk_end_is_level, lk_end_take, lk_co_lines, lk_co_left, lk_co_right, lk_co_knows, lk_co_is_begun, lk_co_tell_those_inside, lk_co_entry, lk_co_tell, lk_co_drive, lk_co_next_time, lk_co_is_told, lk_co_ends, lk_co_known, lk_co_bringer, oat_some, true_and])


structure Tx (P : Program) (w : World) (K : PySem.W.Frag) (mg : Str → Option Value) (base : Heap) (aEnd aCourse : Addr) : Prop where
  cl_Course : Cls K aCourse
  cl_End : Cls K aEnd
  m_FARTHEST : ∃ t : Tok, mg "FARTHEST" = some (.int 99 t)
  m_MOST_FIGURES : ∃ t : Tok, mg "MOST_FIGURES" = some (.int 2 t)
  m_MOST_WALKERS : ∃ t : Tok, mg "MOST_WALKERS" = some (.int 8 t)
  m_QUICKEST : ∃ t : Tok, mg "QUICKEST" = some (.int 9 t)
  m_ValueError : mg "ValueError" = none
  m_ZERO : ∃ a xs, mg "ZERO" = some (.ref a) ∧ (∀ H, SqT K H a xs) ∧ ∀ H, Reps K H [.int 0, .int 1] xs
  m_bool : mg "bool" = none
  m_enumerate : mg "enumerate" = none
  m_gcd : mg "gcd" = some (.builtin "math.gcd")
  m_int : mg "int" = none
  m_isinstance : mg "isinstance" = none
  m_len : mg "len" = none
  m_list : mg "list" = none
  m_range : mg "range" = none
  m_str : mg "str" = none
  m_tuple : mg "tuple" = none
  na_Course_knows : NoAttr K aCourse "knows"
  na_Course_left : NoAttr K aCourse "left"
  na_Course_lines : NoAttr K aCourse "lines"
  na_Course_right : NoAttr K aCourse "right"
  na_End_begin : NoAttr K aEnd "begin"
  na_End_driver : NoAttr K aEnd "driver"
  na_End_drives : NoAttr K aEnd "drives"
  na_End_line : NoAttr K aEnd "line"
  na_End_way : NoAttr K aEnd "way"
section
variable {P : Program} {w : World} {K : PySem.W.Frag} {mg : Str → Option Value} {base : Heap} {aEnd aCourse : Addr} {PT cT aBadWalkers aBadChain aBadDeed aHalted aBadText aBadPlace aBadTime aBadPoint aNoWalker aNeverKnown aRoadError : Addr}
theorem le_szW {n : Nat} (h : n ≤ 1000) : n ≤ sizeLine := Nat.le_of_lt (small1000 h)
theorem le_bg {n : Nat} (h : n ≤ 100000) : n ≤ sizeLine := Nat.le_trans h (by decide)
theorem lt_bg {n : Nat} (h : n ≤ 100000) : n < sizeLine := Nat.lt_of_le_of_lt h (by decide)
theorem neW {m : M} {a p : Addr} {o : O} (h : m a = some o) (n : m p = none) : a ≠ p := fun z => by rw [z, n] at h; cases h
theorem eq_int {m : M} {i j : Int} {k : Bool → Prop} (h : k (decide (i = j))) : eqD m (.int i) (.int j) k :=
  ⟨.int i, .int j, rfl, rfl, rfl, rfl, by simpa only [PyData.eqv, Bool.beq_eq_decide_eq] using h⟩

abbrev s_law_word : Stmt := topS 50
theorem sc_law_word : FnScope ["_law_work", "e", "_law_kinds", "_law_at"] ["_law_work"] (defScope s_law_word) := ⟨rfl, rfl, rfl, by decide +kernel, rfl, by decide +kernel, by decide +kernel⟩
theorem boot_ValueError : bootBuiltins "ValueError" = some (.type "ValueError") := by decide +kernel
theorem cnt_w {k : Nat} (h : k < 10) : List.count true [decide (0 = k), decide (1 = k), decide (2 = k), decide (3 = k), decide (4 = k), decide (5 = k), decide (6 = k), decide (7 = k), decide (8 = k), decide (9 = k)] = 1 := by
  rcases (by omega : k = 0 ∨ k = 1 ∨ k = 2 ∨ k = 3 ∨ k = 4 ∨ k = 5 ∨ k = 6 ∨ k = 7 ∨ k = 8 ∨ k = 9) with z | z | z | z | z | z | z | z | z | z <;> subst z <;> rfl
abbrev wCx (X : Cx) (A : Around) (s : Shared) (H : Hp) (g : Addr) (cdv : Value) : Cx := (cxOf C8.CX0 X.prog X.w X.K X.mg X.base ["_law_work", "e", "_law_kinds", "_law_at"] "_law_word" (defScope s_law_word) g cdv A X.stack s H C8.E0).nox
theorem oat_at {xs : List D} {j : Nat} {d : D} {Q : D → Prop} (h : xs[j]? = some d) (q : Q d) : oat (atI xs (j : Int)) Q := by rw [atI_nat h]; exact q
theorem is2_at {cs : List Addr} {idx i : Nat} {a c : Addr} {d : Option Addr} {fs : List (Str × Int)} {m : M} {Q : D → M → Prop} (h : cs[i]? = some c) (q : Q (.bl (decide (i = idx))) m) : xIs2 cs idx a d [.exc a d fs, .ref c] m Q := ⟨fs, rfl, .inl ⟨i, c, rfl, h, q⟩⟩
theorem ok_law_word (T : Tx P w K mg base aEnd aCourse) {g : Addr} {fd : FuncData} (F : Fun K "_law_word" "_law_word" s_law_word g fd) (hm : mg "_law_word" = some (.ref g)) (hb : L2.Binds K fd ["_law_work"] []) (e_BadWalkers : mg "BadWalkers" = some (.ref aBadWalkers)) (e_BadChain : mg "BadChain" = some (.ref aBadChain)) (e_BadDeed : mg "BadDeed" = some (.ref aBadDeed)) (e_Halted : mg "Halted" = some (.ref aHalted)) (e_BadText : mg "BadText" = some (.ref aBadText)) (e_BadPlace : mg "BadPlace" = some (.ref aBadPlace)) (e_BadTime : mg "BadTime" = some (.ref aBadTime)) (e_BadPoint : mg "BadPoint" = some (.ref aBadPoint)) (e_NoWalker : mg "NoWalker" = some (.ref aNoWalker)) (e_NeverKnown : mg "NeverKnown" = some (.ref aNeverKnown)) (e_RoadError : mg "RoadError" = some (.ref aRoadError)) :
    WordC P w K mg base [aBadWalkers, aBadChain, aBadDeed, aHalted, aBadText, aBadPlace, aBadTime, aBadPoint, aNoWalker, aNeverKnown] aRoadError := by
  refine ⟨s_law_word, g, fd, _, F, hm, F.kp, hb, sc_law_word, rfl, .inl rfl, fun X q cdv e1 e2 e3 e4 e5 hrX => ?_⟩
  subst e1 e2 e3 e4 e5
  have hu : ∀ env h, ((X.A.deeper env).mark h).units + 64 < cLine := fun env h => by show X.A.units + 3 + 64 < _; have := hrX.un; omega
  refine word_gives (i := 1) (N0 := 4) rfl e_RoadError (fun f => rfl) sc_law_word.nd rfl rfl rfl fun a d idx => ⟨_, fun A s H D oe pn hA W hz hf => (xss_cons (xs_set (i := 2) sc_law_word.nd rfl (Or.inl rfl) (xe_lst (xa_cons (xe_cb (xc_is2 (X := wCx X A s H g cdv) W hz hf) (by rfl) T.m_isinstance boot_isinstance (xa_cons (xe_var 1) (xa_cons (xe_cls (by rfl) e_BadWalkers) xa_nil))) (xa_cons (xe_cb (xc_is2 (X := wCx X A s H g cdv) W hz hf) (by rfl) T.m_isinstance boot_isinstance (xa_cons (xe_var 1) (xa_cons (xe_cls (by rfl) e_BadChain) xa_nil))) (xa_cons (xe_cb (xc_is2 (X := wCx X A s H g cdv) W hz hf) (by rfl) T.m_isinstance boot_isinstance (xa_cons (xe_var 1) (xa_cons (xe_cls (by rfl) e_BadDeed) xa_nil))) (xa_cons (xe_cb (xc_is2 (X := wCx X A s H g cdv) W hz hf) (by rfl) T.m_isinstance boot_isinstance (xa_cons (xe_var 1) (xa_cons (xe_cls (by rfl) e_Halted) xa_nil))) xa_nil))))))
      (xss_cons (xs_set (i := 2) sc_law_word.nd rfl (Or.inl rfl) (xe_op xo_cat (xe_var 2) (xe_lst (xa_cons (xe_cb (xc_is2 (X := wCx X A s H g cdv) W hz hf) (by rfl) T.m_isinstance boot_isinstance (xa_cons (xe_var 1) (xa_cons (xe_cls (by rfl) e_BadText) xa_nil))) (xa_cons (xe_cb (xc_is2 (X := wCx X A s H g cdv) W hz hf) (by rfl) T.m_isinstance boot_isinstance (xa_cons (xe_var 1) (xa_cons (xe_cls (by rfl) e_BadPlace) xa_nil))) (xa_cons (xe_cb (xc_is2 (X := wCx X A s H g cdv) W hz hf) (by rfl) T.m_isinstance boot_isinstance (xa_cons (xe_var 1) (xa_cons (xe_cls (by rfl) e_BadTime) xa_nil))) xa_nil))))))
      (xss_cons (xs_set (i := 2) sc_law_word.nd rfl (Or.inl rfl) (xe_op xo_cat (xe_var 2) (xe_lst (xa_cons (xe_cb (xc_is2 (X := wCx X A s H g cdv) W hz hf) (by rfl) T.m_isinstance boot_isinstance (xa_cons (xe_var 1) (xa_cons (xe_cls (by rfl) e_BadPoint) xa_nil))) (xa_cons (xe_cb (xc_is2 (X := wCx X A s H g cdv) W hz hf) (by rfl) T.m_isinstance boot_isinstance (xa_cons (xe_var 1) (xa_cons (xe_cls (by rfl) e_NoWalker) xa_nil))) (xa_cons (xe_cb (xc_is2 (X := wCx X A s H g cdv) W hz hf) (by rfl) T.m_isinstance boot_isinstance (xa_cons (xe_var 1) (xa_cons (xe_cls (by rfl) e_NeverKnown) xa_nil))) xa_nil))))))
      (xss_cons (xs_if (PW.pt (xw_or (xt_cmp (xo_ne (by rw [hA]; exact hu _ _)) (xe_cnt (xe_var 2) xe_bl) xe_int (nomark _)) (xw_or1 (xt_not (xt_val (xe_cb (xc_is2 (X := wCx X A s H g cdv) W hz hf) (by rfl) T.m_isinstance boot_isinstance (xa_cons (xe_var 1) (xa_cons (xe_bty (by rfl) T.m_ValueError boot_ValueError) xa_nil)))))))) (xss_one (xs_ret (xe_tup (xa_cons xe_str xa_nil)))) xss_nil)
      (xss_cons (xs_set (i := 3) sc_law_word.nd rfl (Or.inl rfl) (xe_idx (xe_var 2) xe_bl))
      (xss_cons (xs_if (xt_cmp xo_lt (xe_var 3) xe_int (nomark _)) (xss_one (xs_ret (xe_tup (xa_cons (xe_gc (xe_ix (xe_lst (xa_cons xe_str (xa_cons xe_str (xa_cons xe_str xa_nil)))) (xe_var 3))) (xa_cons (xe_xf (X := wCx X A s H g cdv) W hz hf (by decide) (xe_var 1)) xa_nil))))) xss_nil)
      (xss_cons (xs_if (xt_cmp xo_lt (xe_var 3) xe_int (nomark _)) (xss_one (xs_ret (xe_ifExp (xt_cmp (xo_eq (by rw [hA]; exact hu _ _)) (xe_var 3) xe_int (nomark _)) (xe_tup (xa_cons xe_str (xa_cons (xe_xf (X := wCx X A s H g cdv) W hz hf (by decide) (xe_var 1)) (xa_cons (xe_xf (X := wCx X A s H g cdv) W hz hf (by decide) (xe_var 1)) xa_nil)))) (xe_tup (xa_cons xe_str (xa_cons (xe_xf (X := wCx X A s H g cdv) W hz hf (by decide) (xe_var 1)) xa_nil)))))) xss_nil)
      (xss_one (xs_ret (xe_tup (xa_cons (xe_gc (xe_ix (xe_lst (xa_cons xe_str (xa_cons xe_str (xa_cons xe_str (xa_cons xe_str (xa_cons xe_str xa_nil)))))) (xe_op xo_sub (xe_var 3) xe_int))) xa_nil))))))))))), fun fs dv m Q' hw hq => ?_⟩
  have hk : idx < 10 := by
    by_cases h : idx < 10
    · exact h
    · obtain ⟨n, rfl⟩ : ∃ n, idx = n + 10 := ⟨idx - 10, by omega⟩
      cases hw
  show xSeq _ _ _ [none, some (.exc a d fs), none, none] m
  refine hide fun K1 hK1 => ?_
  walk_at "rd"
  refine is2_at (i := 0) rfl (is2_at (i := 1) rfl (is2_at (i := 2) rfl (is2_at (i := 3) rfl ⟨le_szW (by decide), fun p hp => ?_⟩)))
  rw [hK1]
  clear hK1
  refine hide fun K1 hK1 => ?_
  walk_at "rd"
  refine is2_at (i := 4) rfl (is2_at (i := 5) rfl (is2_at (i := 6) rfl ?_))
  refine ⟨le_szW (by decide), fun p1 hp1 => ?_⟩
  have n1 : p ≠ p1 := neW updM_same hp1
  rw [asL_ref (by rw [updM_ne n1]; exact updM_same), asL_ref updM_same]
  refine ⟨le_szW (by simp), fun p2 hp2 => ?_⟩
  rw [hK1]
  clear hK1
  refine hide fun K1 hK1 => ?_
  walk_at "rd"
  have sb2 : Sub m (updM (updM (updM m p (.lst [.bl (decide (0 = idx)), .bl (decide (1 = idx)), .bl (decide (2 = idx)), .bl (decide (3 = idx))])) p1 (.lst [.bl (decide (4 = idx)), .bl (decide (5 = idx)), .bl (decide (6 = idx))])) p2 (.lst ([.bl (decide (0 = idx)), .bl (decide (1 = idx)), .bl (decide (2 = idx)), .bl (decide (3 = idx))] ++ [.bl (decide (4 = idx)), .bl (decide (5 = idx)), .bl (decide (6 = idx))]))) := ((Sub.refl.upd hp).trans (Sub.refl.upd hp1)).trans (Sub.refl.upd hp2)
  have e2 : updM (updM (updM m p (.lst [.bl (decide (0 = idx)), .bl (decide (1 = idx)), .bl (decide (2 = idx)), .bl (decide (3 = idx))])) p1 (.lst [.bl (decide (4 = idx)), .bl (decide (5 = idx)), .bl (decide (6 = idx))])) p2 (.lst ([.bl (decide (0 = idx)), .bl (decide (1 = idx)), .bl (decide (2 = idx)), .bl (decide (3 = idx))] ++ [.bl (decide (4 = idx)), .bl (decide (5 = idx)), .bl (decide (6 = idx))])) p2 = _ := updM_same
  generalize updM (updM (updM m p (.lst [.bl (decide (0 = idx)), .bl (decide (1 = idx)), .bl (decide (2 = idx)), .bl (decide (3 = idx))])) p1 (.lst [.bl (decide (4 = idx)), .bl (decide (5 = idx)), .bl (decide (6 = idx))])) p2 (.lst ([.bl (decide (0 = idx)), .bl (decide (1 = idx)), .bl (decide (2 = idx)), .bl (decide (3 = idx))] ++ [.bl (decide (4 = idx)), .bl (decide (5 = idx)), .bl (decide (6 = idx))])) = m2 at sb2 e2 ⊢
  refine is2_at (i := 7) rfl (is2_at (i := 8) rfl (is2_at (i := 9) rfl ⟨le_szW (by decide), fun p3 hp3 => ?_⟩))
  have n3 : p2 ≠ p3 := neW e2 hp3
  rw [asL_ref (by rw [updM_ne n3]; exact e2), asL_ref updM_same]
  refine ⟨le_szW (by simp), fun p4 hp4 => ?_⟩
  have sb4 : Sub m (updM (updM m2 p3 (.lst [.bl (decide (7 = idx)), .bl (decide (8 = idx)), .bl (decide (9 = idx))])) p4 (.lst ([.bl (decide (0 = idx)), .bl (decide (1 = idx)), .bl (decide (2 = idx)), .bl (decide (3 = idx))] ++ [.bl (decide (4 = idx)), .bl (decide (5 = idx)), .bl (decide (6 = idx))] ++ [.bl (decide (7 = idx)), .bl (decide (8 = idx)), .bl (decide (9 = idx))]))) := (sb2.trans (Sub.refl.upd hp3)).trans (Sub.refl.upd hp4)
  have e4 : updM (updM m2 p3 (.lst [.bl (decide (7 = idx)), .bl (decide (8 = idx)), .bl (decide (9 = idx))])) p4 (.lst ([.bl (decide (0 = idx)), .bl (decide (1 = idx)), .bl (decide (2 = idx)), .bl (decide (3 = idx))] ++ [.bl (decide (4 = idx)), .bl (decide (5 = idx)), .bl (decide (6 = idx))] ++ [.bl (decide (7 = idx)), .bl (decide (8 = idx)), .bl (decide (9 = idx))])) p4 = some (.lst ([decide (0 = idx), decide (1 = idx), decide (2 = idx), decide (3 = idx), decide (4 = idx), decide (5 = idx), decide (6 = idx), decide (7 = idx), decide (8 = idx), decide (9 = idx)].map D.bl)) := updM_same
  generalize updM (updM m2 p3 (.lst [.bl (decide (7 = idx)), .bl (decide (8 = idx)), .bl (decide (9 = idx))])) p4 (.lst ([.bl (decide (0 = idx)), .bl (decide (1 = idx)), .bl (decide (2 = idx)), .bl (decide (3 = idx))] ++ [.bl (decide (4 = idx)), .bl (decide (5 = idx)), .bl (decide (6 = idx))] ++ [.bl (decide (7 = idx)), .bl (decide (8 = idx)), .bl (decide (9 = idx))])) = m4 at sb4 e4 ⊢
  rw [hK1]
  clear hK1
  refine hide fun K1 hK1 => ?_
  walk_at "rd"
  have el : lstD m4 (.ref p4) = some ([decide (0 = idx), decide (1 = idx), decide (2 = idx), decide (3 = idx), decide (4 = idx), decide (5 = idx), decide (6 = idx), decide (7 = idx), decide (8 = idx), decide (9 = idx)].map D.bl) := by simp only [lstD, e4]
  refine ⟨_, el, true, rfl, el, ?_⟩
  rw [cnt_w hk]
  refine eq_int ?_
  rw [if_neg (by decide)]
  refine ⟨fs, rfl, .inr ⟨rfl, ?_⟩⟩
  simp only [asB_bl, Bool.not_true, Bool.false_eq_true, if_false]
  rw [hK1]
  clear hK1
  refine hide fun K1 hK1 => ?_
  walk_at "rd"
  refine ⟨_, el, true, idx, rfl, el, ?_, ?_, ?_⟩
  · rcases (by omega : idx = 0 ∨ idx = 1 ∨ idx = 2 ∨ idx = 3 ∨ idx = 4 ∨ idx = 5 ∨ idx = 6 ∨ idx = 7 ∨ idx = 8 ∨ idx = 9) with z | z | z | z | z | z | z | z | z | z <;> subst z <;> rfl
  · intro k c hkl hc ec
    subst ec
    rcases (by omega : k = 0 ∨ k = 1 ∨ k = 2 ∨ k = 3 ∨ k = 4 ∨ k = 5 ∨ k = 6 ∨ k = 7 ∨ k = 8) with z | z | z | z | z | z | z | z | z <;> subst z <;> simp at hc <;> omega
  rw [hK1]
  clear hK1
  clear el e4
  refine hide fun K1 hK1 => ?_
  walk_at "rd"
  have s0 : ∀ p o, m4 p = none → Sub m (updM m4 p o) := fun p o h => sb4.trans (Sub.refl.upd h)
  rcases (by omega : idx = 0 ∨ idx = 1 ∨ idx = 2 ∨ idx = 3 ∨ idx = 4 ∨ idx = 5 ∨ idx = 6 ∨ idx = 7 ∨ idx = 8 ∨ idx = 9) with z | z | z | z | z | z | z | z | z | z <;> subst z
  · obtain ⟨i, hi, rfl⟩ := Option.map_eq_some_iff.mp hw
    rw [if_pos (by decide)]
    refine ⟨le_szW (by decide), fun p5 hp5 => ?_⟩
    rw [seqD_ref updM_same, oat_some]
    exact oat_at (j := 0) rfl ⟨m, s0 p5 _ hp5, fs, i, rfl, hi, le_szW (by decide), m, .refl, hq⟩
  · obtain ⟨i, hi, rfl⟩ := Option.map_eq_some_iff.mp hw
    rw [if_pos (by decide)]
    refine ⟨le_szW (by decide), fun p5 hp5 => ?_⟩
    rw [seqD_ref updM_same, oat_some]
    exact oat_at (j := 1) rfl ⟨m, s0 p5 _ hp5, fs, i, rfl, hi, le_szW (by decide), m, .refl, hq⟩
  · obtain ⟨i, hi, rfl⟩ := Option.map_eq_some_iff.mp hw
    rw [if_pos (by decide)]
    refine ⟨le_szW (by decide), fun p5 hp5 => ?_⟩
    rw [seqD_ref updM_same, oat_some]
    exact oat_at (j := 2) rfl ⟨m, s0 p5 _ hp5, fs, i, rfl, hi, le_szW (by decide), m, .refl, hq⟩
  · obtain ⟨i, hi, hw2⟩ := Option.bind_eq_some_iff.mp hw
    obtain ⟨j, hj, rfl⟩ := Option.map_eq_some_iff.mp hw2
    rw [if_neg (by decide), hK1]
    walk_at "rd"
    rw [if_pos (by decide)]
    refine eq_int ?_
    rw [if_pos (by decide)]
    exact ⟨fs, i, rfl, hi, fs, j, rfl, hj, le_szW (by decide), m, sb4, hq⟩
  · obtain ⟨i, hi, rfl⟩ := Option.map_eq_some_iff.mp hw
    rw [if_neg (by decide), hK1]
    walk_at "rd"
    rw [if_pos (by decide)]
    refine eq_int ?_
    rw [if_neg (by decide)]
    exact ⟨fs, i, rfl, hi, le_szW (by decide), m, sb4, hq⟩
  · cases hw
    rw [if_neg (by decide), hK1]
    walk_at "rd"
    rw [if_neg (by decide)]
    refine ⟨le_szW (by decide), fun p5 hp5 => ?_⟩
    rw [seqD_ref updM_same, oat_some, show ((5 : Nat) : Int) - 5 = ((0 : Nat) : Int) from rfl]
    exact oat_at (j := 0) rfl ⟨m, s0 p5 _ hp5, le_szW (by decide), m, .refl, hq⟩
  · cases hw
    rw [if_neg (by decide), hK1]
    walk_at "rd"
    rw [if_neg (by decide)]
    refine ⟨le_szW (by decide), fun p5 hp5 => ?_⟩
    rw [seqD_ref updM_same, oat_some, show ((6 : Nat) : Int) - 5 = ((1 : Nat) : Int) from rfl]
    exact oat_at (j := 1) rfl ⟨m, s0 p5 _ hp5, le_szW (by decide), m, .refl, hq⟩
  · cases hw
    rw [if_neg (by decide), hK1]
    walk_at "rd"
    rw [if_neg (by decide)]
    refine ⟨le_szW (by decide), fun p5 hp5 => ?_⟩
    rw [seqD_ref updM_same, oat_some, show ((7 : Nat) : Int) - 5 = ((2 : Nat) : Int) from rfl]
    exact oat_at (j := 2) rfl ⟨m, s0 p5 _ hp5, le_szW (by decide), m, .refl, hq⟩
  · cases hw
    rw [if_neg (by decide), hK1]
    walk_at "rd"
    rw [if_neg (by decide)]
    refine ⟨le_szW (by decide), fun p5 hp5 => ?_⟩
    rw [seqD_ref updM_same, oat_some, show ((8 : Nat) : Int) - 5 = ((3 : Nat) : Int) from rfl]
    exact oat_at (j := 3) rfl ⟨m, s0 p5 _ hp5, le_szW (by decide), m, .refl, hq⟩
  · cases hw
    rw [if_neg (by decide), hK1]
    walk_at "rd"
    rw [if_neg (by decide)]
    refine ⟨le_szW (by decide), fun p5 hp5 => ?_⟩
    rw [seqD_ref updM_same, oat_some, show ((9 : Nat) : Int) - 5 = ((4 : Nat) : Int) from rfl]
    exact oat_at (j := 4) rfl ⟨m, s0 p5 _ hp5, le_szW (by decide), m, .refl, hq⟩
end
end Sd

set_option Elab.async false
set_option linter.all false
set_option maxRecDepth 100000
set_option maxHeartbeats 4000000
namespace Sd
open PySem PySem.Spec PyProof.Rows L2
local macro_rules | `(tactic| walk_at "rd") => `(tactic| try simp only [xSeq, xAsg, gNm, xRet, xRetN, xIfS, xNext, xDrop, xFor, iRg1, iRg2, iEnuD, gTp, gCo, gNo, gSet, xVar, xC, xOp, xI, xI0, xNeg, xEq, xNe, xIs, xIsNot, xB, xAndT, xOrT, xNotT, xAnd, xOr, xNot, xIfE, xChain, xIx, xNil, xCons, xTup, xLst, xGc, xCall, xMeth, xMake, xFld, xFldS, xApp, xPar, xPar3, xLc, xYes, xCB, xLen, xAbs, x2I, xInt, xList, xTupOf, xIsi, xIsT, iTp, iLst, iZpX, xCat, xCatT, xSlL, xSlT, xpNone, xpSome, xGcS, xBreak, xCont, xIn, xNotIn, xIntB, asBl_bl, xLstRg1, xLstRg2, xTupH, xDNewT, xDNewK, xDPutK, xDGetK, iEnuL, xEqZ, xNeZ, iRevRg1, xLstRev, iZpY, xSortSet, xSortSetA, xRvs, xFmtI, xJs, xStrI, xIntS, xLenS, xAddS, xSplit, xJoin, xRmPre, xIsDec, asS_str, xWord, xCall2, xSeq2, xIf2, xFor2, xRaise2, xRaiseN, xDrop2, xRet2, xIxS, xSlS, xInS, xNotInS, iTxt, xMulS, xRepL, xApp2, xAsg2, xFld2, iLst2, xFor3, xNotInT, asT_tup, xCnt, xIdx, xCls, xXf, xInF, xDGetF, iKeyF, xDictF, iRg3, xRevSl, iSq, seqD_wsX, immD_wsX, immD_tup, oget_some, asI_int, asB_bl, oat_some, one_one, two_two, tri_tri, asT_tup, seqD_tup, seqD_lck, List.getElem?_cons_zero, List.getElem?_cons_succ, List.set_cons_zero, List.set_cons_succ, List.length_cons, List.length_nil])
local macro_rules | `(tactic| walk_at "lk") => `(tactic| try simp only [lk_end_begin, lk_end_way, lk_end_line, lk_end_driver, lk_end_drives, lk_end_lead, lk_end_is_level, lk_end_take, lk_co_lines, lk_co_left, lk_co_right, lk_co_knows, lk_co_is_begun, lk_co_tell_those_inside, lk_co_entry, lk_co_tell, lk_co_drive, lk_co_next_time, lk_co_is_told, lk_co_ends, lk_co_known, lk_co_bringer, oat_some, true_and])

section
variable {P : Program} {w : World} {K : PySem.W.Frag} {mg : Str → Option Value} {base : Heap} {aEnd aCourse : Addr} {PT cT aBadWalkers aBadChain aBadDeed aHalted aBadText aBadPlace aBadTime aBadPoint aNoWalker aNeverKnown aRoadError : Addr}
abbrev s_lowest : Stmt := topS 34
theorem sc_lowest : FnScope ["top", "bottom", "shared"] ["top", "bottom"] (defScope s_lowest) := ⟨rfl, rfl, rfl, by decide +kernel, rfl, by decide +kernel, by decide +kernel⟩
theorem ok_lowest (T : Tx P w K mg base aEnd aCourse) {f : Addr} {fd : FuncData} (F : Fun K "lowest" "lowest" s_lowest f fd)  : FnX P w K mg base 1 f fd ["top", "bottom"] spLowest := by
  refine fnX F sc_lowest (by intro ds m Q h; exact len_lowest h) ⟨_, fun cdv A outer s H E hr => (xss_cons (xs_set (i := 2) sc_lowest.nd rfl (Or.inl rfl) (xe_cm xc_gcd (by rfl) T.m_gcd (xa_cons (xe_var 0) (xa_cons (xe_var 1) xa_nil))))
      (xss_cons (xs_if (xt_cmp xo_lt (xe_var 1) xe_int (nomark _)) (xss_one (xs_set (i := 2) sc_lowest.nd rfl (Or.inl rfl) (xe_neg (xe_var 2)))) xss_nil)
      (xss_one (xs_ret (xe_tup (xa_cons (xe_op xo_fdiv (xe_var 0) (xe_var 2)) (xa_cons (xe_op xo_fdiv (xe_var 1) (xe_var 2)) xa_nil))))))), fun ds m Q h => ?_⟩

  obtain ⟨x, y, rfl, h1⟩ := two_out h
  obtain ⟨t, rfl, h2⟩ := asI_out h1
  obtain ⟨b, rfl, hb, hs, q⟩ := asI_out h2
  obtain ⟨e1, e2⟩ := gcd_low t b hb
  have hl := log_small (b := gcdS t b) (Nat.lt_of_le_of_lt (gcdS_le hb) hs)
  have h0 := gcdS_ne (t := t) hb
  show xSeq _ _ _ [some (.int t), some (.int b), none] m
  walk_at "rd"
  unfold gcdS at *
  by_cases hn : b < 0
  · rw [if_pos hn] at *
    rw [if_pos (decide_eq_true hn)]
    exact ⟨⟨h0, hl⟩, ⟨h0, hl⟩, two_sz, m, .refl, by rw [e1, e2]; exact q⟩
  · rw [if_neg hn] at *
    rw [if_neg (by simpa using hn)]
    exact ⟨⟨h0, hl⟩, ⟨h0, hl⟩, two_sz, m, .refl, by rw [e1, e2]; exact q⟩
abbrev s_is_below : Stmt := topS 35
theorem sc_is_below : FnScope ["one", "other"] ["one", "other"] (defScope s_is_below) := ⟨rfl, rfl, rfl, by decide +kernel, rfl, by decide +kernel, by decide +kernel⟩
theorem ok_is_below (T : Tx P w K mg base aEnd aCourse) {f : Addr} {fd : FuncData} (F : Fun K "is_below" "is_below" s_is_below f fd)  : FnX P w K mg base 1 f fd ["one", "other"] spBelow := by
  refine fnX F sc_is_below (by intro ds m Q h; exact len_is_below h) ⟨_, fun cdv A outer s H E hr => (xss_one (xs_ret (xe_cmp xo_lt (xe_op xo_mul (xe_ix (xe_var 0) xe_int) (xe_ix (xe_var 1) xe_int)) (xe_op xo_mul (xe_ix (xe_var 1) xe_int) (xe_ix (xe_var 0) xe_int)) (nomark _)))), fun ds m Q h => ?_⟩

  obtain ⟨n1, d1, n2, d2, rfl, h1, h2, q⟩ := h
  show xRet _ _ [some _, some _] m
  simp only [pairD]
  walk_at "rd"
  simp only [atI_0, atI_1]
  walk_at "rd"
  exact ⟨cmul_r h2, cmul_r h1, m, .refl, q⟩
abbrev s_least : Stmt := topS 36
theorem sc_least : FnScope ["fractions", "best", "fraction"] ["fractions"] (defScope s_least) := ⟨rfl, rfl, rfl, by decide +kernel, rfl, by decide +kernel, by decide +kernel⟩
theorem ok_least (T : Tx P w K mg base aEnd aCourse) {f : Addr} {fd : FuncData} (F : Fun K "least" "least" s_least f fd) (c_is_below : Dc P w K mg base 1 "is_below" ["one", "other"] spBelow) : FnX P w K mg base 2 f fd ["fractions"] spLeast := by
  refine fnX F sc_least (by intro ds m Q h; exact len_least h) ⟨_, fun cdv A outer s H E hr => (xss_cons (xs_set (i := 1) sc_least.nd rfl (Or.inl rfl) xe_non)
      (xss_cons (xs_for (vs := [2]) PassesOwn.never rfl (xi_list (xe_var 0)) (xg_name (i := 2) sc_least.nd rfl (Or.inl rfl) (by decide)) (xss_one (xs_if (PW.pt (xw_or (xt_cmp xo_is (xe_var 1) xe_non (nomark _)) (xw_or1 (xt_val (xe_callD c_is_below (hr.mono (by decide)) (by rfl) (xa_cons (xe_var 2) (xa_cons (xe_var 1) xa_nil))))))) (xss_one (xs_set (i := 1) sc_least.nd rfl (Or.inl rfl) (xe_var 2))) xss_nil)))
      (xss_one (xs_ret (xe_var 1))))), fun ds m Q h => ?_⟩

  obtain ⟨a, rs, rfl, ha, hd, q⟩ := h
  show xSeq _ _ _ [some (.ref a), none, none] m
  walk_at "rd"
  rw [asL_ref ha]
  rw [← minF_none] at q
  refine xLoop_ind (fun ds e m' => ∃ b rest x, ds = rest.map frD ∧ e = [some (.ref a), some (minD b), x] ∧ m' = m ∧ (∀ r ∈ rest, Sml r.den) ∧ (∀ r, b = some r → Sml r.den) ∧ minF b rest = minF none rs) ?_ ?_ _ _ _ ⟨none, rs, none, rfl, rfl, rfl, hd, (fun _ h => nomatch h), rfl⟩
  · intro e m' ⟨b, rest, x, h1, h2, h3, h4, h5, h6⟩
    cases rest with
    | cons r rs => cases h1
    | nil =>
      subst h2 h3
      refine ⟨ha, ?_⟩
      walk_at "rd"
      refine ⟨_, .refl, ?_⟩
      rw [← h6] at q
      exact q
  · intro d ds e m' R ⟨b, rest, x, h1, h2, h3, h4, h5, h6⟩ hR
    cases rest with
    | nil => cases h1
    | cons r rest =>
      cases h1
      subst h2 h3
      refine ⟨ha, ?_⟩
      walk_at "rd"
      cases b with
      | none =>
        refine ⟨trivial, ?_⟩
        simp only [minD, isNon, if_true]
        exact hR _ _ ⟨some r, rest, _, rfl, rfl, rfl, fun s hs => h4 s (List.mem_cons_of_mem _ hs), fun s hs => by cases hs; exact h4 _ List.mem_cons_self, h6⟩
      | some b =>
        refine ⟨trivial, ?_⟩
        simp only [minD, isNon, frD, Bool.false_eq_true, if_false]
        refine ⟨r.num, r.den, b.num, b.den, rfl, h4 r List.mem_cons_self, h5 b rfl, ?_⟩
        walk_at "rd"
        simp only [decide_eq_true_eq, below_iff]
        rw [minF_cs] at h6
        by_cases c : r < b
        · rw [if_pos c] at h6 ⊢
          exact hR _ _ ⟨some r, rest, _, rfl, rfl, rfl, fun s hs => h4 s (List.mem_cons_of_mem _ hs), fun s hs => by cases hs; exact h4 _ List.mem_cons_self, h6⟩
        · rw [if_neg c] at h6 ⊢
          exact hR _ _ ⟨some b, rest, _, rfl, rfl, rfl, fun s hs => h4 s (List.mem_cons_of_mem _ hs), h5, h6⟩
abbrev s_most : Stmt := topS 37
theorem sc_most : FnScope ["fractions", "best", "fraction"] ["fractions"] (defScope s_most) := ⟨rfl, rfl, rfl, by decide +kernel, rfl, by decide +kernel, by decide +kernel⟩
theorem ok_most (T : Tx P w K mg base aEnd aCourse) {f : Addr} {fd : FuncData} (F : Fun K "most" "most" s_most f fd) (c_is_below : Dc P w K mg base 1 "is_below" ["one", "other"] spBelow) : FnX P w K mg base 2 f fd ["fractions"] spMost := by
  refine fnX F sc_most (by intro ds m Q h; exact len_most h) ⟨_, fun cdv A outer s H E hr => (xss_cons (xs_set (i := 1) sc_most.nd rfl (Or.inl rfl) xe_non)
      (xss_cons (xs_for (vs := [2]) PassesOwn.never rfl (xi_list (xe_var 0)) (xg_name (i := 2) sc_most.nd rfl (Or.inl rfl) (by decide)) (xss_one (xs_if (PW.pt (xw_or (xt_cmp xo_is (xe_var 1) xe_non (nomark _)) (xw_or1 (xt_val (xe_callD c_is_below (hr.mono (by decide)) (by rfl) (xa_cons (xe_var 1) (xa_cons (xe_var 2) xa_nil))))))) (xss_one (xs_set (i := 1) sc_most.nd rfl (Or.inl rfl) (xe_var 2))) xss_nil)))
      (xss_one (xs_ret (xe_var 1))))), fun ds m Q h => ?_⟩

  obtain ⟨a, rs, rfl, ha, hd, q⟩ := h
  show xSeq _ _ _ [some (.ref a), none, none] m
  walk_at "rd"
  rw [asL_ref ha]
  rw [← maxF_none] at q
  refine xLoop_ind (fun ds e m' => ∃ b rest x, ds = rest.map frD ∧ e = [some (.ref a), some (minD b), x] ∧ m' = m ∧ (∀ r ∈ rest, Sml r.den) ∧ (∀ r, b = some r → Sml r.den) ∧ maxF b rest = maxF none rs) ?_ ?_ _ _ _ ⟨none, rs, none, rfl, rfl, rfl, hd, (fun _ h => nomatch h), rfl⟩
  · intro e m' ⟨b, rest, x, h1, h2, h3, h4, h5, h6⟩
    cases rest with
    | cons r rs => cases h1
    | nil =>
      subst h2 h3
      refine ⟨ha, ?_⟩
      walk_at "rd"
      refine ⟨_, .refl, ?_⟩
      rw [← h6] at q
      exact q
  · intro d ds e m' R ⟨b, rest, x, h1, h2, h3, h4, h5, h6⟩ hR
    cases rest with
    | nil => cases h1
    | cons r rest =>
      cases h1
      subst h2 h3
      refine ⟨ha, ?_⟩
      walk_at "rd"
      cases b with
      | none =>
        refine ⟨trivial, ?_⟩
        simp only [minD, isNon, if_true]
        exact hR _ _ ⟨some r, rest, _, rfl, rfl, rfl, fun s hs => h4 s (List.mem_cons_of_mem _ hs), fun s hs => by cases hs; exact h4 _ List.mem_cons_self, h6⟩
      | some b =>
        refine ⟨trivial, ?_⟩
        simp only [minD, isNon, frD, Bool.false_eq_true, if_false]
        refine ⟨b.num, b.den, r.num, r.den, rfl, h5 b rfl, h4 r List.mem_cons_self, ?_⟩
        walk_at "rd"
        simp only [decide_eq_true_eq, below_iff]
        rw [maxF_cs] at h6
        by_cases c : b < r
        · rw [if_pos c] at h6 ⊢
          exact hR _ _ ⟨some r, rest, _, rfl, rfl, rfl, fun s hs => h4 s (List.mem_cons_of_mem _ hs), fun s hs => by cases hs; exact h4 _ List.mem_cons_self, h6⟩
        · rw [if_neg c] at h6 ⊢
          exact hR _ _ ⟨some b, rest, _, rfl, rfl, rfl, fun s hs => h4 s (List.mem_cons_of_mem _ hs), h5, h6⟩
abbrev s_point_of : Stmt := topS 39
theorem sc_point_of : FnScope ["line", "time"] ["line", "time"] (defScope s_point_of) := ⟨rfl, rfl, rfl, by decide +kernel, rfl, by decide +kernel, by decide +kernel⟩
theorem ok_point_of (T : Tx P w K mg base aEnd aCourse) {f : Addr} {fd : FuncData} (F : Fun K "point_of" "point_of" s_point_of f fd) (c_lowest : Dc P w K mg base 1 "lowest" ["top", "bottom"] spLowest) : FnX P w K mg base 2 f fd ["line", "time"] spPoint := by
  refine fnX F sc_point_of (by intro ds m Q h; exact len_point_of h) ⟨_, fun cdv A outer s H E hr => (xss_one (xs_ret (xe_callD c_lowest (hr.mono (by decide)) (by rfl) (xa_cons (xe_op xo_add (xe_op xo_mul (xe_ix (xe_var 0) xe_int) (xe_ix (xe_var 1) xe_int)) (xe_op xo_mul (xe_ix (xe_var 0) xe_int) (xe_ix (xe_var 1) xe_int))) (xa_cons (xe_ix (xe_var 1) xe_int) xa_nil))))), fun ds m Q h => ?_⟩

  obtain ⟨a, u, n, d, rfl, h1, h2, h3, h4, q⟩ := h
  show xRet _ _ [some _, some _] m
  simp only [pairD]
  walk_at "rd"
  simp only [atI_0, atI_1]
  walk_at "rd"
  simp only [spLowest]
  walk_at "rd"
  exact ⟨cmul_l h1, cmul_l h2, h3, h4, m, .refl, q⟩
abbrev s_meeting : Stmt := topS 40
theorem sc_meeting : FnScope ["one", "other"] ["one", "other"] (defScope s_meeting) := ⟨rfl, rfl, rfl, by decide +kernel, rfl, by decide +kernel, by decide +kernel⟩
theorem ok_meeting (T : Tx P w K mg base aEnd aCourse) {f : Addr} {fd : FuncData} (F : Fun K "meeting" "meeting" s_meeting f fd) (c_lowest : Dc P w K mg base 1 "lowest" ["top", "bottom"] spLowest) : FnX P w K mg base 2 f fd ["one", "other"] spMeeting := by
  refine fnX F sc_meeting (by intro ds m Q h; exact len_meeting h) ⟨_, fun cdv A outer s H E hr => (xss_one (xs_ret (xe_callD c_lowest (hr.mono (by decide)) (by rfl) (xa_cons (xe_op xo_sub (xe_ix (xe_var 1) xe_int) (xe_ix (xe_var 0) xe_int)) (xa_cons (xe_op xo_sub (xe_ix (xe_var 0) xe_int) (xe_ix (xe_var 1) xe_int)) xa_nil))))), fun ds m Q h => ?_⟩

  obtain ⟨w, l, rfl, h1, h2, q⟩ := h
  show xRet _ _ [some _, some _] m
  simp only [wkD]
  walk_at "rd"
  simp only [atI_0, atI_1]
  walk_at "rd"
  simp only [spLowest]
  walk_at "rd"
  exact ⟨by omega, h2, m, .refl, q⟩
abbrev s_End_lead : Stmt := inClass (topS 41) 1
theorem sc_End_lead : FnScope ["self", "walker"] ["self", "walker"] (defScope s_End_lead) := ⟨rfl, rfl, rfl, by decide +kernel, rfl, by decide +kernel, by decide +kernel⟩
theorem ok_End_lead (T : Tx P w K mg base aEnd aCourse) {f : Addr} {fd : FuncData} (F : Fun K "lead" "End.lead" s_End_lead f fd)  : FnX P w K mg base 1 f fd ["self", "walker"] (spLead aEnd) := by
  refine fnX F sc_End_lead (by intro ds m Q h; exact len_End_lead h) ⟨_, fun cdv A outer s H E hr => (xss_one (xs_ret (xe_op xo_mul (xe_fld (xe_var 0) T.cl_End T.na_End_way) (xe_op xo_sub (xe_ix (xe_fld (xe_var 0) T.cl_End T.na_End_line) xe_int) (xe_ix (xe_var 1) xe_int))))), fun ds m Q h => ?_⟩

  obtain ⟨e, dl, E, w, rfl, ⟨he, hw, hl⟩, q⟩ := h
  show xRet _ _ [some (.ref e), some (wkD w)] m
  walk_at "rd"
  rw [asIns_ref he]
  walk_at "lk"
  walk_at "rd"
  rw [asIns_ref he]
  walk_at "lk"
  simp only [wkD]
  walk_at "rd"
  simp only [atI_1]
  walk_at "rd"
  exact ⟨cmul_l (by rcases hw with z | z <;> rw [z] <;> decide), m, .refl, q⟩
abbrev s_End_is_level : Stmt := inClass (topS 41) 2
theorem sc_End_is_level : FnScope ["self", "walker", "time"] ["self", "walker", "time"] (defScope s_End_is_level) := ⟨rfl, rfl, rfl, by decide +kernel, rfl, by decide +kernel, by decide +kernel⟩
theorem ok_End_is_level (T : Tx P w K mg base aEnd aCourse) {f : Addr} {fd : FuncData} (F : Fun K "is_level" "End.is_level" s_End_is_level f fd) (c_point_of : Dc P w K mg base 2 "point_of" ["line", "time"] spPoint) : FnX P w K mg base 3 f fd ["self", "walker", "time"] (spIsLevel aEnd) := by
  refine fnX F sc_End_is_level (by intro ds m Q h; exact len_End_is_level h) ⟨_, fun cdv A outer s H E hr => (xss_one (xs_ret (xe_cmp (xo_eq hr.units) (xe_callD c_point_of (hr.mono (by decide)) (by rfl) (xa_cons (xe_var 1) (xa_cons (xe_var 2) xa_nil))) (xe_callD c_point_of (hr.mono (by decide)) (by rfl) (xa_cons (xe_fld (xe_var 0) T.cl_End T.na_End_line) (xa_cons (xe_var 2) xa_nil))) (nomark _)))), fun ds m Q h => ?_⟩

  obtain ⟨e, dl, E, w, t, rfl, ⟨he, hw, hl⟩, ow, ht, q⟩ := h
  show xRet _ _ [some (.ref e), some (wkD w), some (frD t)] m
  walk_at "rd"
  refine ⟨w.1, w.2, t.num, t.den, rfl, ow.s1, ow.s2, den_ne t, ht, ?_⟩
  dsimp only
  rw [asIns_ref he]
  walk_at "lk"
  refine ⟨E.line.1, E.line.2, t.num, t.den, rfl, hl.s1, hl.s2, den_ne t, ht, ?_⟩
  dsimp only
  rw [point_eq w t, point_eq E.line t]
  exact eq_fr ⟨m, .refl, q⟩
abbrev s_End_take : Stmt := inClass (topS 41) 3
theorem sc_End_take : FnScope ["self", "time", "number", "walker"] ["self", "time", "number", "walker"] (defScope s_End_take) := ⟨rfl, rfl, rfl, by decide +kernel, rfl, by decide +kernel, by decide +kernel⟩
theorem ok_End_take (T : Tx P w K mg base aEnd aCourse) {f : Addr} {fd : FuncData} (F : Fun K "take" "End.take" s_End_take f fd)  : FnX P w K mg base 1 f fd ["self", "time", "number", "walker"] (spTake aEnd) := by
  refine fnX F sc_End_take (by intro ds m Q h; exact len_End_take h) ⟨_, fun cdv A outer s H E hr => (xss_cons (xs_fld (xe_var 0) (xe_var 3) T.cl_End T.na_End_line)
      (xss_cons (xs_fld (xe_var 0) (xe_var 2) T.cl_End T.na_End_driver)
      (xss_one (xs_expr (xe_append (xe_fld (xe_var 0) T.cl_End T.na_End_drives) (xe_tup (xa_cons (xe_var 1) (xa_cons (xe_var 2) xa_nil)))))))), fun ds m Q h => ?_⟩

  obtain ⟨e, dl, E, t, k, w, rfl, he, hd, hl, q⟩ := h
  have ne : dl ≠ e := by intro z; subst z; rw [he] at hd; cases hd
  show xSeq _ _ _ [some (.ref e), some (frD t), some (.int k), some (wkD w)] m
  walk_at "rd"
  rw [asIns_ref he, pd_end_line]
  refine ⟨(by show 5 < 1000; decide), ?_⟩
  rw [asIns_ref updM_same, pd_end_driver]
  refine ⟨(by show 5 < 1000; decide), ?_⟩
  rw [asIns_ref updM_same]
  simp only [updM_updM]
  walk_at "lk"
  have h1 : updM m e (.ins aEnd (endF (E.take t k w) dl)) dl = some (.lst (drvsD E.drives)) := by rw [updM_ne ne]; exact hd
  show asL (updM m e (.ins aEnd (endF (E.take t k w) dl))) _ _
  rw [asL_ref h1]
  refine ⟨two_sz, ?_⟩
  show asL (updM m e (.ins aEnd (endF (E.take t k w) dl))) _ _
  rw [asL_ref h1]
  refine ⟨by unfold drvsD; rw [List.length_map]; exact lt_sz (by omega), _, .refl, ?_⟩
  simp only [EndS.take, drvsD, List.map_append, List.map_cons, List.map_nil] at q ⊢
  exact q
theorem ki_NoneType_int : kitB "NoneType" "int" = some false := by decide +kernel
theorem ki_NoneType_bool : kitB "NoneType" "bool" = some false := by decide +kernel
theorem ki_NoneType_tuple : kitB "NoneType" "tuple" = some false := by decide +kernel
theorem ki_NoneType_list : kitB "NoneType" "list" = some false := by decide +kernel
theorem ki_bool_int : kitB "bool" "int" = some true := by decide +kernel
theorem ki_bool_bool : kitB "bool" "bool" = some true := by decide +kernel
theorem ki_bool_tuple : kitB "bool" "tuple" = some false := by decide +kernel
theorem ki_bool_list : kitB "bool" "list" = some false := by decide +kernel
theorem ki_int_int : kitB "int" "int" = some true := by decide +kernel
theorem ki_int_bool : kitB "int" "bool" = some false := by decide +kernel
theorem ki_int_tuple : kitB "int" "tuple" = some false := by decide +kernel
theorem ki_int_list : kitB "int" "list" = some false := by decide +kernel
theorem ki_str_int : kitB "str" "int" = some false := by decide +kernel
theorem ki_str_bool : kitB "str" "bool" = some false := by decide +kernel
theorem ki_str_tuple : kitB "str" "tuple" = some false := by decide +kernel
theorem ki_str_list : kitB "str" "list" = some false := by decide +kernel
theorem ki_tuple_int : kitB "tuple" "int" = some false := by decide +kernel
theorem ki_tuple_bool : kitB "tuple" "bool" = some false := by decide +kernel
theorem ki_tuple_tuple : kitB "tuple" "tuple" = some true := by decide +kernel
theorem ki_tuple_list : kitB "tuple" "list" = some false := by decide +kernel
theorem ki_list_int : kitB "list" "int" = some false := by decide +kernel
theorem ki_list_bool : kitB "list" "bool" = some false := by decide +kernel
theorem ki_list_tuple : kitB "list" "tuple" = some false := by decide +kernel
theorem ki_list_list : kitB "list" "list" = some true := by decide +kernel
/-- what may be handed in: None, truth values, numbers, texts, tuples, known lists -/
def PlD (m : M) : D → Prop
  | .ref a => ∃ es, m a = some (.lst es)
  | .lck _ => False
  | .tph _ => False
  | .exc _ _ _ => False
  | .ty _ => False
  | _ => True
def isIntD : D → Bool
  | .int _ => true
  | _ => false
def isBlD : D → Bool
  | .bl _ => true
  | _ => false
def isTupD : D → Bool
  | .tup _ => true
  | _ => false
def isLstD : D → Bool
  | .ref _ => true
  | _ => false
theorem ty_pl {m : M} {d : D} (h : PlD m d) : ∃ s, tyD m d = some s ∧ kitB s "int" = some (isIntD d || isBlD d) ∧ kitB s "bool" = some (isBlD d) ∧ kitB s "tuple" = some (isTupD d) ∧ kitB s "list" = some (isLstD d) := by
  cases d with
  | non => exact ⟨_, rfl, ki_NoneType_int, ki_NoneType_bool, ki_NoneType_tuple, ki_NoneType_list⟩
  | bl b => exact ⟨_, rfl, ki_bool_int, ki_bool_bool, ki_bool_tuple, ki_bool_list⟩
  | int i => exact ⟨_, rfl, ki_int_int, ki_int_bool, ki_int_tuple, ki_int_list⟩
  | str x => exact ⟨_, rfl, ki_str_int, ki_str_bool, ki_str_tuple, ki_str_list⟩
  | tup xs => exact ⟨_, rfl, ki_tuple_int, ki_tuple_bool, ki_tuple_tuple, ki_tuple_list⟩
  | ref a =>
    obtain ⟨es, he⟩ := h
    exact ⟨"list", by simp [tyD, he], ki_list_int, ki_list_bool, ki_list_tuple, ki_list_list⟩
  | ty n => exact h.elim
  | lck xs => exact h.elim
  | tph xs => exact h.elim
  | exc a d fs => exact h.elim
def whD (d : D) (lo hi : Int) : Bool := match d with
  | .int i => decide (lo ≤ i ∧ i ≤ hi)
  | _ => false
def prD : D → Bool
  | .tup xs => decide (xs.length = 2)
  | _ => false
def wkB (d : D) : Bool := match d with
  | .tup [x, y] => whD x (-99) 99 && whD y (-9) 9
  | _ => false
def frB (d : D) (lo : Int) : Bool := match d with
  | .tup [x, y] => whD x lo 99999 && whD y 1 999
  | _ => false
def PlA (m : M) (d : D) : Prop := PlD m d ∧ ∀ xs, d = .tup xs → ∀ x ∈ xs, PlD m x
def PlB (m : M) (d : D) : Prop := PlD m d ∧ ∀ xs, d = .tup xs → ∀ x ∈ xs, PlA m x
theorem whD_int {d : D} {lo hi : Int} (h : whD d lo hi = true) : ∃ i, d = .int i ∧ lo ≤ i ∧ i ≤ hi := by
  unfold whD at h
  split at h
  · exact ⟨_, rfl, of_decide_eq_true h⟩
  · cases h
theorem frB_out {d : D} {lo : Int} (h : frB d lo = true) : ∃ a b, d = pairD a b ∧ (lo ≤ a ∧ a ≤ 99999) ∧ (1 ≤ b ∧ b ≤ 999) := by
  unfold frB at h
  split at h
  · rw [Bool.and_eq_true] at h
    obtain ⟨i, rfl, hi⟩ := whD_int h.1
    obtain ⟨j, rfl, hj⟩ := whD_int h.2
    exact ⟨i, j, rfl, hi, hj⟩
  · cases h
theorem two_tup {xs : List D} (h : xs.length = 2) : ∃ x y, xs = [x, y] := by
  match xs, h with
  | [x, y], _ => exact ⟨x, y, rfl⟩
theorem not_two {xs : List D} (h : xs.length ≠ 2) : wkB (.tup xs) = false ∧ ∀ lo, frB (.tup xs) lo = false := by
  match xs, h with
  | [], _ => exact ⟨rfl, fun _ => rfl⟩
  | [_], _ => exact ⟨rfl, fun _ => rfl⟩
  | [_, _], h => exact absurd rfl h
  | _ :: _ :: _ :: _, _ => exact ⟨rfl, fun _ => rfl⟩
def gNumb : XSp := fun ds m Q => ∃ d, ds = [d] ∧ PlD m d ∧ Q (.bl (isIntD d)) m
def gWhole : XSp := fun ds m Q => ∃ d lo hi, ds = [d, .int lo, .int hi] ∧ PlD m d ∧ Q (.bl (whD d lo hi)) m
def gPair : XSp := fun ds m Q => ∃ d, ds = [d] ∧ PlD m d ∧ Q (.bl (prD d)) m
def gPlace : XSp := fun ds m Q => ∃ d, ds = [d] ∧ PlD m d ∧ Q (.bl (whD d (-99) 99)) m
def gPace : XSp := fun ds m Q => ∃ d, ds = [d] ∧ PlD m d ∧ Q (.bl (whD d (-9) 9)) m
def gWalker : XSp := fun ds m Q => ∃ d, ds = [d] ∧ PlA m d ∧ Q (.bl (wkB d)) m
def gFrac : XSp := fun ds m Q => ∃ d lo, ds = [d, .int lo] ∧ PlA m d ∧ Q (.bl (frB d lo)) m
def gTime : XSp := fun ds m Q => ∃ d, ds = [d] ∧ PlA m d ∧ Q (.bl (frB d 0)) m
def gNumOf : XSp := fun ds m Q => ∃ d ws, ds = [d, wsD ws] ∧ PlD m d ∧ Q (.bl (whD d 0 ((ws.length : Int) - 1))) m
theorem len_is_number {ds m Q} (h : gNumb ds m Q) : ds.length = 1 := by obtain ⟨_, rfl, _⟩ := h; rfl
theorem len_is_whole {ds m Q} (h : gWhole ds m Q) : ds.length = 3 := by obtain ⟨_, _, _, rfl, _⟩ := h; rfl
theorem len_is_pair {ds m Q} (h : gPair ds m Q) : ds.length = 1 := by obtain ⟨_, rfl, _⟩ := h; rfl
theorem len_is_place {ds m Q} (h : gPlace ds m Q) : ds.length = 1 := by obtain ⟨_, rfl, _⟩ := h; rfl
theorem len_is_pace {ds m Q} (h : gPace ds m Q) : ds.length = 1 := by obtain ⟨_, rfl, _⟩ := h; rfl
theorem len_is_walker {ds m Q} (h : gWalker ds m Q) : ds.length = 1 := by obtain ⟨_, rfl, _⟩ := h; rfl
theorem len_is_fraction {ds m Q} (h : gFrac ds m Q) : ds.length = 2 := by obtain ⟨_, _, rfl, _⟩ := h; rfl
theorem len_is_time {ds m Q} (h : gTime ds m Q) : ds.length = 1 := by obtain ⟨_, rfl, _⟩ := h; rfl
theorem len_is_number_of {ds m Q} (h : gNumOf ds m Q) : ds.length = 2 := by obtain ⟨_, _, rfl, _⟩ := h; rfl

abbrev s_is_number : Stmt := topS 18
theorem sc_is_number : FnScope ["told"] ["told"] (defScope s_is_number) := ⟨rfl, rfl, rfl, by decide +kernel, rfl, by decide +kernel, by decide +kernel⟩
theorem ok_is_number (T : Tx P w K mg base aEnd aCourse) {f : Addr} {fd : FuncData} (F : Fun K "is_number" "is_number" s_is_number f fd)  : FnX P w K mg base 1 f fd ["told"] gNumb := by
  refine fnX F sc_is_number (by intro ds m Q h; exact len_is_number h) ⟨_, fun cdv A outer s H E hr => (xss_one (xs_ret (xe_and (xe_cb xc_isi (by rfl) T.m_isinstance boot_isinstance (xa_cons (xe_var 0) (xa_cons (xe_bty (by rfl) T.m_int boot_int) xa_nil))) (xe_one (xe_not (xe_cb xc_isi (by rfl) T.m_isinstance boot_isinstance (xa_cons (xe_var 0) (xa_cons (xe_bty (by rfl) T.m_bool boot_bool) xa_nil)))))))), fun ds m Q h => ?_⟩

  obtain ⟨d, rfl, pl, q⟩ := h
  show xRet _ _ [some d] m
  walk_at "rd"
  obtain ⟨s, e1, e2, e3, _⟩ := ty_pl pl
  simp only [e1, oat_some, e2, e3, asB_bl]
  cases d <;> exact ⟨m, .refl, q⟩
abbrev s_is_whole : Stmt := topS 19
theorem sc_is_whole : FnScope ["told", "low", "high"] ["told", "low", "high"] (defScope s_is_whole) := ⟨rfl, rfl, rfl, by decide +kernel, rfl, by decide +kernel, by decide +kernel⟩
theorem ok_is_whole (T : Tx P w K mg base aEnd aCourse) {f : Addr} {fd : FuncData} (F : Fun K "is_whole" "is_whole" s_is_whole f fd) (c_is_number : Dc P w K mg base 1 "is_number" ["told"] gNumb) : FnX P w K mg base 2 f fd ["told", "low", "high"] gWhole := by
  refine fnX F sc_is_whole (by intro ds m Q h; exact len_is_whole h) ⟨_, fun cdv A outer s H E hr => (xss_one (xs_ret (xe_and (xe_callD c_is_number (hr.mono (by decide)) (by rfl) (xa_cons (xe_var 0) xa_nil)) (xe_one (xe_chain xo_le xo_le (xe_var 1) (xe_var 0) (xe_var 2)))))), fun ds m Q h => ?_⟩

  obtain ⟨d, lo, hi, rfl, pl, q⟩ := h
  show xRet _ _ [some d, some (.int lo), some (.int hi)] m
  walk_at "rd"
  refine ⟨d, rfl, pl, ?_⟩
  simp only [asB_bl]
  cases d with
  | int i =>
    simp only [isIntD, if_true]
    by_cases h1 : lo ≤ i
    · walk_at "rd"
      rw [if_pos (decide_eq_true h1)]
      refine ⟨m, .refl, ?_⟩
      have : decide (lo ≤ i ∧ i ≤ hi) = decide (i ≤ hi) := by simp [h1]
      rw [← this]; exact q
    · walk_at "rd"
      rw [if_neg (by simpa using h1)]
      refine ⟨m, .refl, ?_⟩
      have : decide (lo ≤ i ∧ i ≤ hi) = false := by simp [h1]
      rw [← this]; exact q
  | _ => simp only [isIntD, Bool.false_eq_true, if_false]; exact ⟨m, .refl, q⟩
abbrev s_is_pair : Stmt := topS 20
theorem sc_is_pair : FnScope ["told"] ["told"] (defScope s_is_pair) := ⟨rfl, rfl, rfl, by decide +kernel, rfl, by decide +kernel, by decide +kernel⟩
theorem ok_is_pair (T : Tx P w K mg base aEnd aCourse) {f : Addr} {fd : FuncData} (F : Fun K "is_pair" "is_pair" s_is_pair f fd)  : FnX P w K mg base 1 f fd ["told"] gPair := by
  refine fnX F sc_is_pair (by intro ds m Q h; exact len_is_pair h) ⟨_, fun cdv A outer s H E hr => (xss_one (xs_ret (xe_and (xe_cb xc_isi (by rfl) T.m_isinstance boot_isinstance (xa_cons (xe_var 0) (xa_cons (xe_bty (by rfl) T.m_tuple boot_tuple) xa_nil))) (xe_one (xe_cmp (xo_eq hr.units) (xe_cb xc_len (by rfl) T.m_len boot_len (xa_cons (xe_var 0) xa_nil)) xe_int (nomark _)))))), fun ds m Q h => ?_⟩

  obtain ⟨d, rfl, pl, q⟩ := h
  show xRet _ _ [some d] m
  walk_at "rd"
  obtain ⟨s, e1, e2, e3, e4, _⟩ := ty_pl pl
  simp only [e1, oat_some, e4, asB_bl]
  cases d with
  | tup xs =>
    simp only [isTupD, if_true]
    walk_at "rd"
    refine eq_int ⟨m, .refl, ?_⟩
    have : decide ((xs.length : Int) = 2) = decide (xs.length = 2) := by simp; omega
    rw [this]; exact q
  | _ => simp only [isTupD, Bool.false_eq_true, if_false]; exact ⟨m, .refl, q⟩
abbrev s_is_place : Stmt := topS 21
theorem sc_is_place : FnScope ["told"] ["told"] (defScope s_is_place) := ⟨rfl, rfl, rfl, by decide +kernel, rfl, by decide +kernel, by decide +kernel⟩
theorem ok_is_place (T : Tx P w K mg base aEnd aCourse) {f : Addr} {fd : FuncData} (F : Fun K "is_place" "is_place" s_is_place f fd) (c_is_whole : Dc P w K mg base 2 "is_whole" ["told", "low", "high"] gWhole) : FnX P w K mg base 3 f fd ["told"] gPlace := by
  refine fnX F sc_is_place (by intro ds m Q h; exact len_is_place h) ⟨_, fun cdv A outer s H E hr => (xss_one (xs_ret (xe_callD c_is_whole (hr.mono (by decide)) (by rfl) (xa_cons (xe_var 0) (xa_cons (xe_neg (xe_gintE (by rfl) T.m_FARTHEST)) (xa_cons (xe_gintE (by rfl) T.m_FARTHEST) xa_nil)))))), fun ds m Q h => ?_⟩

  obtain ⟨d, rfl, pl, q⟩ := h
  show xRet _ _ [some d] m
  walk_at "rd"
  exact ⟨d, -99, 99, rfl, pl, m, .refl, q⟩
abbrev s_is_pace : Stmt := topS 22
theorem sc_is_pace : FnScope ["told"] ["told"] (defScope s_is_pace) := ⟨rfl, rfl, rfl, by decide +kernel, rfl, by decide +kernel, by decide +kernel⟩
theorem ok_is_pace (T : Tx P w K mg base aEnd aCourse) {f : Addr} {fd : FuncData} (F : Fun K "is_pace" "is_pace" s_is_pace f fd) (c_is_whole : Dc P w K mg base 2 "is_whole" ["told", "low", "high"] gWhole) : FnX P w K mg base 3 f fd ["told"] gPace := by
  refine fnX F sc_is_pace (by intro ds m Q h; exact len_is_pace h) ⟨_, fun cdv A outer s H E hr => (xss_one (xs_ret (xe_callD c_is_whole (hr.mono (by decide)) (by rfl) (xa_cons (xe_var 0) (xa_cons (xe_neg (xe_gintE (by rfl) T.m_QUICKEST)) (xa_cons (xe_gintE (by rfl) T.m_QUICKEST) xa_nil)))))), fun ds m Q h => ?_⟩

  obtain ⟨d, rfl, pl, q⟩ := h
  show xRet _ _ [some d] m
  walk_at "rd"
  exact ⟨d, -9, 9, rfl, pl, m, .refl, q⟩
abbrev s_is_walker : Stmt := topS 23
theorem sc_is_walker : FnScope ["told"] ["told"] (defScope s_is_walker) := ⟨rfl, rfl, rfl, by decide +kernel, rfl, by decide +kernel, by decide +kernel⟩
theorem ok_is_walker (T : Tx P w K mg base aEnd aCourse) {f : Addr} {fd : FuncData} (F : Fun K "is_walker" "is_walker" s_is_walker f fd) (c_is_pace : Dc P w K mg base 3 "is_pace" ["told"] gPace) (c_is_place : Dc P w K mg base 3 "is_place" ["told"] gPlace) (c_is_pair : Dc P w K mg base 1 "is_pair" ["told"] gPair) : FnX P w K mg base 4 f fd ["told"] gWalker := by
  refine fnX F sc_is_walker (by intro ds m Q h; exact len_is_walker h) ⟨_, fun cdv A outer s H E hr => (xss_one (xs_ret (xe_and (xe_callD c_is_pair (hr.mono (by decide)) (by rfl) (xa_cons (xe_var 0) xa_nil)) (xe_and (xe_callD c_is_place (hr.mono (by decide)) (by rfl) (xa_cons (xe_ix (xe_var 0) xe_int) xa_nil)) (xe_one (xe_callD c_is_pace (hr.mono (by decide)) (by rfl) (xa_cons (xe_ix (xe_var 0) xe_int) xa_nil))))))), fun ds m Q h => ?_⟩

  obtain ⟨d, rfl, pl, q⟩ := h
  show xRet _ _ [some d] m
  walk_at "rd"
  refine ⟨d, rfl, pl.1, ?_⟩
  simp only [asB_bl]
  cases d with
  | tup xs =>
    by_cases c : xs.length = 2
    · obtain ⟨x, y, rfl⟩ := two_tup c
      simp only [prD, List.length_cons, List.length_nil, decide_true, if_true, seqD_tup, oat_some, atI_0]
      refine ⟨x, rfl, pl.2 _ rfl _ List.mem_cons_self, ?_⟩
      have q2 : Q (.bl (whD x (-99) 99 && whD y (-9) 9)) m := q
      cases hx : whD x (-99) 99 with
      | false =>
        simp only [asB_bl, Bool.false_eq_true, if_false]
        rw [hx] at q2
        exact ⟨m, .refl, q2⟩
      | true =>
        simp only [asB_bl, if_true, atI_1, oat_some]
        rw [hx] at q2
        exact ⟨y, rfl, pl.2 _ rfl _ (List.mem_cons_of_mem _ List.mem_cons_self), m, .refl, q2⟩
    · rw [(not_two c).1] at q
      simp only [prD, decide_eq_false c, Bool.false_eq_true, if_false]
      exact ⟨m, .refl, q⟩
  | _ => simp only [prD, Bool.false_eq_true, if_false]; exact ⟨m, .refl, q⟩
end
end Sd

set_option Elab.async false
set_option linter.all false
set_option maxRecDepth 100000
set_option maxHeartbeats 4000000
namespace Sd
open PySem PySem.Spec PyProof.Rows L2
local macro_rules | `(tactic| walk_at "rd") => `(tactic| try simp only [xSeq, xAsg, gNm, xRet, xRetN, xIfS, xNext, xDrop, xFor, iRg1, iRg2, iEnuD, gTp, gCo, gNo, gSet, xVar, xC, xOp, xI, xI0, xNeg, xEq, xNe, xIs, xIsNot, xB, xAndT, xOrT, xNotT, xAnd, xOr, xNot, xIfE, xChain, xIx, xNil, xCons, xTup, xLst, xGc, xCall, xMeth, xMake, xFld, xFldS, xApp, xPar, xPar3, xLc, xYes, xCB, xLen, xAbs, x2I, xInt, xList, xTupOf, xIsi, xIsT, iTp, iLst, iZpX, xCat, xCatT, xSlL, xSlT, xpNone, xpSome, xGcS, xBreak, xCont, xIn, xNotIn, xIntB, asBl_bl, xLstRg1, xLstRg2, xTupH, xDNewT, xDNewK, xDPutK, xDGetK, iEnuL, xEqZ, xNeZ, iRevRg1, xLstRev, iZpY, xSortSet, xSortSetA, xRvs, xFmtI, xJs, xStrI, xIntS, xLenS, xAddS, xSplit, xJoin, xRmPre, xIsDec, asS_str, xWord, xCall2, xSeq2, xIf2, xFor2, xRaise2, xRaiseN, xDrop2, xRet2, xIxS, xSlS, xInS, xNotInS, iTxt, xMulS, xRepL, xApp2, xAsg2, xFld2, iLst2, xFor3, xNotInT, asT_tup, xCnt, xIdx, xCls, xXf, xInF, xDGetF, iKeyF, xDictF, iRg3, xRevSl, iSq, seqD_wsX, immD_wsX, immD_tup, oget_some, asI_int, asB_bl, oat_some, one_one, two_two, tri_tri, asT_tup, seqD_tup, seqD_lck, List.getElem?_cons_zero, List.getElem?_cons_succ, List.set_cons_zero, List.set_cons_succ, List.length_cons, List.length_nil])
local macro_rules | `(tactic| walk_at "lk") => `(tactic| try simp only [lk_end_begin, lk_end_way, lk_end_line, lk_end_driver, lk_end_drives, lk_end_lead, lk_end_is_level, lk_end_take, lk_co_lines, lk_co_left, lk_co_right, lk_co_knows, lk_co_is_begun, lk_co_tell_those_inside, lk_co_entry, lk_co_tell, lk_co_drive, lk_co_next_time, lk_co_is_told, lk_co_ends, lk_co_known, lk_co_bringer, oat_some, true_and])

section
variable {P : Program} {w : World} {K : PySem.W.Frag} {mg : Str → Option Value} {base : Heap} {aEnd aCourse : Addr} {PT cT aBadWalkers aBadChain aBadDeed aHalted aBadText aBadPlace aBadTime aBadPoint aNoWalker aNeverKnown aRoadError : Addr}

theorem num_okW (n : Nat) (h : n ≤ 10) : ((n : Int)).natAbs.log2 < 1920 ∧ (Str.ofString (toString (n : Int))).length ≤ 1000 := by
  rcases (by omega : n = 0 ∨ n = 1 ∨ n = 2 ∨ n = 3 ∨ n = 4 ∨ n = 5 ∨ n = 6 ∨ n = 7 ∨ n = 8 ∨ n = 9 ∨ n = 10) with z | z | z | z | z | z | z | z | z | z | z <;> subst z <;> exact ⟨by decide +kernel, by decide +kernel⟩
/-- the first that is no walker, or the ninth -/
def badW : Nat → List D → Option Nat
  | _, [] => none
  | i, d :: ds => if i = 8 ∨ wkB d = false then some i else badW (i + 1) ds
theorem badW_le : ∀ (ds : List D) (i k : Nat), i ≤ 8 → badW i ds = some k → k ≤ 8
  | [], _, _, _, h => by cases h
  | d :: ds, i, k, hi, h => by
    unfold badW at h
    split at h
    · cases h; exact hi
    · rename_i c
      exact badW_le ds (i + 1) k (by omega) h
/-- walkers that may be, or the number of the first that can't -/
def WsB (o : D) : Option Nat := match o with
  | .tup xs => badW 0 xs
  | _ => some 0
def gCkWalkers (C : Addr) : XSp2 := fun ds m Q G => ∃ o, ds = [o] ∧ PlB m o ∧ ((WsB o = none ∧ Q .non m) ∨ ∃ k, WsB o = some k ∧ G C [("number", (k : Int))] m)
def gCkP (C : Addr) : XSp2 := fun ds m Q G => ∃ d, ds = [d] ∧ PlD m d ∧ ((whD d (-99) 99 = true ∧ Q .non m) ∨ (whD d (-99) 99 = false ∧ G C [] m))
def gCkT (C : Addr) : XSp2 := fun ds m Q G => ∃ d, ds = [d] ∧ PlA m d ∧ ((frB d 0 = true ∧ Q .non m) ∨ (frB d 0 = false ∧ G C [] m))
def gCkPt (C : Addr) : XSp2 := fun ds m Q G => ∃ d, ds = [d] ∧ PlA m d ∧ ((frB d (-99999) = true ∧ Q .non m) ∨ (frB d (-99999) = false ∧ G C [] m))
def gCkN (C : Addr) : XSp2 := fun ds m Q G => ∃ d ws, ds = [d, wsD ws] ∧ PlD m d ∧ ((whD d 0 ((ws.length : Int) - 1) = true ∧ Q .non m) ∨ (whD d 0 ((ws.length : Int) - 1) = false ∧ G C [] m))
theorem lenx_check_walkers {C ds m Q G} (h : gCkWalkers C ds m Q G) : ds.length = 1 := by obtain ⟨_, rfl, _⟩ := h; rfl
theorem lenx_check_place {C ds m Q G} (h : gCkP C ds m Q G) : ds.length = 1 := by obtain ⟨_, rfl, _⟩ := h; rfl
theorem lenx_check_time {C ds m Q G} (h : gCkT C ds m Q G) : ds.length = 1 := by obtain ⟨_, rfl, _⟩ := h; rfl
theorem lenx_check_point {C ds m Q G} (h : gCkPt C ds m Q G) : ds.length = 1 := by obtain ⟨_, rfl, _⟩ := h; rfl
theorem lenx_check_number {C ds m Q G} (h : gCkN C ds m Q G) : ds.length = 2 := by obtain ⟨_, _, rfl, _⟩ := h; rfl

abbrev s_check_walkers : Stmt := topS 24
theorem sc_check_walkers : FnScope ["walkers", "number", "walker"] ["walkers"] (defScope s_check_walkers) := ⟨rfl, rfl, rfl, by decide +kernel, rfl, by decide +kernel, by decide +kernel⟩
theorem ok_check_walkers (T : Tx P w K mg base aEnd aCourse) {f : Addr} {fd : FuncData} (F : Fun K "check_walkers" "check_walkers" s_check_walkers f fd) (c_is_walker : Dc P w K mg base 4 "is_walker" ["told"] gWalker) (k2_BadWalkers : K2 P w K mg base 1 "BadWalkers" "number" aBadWalkers) : Fn2 P w K mg base 5 f fd ["walkers"] (gCkWalkers aBadWalkers) := by
  refine fnX2 F sc_check_walkers (by intro ds m Q G h; exact lenx_check_walkers h) ⟨_, fun cdv A outer s H E hr tk hp => (xx_cons (xx_if (xt_not (xt_val (xe_cb xc_isi (by rfl) T.m_isinstance boot_isinstance (xa_cons (xe_var 0) (xa_cons (xe_bty (by rfl) T.m_tuple boot_tuple) xa_nil))))) (xx_one (xx_raise2D rfl tk k2_BadWalkers (hr.mono (by decide)) (by rfl) xe_int)) (PSs.upX xss_nil))
      (xx_one (xx_for (vs := [1, 2]) hp rfl (xi_enumT (by rfl) T.m_enumerate (xa_cons (xe_var 0) xa_nil)) (xg_tup (n := 2) rfl (xgs_cons (xg_name (i := 1) sc_check_walkers.nd rfl (Or.inl rfl) (by decide)) (xgs_cons (xg_name (i := 2) sc_check_walkers.nd rfl (Or.inl rfl) (by decide)) xgs_nil))) (xx_one (xx_if (PW.pt (xw_or (xt_cmp (xo_eq hr.units) (xe_var 1) (xe_gintE (by rfl) T.m_MOST_WALKERS) (nomark _)) (xw_or1 (xt_not (xt_val (xe_callD c_is_walker (hr.mono (by decide)) (by rfl) (xa_cons (xe_var 2) xa_nil))))))) (xx_one (xx_raise2D rfl tk k2_BadWalkers (hr.mono (by decide)) (by rfl) (xe_var 1))) (PSs.upX xss_nil)))))), fun ds m Q G h => ?_⟩

  obtain ⟨o, rfl, pl, hc⟩ := h
  show xSeq2 _ _ _ _ [some o, none, none] m
  walk_at "rd"
  obtain ⟨s, e1, e2, e3, e4, e5⟩ := ty_pl pl.1
  simp only [e1, oat_some, e4, asB_bl]
  cases o with
  | tup xs =>
    simp only [isTupD, Bool.not_true, Bool.false_eq_true, if_false]
    walk_at "rd"
    have hc2 : (badW 0 xs = none ∧ Q .non m) ∨ ∃ k, badW 0 xs = some k ∧ G aBadWalkers [("number", (k : Int))] m := hc
    clear hc
    refine xLoop2_ind (fun ds e m' => ∃ (i : Nat) (rest : List D) (x1 x2 : Option D), ds = enumD i rest ∧ e = [some (.tup xs), x1, x2] ∧ m' = m ∧ (∀ d ∈ rest, PlA m d) ∧ i ≤ 8 ∧ badW 0 xs = badW i rest)
      ?_ ?_ _ _ _ ⟨0, xs, none, none, rfl, rfl, rfl, pl.2 _ rfl, by decide, rfl⟩
    · intro e m' ⟨i, rest, x1, x2, g1, g2, g3, g4, g5, g6⟩
      subst g2 g3
      cases rest with
      | cons d r => rw [enumD] at g1; cases g1
      | nil =>
        rcases hc2 with ⟨_, q⟩ | ⟨k, e, _⟩
        · exact ⟨trivial, m', .refl, q⟩
        · rw [g6] at e; cases e
    · intro d ds e m' R ⟨i, rest, x1, x2, g1, g2, g3, g4, g5, g6⟩ hR
      subst g2 g3
      cases rest with
      | nil => rw [enumD] at g1; cases g1
      | cons x r =>
      rw [enumD] at g1
      cases g1
      refine ⟨trivial, ?_⟩
      have out : badW i (x :: r) = some i → G aBadWalkers [("number", (i : Int))] m' := fun h => by
        rcases hc2 with ⟨e, _⟩ | ⟨k, e, q⟩
        · rw [g6, h] at e; cases e
        · rw [g6, h] at e; cases e; exact q
      walk_at "rd"
      refine ⟨by first | trivial | rfl, by first | trivial | rfl, eq_int ?_⟩
      by_cases c : i = 8
      · rw [if_pos (decide_eq_true (by omega))]
        try rw [if_pos trivial]
        exact ⟨num_okW i (by omega), out (by rw [badW, if_pos (.inl c)])⟩
      · rw [if_neg (by simp; omega)]
        refine ⟨x, rfl, g4 x List.mem_cons_self, ?_⟩
        simp only [asB_bl]
        cases hx : wkB x with
        | false =>
          simp only [Bool.not_false, if_true]
          exact ⟨num_okW i (by omega), out (by rw [badW, if_pos (.inr hx)])⟩
        | true =>
          simp only [Bool.not_true, Bool.false_eq_true, if_false]
          exact hR _ _ ⟨i + 1, r, _, _, rfl, rfl, rfl, fun v hv => g4 v (List.mem_cons_of_mem _ hv), by omega, by rw [g6, badW, if_neg (by rw [hx]; simp; exact c)]⟩
  | _ =>
    simp only [isTupD, Bool.not_false, if_true]
    walk_at "rd"
    rcases hc with ⟨e, _⟩ | ⟨k, e, q⟩
    · cases e
    · cases e; exact ⟨num_okW 0 (by decide), q⟩
abbrev s_check_place : Stmt := topS 25
theorem sc_check_place : FnScope ["place"] ["place"] (defScope s_check_place) := ⟨rfl, rfl, rfl, by decide +kernel, rfl, by decide +kernel, by decide +kernel⟩
theorem ok_check_place (T : Tx P w K mg base aEnd aCourse) {f : Addr} {fd : FuncData} (F : Fun K "check_place" "check_place" s_check_place f fd) (c_is_place : Dc P w K mg base 3 "is_place" ["told"] gPlace) (NK_BadPlace : NKx K mg "BadPlace" aBadPlace) : Fn2 P w K mg base 4 f fd ["place"] (gCkP aBadPlace) := by
  refine fnX2 F sc_check_place (by intro ds m Q G h; exact lenx_check_place h) ⟨_, fun cdv A outer s H E hr tk hp => (xx_one (xx_if (xt_not (xt_val (xe_callD c_is_place (hr.mono (by decide)) (by rfl) (xa_cons (xe_var 0) xa_nil)))) (xx_one (xx_raise rfl tk PySem.F.excBase_ValueError NK_BadPlace.q NK_BadPlace.g NK_BadPlace.k (raises_own NK_BadPlace.s NK_BadPlace.t) rfl)) (PSs.upX xss_nil))), fun ds m Q G h => ?_⟩

  obtain ⟨d, rfl, pl, q⟩ := h
  show xIf2 _ _ _ _ _ [some d] m
  walk_at "rd"
  refine ⟨d, rfl, pl, ?_⟩
  walk_at "rd"
  rcases q with ⟨e, q⟩ | ⟨e, q⟩
  · rw [e, if_neg (by decide)]
    exact ⟨m, .refl, q⟩
  · rw [e, if_pos (by decide)]
    exact q
end
end Sd

set_option Elab.async false
set_option linter.all false
set_option maxRecDepth 100000
set_option maxHeartbeats 4000000
namespace Sd
open PySem PySem.Spec PyProof.Rows L2
local macro_rules | `(tactic| walk_at "rd") => `(tactic| try simp only [xSeq, xAsg, gNm, xRet, xRetN, xIfS, xNext, xDrop, xFor, iRg1, iRg2, iEnuD, gTp, gCo, gNo, gSet, xVar, xC, xOp, xI, xI0, xNeg, xEq, xNe, xIs, xIsNot, xB, xAndT, xOrT, xNotT, xAnd, xOr, xNot, xIfE, xChain, xIx, xNil, xCons, xTup, xLst, xGc, xCall, xMeth, xMake, xFld, xFldS, xApp, xPar, xPar3, xLc, xYes, xCB, xLen, xAbs, x2I, xInt, xList, xTupOf, xIsi, xIsT, iTp, iLst, iZpX, xCat, xCatT, xSlL, xSlT, xpNone, xpSome, xGcS, xBreak, xCont, xIn, xNotIn, xIntB, asBl_bl, xLstRg1, xLstRg2, xTupH, xDNewT, xDNewK, xDPutK, xDGetK, iEnuL, xEqZ, xNeZ, iRevRg1, xLstRev, iZpY, xSortSet, xSortSetA, xRvs, xFmtI, xJs, xStrI, xIntS, xLenS, xAddS, xSplit, xJoin, xRmPre, xIsDec, asS_str, xWord, xCall2, xSeq2, xIf2, xFor2, xRaise2, xRaiseN, xDrop2, xRet2, xIxS, xSlS, xInS, xNotInS, iTxt, xMulS, xRepL, xApp2, xAsg2, xFld2, iLst2, xFor3, xNotInT, asT_tup, xCnt, xIdx, xCls, xXf, xInF, xDGetF, iKeyF, xDictF, iRg3, xRevSl, iSq, seqD_wsX, immD_wsX, immD_tup, oget_some, asI_int, asB_bl, oat_some, one_one, two_two, tri_tri, asT_tup, seqD_tup, seqD_lck, List.getElem?_cons_zero, List.getElem?_cons_succ, List.set_cons_zero, List.set_cons_succ, List.length_cons, List.length_nil])
local macro_rules | `(tactic| walk_at "lk") => `(tactic| try simp only [lk_end_begin, lk_end_way, lk_end_line, lk_end_driver, lk_end_drives, lk_end_lead, lk_end_is_level, lk_end_take, lk_co_lines, lk_co_left, lk_co_right, lk_co_knows, lk_co_is_begun, lk_co_tell_those_inside, lk_co_entry, lk_co_tell, lk_co_drive, lk_co_next_time, lk_co_is_told, lk_co_ends, lk_co_known, lk_co_bringer, oat_some, true_and])

section
variable {P : Program} {w : World} {K : PySem.W.Frag} {mg : Str → Option Value} {base : Heap} {aEnd aCourse : Addr} {PT cT aBadWalkers aBadChain aBadDeed aHalted aBadText aBadPlace aBadTime aBadPoint aNoWalker aNeverKnown aRoadError : Addr}

/-- what is read of a word -/
def spFig : XSp := fun ds m Q => ∃ l, ds = [.str (ofL l)] ∧ (∀ c ∈ l, c < 128) ∧ l.length ≤ 4000 ∧ Q (.bl (numB l).isSome) m
theorem len_is_figures {ds m Q} (h : spFig ds m Q) : ds.length = 1 := by obtain ⟨_, rfl, _⟩ := h; rfl
theorem ofL_len (l : List Nat) : (ofL l).length = l.length := rfl
theorem figL_len (l : List Nat) : (figL l).length ≤ l.length := by
  unfold figL
  split
  · simp
  · exact Nat.le_refl _

abbrev s_is_figures : Stmt := topS 31
theorem sc_is_figures : FnScope ["word", "figures"] ["word"] (defScope s_is_figures) := ⟨rfl, rfl, rfl, by decide +kernel, rfl, by decide +kernel, by decide +kernel⟩
theorem ok_is_figures (T : Tx P w K mg base aEnd aCourse) {f : Addr} {fd : FuncData} (F : Fun K "is_figures" "is_figures" s_is_figures f fd)  : FnX P w K mg base 1 f fd ["word"] spFig := by
  refine fnX F sc_is_figures (by intro ds m Q h; exact len_is_figures h) ⟨_, fun cdv A outer s H E hr => (xss_cons (xs_set (i := 1) sc_is_figures.nd rfl (Or.inl rfl) (xe_rmPre (xe_var 0) xe_str))
      (xss_one (xs_ret (xe_and (xe_isDec (xe_var 1)) (xe_and (xe_cmp xo_le (xe_cb xc_lenS (by rfl) T.m_len boot_len (xa_cons (xe_var 1) xa_nil)) (xe_gintE (by rfl) T.m_MOST_FIGURES) (nomark _)) (xe_one (xe_cmp (xo_eq hr.units) (xe_ct xc_strI (by rfl) T.m_str boot_str (xa_cons (xe_ct xc_intS (by rfl) T.m_int boot_int (xa_cons (xe_var 0) xa_nil)) xa_nil)) (xe_var 0) (nomark _)))))))), fun ds m Q h => ?_⟩

  obtain ⟨l, rfl, ha, hl, q⟩ := h
  show xSeq _ _ _ [some (.str (ofL l)), none] m
  walk_at "rd"
  have fl := figL_len l
  refine ⟨le_bg (by rw [ofL_len]; omega), ?_⟩
  rw [rm_ofL]
  cases hd : Txt.isdecimal (ofL (figL l)) with
  | false =>
    rw [if_neg (by decide)]
    refine ⟨m, .refl, ?_⟩
    rw [show (numB l).isSome = false by unfold numB; rw [hd]; rfl] at q
    exact q
  | true =>
    rw [if_pos rfl]
    refine ⟨le_bg (by rw [ofL_len]; omega), ?_⟩
    by_cases c : (figL l).length ≤ 2
    · rw [if_pos (show decide ((((ofL (figL l)).length : Nat) : Int) ≤ 2) = true from decide_eq_true (show (((figL l).length : Nat) : Int) ≤ 2 by omega))]
      have hn := str_num ha hd c
      obtain ⟨hf, _⟩ := fig_ok ha hd c
      unfold figOk at hf
      cases e : PySem.intText? (ofL l) with
      | none => rw [e] at hf; cases hf
      | some n =>
        rw [e] at hf
        simp only [Bool.and_eq_true, decide_eq_true_eq] at hf
        obtain ⟨f1, f2, f3, f4⟩ := hf
        refine ⟨n, rfl, by omega, f2, eq_str f4 f3 ⟨m, .refl, ?_⟩⟩
        have z : decide (((toString n : String) : Str) = ofL l) = (numB l).isSome := by
          unfold strNum at hn
          rw [e] at hn
          dsimp only at hn
          rw [hn]
          unfold numB
          rw [hd, decide_eq_true c, Bool.true_and, Bool.true_and]
          cases numOk l with
          | true => rw [if_pos rfl, e]; rfl
          | false => rw [if_neg (by decide)]; rfl
        rw [z]
        exact q
    · rw [show decide ((((ofL (figL l)).length : Nat) : Int) ≤ 2) = false from decide_eq_false (show ¬ (((figL l).length : Nat) : Int) ≤ 2 by omega), if_neg (by decide)]
      refine ⟨m, .refl, ?_⟩
      rw [show (numB l).isSome = false by unfold numB; rw [hd, decide_eq_false c]; rfl] at q
      exact q
end
end Sd

set_option Elab.async false
set_option linter.all false
set_option maxRecDepth 100000
set_option maxHeartbeats 4000000
namespace Sd
open PySem PySem.Spec PyProof.Rows L2
local macro_rules | `(tactic| walk_at "rd") => `(tactic| try simp only [xSeq, xAsg, gNm, xRet, xRetN, xIfS, xNext, xDrop, xFor, iRg1, iRg2, iEnuD, gTp, gCo, gNo, gSet, xVar, xC, xOp, xI, xI0, xNeg, xEq, xNe, xIs, xIsNot, xB, xAndT, xOrT, xNotT, xAnd, xOr, xNot, xIfE, xChain, xIx, xNil, xCons, xTup, xLst, xGc, xCall, xMeth, xMake, xFld, xFldS, xApp, xPar, xPar3, xLc, xYes, xCB, xLen, xAbs, x2I, xInt, xList, xTupOf, xIsi, xIsT, iTp, iLst, iZpX, xCat, xCatT, xSlL, xSlT, xpNone, xpSome, xGcS, xBreak, xCont, xIn, xNotIn, xIntB, asBl_bl, xLstRg1, xLstRg2, xTupH, xDNewT, xDNewK, xDPutK, xDGetK, iEnuL, xEqZ, xNeZ, iRevRg1, xLstRev, iZpY, xSortSet, xSortSetA, xRvs, xFmtI, xJs, xStrI, xIntS, xLenS, xAddS, xSplit, xJoin, xRmPre, xIsDec, asS_str, xWord, xCall2, xSeq2, xIf2, xFor2, xRaise2, xRaiseN, xDrop2, xRet2, xIxS, xSlS, xInS, xNotInS, iTxt, xMulS, xRepL, xApp2, xAsg2, xFld2, iLst2, xFor3, xNotInT, asT_tup, xCnt, xIdx, xCls, xXf, xInF, xDGetF, iKeyF, xDictF, iRg3, xRevSl, iSq, seqD_wsX, immD_wsX, immD_tup, oget_some, asI_int, asB_bl, oat_some, one_one, two_two, tri_tri, asT_tup, seqD_tup, seqD_lck, List.getElem?_cons_zero, List.getElem?_cons_succ, List.set_cons_zero, List.set_cons_succ, List.length_cons, List.length_nil])
local macro_rules | `(tactic| walk_at "lk") => `(tactic| try simp only [lk_end_begin, lk_end_way, lk_end_line, lk_end_driver, lk_end_drives, lk_end_lead, lk_end_is_level, lk_end_take, lk_co_lines, lk_co_left, lk_co_right, lk_co_knows, lk_co_is_begun, lk_co_tell_those_inside, lk_co_entry, lk_co_tell, lk_co_drive, lk_co_next_time, lk_co_is_told, lk_co_ends, lk_co_known, lk_co_bringer, oat_some, true_and])

section
variable {P : Program} {w : World} {K : PySem.W.Frag} {mg : Str → Option Value} {base : Heap} {aEnd aCourse : Addr} {PT cT aBadWalkers aBadChain aBadDeed aHalted aBadText aBadPlace aBadTime aBadPoint aNoWalker aNeverKnown aRoadError : Addr}
theorem sIx_nat {n d i : Nat} (h : i ≤ n) : HT.sIx n d (some (i : Int)) = i := by
  rw [HT.sIx_nat, Nat.min_eq_left h]
theorem cut_take {ds : List D} {k : Nat} (h : k ≤ ds.length) : cutD ds none (some (k : Int)) = ds.take k := by
  unfold cutD
  rw [sIx_nat h]
  rw [show HT.sIx ds.length 0 none = 0 from rfl, List.drop_zero, Nat.sub_zero]
theorem cut_drop {ds : List D} {k : Nat} (h : k + 1 ≤ ds.length) : cutD ds (some ((k : Int) + 1)) none = ds.drop (k + 1) := by
  unfold cutD
  rw [show ((k : Int) + 1) = ((k + 1 : Nat) : Int) by omega, sIx_nat h]
  rw [show HT.sIx ds.length ds.length none = ds.length from rfl, List.take_of_length_le (by rw [List.length_drop]; omega)]

def numsB : List (List Nat) → Option (List Int)
  | [] => some []
  | l :: r => match numB l, numsB r with
    | some n, some ns => some (n :: ns)
    | _, _ => none
def headR (row : Nat) : Str := if row = 0 then "said" else "walker"
def manyR (row : Nat) : Nat := if row = 0 then 1 else 2
/-- the numbers of a row of words -/
def rowB (row : Nat) : List (List Nat) → Option (List Int)
  | [] => none
  | h :: fs => if ofL h = headR row ∧ fs.length = manyR row then numsB fs else none
structure WdsOk (ws : List (List Nat)) : Prop where
  ne : ws ≠ []
  as : ∀ l ∈ ws, (∀ c ∈ l, c < 128) ∧ l.length ≤ 4000 ∧ PyData.strOk (ofL l) = true
  few : ws.length ≤ 4000
def wdsD (ws : List (List Nat)) : List D := ws.map fun l => D.str (ofL l)
def xNums (C : Addr) : XSp2 := fun ds m Q G => ∃ (row : Nat) (p : Addr) (ws : List (List Nat)), ds = [.int (row : Int), .ref p] ∧ row ≤ 2000 ∧ WdsOk ws ∧ m p = some (.lst (wdsD ws)) ∧
  ((∃ ns, rowB row ws = some ns ∧ ∀ q, m q = none → Q (.ref q) (updM m q (.lst (ns.map .int)))) ∨ (rowB row ws = none ∧ G C [("row", (row : Int))] m))
theorem lenx_numbers_of {C ds m Q G} (h : xNums C ds m Q G) : ds.length = 2 := by obtain ⟨_, _, _, rfl, _⟩ := h; rfl
theorem row_num : ((List.range 2001).all fun n => decide (((n : Int)).natAbs.log2 < 1920) && decide ((Str.ofString (toString (n : Int))).length ≤ 1000)) = true := by decide +kernel
theorem row_ok {n : Nat} (h : n ≤ 2000) : ((n : Int)).natAbs.log2 < 1920 ∧ (Str.ofString (toString (n : Int))).length ≤ 1000 := by
  have := List.all_eq_true.mp row_num n (List.mem_range.mpr (by omega))
  simpa using this
def toI : D → Option D
  | .str s => (PySem.intText? s).map D.int
  | _ => none
theorem numB_out {l : List Nat} (ha : ∀ c ∈ l, c < 128) (h : (numB l).isSome = true) : ∃ n, numB l = some n ∧ PySem.intText? (ofL l) = some n ∧ (ofL l).length ≤ 3 := by
  by_cases c : (Txt.isdecimal (ofL (figL l)) && (decide ((figL l).length ≤ 2) && numOk l)) = true
  · exact numB_some ha c
  · unfold numB at h
    rw [if_neg c] at h; cases h
theorem numsB_all : ∀ ls : List (List Nat), (∀ l ∈ ls, (numB l).isSome = true) → ∃ ns, numsB ls = some ns
  | [], _ => ⟨[], rfl⟩
  | l :: r, h => by
    obtain ⟨ns, e⟩ := numsB_all r fun z hz => h z (List.mem_cons_of_mem _ hz)
    obtain ⟨n, e2⟩ := Option.isSome_iff_exists.mp (h l List.mem_cons_self)
    exact ⟨n :: ns, by unfold numsB; rw [e2, e]⟩
theorem numsB_bad : ∀ (dn : List (List Nat)) {l : List Nat} (r : List (List Nat)), numB l = none → numsB (dn ++ l :: r) = none
  | [], l, r, h => by show numsB (l :: r) = none; unfold numsB; rw [h]
  | d :: dn, l, r, h => by
    show numsB (d :: (dn ++ l :: r)) = none
    unfold numsB
    rw [numsB_bad dn r h]
    cases numB d <;> rfl
theorem toI_all : ∀ (ls : List (List Nat)) (ns : List Int), (∀ l ∈ ls, ∀ c ∈ l, c < 128) → numsB ls = some ns → (wdsD ls).filterMap toI = ns.map D.int
  | [], ns, _, h => by cases h; rfl
  | l :: r, ns, ha, h => by
    unfold numsB at h
    split at h
    · rename_i n ns' e1 e2
      cases h
      obtain ⟨n', f1, f2, _⟩ := numB_out (ha l List.mem_cons_self) (by rw [e1]; rfl)
      rw [e1] at f1; cases f1
      have e : toI (.str (ofL l)) = some (.int n) := by simp only [toI]; rw [f2]; rfl
      show ((D.str (ofL l)) :: wdsD r).filterMap toI = _
      rw [List.filterMap_cons_some e, toI_all r ns' (fun z hz => ha z (List.mem_cons_of_mem _ hz)) e2]; rfl
    · cases h
theorem numsB_none {l : List Nat} {r : List (List Nat)} (h : numB l = none) : numsB (l :: r) = none := by unfold numsB; rw [h]

abbrev s_numbers_of : Stmt := topS 30
theorem sc_numbers_of : FnScope ["row", "words", "head", "many", "figures", "word"] ["row", "words"] (defScope s_numbers_of) := ⟨rfl, rfl, rfl, by decide +kernel, rfl, by decide +kernel, by decide +kernel⟩
theorem ok_numbers_of (T : Tx P w K mg base aEnd aCourse) {f : Addr} {fd : FuncData} (F : Fun K "numbers_of" "numbers_of" s_numbers_of f fd) (c_is_figures : Dc P w K mg base 1 "is_figures" ["word"] spFig) (k2_BadText : K2 P w K mg base 1 "BadText" "row" aBadText) : Fn2 P w K mg base 4 f fd ["row", "words"] (xNums aBadText) := by
  refine fnX3 F sc_numbers_of (by intro ds m Q G h; exact lenx_numbers_of h) ⟨_, fun cdv A outer s H E hr tk hp => (xx_cons (PS.upX (xs_if (xt_cmp (xo_eq hr.units) (xe_var 0) xe_int (nomark _)) (xss_one (xs_asg (vs := [2, 3]) (xe_tup (xa_cons xe_str (xa_cons xe_int xa_nil))) (xg_tup (n := 2) rfl (xgs_cons (xg_name (i := 2) sc_numbers_of.nd rfl (Or.inl rfl) (by decide)) (xgs_cons (xg_name (i := 3) sc_numbers_of.nd rfl (Or.inl rfl) (by decide)) xgs_nil))))) (xss_one (xs_asg (vs := [2, 3]) (xe_tup (xa_cons xe_str (xa_cons xe_int xa_nil))) (xg_tup (n := 2) rfl (xgs_cons (xg_name (i := 2) sc_numbers_of.nd rfl (Or.inl rfl) (by decide)) (xgs_cons (xg_name (i := 3) sc_numbers_of.nd rfl (Or.inl rfl) (by decide)) xgs_nil)))))))
      (xx_cons (PS.upX (xs_set (i := 4) sc_numbers_of.nd rfl (Or.inl rfl) (xe_slL (xe_var 1) (xp_some xe_int) xp_none)))
      (xx_cons (xx_if (PW.pt (xw_or (xt_cmp (xo_ne hr.units) (xe_ix (xe_var 1) xe_int) (xe_var 2) (nomark _)) (xw_or1 (xt_cmp (xo_ne hr.units) (xe_cb xc_len (by rfl) T.m_len boot_len (xa_cons (xe_var 4) xa_nil)) (xe_var 3) (nomark _))))) (xx_one (xx_raise2D rfl tk k2_BadText (hr.mono (by decide)) (by rfl) (xe_var 0))) (PSs.upX xss_nil))
      (xx_cons (xx_for (vs := [5]) hp rfl (xi_list (xe_var 4)) (xg_name (i := 5) sc_numbers_of.nd rfl (Or.inl rfl) (by decide)) (xx_one (xx_if (xt_not (xt_val (xe_callD c_is_figures (hr.mono (by decide)) (by rfl) (xa_cons (xe_var 5) xa_nil)))) (xx_one (xx_raise2D rfl tk k2_BadText (hr.mono (by decide)) (by rfl) (xe_var 0))) (PSs.upX xss_nil))))
      (xx_one (PS.upX (xs_ret (xe_lc (own := [("word", 5)]) rfl sc_numbers_of.nd (xi_list (xe_var 4)) (blkOk_by (N := ["row", "words", "head", "many", "figures", "word"]) (sc := defScope s_numbers_of) (by decide +kernel)) (fun _ _ _ _ _ => (xg_name (i := 5) sc_numbers_of.nd rfl (Or.inl rfl) (by decide))) (fun _ _ _ _ _ => xts_nil) (fun _ _ _ _ _ => (xe_ct xc_intS (by rfl) T.m_int boot_int (xa_cons (xe_var 5) xa_nil))))))))))), fun ds m Q G h => ?_⟩

  obtain ⟨row, p, ws, rfl, hrow, wo, hp, hc⟩ := h
  obtain ⟨h0, fs, rfl⟩ : ∃ h0 fs, ws = h0 :: fs := by
    cases ws with
    | nil => exact absurd rfl wo.ne
    | cons h0 fs => exact ⟨h0, fs, rfl⟩
  show xSeq2 _ _ _ _ [some (.int (row : Int)), some (.ref p), none, none, none, none] m
  refine hide2 fun K1 hK1 => ?_
  walk_at "rd"
  refine eq_int ?_
  have go : ∀ (h : Str) (k : Nat), h = headR row → k = manyR row → PyData.strOk h = true → K1 [some (.int (row : Int)), some (.ref p), some (.str h), some (.int (k : Int)), none, none] m := fun h k eh ek hok => by
    rw [hK1]
    clear hK1
    refine hide2 fun K1 hK1 => ?_
    walk_at "rd"
    rw [lstD_ref hp, oat_some]
    intro pF hpF
    rw [show cutD (wdsD (h0 :: fs)) (some 1) none = wdsD fs from by
      rw [show (1 : Int) = ((0 : Nat) : Int) + 1 from rfl, cut_drop (by simp [wdsD])]; rfl]
    have pne := neW hp hpF
    have hp1 : updM m pF (.lst (wdsD fs)) p = some (.lst (wdsD (h0 :: fs))) := by rw [updM_ne pne]; exact hp
    have hf1 : updM m pF (.lst (wdsD fs)) pF = some (.lst (wdsD fs)) := updM_same
    have sb1 : Sub m (updM m pF (.lst (wdsD fs))) := Sub.refl.upd hpF
    generalize updM m pF (.lst (wdsD fs)) = m1 at hp1 hf1 sb1 ⊢
    have bad : rowB row (h0 :: fs) = none → G aBadText [("row", (row : Int))] m := fun e => by
      rcases hc with ⟨ns, e2, _⟩ | ⟨_, g⟩
      · rw [e] at e2; cases e2
      · exact g
    rw [hK1]
    clear hK1
    refine hide2 fun K1 hK1 => ?_
    walk_at "rd"
    simp only [seqD_ref hp1, seqD_ref hf1, oat_some]
    have o0 := wo.as h0 List.mem_cons_self
    have lenF : (wdsD fs).length = fs.length := by unfold wdsD; rw [List.length_map]
    rw [show atI (wdsD (h0 :: fs)) 0 = some (.str (ofL h0)) from atI_0, oat_some]
    refine eq_str o0.2.2 hok ?_
    by_cases c1 : ofL h0 = h
    · rw [decide_eq_true c1, if_neg (by decide)]
      refine eq_int ?_
      rw [lenF]
      by_cases c2 : fs.length = k
      · rw [decide_eq_true (by omega), if_neg (by decide)]
        have e1 : rowB row (h0 :: fs) = numsB fs := if_pos ⟨c1.trans eh, c2.trans ek⟩
        rw [e1] at hc bad
        rw [hK1]
        clear hK1
        refine hide2 fun K1 hK1 => ?_
        walk_at "rd"
        rw [asL_ref hf1]
        refine xLoop2_ind (fun ds e m' => ∃ (done rest : List (List Nat)) (x5 : Option D), ds = wdsD rest ∧ done ++ rest = fs ∧ (∀ l ∈ done, (numB l).isSome = true) ∧ m' = m1 ∧ e = [some (.int (row : Int)), some (.ref p), some (.str h), some (.int (k : Int)), some (.ref pF), x5]) ?_ ?_ _ _ _ ⟨[], fs, none, rfl, rfl, (fun _ z => nomatch z), rfl, rfl⟩
        · intro e m' ⟨dn, rest, x5, g1, g2, g3, g4, g5⟩
          subst g4 g5
          cases rest with
          | cons l r => cases g1
          | nil =>
          rw [List.append_nil] at g2
          subst g2
          obtain ⟨ns, en⟩ := numsB_all dn g3
          refine ⟨hf1, ?_⟩
          dsimp only
          rw [hK1]
          clear hK1
          walk_at "rd"
          rw [asL_ref hf1]
          refine xLcG_pure toI hf1 _ _ (fun x hx R hR => ?_) (by rw [lenF]; exact lt_bg (by have := wo.few; simp at this ⊢; omega)) (fun pq hpq => ?_)
          · obtain ⟨l, hl, rfl⟩ := List.mem_map.mp hx
            simp only [wipeD, List.map_cons, List.map_nil]
            walk_at "rd"
            obtain ⟨n, e1, e2, e3⟩ := numB_out (wo.as l (List.mem_cons_of_mem _ hl)).1 (g3 l hl)
            refine ⟨n, e2, by omega, ?_⟩
            simp only [toI] at hR
            rw [e2] at hR
            exact hR
          rw [List.nil_append, toI_all dn ns (fun l hl => (wo.as l (List.mem_cons_of_mem _ hl)).1) en]
          rcases hc with ⟨ns', e2, q⟩ | ⟨e2, _⟩
          · rw [en] at e2
            cases e2
            have hq : m pq = none := by
              cases e : m pq with
              | none => rfl
              | some o => rw [sb1 _ _ e] at hpq; cases hpq
            refine ⟨updM m pq (.lst (ns.map D.int)), fun b o hb => ?_, q pq hq⟩
            by_cases z : b = pq
            · subst z; rw [updM_same] at hb ⊢; exact hb
            · rw [updM_ne z] at hb ⊢
              exact sb1 _ _ hb
          · rw [en] at e2; cases e2
        · intro d ds e m' R ⟨dn, rest, x5, g1, g2, g3, g4, g5⟩ hR
          subst g4 g5
          cases rest with
          | nil => cases g1
          | cons l r =>
          cases g1
          refine ⟨hf1, ?_⟩
          have ol := wo.as l (List.mem_cons_of_mem _ (by rw [← g2]; simp))
          walk_at "rd"
          refine ⟨l, rfl, ol.1, ol.2.1, ?_⟩
          simp only [asB_bl]
          cases hn : numB l with
          | none =>
            simp only [Option.isSome_none, Bool.not_false, if_true]
            exact ⟨row_ok hrow, m, sb1, bad (by rw [← g2]; exact numsB_bad dn r hn)⟩
          | some n =>
            simp only [Option.isSome_some, Bool.not_true, Bool.false_eq_true, if_false]
            exact hR _ _ ⟨dn ++ [l], r, _, rfl, by rw [List.append_assoc]; exact g2, fun z hz => by
              rcases List.mem_append.mp hz with hz | hz
              · exact g3 z hz
              · rw [List.mem_singleton.mp hz, hn]; rfl, rfl, rfl⟩
      · rw [decide_eq_false (by omega), if_pos (by decide)]
        exact ⟨row_ok hrow, m, sb1, bad (if_neg fun z => c2 (z.2.trans ek.symm))⟩
    · rw [decide_eq_false c1, if_pos (by decide), if_pos trivial]
      exact ⟨row_ok hrow, m, sb1, bad (if_neg fun z => c1 (z.1.trans eh.symm))⟩
  by_cases c : row = 0
  · rw [if_pos (by simp [c])]
    exact ⟨two_sz, trivial, trivial, go _ 1 (by unfold headR; rw [if_pos c]) (by unfold manyR; rw [if_pos c]) (by decide +kernel)⟩
  · rw [if_neg (by simp; omega)]
    exact ⟨two_sz, trivial, trivial, go _ 2 (by unfold headR; rw [if_neg c]) (by unfold manyR; rw [if_neg c]) (by decide +kernel)⟩
end
end Sd

set_option Elab.async false
set_option linter.all false
set_option maxRecDepth 100000
set_option maxHeartbeats 4000000
namespace Sd
open PySem PySem.Spec PyProof.Rows L2
local macro_rules | `(tactic| walk_at "rd") => `(tactic| try simp only [xSeq, xAsg, gNm, xRet, xRetN, xIfS, xNext, xDrop, xFor, iRg1, iRg2, iEnuD, gTp, gCo, gNo, gSet, xVar, xC, xOp, xI, xI0, xNeg, xEq, xNe, xIs, xIsNot, xB, xAndT, xOrT, xNotT, xAnd, xOr, xNot, xIfE, xChain, xIx, xNil, xCons, xTup, xLst, xGc, xCall, xMeth, xMake, xFld, xFldS, xApp, xPar, xPar3, xLc, xYes, xCB, xLen, xAbs, x2I, xInt, xList, xTupOf, xIsi, xIsT, iTp, iLst, iZpX, xCat, xCatT, xSlL, xSlT, xpNone, xpSome, xGcS, xBreak, xCont, xIn, xNotIn, xIntB, asBl_bl, xLstRg1, xLstRg2, xTupH, xDNewT, xDNewK, xDPutK, xDGetK, iEnuL, xEqZ, xNeZ, iRevRg1, xLstRev, iZpY, xSortSet, xSortSetA, xRvs, xFmtI, xJs, xStrI, xIntS, xLenS, xAddS, xSplit, xJoin, xRmPre, xIsDec, asS_str, xWord, xCall2, xSeq2, xIf2, xFor2, xRaise2, xRaiseN, xDrop2, xRet2, xIxS, xSlS, xInS, xNotInS, iTxt, xMulS, xRepL, xApp2, xAsg2, xFld2, iLst2, xFor3, xNotInT, asT_tup, xCnt, xIdx, xCls, xXf, xInF, xDGetF, iKeyF, xDictF, iRg3, xRevSl, iSq, seqD_wsX, immD_wsX, immD_tup, oget_some, asI_int, asB_bl, oat_some, one_one, two_two, tri_tri, asT_tup, seqD_tup, seqD_lck, List.getElem?_cons_zero, List.getElem?_cons_succ, List.set_cons_zero, List.set_cons_succ, List.length_cons, List.length_nil])
local macro_rules | `(tactic| walk_at "lk") => `(tactic| try simp only [lk_end_begin, lk_end_way, lk_end_line, lk_end_driver, lk_end_drives, lk_end_lead, lk_end_is_level, lk_end_take, lk_co_lines, lk_co_left, lk_co_right, lk_co_knows, lk_co_is_begun, lk_co_tell_those_inside, lk_co_entry, lk_co_tell, lk_co_drive, lk_co_next_time, lk_co_is_told, lk_co_ends, lk_co_known, lk_co_bringer, oat_some, true_and])

section
variable {P : Program} {w : World} {K : PySem.W.Frag} {mg : Str → Option Value} {base : Heap} {aEnd aCourse : Addr} {PT cT aBadWalkers aBadChain aBadDeed aHalted aBadText aBadPlace aBadTime aBadPoint aNoWalker aNeverKnown aRoadError : Addr}

theorem strOk_ascii {l : List Nat} (h : ∀ c ∈ l, c < 128) : PyData.strOk (ofL l) = true := by
  unfold PyData.strOk
  refine Array.all_eq_true_iff_forall_mem.mpr fun c hc => decide_eq_true ?_
  have := h c (Array.mem_def.mp hc)
  omega
theorem wds_ok {r : List Nat} (h : ∀ c ∈ r, c < 128) (hl : r.length ≤ 2000) : WdsOk (cutL 32 [] r) where
  ne := cutL_ne 32 r []
  as := fun l hx => by
    have a := cutL_mem 32 (· < 128) r [] (fun _ z => nomatch z) h l hx
    have b := (cutL_len 32 r []).2 l hx
    exact ⟨a, by simp at b; omega, strOk_ascii a⟩
  few := by have := (cutL_len 32 r []).1; omega
/-- the rows' numbers, or the first row that isn't as rows are -/
def readR : Nat → List (List Nat) → Nat ⊕ List (List Int)
  | _, [] => .inr []
  | i, r :: rs => match rowB i (cutL 32 [] r) with
    | none => .inl i
    | some ns => match readR (i + 1) rs with
      | .inl k => .inl k
      | .inr x => .inr (ns :: x)
def numsD (nss : List (List Int)) : D := .tup (nss.map fun ns => .tup (ns.map .int))
/-- what a text is read as -/
def readV (l : List Nat) : Nat ⊕ (D × Int) := match readR 0 (cutL 10 [] l) with
  | .inl k => .inl k
  | .inr (n0 :: r) => .inr (numsD r, n0.headD 0)
  | .inr [] => .inl 0
def tupF (m : M) : D → Option D
  | .ref q => match m q with
    | some (.lst l) => some (.tup l)
    | _ => none
  | _ => none
theorem tupF_mapI (m : M) : ∀ (qs : List Addr) (ws : List (List Int)), qs.length = ws.length → (∀ (j : Nat) (q : Addr), qs[j]? = some q → ∃ w : List Int, ws[j]? = some w ∧ m q = some (.lst (w.map .int))) → (qs.map D.ref).filterMap (tupF m) = ws.map fun ns => D.tup (ns.map .int)
  | [], [], _, _ => rfl
  | [], _ :: _, h, _ => nomatch h
  | _ :: _, [], h, _ => nomatch h
  | q :: qs, w :: ws, hl, h => by
    obtain ⟨w', e1, e2⟩ := h 0 q rfl
    cases e1
    have e : tupF m (.ref q) = some (.tup (w.map .int)) := by simp only [tupF, e2]
    rw [List.map_cons, List.filterMap_cons_some e, tupF_mapI m qs ws (by simpa using hl) fun j p hp => h (j + 1) p (by rw [List.getElem?_cons_succ]; exact hp)]; rfl
theorem numsB_len : ∀ (ls : List (List Nat)) (ns : List Int), numsB ls = some ns → ns.length = ls.length
  | [], ns, h => by cases h; rfl
  | l :: r, ns, h => by
    unfold numsB at h
    split at h
    · rename_i n ns' e1 e2
      cases h
      rw [List.length_cons, List.length_cons, numsB_len r ns' e2]
    · cases h
theorem rowB_len {row : Nat} {ws : List (List Nat)} {ns : List Int} (h : rowB row ws = some ns) : ns.length = manyR row := by
  cases ws with
  | nil => cases h
  | cons a fs =>
    unfold rowB at h
    dsimp only at h
    split at h
    · rename_i c
      rw [numsB_len _ _ h]; exact c.2
    · cases h
theorem readR_len : ∀ (R : List (List Nat)) (i : Nat) {x : List (List Int)}, readR i R = .inr x → x.length = R.length
  | [], _, x, h => by cases h; rfl
  | r :: R, i, x, h => by
    unfold readR at h
    split at h
    · cases h
    · split at h
      · cases h
      · rename_i ns _ _ y e
        cases h
        rw [List.length_cons, List.length_cons, readR_len R (i + 1) e]
theorem read_head {R : List (List Nat)} {n0 : List Int} {dr : List (List Int)} (hR : R ≠ []) (h : readR 0 R = .inr (n0 :: dr)) : ∃ z, n0 = [z] := by
  cases R with
  | nil => exact absurd rfl hR
  | cons r R =>
    unfold readR at h
    split at h
    · cases h
    · rename_i ns e1
      split at h
      · cases h
      · cases h
        have := rowB_len e1
        match n0, this with
        | [z], _ => exact ⟨z, rfl⟩
def xRead (aT aW : Addr) : XSp2 := fun ds m Q G => ∃ l, ds = [.str (ofL l)] ∧ (∀ c ∈ l, c < 128) ∧ l.length ≤ 1700 ∧
  ((∃ k, readV l = .inl k ∧ G aT [("row", (k : Int))] m) ∨ ∃ o st, readV l = .inr (o, st) ∧ ((WsB o = none ∧ Q (.tup [o, .int st]) m) ∨ ∃ k, WsB o = some k ∧ G aW [("number", (k : Int))] m))
theorem lenx_read {aT aW ds m Q G} (h : xRead aT aW ds m Q G) : ds.length = 1 := by obtain ⟨_, rfl, _⟩ := h; rfl

abbrev s_read : Stmt := topS 29
theorem sc_read : FnScope ["text", "numbers", "row", "line", "walkers", "pair"] ["text"] (defScope s_read) := ⟨rfl, rfl, rfl, by decide +kernel, rfl, by decide +kernel, by decide +kernel⟩
theorem ok_read (T : Tx P w K mg base aEnd aCourse) {f : Addr} {fd : FuncData} (F : Fun K "read" "read" s_read f fd) (c2_check_walkers : D2 P w K mg base 5 "check_walkers" ["walkers"] (gCkWalkers aBadWalkers)) (c2_numbers_of : D2 P w K mg base 4 "numbers_of" ["row", "words"] (xNums aBadText)) (k2_BadText : K2 P w K mg base 1 "BadText" "row" aBadText) : Fn2 P w K mg base 7 f fd ["text"] (xRead aBadText aBadWalkers) := by
  refine fnX3 F sc_read (by intro ds m Q G h; exact lenx_read h) ⟨_, fun cdv A outer s H E hr tk hp => (xx_cons (xx_if (xt_not (xt_val (xe_cb xc_isi (by rfl) T.m_isinstance boot_isinstance (xa_cons (xe_var 0) (xa_cons (xe_bty (by rfl) T.m_str boot_str) xa_nil))))) (xx_one (xx_raise2D rfl tk k2_BadText (hr.mono (by decide)) (by rfl) xe_int)) (PSs.upX xss_nil))
      (xx_cons (PS.upX (xs_set (i := 1) sc_read.nd rfl (Or.inl rfl) (xe_lst xa_nil)))
      (xx_cons (xx_for (vs := [2, 3]) hp rfl (xi_enumL (by rfl) T.m_enumerate (xa_cons (xe_split (xe_var 0) xe_str) xa_nil)) (xg_tup (n := 2) rfl (xgs_cons (xg_name (i := 2) sc_read.nd rfl (Or.inl rfl) (by decide)) (xgs_cons (xg_name (i := 3) sc_read.nd rfl (Or.inl rfl) (by decide)) xgs_nil))) (xx_one (xx_expr (xe_append2 (xe_var 1) (xe_call2D tk c2_numbers_of (hr.mono (by decide)) (by rfl) (xa_cons (xe_var 2) (xa_cons (xe_split (xe_var 3) xe_str) xa_nil)))))))
      (xx_cons (PS.upX (xs_set (i := 4) sc_read.nd rfl (Or.inl rfl) (xe_tupleOf (by rfl) T.m_tuple (xe_lc (own := [("pair", 5)]) rfl sc_read.nd (xi_list (xe_slL (xe_var 1) (xp_some xe_int) xp_none)) (blkOk_by (N := ["text", "numbers", "row", "line", "walkers", "pair"]) (sc := defScope s_read) (by decide +kernel)) (fun _ _ _ _ _ => (xg_name (i := 5) sc_read.nd rfl (Or.inl rfl) (by decide))) (fun _ _ _ _ _ => xts_nil) (fun _ _ _ _ _ => (xe_tupleOf (by rfl) T.m_tuple (xe_var 5)))))))
      (xx_cons (xx_expr (xe_call2D tk c2_check_walkers (hr.mono (by decide)) (by rfl) (xa_cons (xe_var 4) xa_nil)))
      (xx_one (PS.upX (xs_ret (xe_tup (xa_cons (xe_var 4) (xa_cons (xe_ix (xe_ix (xe_var 1) xe_int) xe_int) xa_nil))))))))))), fun ds m Q G h => ?_⟩

  obtain ⟨l, rfl, la, ll, hc⟩ := h
  show xSeq2 _ _ _ _ [some (.str (ofL l)), none, none, none, none, none] m
  refine hide2 fun K1 hK1 => ?_
  walk_at "rd"
  simp only [tyD, oat_some, show kitB "str" "str" = some true from by decide +kernel, Bool.not_true, Bool.false_eq_true, if_false]
  rw [hK1]
  clear hK1
  refine hide2 fun K1 hK1 => ?_
  walk_at "rd"
  refine ⟨Nat.zero_le _, fun pN hpN => ?_⟩
  rw [hK1]
  clear hK1
  refine hide2 fun K1 hK1 => ?_
  walk_at "rd"
  refine ⟨by decide +kernel, le_bg (by show l.length + 2 ≤ 100000; omega), fun pL hpL => ?_⟩
  obtain ⟨R, hR0⟩ : ∃ R, cutL 10 [] l = R := ⟨_, rfl⟩
  have Rlen : R.length ≤ 1701 := by have := (cutL_len 10 l []).1; rw [hR0] at this; omega
  have Ras : ∀ r ∈ R, (∀ c ∈ r, c < 128) ∧ r.length ≤ 1700 := fun r hr => by
    rw [← hR0] at hr
    have := (cutL_len 10 l []).2 r hr
    exact ⟨cutL_mem 10 (· < 128) l [] (fun _ z => nomatch z) la r hr, by simp at this; omega⟩
  have Rne : R ≠ [] := by rw [← hR0]; exact cutL_ne 10 l []
  rw [show (Str.ofString "\n") = ofL [10] from by decide +kernel, split_ofL la (by decide), hR0, asL_ref updM_same]
  have hL : updM (updM m pN (.lst [])) pL (.lst ((R.map ofL).map D.str)) pL = some (.lst ((R.map ofL).map D.str)) := updM_same
  have hN : updM (updM m pN (.lst [])) pL (.lst ((R.map ofL).map D.str)) pN = some (.lst (([] : List Addr).map D.ref)) := by rw [updM_ne (neW updM_same hpL), updM_same]; rfl
  have hM : Sub m (updM (updM m pN (.lst [])) pL (.lst ((R.map ofL).map D.str))) := (Sub.refl.upd hpN).upd hpL
  have nL : pN ≠ pL := neW updM_same hpL
  generalize updM (updM m pN (.lst [])) pL (.lst ((R.map ofL).map D.str)) = m1 at hL hN hM ⊢
  refine xLoop2_ind (fun ds e m' => ∃ (i : Nat) (rest : List (List Nat)) (qs : List Addr) (dn : List (List Int)) (x2 x3 : Option D), ds = enumD i ((rest.map ofL).map D.str) ∧ R.drop i = rest ∧ qs.length = i ∧ dn.length = i ∧ e = [some (.str (ofL l)), some (.ref pN), x2, x3, none, none] ∧ m' pL = some (.lst ((R.map ofL).map D.str)) ∧ m' pN = some (.lst (qs.map D.ref)) ∧ Sub m m' ∧ (∀ (j : Nat) (q : Addr), qs[j]? = some q → q ≠ pN ∧ ∃ ns : List Int, dn[j]? = some ns ∧ m' q = some (.lst (ns.map D.int))) ∧ readR 0 R = (match readR i rest with | .inl k => .inl k | .inr x => .inr (dn ++ x)))
    ?_ ?_ _ _ _ ⟨0, R, [], [], none, none, rfl, rfl, rfl, rfl, rfl, hL, hN, hM, (fun j q h => by simp at h), by cases readR 0 R <;> rfl⟩
  · intro e m' ⟨i, rest, qs, dn, x2, x3, g1, g2, g3, g4, g5, hL, hN, hM, hq, hr⟩
    cases rest with
    | cons r rest => cases g1
    | nil =>
    subst g5
    have iR : R.length ≤ i := List.drop_eq_nil_iff.mp g2
    have hdn : readR 0 R = .inr dn := by rw [hr]; unfold readR; simp
    obtain ⟨q0, qr, rfl⟩ : ∃ q0 qr, qs = q0 :: qr := by
      cases qs with
      | nil => have := List.length_pos_iff.mpr Rne; simp at g3; omega
      | cons a b => exact ⟨a, b, rfl⟩
    obtain ⟨n0, dr, rfl⟩ : ∃ n0 dr, dn = n0 :: dr := by
      cases dn with
      | nil => have := List.length_pos_iff.mpr Rne; simp at g4; omega
      | cons a b => exact ⟨a, b, rfl⟩
    obtain ⟨z0, hz0⟩ := read_head Rne hdn
    subst hz0
    have rv : readV l = .inr (numsD dr, z0) := by unfold readV; rw [hR0, hdn]; rfl
    have dl : dr.length ≤ 1701 := by
      have := readR_len R 0 hdn
      simp at this; omega
    have hc2 : (WsB (numsD dr) = none ∧ Q (.tup [numsD dr, .int z0]) m) ∨ ∃ k, WsB (numsD dr) = some k ∧ G aBadWalkers [("number", (k : Int))] m := by
      rcases hc with ⟨k, e, _⟩ | ⟨o, st, e, hc⟩
      · rw [rv] at e; cases e
      · rw [rv] at e; cases e; exact hc
    refine ⟨hL, ?_⟩
    dsimp only
    rw [hK1]
    clear hK1
    refine hide2 fun K1 hK1 => ?_
    walk_at "rd"
    rw [lstD_ref hN, oat_some]
    intro pC hpC
    rw [show cutD ((q0 :: qr).map D.ref) (some 1) none = qr.map D.ref from by
      rw [show (1 : Int) = ((0 : Nat) : Int) + 1 from rfl, cut_drop (by simp)]; rfl]
    have hC : updM m' pC (.lst (qr.map D.ref)) pC = some (.lst (qr.map D.ref)) := updM_same
    have kC : Sub m' (updM m' pC (.lst (qr.map D.ref))) := Sub.refl.upd hpC
    generalize updM m' pC (.lst (qr.map D.ref)) = m2 at hC kC ⊢
    rw [asL_ref hC]
    have qlen : qr.length = dr.length := by simp at g3 g4; omega
    have qat : ∀ (j : Nat) (q : Addr), qr[j]? = some q → ∃ w : List Int, dr[j]? = some w ∧ m2 q = some (.lst (w.map .int)) := fun j q hj => by
      obtain ⟨_, ns, e1, e2⟩ := hq (j + 1) q (by rw [List.getElem?_cons_succ]; exact hj)
      exact ⟨ns, by rw [List.getElem?_cons_succ] at e1; exact e1, kC _ _ e2⟩
    refine xLcG_pure (tupF m2) hC _ _ (fun x hx R hR => ?_) (by simp; exact lt_bg (by omega)) (fun pD hpD => ?_)
    · obtain ⟨q, hq', rfl⟩ := List.mem_map.mp hx
      obtain ⟨j, hj⟩ := List.getElem?_of_mem hq'
      obtain ⟨w, hw, e⟩ := qat j q hj
      simp only [wipeD, List.map_cons, List.map_nil]
      walk_at "rd"
      simp only [tupF, e] at hR
      rw [seqD_ref e]
      exact hR
    rw [List.nil_append, tupF_mapI m2 qr dr qlen qat, seqD_ref updM_same]
    simp only [oat_some]
    rw [hK1]
    clear hK1
    refine hide2 fun K1 hK1 => ?_
    walk_at "rd"
    have kD : Sub m2 (updM m2 pD (.lst (dr.map fun ns => D.tup (ns.map .int)))) := Sub.refl.upd hpD
    have f0 : ∃ ns : List Int, m' q0 = some (.lst (ns.map .int)) ∧ ns = [z0] := by
      obtain ⟨_, ns, e1, e2⟩ := hq 0 q0 rfl
      cases e1
      exact ⟨[z0], e2, rfl⟩
    obtain ⟨ns0, f1, rfl⟩ := f0
    refine ⟨numsD dr, rfl, ⟨trivial, fun xs e x hx => ?_⟩, ?_⟩
    · cases e
      obtain ⟨ns, _, rfl⟩ := List.mem_map.mp hx
      refine ⟨trivial, fun ys e y hy => ?_⟩
      cases e
      obtain ⟨n, _, rfl⟩ := List.mem_map.mp hy
      trivial
    rcases hc2 with ⟨e, q⟩ | ⟨k, e, g⟩
    · refine .inl ⟨e, ?_⟩
      rw [hK1]
      clear hK1
      walk_at "rd"
      rw [seqD_ref (kD _ _ (kC _ _ hN))]
      simp only [oat_some, List.map_cons, atI_0]
      rw [seqD_ref (kD _ _ (kC _ _ f1))]
      simp only [oat_some, List.map_cons, atI_0]
      exact ⟨two_sz, m, fun b o h => kD _ _ (kC _ _ (hM b o h)), q⟩
    · exact .inr ⟨k, e, m, fun b o h => kD _ _ (kC _ _ (hM b o h)), g⟩
  · intro d ds e m' Rk ⟨i, rest, qs, dn, x2, x3, g1, g2, g3, g4, g5, hL, hN, hM, hq, hr⟩ hRk
    cases rest with
    | nil => cases g1
    | cons r rest =>
    cases g1
    subst g5
    refine ⟨hL, ?_⟩
    have hi : R[i]? = some r := by rw [← List.head?_drop, g2]; rfl
    have il : i < R.length := (List.getElem?_eq_some_iff.mp hi).1
    have or := Ras r (List.mem_of_getElem? hi)
    walk_at "rd"
    refine ⟨by first | trivial | rfl, by first | trivial | rfl, ?_⟩
    rw [asL_ref hN]
    skip
    refine ⟨by decide +kernel, le_bg (by show r.length + 2 ≤ 100000; omega), fun p1 hp1 => ?_⟩
    rw [show (Str.ofString " ") = ofL [32] from by decide +kernel, split_ofL or.1 (by decide), show ((cutL 32 [] r).map ofL).map D.str = wdsD (cutL 32 [] r) from by unfold wdsD; rw [List.map_map]; rfl]
    refine ⟨i, p1, cutL 32 [] r, rfl, by omega, wds_ok or.1 (by omega), updM_same, ?_⟩
    cases hb : rowB i (cutL 32 [] r) with
    | none =>
      refine .inr ⟨rfl, m, hM.upd hp1, ?_⟩
      have e : readV l = .inl i := by
        have e2 : readR 0 R = .inl i := by
          rw [hr]
          unfold readR
          rw [hb]
        unfold readV
        rw [hR0, e2]
      rcases hc with ⟨k, e2, g⟩ | ⟨o, st, e2, _⟩
      · rw [e] at e2; cases e2; exact g
      · rw [e] at e2; cases e2
    | some ns =>
      refine .inl ⟨ns, rfl, fun q hq1 => ?_⟩
      have keep : Sub m' (updM (updM m' p1 (.lst (wdsD (cutL 32 [] r)))) q (.lst (ns.map .int))) := (Sub.refl.upd hp1).upd hq1
      have atq : updM (updM m' p1 (.lst (wdsD (cutL 32 [] r)))) q (.lst (ns.map .int)) q = some (.lst (ns.map .int)) := updM_same
      have qn : q ≠ pN := fun z => by
        have := (Sub.refl.upd (o := .lst (wdsD (cutL 32 [] r))) hp1) _ _ hN
        rw [← z, hq1] at this; cases this
      generalize updM (updM m' p1 (.lst (wdsD (cutL 32 [] r)))) q (.lst (ns.map .int)) = m2 at keep atq ⊢
      dsimp only
      rw [asL_ref (keep _ _ hN)]
      refine ⟨by rw [List.length_map]; exact lt_bg (by omega), ?_⟩
      refine hRk _ _ ⟨i + 1, rest, qs ++ [q], dn ++ [ns], _, _, rfl, ?_, by simp [g3], by simp [g4], rfl, by rw [updM_ne nL.symm]; exact keep _ _ hL, by rw [updM_same, List.map_append]; rfl, fun b o h => ?_, fun j q' hj => ?_, ?_⟩
      · rw [← List.tail_drop, g2]; rfl
      · have z : b ≠ pN := neW h hpN
        rw [updM_ne z]; exact keep _ _ (hM b o h)
      · by_cases c : j < qs.length
        · rw [List.getElem?_append_left c] at hj
          obtain ⟨n1, ns', e1, e2⟩ := hq j q' hj
          exact ⟨n1, ns', by rw [List.getElem?_append_left (by omega)]; exact e1, by rw [updM_ne n1]; exact keep _ _ e2⟩
        · rw [List.getElem?_append_right (by omega)] at hj
          have j0 : j - qs.length = 0 := by
            by_cases z : j - qs.length = 0
            · exact z
            · rw [List.getElem?_eq_none (by simp; omega)] at hj; cases hj
          rw [j0] at hj
          cases hj
          exact ⟨qn, ns, by rw [List.getElem?_append_right (by omega), show j - dn.length = 0 by omega]; rfl, by rw [updM_ne qn]; exact atq⟩
      · rw [hr]
        conv => lhs; unfold readR
        rw [hb]
        cases readR (i + 1) rest with
        | inl k => rfl
        | inr x => simp
end
end Sd

set_option Elab.async false
set_option linter.all false
set_option maxRecDepth 100000
set_option maxHeartbeats 4000000
namespace Sd
open PySem PySem.Spec PyProof.Rows L2
local macro_rules | `(tactic| walk_at "rd") => `(tactic| try simp only [xSeq, xAsg, gNm, xRet, xRetN, xIfS, xNext, xDrop, xFor, iRg1, iRg2, iEnuD, gTp, gCo, gNo, gSet, xVar, xC, xOp, xI, xI0, xNeg, xEq, xNe, xIs, xIsNot, xB, xAndT, xOrT, xNotT, xAnd, xOr, xNot, xIfE, xChain, xIx, xNil, xCons, xTup, xLst, xGc, xCall, xMeth, xMake, xFld, xFldS, xApp, xPar, xPar3, xLc, xYes, xCB, xLen, xAbs, x2I, xInt, xList, xTupOf, xIsi, xIsT, iTp, iLst, iZpX, xCat, xCatT, xSlL, xSlT, xpNone, xpSome, xGcS, xBreak, xCont, xIn, xNotIn, xIntB, asBl_bl, xLstRg1, xLstRg2, xTupH, xDNewT, xDNewK, xDPutK, xDGetK, iEnuL, xEqZ, xNeZ, iRevRg1, xLstRev, iZpY, xSortSet, xSortSetA, xRvs, xFmtI, xJs, xStrI, xIntS, xLenS, xAddS, xSplit, xJoin, xRmPre, xIsDec, asS_str, xWord, xCall2, xSeq2, xIf2, xFor2, xRaise2, xRaiseN, xDrop2, xRet2, xIxS, xSlS, xInS, xNotInS, iTxt, xMulS, xRepL, xApp2, xAsg2, xFld2, iLst2, xFor3, xNotInT, asT_tup, xCnt, xIdx, xCls, xXf, xInF, xDGetF, iKeyF, xDictF, iRg3, xRevSl, iSq, seqD_wsX, immD_wsX, immD_tup, oget_some, asI_int, asB_bl, oat_some, one_one, two_two, tri_tri, asT_tup, seqD_tup, seqD_lck, List.getElem?_cons_zero, List.getElem?_cons_succ, List.set_cons_zero, List.set_cons_succ, List.length_cons, List.length_nil])
local macro_rules | `(tactic| walk_at "lk") => `(tactic| try simp only [lk_end_begin, lk_end_way, lk_end_line, lk_end_driver, lk_end_drives, lk_end_lead, lk_end_is_level, lk_end_take, lk_co_lines, lk_co_left, lk_co_right, lk_co_knows, lk_co_is_begun, lk_co_tell_those_inside, lk_co_entry, lk_co_tell, lk_co_drive, lk_co_next_time, lk_co_is_told, lk_co_ends, lk_co_known, lk_co_bringer, oat_some, true_and])

section
variable {P : Program} {w : World} {K : PySem.W.Frag} {mg : Str → Option Value} {base : Heap} {aEnd aCourse : Addr} {PT cT aBadWalkers aBadChain aBadDeed aHalted aBadText aBadPlace aBadTime aBadPoint aNoWalker aNeverKnown aRoadError : Addr}

def numD (l : List Nat) : D := match numB l with
  | some n => .int n
  | none => .non
def spLN : XSp := fun ds m Q => ∃ l, ds = [.str (ofL l)] ∧ (∀ c ∈ l, c < 128) ∧ l.length ≤ 4000 ∧ Q (numD l) m
theorem sl_to (l : List Nat) : Txt.slice (ofL l) none (some 1) = ofL (l.take 1) := SX.slice_to (a := l) (i := 1) (by decide)
theorem sl_from (l : List Nat) : Txt.slice (ofL l) (some 1) none = ofL (l.drop 1) := SX.slice_from (a := l) (i := 1) (by decide)
theorem ofL_inj {a b : List Nat} (h : ofL a = ofL b) : a = b := by
  unfold ofL at h
  injection h with h
  injection h
theorem dash_iff (l : List Nat) : ofL (l.take 1) = ("-" : Str) ↔ ∃ r, l = 45 :: r := by
  rw [show ("-" : Str) = ofL [45] from by decide +kernel]
  constructor
  · intro h
    have := ofL_inj h
    cases l with
    | nil => cases this
    | cons c r => simp at this; exact ⟨r, by rw [this]⟩
  · rintro ⟨r, rfl⟩
    rfl
theorem figL_dash (r : List Nat) : figL (45 :: r) = r := rfl
theorem figL_no {l : List Nat} (h : ¬ ∃ r, l = 45 :: r) : figL l = l := by
  unfold figL
  split
  · rename_i r; exact absurd ⟨r, rfl⟩ h
  · rfl
theorem ascii_ok {l : List Nat} (h : ∀ c ∈ l, c < 128) : PyData.strOk (ofL l) = true := strOk_ascii h
abbrev digZ : Str := "0123456789"
theorem dig_all : ((List.range 128).all fun c => (Unicode.isDecimal c) == decide (c ∈ digZ.cps.toList)) = true := by decide +kernel
theorem dig_at {c : Nat} (h : c < 128) : Unicode.isDecimal c = decide (c ∈ digZ.cps.toList) := by
  have := List.all_eq_true.mp dig_all c (List.mem_range.mpr h)
  exact beq_iff_eq.mp this
def badC (f : List Nat) : List Nat := f.filter fun c => !decide (c ∈ digZ.cps.toList)
theorem dec_bad {f : List Nat} (ha : ∀ c ∈ f, c < 128) : Txt.isdecimal (ofL f) = (decide (0 < f.length) && decide (badC f = [])) := by
  rw [dec_ofL]
  congr 1
  rw [Bool.eq_iff_iff, List.all_eq_true, decide_eq_true_eq]
  unfold badC
  rw [List.filter_eq_nil_iff]
  constructor
  · intro h c hc
    have := h c hc
    rw [dig_at (ha c hc)] at this
    rw [this]; decide
  · intro h c hc
    have := h c hc
    rw [dig_at (ha c hc)]
    cases z : decide (c ∈ digZ.cps.toList) with
    | true => rfl
    | false => rw [z] at this; exact absurd rfl this
def sgD (c : Nat) : D := .str ⟨#[c]⟩
def sgP (c : Nat) : PyData := .str ⟨#[c]⟩
theorem signs_ofL (f : List Nat) : signs (ofL f) = f.map sgD := rfl
def sgF : D → Option D
  | .str s => if inS s digZ = true then none else some (.str s)
  | _ => none
theorem sgF_map : ∀ f : List Nat, (f.map sgD).filterMap sgF = (badC f).map sgD
  | [] => rfl
  | c :: f => by
    have e : sgF (sgD c) = if decide (c ∈ digZ.cps.toList) = true then none else some (sgD c) := by simp only [sgF, sgD]; rw [inS_sign]
    unfold badC
    rw [List.map_cons, List.filter_cons]
    cases z : decide (c ∈ digZ.cps.toList) with
    | true => rw [z, if_pos rfl] at e; rw [List.filterMap_cons_none e, sgF_map f]; rfl
    | false => rw [z, if_neg (by decide)] at e; rw [List.filterMap_cons_some e, sgF_map f]; rfl
theorem sg_ok {c : Nat} (h : c < 128) : PyData.strOk ⟨#[c]⟩ = true := strOk_ascii (l := [c]) fun d hd => by rw [List.mem_singleton.mp hd]; exact h
theorem toPys_sg : ∀ f : List Nat, toPys (f.map sgD) = some (f.map sgP)
  | [] => by simp [toPys]
  | c :: f => by simp [toPys, sgD, sgP, toPy, toPys_sg f]
theorem lay_sg : ∀ f : List Nat, (∀ c ∈ f, c < 128) → PyData.canLayAll0 (f.map sgP) = true ∧ PyData.depthAll (f.map sgP) ≤ 10
  | [], _ => by simp [PyData.canLayAll0, PyData.depthAll]
  | c :: f, h => by
    obtain ⟨h1, h2⟩ := lay_sg f fun d hd => h d (List.mem_cons_of_mem _ hd)
    have h3 : PyData.depth (sgP c) ≤ 10 := by simp [PyData.depth, sgP]
    refine ⟨by simp [PyData.canLayAll0, PyData.canLay0, h1, sgP, sg_ok (h c List.mem_cons_self)], ?_⟩
    rw [List.map_cons, PyData.depthAll]
    exact Nat.max_le.mpr ⟨h3, h2⟩
theorem eq_signs {m : M} {p q : Addr} {f : List Nat} {k : Bool → Prop} (ha : ∀ c ∈ f, c < 128) (h1 : m p = some (.lst (f.map sgD))) (h2 : m q = some (.lst [])) (h : k (decide (f = []))) : eqD m (.ref p) (.ref q) k := by
  refine ⟨.list (f.map sgP), .list [], by simp [toPyM, h1, toPys_sg], by simp [toPyM, h2, toPys], ?_, rfl, ?_⟩
  · obtain ⟨h1, h2⟩ := lay_sg f ha
    unfold SeqAt.shaped
    rw [PyData.canLay0, PyData.depth, h1, Bool.true_and]
    exact decide_eq_true (by omega)
  · cases f <;> exact h
theorem figL_asc {l : List Nat} (ha : ∀ c ∈ l, c < 128) : ∀ c ∈ figL l, c < 128 := fun c hc => by
  unfold figL at hc
  split at hc
  · exact ha c (List.mem_cons_of_mem _ hc)
  · exact ha c hc
theorem len_law_number {ds m Q} (h : spLN ds m Q) : ds.length = 1 := by obtain ⟨_, rfl, _⟩ := h; rfl

abbrev s_law_number : Stmt := topS 54
theorem sc_law_number : FnScope ["_law_word_here", "_law_figures", "_law_sign"] ["_law_word_here"] (defScope s_law_number) := ⟨rfl, rfl, rfl, by decide +kernel, rfl, by decide +kernel, by decide +kernel⟩
theorem ok_law_number (T : Tx P w K mg base aEnd aCourse) {f : Addr} {fd : FuncData} (F : Fun K "_law_number" "_law_number" s_law_number f fd)  : FnX P w K mg base 1 f fd ["_law_word_here"] spLN := by
  refine fnX F sc_law_number (by intro ds m Q h; exact len_law_number h) ⟨_, fun cdv A outer s H E hr => (xss_cons (xs_set (i := 1) sc_law_number.nd rfl (Or.inl rfl) (xe_ifExp (xt_cmp (xo_eq hr.units) (xe_slS (xe_var 0) xp_none (xp_some xe_int)) xe_str (nomark _)) (xe_slS (xe_var 0) (xp_some xe_int) xp_none) (xe_var 0)))
      (xss_cons (xs_if (PW.pt (xw_or (xt_cmp xo_notInT (xe_cb xc_lenS (by rfl) T.m_len boot_len (xa_cons (xe_var 1) xa_nil)) (xe_tup (xa_cons xe_int (xa_cons xe_int xa_nil))) rfl) (xw_or1 (xt_cmp (xo_ne hr.units) (xe_lc (own := [("_law_sign", 2)]) rfl sc_law_number.nd (xi_str (xe_var 1)) (blkOk_by (N := ["_law_word_here", "_law_figures", "_law_sign"]) (sc := defScope s_law_number) (by decide +kernel)) (fun _ _ _ _ _ => (xg_name (i := 2) sc_law_number.nd rfl (Or.inl rfl) (by decide))) (fun _ _ _ _ _ => (xts_one (xt_cmp xo_notInS (xe_var 2) xe_str rfl))) (fun _ _ _ _ _ => (xe_var 2))) (xe_lst xa_nil) (nomark _))))) (xss_one (xs_ret xe_non)) xss_nil)
      (xss_cons (xs_if (PW.pt (xw_and (xt_cmp (xo_eq hr.units) (xe_ixS (xe_var 1) xe_int) xe_str (nomark _)) (xw_and1 (PW.pt (xw_or (xt_cmp (xo_eq hr.units) (xe_cb xc_lenS (by rfl) T.m_len boot_len (xa_cons (xe_var 1) xa_nil)) xe_int (nomark _)) (xw_or1 (xt_cmp (xo_ne hr.units) (xe_var 0) xe_str (nomark _)))))))) (xss_one (xs_ret xe_non)) xss_nil)
      (xss_one (xs_ret (xe_ct xc_intS (by rfl) T.m_int boot_int (xa_cons (xe_var 0) xa_nil))))))), fun ds m Q h => ?_⟩

  obtain ⟨l, rfl, la, ll, q⟩ := h
  show xSeq _ _ _ [some (.str (ofL l)), none, none] m
  refine hide fun K1 hK1 => ?_
  walk_at "rd"
  have sz : (ofL l).length ≤ sizeLine := le_bg (by show l.length ≤ 100000; omega)
  refine ⟨sz, ?_⟩
  rw [sl_to, sl_from]
  refine eq_str (strOk_ascii fun c hc => la c (List.mem_of_mem_take hc)) (by decide +kernel) ?_
  have go : K1 [some (.str (ofL l)), some (.str (ofL (figL l))), none] m := by
    rw [hK1]
    clear hK1
    refine hide fun K1 hK1 => ?_
    walk_at "rd"
    have fl := figL_len l
    have fa := figL_asc la
    refine ⟨le_bg (by rw [ofL_len]; omega), two_sz, ?_⟩
    rw [show allI [D.int 1, D.int 2] = some [1, 2] from rfl, oat_some]
    have q' : ∀ d : D, numD l = d → Q d m := fun d e => by rw [← e]; exact q
    by_cases c : (figL l).length = 1 ∨ (figL l).length = 2
    rotate_left
    · rw [if_pos (by rw [ofL_len]; simp; omega), if_pos trivial]
      refine ⟨m, .refl, q' _ ?_⟩
      unfold numD numB
      rw [dec_bad fa]
      by_cases z : (figL l).length ≤ 2
      · rw [decide_eq_false (show ¬ 0 < (figL l).length by omega)]; rfl
      · rw [decide_eq_false z]; simp
    rw [if_neg (by rw [ofL_len]; simp; omega), signs_ofL]
    refine xLcG_pure sgF trivial _ _ (fun x hx R hR => ?_) (by simp; exact lt_bg (by omega)) (fun p1 hp1 => ?_)
    · obtain ⟨c, hc, rfl⟩ := List.mem_map.mp hx
      simp only [wipeD, List.map_cons, List.map_nil, sgD]
      walk_at "rd"
      simp only [sgF, sgD] at hR
      cases z : inS ⟨#[c]⟩ digZ with
      | true => rw [z, if_pos rfl] at hR; exact hR
      | false => rw [z, if_neg (by decide)] at hR; exact hR
    rw [List.nil_append, sgF_map]
    refine ⟨Nat.zero_le _, fun p2 hp2 => ?_⟩
    have ba : ∀ c ∈ badC (figL l), c < 128 := fun c hc => fa c (List.mem_filter.mp hc).1
    refine eq_signs ba (by rw [updM_ne (neW updM_same hp2), updM_same]) updM_same ?_
    have sb : Sub m (updM (updM m p1 (.lst ((badC (figL l)).map sgD))) p2 (.lst [])) := (Sub.refl.upd hp1).upd hp2
    by_cases cb : badC (figL l) = []
    rotate_left
    · rw [decide_eq_false cb, if_pos (by decide)]
      refine ⟨m, sb, q' _ ?_⟩
      unfold numD numB
      rw [dec_bad fa, decide_eq_false cb]; simp
    rw [decide_eq_true cb, if_neg (by decide)]
    generalize updM (updM m p1 (.lst ((badC (figL l)).map sgD))) p2 (.lst []) = m1 at sb ⊢
    have dec : Txt.isdecimal (ofL (figL l)) = true := by rw [dec_bad fa, decide_eq_true cb, decide_eq_true (by omega)]; rfl
    rw [hK1]
    clear hK1
    obtain ⟨c0, fr, hf⟩ : ∃ c0 fr, figL l = c0 :: fr := by
      cases e : figL l with
      | nil => rw [e] at c; simp at c
      | cons a b => exact ⟨a, b, rfl⟩
    have nb : numB l = if numOk l then PySem.intText? (ofL l) else none := by
      unfold numB
      rw [dec, decide_eq_true (by omega)]; simp
    have a0 : c0 < 128 := fa c0 (by rw [hf]; exact List.mem_cons_self)
    walk_at "rd"
    refine ⟨c0, by decide, by decide, by rw [hf, ofL_len, List.length_cons]; omega, by rw [hf]; rfl, eq_str (sg_ok a0) (by decide +kernel) ?_⟩
    have e0 : decide ((⟨#[c0]⟩ : Str) = "0") = decide ((figL l).head? = some 48) := by
      rw [hf]
      show decide (ofL [c0] = ("0" : Str)) = decide (some c0 = some 48)
      rw [show ("0" : Str) = ofL [48] from by decide +kernel]
      by_cases z : c0 = 48
      · subst z; simp
      · rw [decide_eq_false (fun y => z (by have := ofL_inj y; simpa using this)), decide_eq_false (fun y => z (by simpa using y))]
    rw [e0]
    have no : numOk l = !(decide ((figL l).head? = some 48) && (decide ((figL l).length = 2) || decide (l ≠ [48]))) := rfl
    have out : numOk l = false → ∃ m2, Sub m2 m1 ∧ Q .non m2 := fun h => ⟨m, sb, q' _ (by unfold numD; rw [nb, h]; rfl)⟩
    have fine : numOk l = true → ∃ n, PySem.intText? (ofL l) = some n ∧ (ofL l).length ≤ 640 ∧ ∃ m2, Sub m2 m1 ∧ Q (.int n) m2 := fun h => by
      obtain ⟨n, e1, e2, e3⟩ := numB_out la (by rw [nb, h, if_pos rfl]
                                                obtain ⟨hf, _⟩ := fig_ok la dec (by omega)
                                                unfold figOk at hf
                                                cases e : PySem.intText? (ofL l) with
                                                | none => rw [e] at hf; cases hf
                                                | some n => rfl)
      exact ⟨n, e2, by omega, m, sb, q' _ (by unfold numD; rw [e1])⟩
    cases z1 : decide ((figL l).head? = some 48) with
    | false =>
      rw [z1] at no
      rw [if_neg (by decide)]
      exact fine (by rw [no]; rfl)
    | true =>
      rw [z1] at no
      rw [if_pos rfl]
      refine ⟨le_bg (by rw [ofL_len]; omega), eq_int ?_⟩
      by_cases z2 : (figL l).length = 2
      · rw [decide_eq_true (show (((ofL (figL l)).length : Nat) : Int) = 2 by rw [ofL_len]; omega), if_pos rfl]
        exact out (by rw [no, decide_eq_true z2]; rfl)
      · rw [decide_eq_false (show ¬ (((ofL (figL l)).length : Nat) : Int) = 2 by rw [ofL_len]; omega), if_neg (by decide)]
        refine eq_str (strOk_ascii la) (by decide +kernel) ?_
        rw [show ("0" : Str) = ofL [48] from by decide +kernel]
        by_cases z3 : l = [48]
        · rw [decide_eq_true (by rw [z3]), if_neg (by decide)]
          exact fine (by rw [no, decide_eq_false z2, decide_eq_false (fun y => y z3)]; rfl)
        · rw [decide_eq_false (fun y => z3 (ofL_inj y)), if_pos (by decide)]
          try rw [if_pos trivial]
          exact out (by rw [no, decide_eq_true z3]; simp)
  by_cases c : ∃ r, l = 45 :: r
  · rw [decide_eq_true ((dash_iff l).mpr c), if_pos rfl]
    obtain ⟨r, rfl⟩ := c
    exact ⟨sz, go⟩
  · rw [decide_eq_false (fun z => c ((dash_iff l).mp z)), if_neg (by decide)]
    rw [figL_no c] at go
    exact go
end
end Sd

set_option Elab.async false
set_option linter.all false
set_option maxRecDepth 100000
set_option maxHeartbeats 4000000
namespace Sd
open PySem PySem.Spec PyProof.Rows L2
local macro_rules | `(tactic| walk_at "rd") => `(tactic| try simp only [xSeq, xAsg, gNm, xRet, xRetN, xIfS, xNext, xDrop, xFor, iRg1, iRg2, iEnuD, gTp, gCo, gNo, gSet, xVar, xC, xOp, xI, xI0, xNeg, xEq, xNe, xIs, xIsNot, xB, xAndT, xOrT, xNotT, xAnd, xOr, xNot, xIfE, xChain, xIx, xNil, xCons, xTup, xLst, xGc, xCall, xMeth, xMake, xFld, xFldS, xApp, xPar, xPar3, xLc, xYes, xCB, xLen, xAbs, x2I, xInt, xList, xTupOf, xIsi, xIsT, iTp, iLst, iZpX, xCat, xCatT, xSlL, xSlT, xpNone, xpSome, xGcS, xBreak, xCont, xIn, xNotIn, xIntB, asBl_bl, xLstRg1, xLstRg2, xTupH, xDNewT, xDNewK, xDPutK, xDGetK, iEnuL, xEqZ, xNeZ, iRevRg1, xLstRev, iZpY, xSortSet, xSortSetA, xRvs, xFmtI, xJs, xStrI, xIntS, xLenS, xAddS, xSplit, xJoin, xRmPre, xIsDec, asS_str, xWord, xCall2, xSeq2, xIf2, xFor2, xRaise2, xRaiseN, xDrop2, xRet2, xIxS, xSlS, xInS, xNotInS, iTxt, xMulS, xRepL, xApp2, xAsg2, xFld2, iLst2, xFor3, xNotInT, asT_tup, xCnt, xIdx, xCls, xXf, xInF, xDGetF, iKeyF, xDictF, iRg3, xRevSl, iSq, seqD_wsX, immD_wsX, immD_tup, oget_some, asI_int, asB_bl, oat_some, one_one, two_two, tri_tri, asT_tup, seqD_tup, seqD_lck, List.getElem?_cons_zero, List.getElem?_cons_succ, List.set_cons_zero, List.set_cons_succ, List.length_cons, List.length_nil])
local macro_rules | `(tactic| walk_at "lk") => `(tactic| try simp only [lk_end_begin, lk_end_way, lk_end_line, lk_end_driver, lk_end_drives, lk_end_lead, lk_end_is_level, lk_end_take, lk_co_lines, lk_co_left, lk_co_right, lk_co_knows, lk_co_is_begun, lk_co_tell_those_inside, lk_co_entry, lk_co_tell, lk_co_drive, lk_co_next_time, lk_co_is_told, lk_co_ends, lk_co_known, lk_co_bringer, oat_some, true_and])

section
variable {P : Program} {w : World} {K : PySem.W.Frag} {mg : Str → Option Value} {base : Heap} {aEnd aCourse : Addr} {PT cT aBadWalkers aBadChain aBadDeed aHalted aBadText aBadPlace aBadTime aBadPoint aNoWalker aNeverKnown aRoadError : Addr}

section
variable (aEnd aCourse : Addr)
structure CoAt (m : M) (c aL aR dL dR kn : Addr) (S : CoS) : Prop where
  co : m c = some (.ins aCourse (coF S.ws aL aR kn))
  lf : m aL = some (.ins aEnd (endF S.left dL))
  rg : m aR = some (.ins aEnd (endF S.right dR))
  ld : m dL = some (.lst (drvsD S.left.drives))
  rd : m dR = some (.lst (drvsD S.right.drives))
  kk : m kn = some (.lst (S.knows.map knD))
  n1 : aL ≠ aR
  n2 : dL ≠ dR
  n3 : dL ≠ kn
  n4 : dR ≠ kn
end
structure CoS.Good (S : CoS) : Prop where
  ok : S.Ok
  ws : ∀ w ∈ S.ws, WSm w
  n8 : S.ws.length ≤ 8
  lb : S.left.bg = S.start
  rb : S.right.bg = S.hi
  ll : WSm S.left.line
  rl : WSm S.right.line
  dl : S.left.drives.length + quick S.left S.ws ≤ 8
  dr : S.right.drives.length + quick S.right S.ws ≤ 8
  kn : ∀ p, some p ∈ S.knows → Sml p.1.den
theorem ne_of_get {m : M} {a b : Addr} {o u : O} (h : m a = some o) (h' : m b = some u) (d : o ≠ u) : a ≠ b := by
  intro e; subst e; rw [h] at h'; exact d (Option.some.inj h')
theorem ne_new {m : M} {a b : Addr} {o : O} (h : m a = some o) (h' : m b = none) : a ≠ b := by
  intro e; subst e; rw [h] at h'; cases h'
theorem ixN_nat {n i : Nat} (h : i < n) : ixN n (i : Int) = some i := by
  unfold ixN
  rw [if_pos (by omega), if_pos (by omega)]
  rfl
theorem enumD_nil {i : Nat} {ws : List Wl} (h : [] = enumD i (ws.map wkD)) : ws = [] := by
  cases ws with
  | nil => rfl
  | cons w ws => cases h
theorem enumD_cons {i : Nat} {ws : List Wl} {d : D} {ds : List D} (h : d :: ds = enumD i (ws.map wkD)) : ∃ w r, ws = w :: r ∧ d = .tup [.int (i : Int), wkD w] ∧ ds = enumD (i + 1) (r.map wkD) := by
  cases ws with
  | nil => cases h
  | cons w ws => cases h; exact ⟨w, ws, rfl, rfl, rfl⟩
theorem isNon_kn {k : Kn} : isNon (knD k) = decide (k = none) := by cases k <;> rfl
section
variable (aEnd aCourse : Addr)
def spEntry : XSp := fun ds m Q => ∃ c ws aL aR kn E dl w, ds = [.ref c, wkD w] ∧ m c = some (.ins aCourse (coF ws aL aR kn)) ∧ m aL = some (.ins aEnd (endF E dl)) ∧ Q (.ref (if w.1 < E.bg then aL else aR)) m
def spTell : XSp := fun ds m Q => ∃ c aL aR dL dR kn S t, ds = [.ref c, frD t] ∧ CoAt aEnd aCourse m c aL aR dL dR kn S ∧ S.Good ∧ Sml t.den ∧
  ∀ m', m' kn = some (.lst ((tellL S t S.ws S.knows).map knD)) → (∀ a, a ≠ kn → m' a = m a) → Q .non m'
def spDrive : XSp := fun ds m Q => ∃ c e d E ws aL aR kn t, ds = [.ref c, .ref e, frD t] ∧ m c = some (.ins aCourse (coF ws aL aR kn)) ∧ EndAt aEnd m e d E ∧ m d = some (.lst (drvsD E.drives)) ∧ E.drives.length < 1000 ∧ (∀ w ∈ ws, WSm w) ∧ ws.length ≤ 8 ∧ Sml t.den ∧
  ∀ m', m' e = some (.ins aEnd (endF (E.drive t ws) d)) → m' d = some (.lst (drvsD (E.drive t ws).drives)) → (∀ a, a ≠ e → a ≠ d → m' a = m a) → Q .non m'
def spBegun : XSp := fun ds m Q => ∃ (c : Addr) (ws : List Wl) (aL aR kn : Addr) (E F : EndS) (d1 d2 : Addr) (pl : Int), ds = [.ref c, .int pl] ∧ m c = some (.ins aCourse (coF ws aL aR kn)) ∧ m aL = some (.ins aEnd (endF E d1)) ∧ m aR = some (.ins aEnd (endF F d2)) ∧ Q (.bl (decide (E.bg ≤ pl ∧ pl ≤ F.bg))) m
def insL (lo hi : Int) : List Wl → List Kn → List Kn
  | w :: ws, k :: ks => (if lo ≤ w.1 ∧ w.1 ≤ hi then some (0, none) else k) :: insL lo hi ws ks
  | _, _ => []
def spInside : XSp := fun ds m Q => ∃ (c : Addr) (ws : List Wl) (aL aR kn : Addr) (E F : EndS) (d1 d2 : Addr) (ks : List Kn), ds = [.ref c] ∧ m c = some (.ins aCourse (coF ws aL aR kn)) ∧ m aL = some (.ins aEnd (endF E d1)) ∧ m aR = some (.ins aEnd (endF F d2)) ∧ m kn = some (.lst (ks.map knD)) ∧ ks.length = ws.length ∧
  Q .non (updM m kn (.lst ((insL E.bg F.bg ws ks).map knD)))
/-- whether one knows by a time that is told by top and bottom -/
def toldB (n d : Int) : Kn → Bool
  | none => false
  | some p => !decide (n * (p.1.den : Int) < p.1.num * d)
def spTold : XSp := fun ds m Q => ∃ (c : Addr) (ws : List Wl) (aL aR kn : Addr) (ks : List Kn) (k : Kn) (n d : Int) (i : Nat), ds = [.ref c, .int (i : Int), pairD n d] ∧ m c = some (.ins aCourse (coF ws aL aR kn)) ∧ m kn = some (.lst (ks.map knD)) ∧ ks[i]? = some k ∧ Sml d ∧ (∀ p, k = some p → Sml (p.1.den : Int)) ∧ Q (.bl (toldB n d k)) m
def spNext : XSp := fun ds m Q => ∃ c aL aR dL dR kn S, ds = [.ref c] ∧ CoAt aEnd aCourse m c aL aR dL dR kn S ∧ S.Good ∧ Q (minD S.next) m
end
theorem len_Course_entry {aE aC ds m Q} (h : spEntry aE aC ds m Q) : ds.length = 2 := by obtain ⟨_, _, _, _, _, _, _, _, rfl, _⟩ := h; rfl
theorem len_Course_is_begun {aE aC ds m Q} (h : spBegun aE aC ds m Q) : ds.length = 2 := by obtain ⟨_, _, _, _, _, _, _, _, _, _, rfl, _⟩ := h; rfl
theorem len_Course_tell_those_inside {aE aC ds m Q} (h : spInside aE aC ds m Q) : ds.length = 1 := by obtain ⟨_, _, _, _, _, _, _, _, _, _, rfl, _⟩ := h; rfl
theorem len_Course_is_told {aC ds m Q} (h : spTold aC ds m Q) : ds.length = 3 := by obtain ⟨_, _, _, _, _, _, _, _, _, _, rfl, _⟩ := h; rfl
theorem len_Course_tell {aE aC ds m Q} (h : spTell aE aC ds m Q) : ds.length = 2 := by obtain ⟨_, _, _, _, _, _, _, _, rfl, _⟩ := h; rfl
theorem len_Course_drive {aE aC ds m Q} (h : spDrive aE aC ds m Q) : ds.length = 3 := by obtain ⟨_, _, _, _, _, _, _, _, _, rfl, _⟩ := h; rfl
theorem len_Course_next_time {aE aC ds m Q} (h : spNext aE aC ds m Q) : ds.length = 1 := by obtain ⟨_, _, _, _, _, _, _, rfl, _⟩ := h; rfl
theorem CoAt.entry {aE aC : Addr} {m : M} {c aL aR dL dR kn : Addr} {S : CoS} (h : CoAt aE aC m c aL aR dL dR kn S) (g : S.Good) (w : Wl) : ∃ d, EndAt aE m (if w.1 < S.left.bg then aL else aR) d (S.entry w) := by
  unfold CoS.entry
  rw [g.lb]
  split
  · exact ⟨dL, h.lf, .inr g.ok.lw, g.ll⟩
  · exact ⟨dR, h.rg, .inl g.ok.rw, g.rl⟩

abbrev s_Course_entry : Stmt := inClass (topS 42) 3
theorem sc_Course_entry : FnScope ["self", "walker"] ["self", "walker"] (defScope s_Course_entry) := ⟨rfl, rfl, rfl, by decide +kernel, rfl, by decide +kernel, by decide +kernel⟩
theorem ok_Course_entry (T : Tx P w K mg base aEnd aCourse) {f : Addr} {fd : FuncData} (F : Fun K "entry" "Course.entry" s_Course_entry f fd)  : FnX P w K mg base 1 f fd ["self", "walker"] (spEntry aEnd aCourse) := by
  refine fnX F sc_Course_entry (by intro ds m Q h; exact len_Course_entry h) ⟨_, fun cdv A outer s H E hr => (xss_cons (xs_if (xt_cmp xo_lt (xe_ix (xe_var 1) xe_int) (xe_fld (xe_fld (xe_var 0) T.cl_Course T.na_Course_left) T.cl_End T.na_End_begin) (nomark _)) (xss_one (xs_ret (xe_fld (xe_var 0) T.cl_Course T.na_Course_left))) xss_nil)
      (xss_one (xs_ret (xe_fld (xe_var 0) T.cl_Course T.na_Course_right)))), fun ds m Q h => ?_⟩

  obtain ⟨c, ws, aL, aR, kn, E, dl, w, rfl, hc, hE, q⟩ := h
  show xSeq _ _ _ [some (.ref c), some (wkD w)] m
  simp only [wkD]
  walk_at "rd"
  simp only [atI_0, asIns_ref hc]
  walk_at "lk"
  rw [asIns_ref hE]
  walk_at "lk"
  walk_at "rd"
  by_cases z : w.1 < E.bg
  · rw [if_pos z] at q
    rw [if_pos (decide_eq_true z)]
    exact ⟨m, .refl, q⟩
  · rw [if_neg z] at q
    rw [if_neg (by simpa using z)]
    exact ⟨m, .refl, q⟩
abbrev s_Course_is_begun : Stmt := inClass (topS 42) 1
theorem sc_Course_is_begun : FnScope ["self", "place"] ["self", "place"] (defScope s_Course_is_begun) := ⟨rfl, rfl, rfl, by decide +kernel, rfl, by decide +kernel, by decide +kernel⟩
theorem ok_Course_is_begun (T : Tx P w K mg base aEnd aCourse) {f : Addr} {fd : FuncData} (F : Fun K "is_begun" "Course.is_begun" s_Course_is_begun f fd)  : FnX P w K mg base 1 f fd ["self", "place"] (spBegun aEnd aCourse) := by
  refine fnX F sc_Course_is_begun (by intro ds m Q h; exact len_Course_is_begun h) ⟨_, fun cdv A outer s H E hr => (xss_one (xs_ret (xe_chain xo_le xo_le (xe_fld (xe_fld (xe_var 0) T.cl_Course T.na_Course_left) T.cl_End T.na_End_begin) (xe_var 1) (xe_fld (xe_fld (xe_var 0) T.cl_Course T.na_Course_right) T.cl_End T.na_End_begin)))), fun ds m Q h => ?_⟩

  obtain ⟨c, ws, aL, aR, kn, E, F, d1, d2, pl, rfl, hc, hE, hF, q⟩ := h
  show xRet _ _ [some (.ref c), some (.int pl)] m
  walk_at "rd"
  rw [asIns_ref hc]
  walk_at "lk"
  rw [asIns_ref hE]
  walk_at "lk"
  walk_at "rd"
  by_cases h1 : E.bg ≤ pl
  · rw [if_pos (decide_eq_true h1)]
    rw [asIns_ref hc]
    walk_at "lk"
    rw [asIns_ref hF]
    walk_at "lk"
    refine ⟨m, .refl, ?_⟩
    have : decide (E.bg ≤ pl ∧ pl ≤ F.bg) = decide (pl ≤ F.bg) := by simp [h1]
    rw [← this]; exact q
  · rw [if_neg (by simpa using h1)]
    refine ⟨m, .refl, ?_⟩
    have : decide (E.bg ≤ pl ∧ pl ≤ F.bg) = false := by simp [h1]
    rw [← this]; exact q
abbrev s_Course_tell_those_inside : Stmt := inClass (topS 42) 2
theorem sc_Course_tell_those_inside : FnScope ["self", "number", "walker"] ["self"] (defScope s_Course_tell_those_inside) := ⟨rfl, rfl, rfl, by decide +kernel, rfl, by decide +kernel, by decide +kernel⟩
theorem ok_Course_tell_those_inside (T : Tx P w K mg base aEnd aCourse) {f : Addr} {fd : FuncData} (F : Fun K "tell_those_inside" "Course.tell_those_inside" s_Course_tell_those_inside f fd) (c_Course_is_begun : Mc P w K mg base 1 aCourse "is_begun" ["self", "place"] (spBegun aEnd aCourse)) : FnX P w K mg base 2 f fd ["self"] (spInside aEnd aCourse) := by
  refine fnX F sc_Course_tell_those_inside (by intro ds m Q h; exact len_Course_tell_those_inside h) ⟨_, fun cdv A outer s H E hr => (xss_one (xs_for (vs := [1, 2]) PassesOwn.never rfl (xi_enumT (by rfl) T.m_enumerate (xa_cons (xe_fld (xe_var 0) T.cl_Course T.na_Course_lines) xa_nil)) (xg_tup (n := 2) rfl (xgs_cons (xg_name (i := 1) sc_Course_tell_those_inside.nd rfl (Or.inl rfl) (by decide)) (xgs_cons (xg_name (i := 2) sc_Course_tell_those_inside.nd rfl (Or.inl rfl) (by decide)) xgs_nil))) (xss_one (xs_if (xt_val (xe_methD c_Course_is_begun T.cl_Course (hr.mono (by decide)) (xe_var 0) (xa_cons (xe_ix (xe_var 2) xe_int) xa_nil))) (xss_one (xs_asg (vs := []) (xe_tup (xa_cons (xe_gtupE (by rfl) T.m_ZERO) (xa_cons xe_non xa_nil))) (xg_set (xe_fld (xe_var 0) T.cl_Course T.na_Course_knows) (xe_var 1)))) xss_nil)))), fun ds m Q h => ?_⟩

  obtain ⟨c, ws, aL, aR, kn, E, F, d1, d2, ks, rfl, hc, hE, hF, hk, hl, q⟩ := h
  have nc : c ≠ kn := ne_of_get hc hk (fun z => nomatch z)
  have nl : aL ≠ kn := ne_of_get hE hk (fun z => nomatch z)
  have nr : aR ≠ kn := ne_of_get hF hk (fun z => nomatch z)
  show xFor _ _ _ _ [some (.ref c), none, none] m
  walk_at "rd"
  rw [asIns_ref hc]
  walk_at "lk"
  walk_at "rd"
  simp only [wsD]
  refine xLoop_ind (fun ds e m' => ∃ (i : Nat) (k1 k2 : List Kn) (w2 : List Wl) (x1 x2 : Option D), ds = enumD i (w2.map wkD) ∧ e = [some (.ref c), x1, x2] ∧ m' = updM m kn (.lst ((k1 ++ k2).map knD)) ∧ k1.length = i ∧ w2.length = k2.length ∧ k1 ++ insL E.bg F.bg w2 k2 = insL E.bg F.bg ws ks)
    ?_ ?_ _ _ _ ⟨0, [], ks, ws, none, none, rfl, rfl, by funext a; unfold updM; split <;> simp_all, rfl, hl.symm, rfl⟩
  · intro e m' ⟨i, k1, k2, w2, x1, x2, h1, h2, h3, h4, h5, h6⟩
    have e2 := enumD_nil h1
    subst e2
    have e3 : k2 = [] := List.eq_nil_of_length_eq_zero h5.symm
    subst e3
    refine ⟨trivial, m', .refl, ?_⟩
    rw [← h6] at q
    rw [h3]
    simpa [insL] using q
  · intro d ds e m' R ⟨i, k1, k2, w2, x1, x2, h1, h2, h3, h4, h5, h6⟩ hR
    obtain ⟨w, r, rfl, rfl, rfl⟩ := enumD_cons h1
    cases k2 with
    | nil => cases h5
    | cons k0 k2 =>
    subst h2 h3
    have hc' : updM m kn (.lst ((k1 ++ k0 :: k2).map knD)) c = some (.ins aCourse (coF ws aL aR kn)) := by rw [updM_ne nc]; exact hc
    have hE' : updM m kn (.lst ((k1 ++ k0 :: k2).map knD)) aL = some (.ins aEnd (endF E d1)) := by rw [updM_ne nl]; exact hE
    have hF' : updM m kn (.lst ((k1 ++ k0 :: k2).map knD)) aR = some (.ins aEnd (endF F d2)) := by rw [updM_ne nr]; exact hF
    refine ⟨trivial, ?_⟩
    walk_at "rd"
    refine ⟨trivial, ?_⟩
    rw [asIns_ref hc']
    walk_at "lk"
    simp only [wkD]
    walk_at "rd"
    simp only [atI_0]
    walk_at "rd"
    refine ⟨c, ws, aL, aR, kn, E, F, d1, d2, w.1, rfl, hc', hE', hF', ?_⟩
    walk_at "rd"
    rw [insL] at h6
    by_cases cc : E.bg ≤ w.1 ∧ w.1 ≤ F.bg
    · rw [if_pos (by simpa using cc)]
      rw [if_pos cc] at h6
      walk_at "rd"
      refine ⟨two_sz, ?_⟩
      rw [asIns_ref hc']
      walk_at "lk"
      walk_at "rd"
      rw [asL_ref updM_same]
      rw [ixN_nat (by simp; omega)]
      walk_at "rd"
      rw [updM_updM]
      refine hR _ _ ⟨i + 1, k1 ++ [some (0, none)], k2, r, _, _, rfl, rfl, ?_, by simp [h4], by simpa using h5, by rw [List.append_assoc]; exact h6⟩
      congr 2
      rw [List.map_append, List.set_append_right _ _ (by simp; omega)]
      simp [h4, knD, frD, drvD]
    · rw [if_neg (by simpa using cc)]
      rw [if_neg cc] at h6
      exact hR _ _ ⟨i + 1, k1 ++ [k0], k2, r, _, _, rfl, rfl, by simp, by simp [h4], by simpa using h5, by rw [List.append_assoc]; exact h6⟩
abbrev s_Course_is_told : Stmt := inClass (topS 42) 7
theorem sc_Course_is_told : FnScope ["self", "number", "time", "knows"] ["self", "number", "time"] (defScope s_Course_is_told) := ⟨rfl, rfl, rfl, by decide +kernel, rfl, by decide +kernel, by decide +kernel⟩
theorem ok_Course_is_told (T : Tx P w K mg base aEnd aCourse) {f : Addr} {fd : FuncData} (F : Fun K "is_told" "Course.is_told" s_Course_is_told f fd) (c_is_below : Dc P w K mg base 1 "is_below" ["one", "other"] spBelow) : FnX P w K mg base 2 f fd ["self", "number", "time"] (spTold aCourse) := by
  refine fnX F sc_Course_is_told (by intro ds m Q h; exact len_Course_is_told h) ⟨_, fun cdv A outer s H E hr => (xss_cons (xs_set (i := 3) sc_Course_is_told.nd rfl (Or.inl rfl) (xe_ix (xe_fld (xe_var 0) T.cl_Course T.na_Course_knows) (xe_var 1)))
      (xss_one (xs_ret (xe_and (xe_cmp xo_isnot (xe_var 3) xe_non (nomark _)) (xe_one (xe_not (xe_callD c_is_below (hr.mono (by decide)) (by rfl) (xa_cons (xe_var 2) (xa_cons (xe_ix (xe_var 3) xe_int) xa_nil))))))))), fun ds m Q h => ?_⟩

  obtain ⟨c, ws, aL, aR, kn, ks, k, n, dn, i, rfl, hc, hk, hi, hd, hs, q⟩ := h
  show xSeq _ _ _ [some (.ref c), some (.int (i : Int)), some (pairD n dn), none] m
  walk_at "rd"
  rw [asIns_ref hc]
  walk_at "lk"
  walk_at "rd"
  simp only [seqD_ref hk]
  walk_at "rd"
  simp only [atI_map hi]
  walk_at "rd"
  rw [isNon_kn]
  cases k with
  | none =>
    simp only [decide_true, Bool.not_true, Bool.false_eq_true, if_false]
    exact ⟨m, .refl, q⟩
  | some p =>
    simp only [reduceCtorEq, decide_false, Bool.not_false, if_true]
    simp only [knD]
    walk_at "rd"
    simp only [atI_0]
    walk_at "rd"
    refine ⟨n, dn, p.1.num, p.1.den, rfl, hd, hs p rfl, ?_⟩
    walk_at "rd"
    exact ⟨m, .refl, q⟩
abbrev s_Course_tell : Stmt := inClass (topS 42) 4
theorem sc_Course_tell : FnScope ["self", "time", "number", "walker", "end"] ["self", "time"] (defScope s_Course_tell) := ⟨rfl, rfl, rfl, by decide +kernel, rfl, by decide +kernel, by decide +kernel⟩
theorem ok_Course_tell (T : Tx P w K mg base aEnd aCourse) {f : Addr} {fd : FuncData} (F : Fun K "tell" "Course.tell" s_Course_tell f fd) (c_End_is_level : Mc P w K mg base 3 aEnd "is_level" ["self", "walker", "time"] (spIsLevel aEnd)) (c_Course_entry : Mc P w K mg base 1 aCourse "entry" ["self", "walker"] (spEntry aEnd aCourse)) : FnX P w K mg base 4 f fd ["self", "time"] (spTell aEnd aCourse) := by
  refine fnX F sc_Course_tell (by intro ds m Q h; exact len_Course_tell h) ⟨_, fun cdv A outer s H E hr => (xss_one (xs_for (vs := [2, 3]) PassesOwn.never rfl (xi_enumT (by rfl) T.m_enumerate (xa_cons (xe_fld (xe_var 0) T.cl_Course T.na_Course_lines) xa_nil)) (xg_tup (n := 2) rfl (xgs_cons (xg_name (i := 2) sc_Course_tell.nd rfl (Or.inl rfl) (by decide)) (xgs_cons (xg_name (i := 3) sc_Course_tell.nd rfl (Or.inl rfl) (by decide)) xgs_nil))) (xss_one (xs_if (xt_cmp xo_is (xe_ix (xe_fld (xe_var 0) T.cl_Course T.na_Course_knows) (xe_var 2)) xe_non (nomark _)) (xss_cons (xs_set (i := 4) sc_Course_tell.nd rfl (Or.inl rfl) (xe_methD c_Course_entry T.cl_Course (hr.mono (by decide)) (xe_var 0) (xa_cons (xe_var 3) xa_nil)))
      (xss_one (xs_if (xt_val (xe_methD c_End_is_level T.cl_End (hr.mono (by decide)) (xe_var 4) (xa_cons (xe_var 3) (xa_cons (xe_var 1) xa_nil)))) (xss_one (xs_asg (vs := []) (xe_tup (xa_cons (xe_var 1) (xa_cons (xe_fld (xe_var 4) T.cl_End T.na_End_driver) xa_nil))) (xg_set (xe_fld (xe_var 0) T.cl_Course T.na_Course_knows) (xe_var 2)))) xss_nil))) xss_nil)))), fun ds m Q h => ?_⟩

  obtain ⟨c, aL, aR, dL, dR, kn, S, t, rfl, C, G, ht, q⟩ := h
  have nc : c ≠ kn := ne_of_get C.co C.kk (fun z => nomatch z)
  have nl : aL ≠ kn := ne_of_get C.lf C.kk (fun z => nomatch z)
  have nr : aR ≠ kn := ne_of_get C.rg C.kk (fun z => nomatch z)
  show xFor _ _ _ _ [some (.ref c), some (frD t), none, none, none] m
  walk_at "rd"
  rw [asIns_ref C.co]
  walk_at "lk"
  walk_at "rd"
  simp only [wsD]
  refine xLoop_ind (fun ds e m' => ∃ (i : Nat) (k1 k2 : List Kn) (w2 : List Wl) (x2 x3 x4 : Option D), ds = enumD i (w2.map wkD) ∧ e = [some (.ref c), some (frD t), x2, x3, x4] ∧ m' kn = some (.lst ((k1 ++ k2).map knD)) ∧ k1.length = i ∧ w2.length = k2.length ∧ (∀ a, a ≠ kn → m' a = m a) ∧ (∀ w ∈ w2, WSm w) ∧ k1 ++ tellL S t w2 k2 = tellL S t S.ws S.knows)
    ?_ ?_ _ _ _ ⟨0, [], S.knows, S.ws, none, none, none, rfl, rfl, C.kk, rfl, G.ok.len, fun _ _ => rfl, G.ws, rfl⟩
  · intro e m' ⟨i, k1, k2, w2, x2, x3, x4, h1, h2, h3, h4, h5, h6, h7, h8⟩
    have e2 := enumD_nil h1
    subst e2
    have e3 : k2 = [] := List.eq_nil_of_length_eq_zero h5.symm
    subst e3
    refine ⟨trivial, m', .refl, q m' ?_ h6⟩
    rw [← h8, h3]
    simp [tellL]
  · intro d ds e m' R ⟨i, k1, k2, w2, x2, x3, x4, h1, h2, h3, h4, h5, h6, h7, h8⟩ hR
    obtain ⟨w, r, rfl, rfl, rfl⟩ := enumD_cons h1
    cases k2 with
    | nil => cases h5
    | cons k0 k2 =>
    subst h2
    have hc : m' c = some (.ins aCourse (coF S.ws aL aR kn)) := by rw [h6 c nc]; exact C.co
    have hl : m' aL = some (.ins aEnd (endF S.left dL)) := by rw [h6 aL nl]; exact C.lf
    have C2 : ∃ d, EndAt aEnd m' (if w.1 < S.left.bg then aL else aR) d (S.entry w) := by
      obtain ⟨d, a1, a2, a3⟩ := C.entry G w
      exact ⟨d, by rw [h6 _ (by split <;> assumption)]; exact a1, a2, a3⟩
    obtain ⟨de, hE⟩ := C2
    have ow := h7 w List.mem_cons_self
    have hat : atI ((k1 ++ k0 :: k2).map knD) (i : Int) = some (knD k0) := atI_map (by rw [List.getElem?_append_right (by omega), h4, Nat.sub_self]; rfl)
    refine ⟨trivial, ?_⟩
    walk_at "rd"
    refine ⟨trivial, ?_⟩
    rw [asIns_ref hc]
    walk_at "lk"
    walk_at "rd"
    simp only [seqD_ref h3]
    walk_at "rd"
    simp only [hat]
    walk_at "rd"
    rw [isNon_kn]
    have step : ∀ (x : Option D) (k : Kn) (m2 : M), m2 kn = some (.lst (((k1 ++ [k]) ++ k2).map knD)) → (∀ a, a ≠ kn → m2 a = m a) → (if k0 = none ∧ (S.entry w).level w t then some (t, (S.entry w).driver) else k0) = k → R [some (.ref c), some (frD t), some (.int (i : Int)), some (wkD w), x] m2 := fun x k m2 g1 g2 g3 => by
      refine hR _ _ ⟨i + 1, k1 ++ [k], k2, r, _, _, _, rfl, rfl, g1, by simp [h4], by simpa using h5, g2, fun v hv => h7 v (List.mem_cons_of_mem _ hv), ?_⟩
      rw [← h8, tellL, g3]
      simp
    cases k0 with
    | some p =>
      rw [if_neg (by simp)]
      exact step _ (some p) m' (by rw [h3]; simp) h6 (by simp)
    | none =>
      rw [if_pos (by simp)]
      rw [asIns_ref hc]
      walk_at "lk"
      refine ⟨c, S.ws, aL, aR, kn, S.left, dL, w, rfl, hc, hl, ?_⟩
      walk_at "rd"
      rw [asIns_ref hE.1]
      walk_at "lk"
      refine ⟨_, de, S.entry w, w, t, rfl, hE, ow, ht, ?_⟩
      walk_at "rd"
      by_cases lv : (S.entry w).level w t
      · rw [if_pos (by simpa using lv)]
        rw [asIns_ref hE.1]
        walk_at "lk"
        refine ⟨two_sz, ?_⟩
        rw [asIns_ref hc]
        walk_at "lk"
        walk_at "rd"
        rw [asL_ref h3]
        rw [ixN_nat (by simp; omega)]
        walk_at "rd"
        refine step _ (some (t, (S.entry w).driver)) _ ?_ (fun a ha => by rw [updM_ne ha]; exact h6 a ha) (by rw [if_pos ⟨rfl, lv⟩])
        rw [updM_same]
        congr 2
        rw [List.map_append, List.set_append_right _ _ (by simp; omega)]
        simp [h4, knD]
      · rw [if_neg (by simpa using lv)]
        exact step _ none m' (by rw [h3]; simp) h6 (by rw [if_neg (fun z => lv z.2)])
abbrev s_Course_drive : Stmt := inClass (topS 42) 5
theorem sc_Course_drive : FnScope ["self", "end", "time", "quickest", "lead", "number", "walker"] ["self", "end", "time"] (defScope s_Course_drive) := ⟨rfl, rfl, rfl, by decide +kernel, rfl, by decide +kernel, by decide +kernel⟩
theorem ok_Course_drive (T : Tx P w K mg base aEnd aCourse) {f : Addr} {fd : FuncData} (F : Fun K "drive" "Course.drive" s_Course_drive f fd) (c_End_take : Mc P w K mg base 1 aEnd "take" ["self", "time", "number", "walker"] (spTake aEnd)) (c_End_is_level : Mc P w K mg base 3 aEnd "is_level" ["self", "walker", "time"] (spIsLevel aEnd)) (c_End_lead : Mc P w K mg base 1 aEnd "lead" ["self", "walker"] (spLead aEnd)) : FnX P w K mg base 4 f fd ["self", "end", "time"] (spDrive aEnd aCourse) := by
  refine fnX F sc_Course_drive (by intro ds m Q h; exact len_Course_drive h) ⟨_, fun cdv A outer s H E hr => (xss_cons (xs_set (i := 3) sc_Course_drive.nd rfl (Or.inl rfl) xe_non)
      (xss_cons (xs_set (i := 4) sc_Course_drive.nd rfl (Or.inl rfl) xe_int)
      (xss_cons (xs_for (vs := [5, 6]) PassesOwn.never rfl (xi_enumT (by rfl) T.m_enumerate (xa_cons (xe_fld (xe_var 0) T.cl_Course T.na_Course_lines) xa_nil)) (xg_tup (n := 2) rfl (xgs_cons (xg_name (i := 5) sc_Course_drive.nd rfl (Or.inl rfl) (by decide)) (xgs_cons (xg_name (i := 6) sc_Course_drive.nd rfl (Or.inl rfl) (by decide)) xgs_nil))) (xss_one (xs_if (PW.pt (xw_and (xt_cmp xo_lt (xe_methD c_End_lead T.cl_End (hr.mono (by decide)) (xe_var 1) (xa_cons (xe_var 6) xa_nil)) (xe_var 4) (nomark _)) (xw_and1 (xt_val (xe_methD c_End_is_level T.cl_End (hr.mono (by decide)) (xe_var 1) (xa_cons (xe_var 6) (xa_cons (xe_var 2) xa_nil))))))) (xss_cons (xs_set (i := 3) sc_Course_drive.nd rfl (Or.inl rfl) (xe_var 5))
      (xss_one (xs_set (i := 4) sc_Course_drive.nd rfl (Or.inl rfl) (xe_methD c_End_lead T.cl_End (hr.mono (by decide)) (xe_var 1) (xa_cons (xe_var 6) xa_nil))))) xss_nil)))
      (xss_one (xs_if (xt_cmp xo_isnot (xe_var 3) xe_non (nomark _)) (xss_one (xs_expr (xe_methD c_End_take T.cl_End (hr.mono (by decide)) (xe_var 1) (xa_cons (xe_var 2) (xa_cons (xe_var 3) (xa_cons (xe_ix (xe_fld (xe_var 0) T.cl_Course T.na_Course_lines) (xe_var 3)) xa_nil)))))) xss_nil))))), fun ds m Q h => ?_⟩

  obtain ⟨c, e, d, E, ws, aL, aR, kn, t, rfl, hc, hE, hd, hl, ow, h8, ht, q⟩ := h
  show xSeq _ _ _ [some (.ref c), some (.ref e), some (frD t), none, none, none, none] m
  walk_at "rd"
  rw [asIns_ref hc]
  walk_at "lk"
  walk_at "rd"
  simp only [wsD]
  refine xLoop_ind (fun ds en m' => ∃ (i : Nat) (w2 : List Wl) (o : Option Nat) (l : Int) (x5 x6 : Option D), ds = enumD i (w2.map wkD) ∧ en = [some (.ref c), some (.ref e), some (frD t), some (drvD o), some (.int l), x5, x6] ∧ m' = m ∧ (∀ w ∈ w2, WSm w) ∧ pick E t w2 i o l = pick E t ws 0 none 0)
    ?_ ?_ _ _ _ ⟨0, ws, none, 0, none, none, rfl, rfl, rfl, ow, rfl⟩
  · intro en m' ⟨i, w2, o, l, x5, x6, h1, h2, h3, h4, h5⟩
    have e2 := enumD_nil h1
    subst e2 h2 h3
    refine ⟨trivial, ?_⟩
    walk_at "rd"
    refine ⟨trivial, ?_⟩
    have ho : pick E t ws 0 none 0 = o := h5.symm
    cases o with
    | none =>
      rw [if_neg (by simp [drvD, isNon])]
      refine ⟨m', .refl, q m' ?_ ?_ fun _ _ _ => rfl⟩
      · rw [EndS.drive, ho]; exact hE.1
      · rw [EndS.drive, ho]; exact hd
    | some k =>
      rw [if_pos (by simp [drvD, isNon])]
      obtain ⟨w, hw⟩ : ∃ w, ws[k]? = some w := by
        rcases pick_le E t ws 0 none 0 k ho with z | ⟨i, v, hv, hk, _⟩
        · cases z
        · exact ⟨v, by rw [hk, Nat.zero_add]; exact hv⟩
      rw [asIns_ref hE.1]
      walk_at "lk"
      rw [asIns_ref hc]
      walk_at "lk"
      simp only [wsD, drvD]
      walk_at "rd"
      rw [atI_map hw]
      walk_at "rd"
      have gd : ws.getD k (0, 0) = w := by rw [List.getD_eq_getElem?_getD, hw]; rfl
      refine ⟨e, d, E, t, k, w, rfl, hE.1, hd, hl, _, .refl, ?_⟩
      have ne : d ≠ e := fun z => by subst z; rw [hE.1] at hd; cases hd
      refine q _ ?_ ?_ fun a h1 h2 => ?_
      · rw [updM_ne ne.symm, updM_same, EndS.drive, ho]; simp only [gd]
      · rw [updM_same, EndS.drive, ho]; simp only [gd]
      · rw [updM_ne h2, updM_ne h1]
  · intro dd ds en m' R ⟨i, w2, o, l, x5, x6, h1, h2, h3, h4, h5⟩ hR
    obtain ⟨w, r, rfl, rfl, rfl⟩ := enumD_cons h1
    subst h2 h3
    have ow := h4 w List.mem_cons_self
    refine ⟨trivial, ?_⟩
    walk_at "rd"
    refine ⟨trivial, ?_⟩
    rw [asIns_ref hE.1]
    walk_at "lk"
    refine ⟨e, d, E, w, rfl, hE, ?_⟩
    walk_at "rd"
    rw [pick] at h5
    have go : ∀ (o' : Option Nat) (l' : Int), pick E t r (i + 1) o' l' = pick E t ws 0 none 0 → R [some (.ref c), some (.ref e), some (frD t), some (drvD o'), some (.int l'), some (.int (i : Int)), some (wkD w)] m' := fun o' l' g =>
      hR _ _ ⟨i + 1, r, o', l', _, _, rfl, rfl, rfl, fun v hv => h4 v (List.mem_cons_of_mem _ hv), g⟩
    by_cases c1 : E.lead w < l
    · rw [if_pos (decide_eq_true c1)]
      rw [asIns_ref hE.1]
      walk_at "lk"
      refine ⟨e, d, E, w, t, rfl, hE, ow, ht, ?_⟩
      walk_at "rd"
      by_cases c2 : E.level w t
      · rw [if_pos (decide_eq_true c2)]
        rw [if_pos ⟨c1, c2⟩] at h5
        rw [asIns_ref hE.1]
        walk_at "lk"
        refine ⟨e, d, E, w, rfl, hE, ?_⟩
        walk_at "rd"
        exact go (some i) (E.lead w) h5
      · rw [if_neg (by simpa using c2)]
        rw [if_neg (fun z => c2 z.2)] at h5
        exact go o l h5
    · rw [if_neg (by simpa using c1)]
      rw [if_neg (fun z => c1 z.1)] at h5
      rw [if_neg (by simp)]
      exact go o l h5
end
end Sd

set_option Elab.async false
set_option linter.all false
set_option maxRecDepth 100000
set_option maxHeartbeats 4000000
namespace Sd
open PySem PySem.Spec PyProof.Rows L2
local macro_rules | `(tactic| walk_at "rd") => `(tactic| try simp only [xSeq, xAsg, gNm, xRet, xRetN, xIfS, xNext, xDrop, xFor, iRg1, iRg2, iEnuD, gTp, gCo, gNo, gSet, xVar, xC, xOp, xI, xI0, xNeg, xEq, xNe, xIs, xIsNot, xB, xAndT, xOrT, xNotT, xAnd, xOr, xNot, xIfE, xChain, xIx, xNil, xCons, xTup, xLst, xGc, xCall, xMeth, xMake, xFld, xFldS, xApp, xPar, xPar3, xLc, xYes, xCB, xLen, xAbs, x2I, xInt, xList, xTupOf, xIsi, xIsT, iTp, iLst, iZpX, xCat, xCatT, xSlL, xSlT, xpNone, xpSome, xGcS, xBreak, xCont, xIn, xNotIn, xIntB, asBl_bl, xLstRg1, xLstRg2, xTupH, xDNewT, xDNewK, xDPutK, xDGetK, iEnuL, xEqZ, xNeZ, iRevRg1, xLstRev, iZpY, xSortSet, xSortSetA, xRvs, xFmtI, xJs, xStrI, xIntS, xLenS, xAddS, xSplit, xJoin, xRmPre, xIsDec, asS_str, xWord, xCall2, xSeq2, xIf2, xFor2, xRaise2, xRaiseN, xDrop2, xRet2, xIxS, xSlS, xInS, xNotInS, iTxt, xMulS, xRepL, xApp2, xAsg2, xFld2, iLst2, xFor3, xNotInT, asT_tup, xCnt, xIdx, xCls, xXf, xInF, xDGetF, iKeyF, xDictF, iRg3, xRevSl, iSq, seqD_wsX, immD_wsX, immD_tup, oget_some, asI_int, asB_bl, oat_some, one_one, two_two, tri_tri, asT_tup, seqD_tup, seqD_lck, List.getElem?_cons_zero, List.getElem?_cons_succ, List.set_cons_zero, List.set_cons_succ, List.length_cons, List.length_nil])
local macro_rules | `(tactic| walk_at "lk") => `(tactic| try simp only [lk_end_begin, lk_end_way, lk_end_line, lk_end_driver, lk_end_drives, lk_end_lead, lk_end_is_level, lk_end_take, lk_co_lines, lk_co_left, lk_co_right, lk_co_knows, lk_co_is_begun, lk_co_tell_those_inside, lk_co_entry, lk_co_tell, lk_co_drive, lk_co_next_time, lk_co_is_told, lk_co_ends, lk_co_known, lk_co_bringer, oat_some, true_and])

section
variable {P : Program} {w : World} {K : PySem.W.Frag} {mg : Str → Option Value} {base : Heap} {aEnd aCourse : Addr} {PT cT aBadWalkers aBadChain aBadDeed aHalted aBadText aBadPlace aBadTime aBadPoint aNoWalker aNeverKnown aRoadError : Addr}

theorem timesW_len (S : CoS) (w : Wl) (k : Kn) : (timesW S w k).length ≤ 2 := by
  unfold timesW catchR
  split
  · split <;> simp
  · rw [List.length_append]; split <;> split <;> simp
theorem meet_den {w l : Wl} (h : w.2 ≠ l.2) : ((meet w l).den : Int) ≤ (w.2 - l.2).natAbs := den_le (by omega)
theorem meet_sml {w l : Wl} (h : w.2 ≠ l.2) (ow : WSm w) (ol : WSm l) : Sml ((meet w l).den : Int) := by
  have h1 := meet_den h
  have := ow.h3; have := ow.h4; have := ol.h3; have := ol.h4
  unfold Sml
  omega
theorem sub_sml {w l : Wl} (ow : WSm w) (ol : WSm l) : Sml (w.2 - l.2) := by
  have := ow.h3; have := ow.h4; have := ol.h3; have := ol.h4
  unfold Sml
  omega
theorem CoS.Good.entryOk {S : CoS} (g : S.Good) (w : Wl) : WSm (S.entry w).line := by
  unfold CoS.entry; split
  · exact g.ll
  · exact g.rl
theorem timesW_sml {S : CoS} (g : S.Good) {w : Wl} (ow : WSm w) (k : Kn) : ∀ t ∈ timesW S w k, Sml (t.den : Int) := by
  intro t ht
  unfold timesW catchR at ht
  split at ht
  · split at ht
    · rename_i c
      rw [List.mem_singleton.mp ht]
      exact meet_sml (lead_ne (by omega)) ow (g.entryOk w)
    · cases ht
  · rcases List.mem_append.mp ht with ht | ht
    · split at ht
      · rename_i c
        rw [List.mem_singleton.mp ht]
        exact meet_sml (lead_ne (by omega)) ow g.ll
      · cases ht
    · split at ht
      · rename_i c
        rw [List.mem_singleton.mp ht]
        exact meet_sml (lead_ne (by omega)) ow g.rl
      · cases ht
theorem timesL_sml {S : CoS} (g : S.Good) : ∀ (ws : List Wl) (ks : List Kn), (∀ w ∈ ws, WSm w) → ∀ t ∈ timesL S ws ks, Sml (t.den : Int)
  | w :: ws, k :: ks, h, t, ht => by
    unfold timesL at ht
    rcases List.mem_append.mp ht with ht | ht
    · exact timesW_sml g (h w List.mem_cons_self) k t ht
    · exact timesL_sml g ws ks (fun v hv => h v (List.mem_cons_of_mem _ hv)) t ht
  | [], _, _, t, ht => by simp [timesL] at ht
  | _ :: _, [], _, t, ht => by simp [timesL] at ht
theorem frs_app {acc : List Rat} {t : Rat} : (acc.map frD) ++ [frD t] = (acc ++ [t]).map frD := by rw [List.map_append]; rfl

abbrev s_Course_next_time : Stmt := inClass (topS 42) 6
theorem sc_Course_next_time : FnScope ["self", "times", "number", "walker", "end"] ["self"] (defScope s_Course_next_time) := ⟨rfl, rfl, rfl, by decide +kernel, rfl, by decide +kernel, by decide +kernel⟩
theorem ok_Course_next_time (T : Tx P w K mg base aEnd aCourse) {f : Addr} {fd : FuncData} (F : Fun K "next_time" "Course.next_time" s_Course_next_time f fd) (c_least : Dc P w K mg base 2 "least" ["fractions"] spLeast) (c_End_lead : Mc P w K mg base 1 aEnd "lead" ["self", "walker"] (spLead aEnd)) (c_meeting : Dc P w K mg base 2 "meeting" ["one", "other"] spMeeting) (c_Course_entry : Mc P w K mg base 1 aCourse "entry" ["self", "walker"] (spEntry aEnd aCourse)) : FnX P w K mg base 3 f fd ["self"] (spNext aEnd aCourse) := by
  refine fnX F sc_Course_next_time (by intro ds m Q h; exact len_Course_next_time h) ⟨_, fun cdv A outer s H E hr => (xss_cons (xs_set (i := 1) sc_Course_next_time.nd rfl (Or.inl rfl) (xe_lst xa_nil))
      (xss_cons (xs_for (vs := [2, 3]) PassesOwn.never rfl (xi_enumT (by rfl) T.m_enumerate (xa_cons (xe_fld (xe_var 0) T.cl_Course T.na_Course_lines) xa_nil)) (xg_tup (n := 2) rfl (xgs_cons (xg_name (i := 2) sc_Course_next_time.nd rfl (Or.inl rfl) (by decide)) (xgs_cons (xg_name (i := 3) sc_Course_next_time.nd rfl (Or.inl rfl) (by decide)) xgs_nil))) (xss_one (xs_if (xt_cmp xo_is (xe_ix (xe_fld (xe_var 0) T.cl_Course T.na_Course_knows) (xe_var 2)) xe_non (nomark _)) (xss_cons (xs_set (i := 4) sc_Course_next_time.nd rfl (Or.inl rfl) (xe_methD c_Course_entry T.cl_Course (hr.mono (by decide)) (xe_var 0) (xa_cons (xe_var 3) xa_nil)))
      (xss_one (xs_if (xt_cmp xo_gt (xe_methD c_End_lead T.cl_End (hr.mono (by decide)) (xe_var 4) (xa_cons (xe_var 3) xa_nil)) xe_int (nomark _)) (xss_one (xs_expr (xe_append (xe_var 1) (xe_callD c_meeting (hr.mono (by decide)) (by rfl) (xa_cons (xe_var 3) (xa_cons (xe_fld (xe_var 4) T.cl_End T.na_End_line) xa_nil)))))) xss_nil))) (xss_one (xs_for (vs := [4]) PassesOwn.never rfl (xi_tup (xe_tup (xa_cons (xe_fld (xe_var 0) T.cl_Course T.na_Course_left) (xa_cons (xe_fld (xe_var 0) T.cl_Course T.na_Course_right) xa_nil)))) (xg_name (i := 4) sc_Course_next_time.nd rfl (Or.inl rfl) (by decide)) (xss_one (xs_if (xt_cmp xo_lt (xe_methD c_End_lead T.cl_End (hr.mono (by decide)) (xe_var 4) (xa_cons (xe_var 3) xa_nil)) xe_int (nomark _)) (xss_one (xs_expr (xe_append (xe_var 1) (xe_callD c_meeting (hr.mono (by decide)) (by rfl) (xa_cons (xe_var 3) (xa_cons (xe_fld (xe_var 4) T.cl_End T.na_End_line) xa_nil)))))) xss_nil)))))))
      (xss_one (xs_ret (xe_callD c_least (hr.mono (by decide)) (by rfl) (xa_cons (xe_var 1) xa_nil)))))), fun ds m Q h => ?_⟩

  obtain ⟨c, aL, aR, dL, dR, kn, S, rfl, C, G, q⟩ := h
  show xSeq _ _ _ [some (.ref c), none, none, none, none] m
  walk_at "rd"
  refine ⟨by decide, fun p hp => ?_⟩
  have cp : c ≠ p := ne_new C.co hp
  have lp : aL ≠ p := ne_new C.lf hp
  have rp : aR ≠ p := ne_new C.rg hp
  have kp : kn ≠ p := ne_new C.kk hp
  have hc : ∀ x, updM m p x c = some (.ins aCourse (coF S.ws aL aR kn)) := fun x => by rw [updM_ne cp]; exact C.co
  have hk : ∀ x, updM m p x kn = some (.lst (S.knows.map knD)) := fun x => by rw [updM_ne kp]; exact C.kk
  have hL : ∀ x, EndAt aEnd (updM m p x) aL dL S.left := fun x => ⟨by rw [updM_ne lp]; exact C.lf, .inr G.ok.lw, G.ll⟩
  have hR : ∀ x, EndAt aEnd (updM m p x) aR dR S.right := fun x => ⟨by rw [updM_ne rp]; exact C.rg, .inl G.ok.rw, G.rl⟩
  rw [asIns_ref (hc _)]
  walk_at "lk"
  walk_at "rd"
  simp only [wsD]
  refine xLoop_ind (fun ds e m' => ∃ (i : Nat) (acc : List Rat) (k1 k2 : List Kn) (w2 : List Wl) (x2 x3 x4 : Option D), ds = enumD i (w2.map wkD) ∧ e = [some (.ref c), some (.ref p), x2, x3, x4] ∧ m' = updM m p (.lst (acc.map frD)) ∧ k1 ++ k2 = S.knows ∧ k1.length = i ∧ w2.length = k2.length ∧ (∀ w ∈ w2, WSm w) ∧ acc ++ timesL S w2 k2 = timesL S S.ws S.knows ∧ acc.length ≤ 2 * i ∧ i + w2.length ≤ 8)
    ?_ ?_ _ _ _ ⟨0, [], [], S.knows, S.ws, none, none, none, rfl, rfl, rfl, rfl, rfl, G.ok.len, G.ws, rfl, Nat.le_refl _, by have := G.n8; omega⟩
  · intro e m' ⟨i, acc, k1, k2, w2, x2, x3, x4, h1, h2, h3, h4, h5, h6, h7, h8, h9, h10⟩
    have e2 := enumD_nil h1
    subst e2 h2 h3
    have e3 : acc = timesL S S.ws S.knows := by rw [← h8]; simp [timesL]
    refine ⟨trivial, ?_⟩
    walk_at "rd"
    refine ⟨p, acc, rfl, updM_same, ?_, m, Sub.refl.upd hp, by rw [e3]; exact q⟩
    rw [e3]
    exact timesL_sml G _ _ G.ws
  · intro d ds e m' R ⟨i, acc, k1, k2, w2, x2, x3, x4, h1, h2, h3, h4, h5, h6, h7, h8, h9, h10⟩ hRr
    obtain ⟨w, r, rfl, rfl, rfl⟩ := enumD_cons h1
    cases k2 with
    | nil => cases h6
    | cons k0 k2 =>
    subst h2 h3
    have ow := h7 w List.mem_cons_self
    have hat : atI (S.knows.map knD) (i : Int) = some (knD k0) := atI_map (by rw [← h4, List.getElem?_append_right (by omega), h5, Nat.sub_self]; rfl)
    rw [List.length_cons] at h10
    refine ⟨trivial, ?_⟩
    walk_at "rd"
    refine ⟨trivial, ?_⟩
    rw [asIns_ref (hc _)]
    walk_at "lk"
    walk_at "rd"
    simp only [seqD_ref (hk _)]
    walk_at "rd"
    simp only [hat]
    walk_at "rd"
    rw [isNon_kn]
    have fin : ∀ (x4 : Option D) (more : List Rat), more = timesW S w k0 → R [some (.ref c), some (.ref p), some (.int (i : Int)), some (wkD w), x4] (updM m p (.lst ((acc ++ more).map frD))) := fun x4 more e => by
      refine hRr _ _ ⟨i + 1, acc ++ more, k1 ++ [k0], k2, r, _, _, _, rfl, rfl, rfl, by rw [← h4]; simp, by simp [h5], by simpa using h6, fun v hv => h7 v (List.mem_cons_of_mem _ hv), ?_, ?_, by omega⟩
      · rw [← h8, timesL, e]; simp
      · have := timesW_len S w k0
        rw [← e] at this
        rw [List.length_append]; omega
    cases k0 with
    | none =>
      rw [if_pos (by simp)]
      rw [asIns_ref (hc _)]
      walk_at "lk"
      refine ⟨c, S.ws, aL, aR, kn, S.left, dL, w, rfl, hc _, (hL _).1, ?_⟩
      walk_at "rd"
      obtain ⟨de, hE⟩ : ∃ d, EndAt aEnd (updM m p (.lst (acc.map frD))) (if w.1 < S.left.bg then aL else aR) d (S.entry w) := by
        unfold CoS.entry; rw [G.lb]; split
        · exact ⟨dL, hL _⟩
        · exact ⟨dR, hR _⟩
      rw [asIns_ref hE.1]
      walk_at "lk"
      refine ⟨_, de, S.entry w, w, rfl, hE, ?_⟩
      walk_at "rd"
      by_cases c1 : 0 < (S.entry w).lead w
      · rw [if_pos (decide_eq_true c1)]
        rw [asL_ref updM_same]
        rw [asIns_ref hE.1]
        walk_at "lk"
        refine ⟨w, (S.entry w).line, rfl, lead_ne (by omega), sub_sml ow hE.2.2, ?_⟩
        walk_at "rd"
        rw [asL_ref updM_same]
        refine ⟨by rw [List.length_map]; exact lt_sz (by omega), ?_⟩
        rw [updM_updM, frs_app]
        exact fin _ [meet w (S.entry w).line] (by simp only [timesW]; rw [if_pos c1])
      · rw [if_neg (by simpa using c1)]
        have := fin (some (.ref (if w.1 < S.left.bg then aL else aR))) [] (by simp only [timesW]; rw [if_neg c1])
        rw [List.append_nil] at this
        exact this
    | some kk =>
      rw [if_neg (by simp)]
      rw [asIns_ref (hc _)]
      walk_at "lk"
      rw [asIns_ref (hc _)]
      walk_at "lk"
      walk_at "rd"
      refine ⟨two_sz, ?_⟩
      simp only [xLoop, true_and]
      walk_at "rd"
      rw [asIns_ref (hL _).1]
      walk_at "lk"
      refine ⟨aL, dL, S.left, w, rfl, hL _, ?_⟩
      walk_at "rd"
      by_cases c1 : S.left.lead w < 0
      · rw [if_pos (decide_eq_true c1)]
        rw [asL_ref updM_same, asIns_ref (hL _).1]
        walk_at "lk"
        refine ⟨w, S.left.line, rfl, lead_ne (by omega), sub_sml ow G.ll, ?_⟩
        walk_at "rd"
        rw [asL_ref updM_same]
        refine ⟨by rw [List.length_map]; exact lt_sz (by omega), ?_⟩
        rw [updM_updM, frs_app]
        rw [asIns_ref (hR _).1]
        walk_at "lk"
        refine ⟨aR, dR, S.right, w, rfl, hR _, ?_⟩
        walk_at "rd"
        by_cases c2 : S.right.lead w < 0
        · rw [if_pos (decide_eq_true c2)]
          rw [asL_ref updM_same, asIns_ref (hR _).1]
          walk_at "lk"
          refine ⟨w, S.right.line, rfl, lead_ne (by omega), sub_sml ow G.rl, ?_⟩
          walk_at "rd"
          rw [asL_ref updM_same]
          refine ⟨by rw [List.length_map, List.length_append]; exact lt_sz (by simp; omega), ?_⟩
          rw [updM_updM, frs_app, List.append_assoc]
          exact fin _ _ (by simp only [timesW, catchR]; rw [if_pos c1, if_pos c2])
        · rw [if_neg (by simpa using c2)]
          exact fin _ _ (by simp only [timesW, catchR]; rw [if_pos c1, if_neg c2]; rfl)
      · rw [if_neg (by simpa using c1)]
        rw [asIns_ref (hR _).1]
        walk_at "lk"
        refine ⟨aR, dR, S.right, w, rfl, hR _, ?_⟩
        walk_at "rd"
        by_cases c2 : S.right.lead w < 0
        · rw [if_pos (decide_eq_true c2)]
          rw [asL_ref updM_same, asIns_ref (hR _).1]
          walk_at "lk"
          refine ⟨w, S.right.line, rfl, lead_ne (by omega), sub_sml ow G.rl, ?_⟩
          walk_at "rd"
          rw [asL_ref updM_same]
          refine ⟨by rw [List.length_map]; exact lt_sz (by omega), ?_⟩
          rw [updM_updM, frs_app]
          exact fin _ _ (by simp only [timesW, catchR]; rw [if_neg c1, if_pos c2]; rfl)
        · rw [if_neg (by simpa using c2)]
          have := fin (some (.ref aR)) [] (by simp only [timesW, catchR]; rw [if_neg c1, if_neg c2]; rfl)
          rw [List.append_nil] at this
          exact this
end
end Sd

set_option Elab.async false
set_option linter.all false
set_option maxRecDepth 100000
set_option maxHeartbeats 4000000
namespace Sd
open PySem PySem.Spec PyProof.Rows L2
local macro_rules | `(tactic| walk_at "rd") => `(tactic| try simp only [xSeq, xAsg, gNm, xRet, xRetN, xIfS, xNext, xDrop, xFor, iRg1, iRg2, iEnuD, gTp, gCo, gNo, gSet, xVar, xC, xOp, xI, xI0, xNeg, xEq, xNe, xIs, xIsNot, xB, xAndT, xOrT, xNotT, xAnd, xOr, xNot, xIfE, xChain, xIx, xNil, xCons, xTup, xLst, xGc, xCall, xMeth, xMake, xFld, xFldS, xApp, xPar, xPar3, xLc, xYes, xCB, xLen, xAbs, x2I, xInt, xList, xTupOf, xIsi, xIsT, iTp, iLst, iZpX, xCat, xCatT, xSlL, xSlT, xpNone, xpSome, xGcS, xBreak, xCont, xIn, xNotIn, xIntB, asBl_bl, xLstRg1, xLstRg2, xTupH, xDNewT, xDNewK, xDPutK, xDGetK, iEnuL, xEqZ, xNeZ, iRevRg1, xLstRev, iZpY, xSortSet, xSortSetA, xRvs, xFmtI, xJs, xStrI, xIntS, xLenS, xAddS, xSplit, xJoin, xRmPre, xIsDec, asS_str, xWord, xCall2, xSeq2, xIf2, xFor2, xRaise2, xRaiseN, xDrop2, xRet2, xIxS, xSlS, xInS, xNotInS, iTxt, xMulS, xRepL, xApp2, xAsg2, xFld2, iLst2, xFor3, xNotInT, asT_tup, xCnt, xIdx, xCls, xXf, xInF, xDGetF, iKeyF, xDictF, iRg3, xRevSl, iSq, seqD_wsX, immD_wsX, immD_tup, oget_some, asI_int, asB_bl, oat_some, one_one, two_two, tri_tri, asT_tup, seqD_tup, seqD_lck, List.getElem?_cons_zero, List.getElem?_cons_succ, List.set_cons_zero, List.set_cons_succ, List.length_cons, List.length_nil])
local macro_rules | `(tactic| walk_at "lk") => `(tactic| try simp only [lk_end_begin, lk_end_way, lk_end_line, lk_end_driver, lk_end_drives, lk_end_lead, lk_end_is_level, lk_end_take, lk_co_lines, lk_co_left, lk_co_right, lk_co_knows, lk_co_is_begun, lk_co_tell_those_inside, lk_co_entry, lk_co_tell, lk_co_drive, lk_co_next_time, lk_co_is_told, lk_co_ends, lk_co_known, lk_co_bringer, oat_some, true_and])

section
variable {P : Program} {w : World} {K : PySem.W.Frag} {mg : Str → Option Value} {base : Heap} {aEnd aCourse : Addr} {PT cT aBadWalkers aBadChain aBadDeed aHalted aBadText aBadPlace aBadTime aBadPoint aNoWalker aNeverKnown aRoadError : Addr}

/-- all who know by then, and the start, by a time's bottom -/
def topG (n d : Int) : List Wl → List Kn → List Int
  | w :: ws, k :: ks => (match k with
    | none => topG n d ws ks
    | some p => if n * (p.1.den : Int) < p.1.num * d then topG n d ws ks else (w.1 * d + w.2 * n) :: topG n d ws ks)
  | _, _ => []
def CoS.tops (S : CoS) (n d : Int) : List Int := S.start * d :: topG n d S.ws S.knows
def CoS.endsQ (S : CoS) (n d : Int) : Rat × Rat := (((minL (S.tops n d) : Int) : Rat) / (d : Rat), ((maxL (S.tops n d) : Int) : Rat) / (d : Rat))
def endsD (p : Rat × Rat) : D := .tup [frD p.1, frD p.2]
def visL (pl : Int) : List Wl → List Kn → List Rat
  | w :: ws, k :: ks => (match k with
    | none => visL pl ws ks
    | some p => if w.2 ≠ 0 ∧ ¬ meet w (pl, 0) < p.1 then meet w (pl, 0) :: visL pl ws ks else visL pl ws ks)
  | _, _ => []
def CoS.knownQ (S : CoS) (pl : Int) : Option Rat := if pl = S.start then some 0 else minR (visL pl S.ws S.knows)
/-- the same, between two places at first -/
def CoS.topsG (S : CoS) (n d : Int) : List Int := S.start * d :: S.hi * d :: topG n d S.ws S.knows
def CoS.endsG (S : CoS) (n d : Int) : Rat × Rat := (((minL (S.topsG n d) : Int) : Rat) / (d : Rat), ((maxL (S.topsG n d) : Int) : Rat) / (d : Rat))
def CoS.knownG (S : CoS) (pl : Int) : Option Rat := if S.start ≤ pl ∧ pl ≤ S.hi then some 0 else minR (visL pl S.ws S.knows)
theorem CoS.endsG_one {S : CoS} (h : S.hi = S.start) (n d : Int) : S.endsG n d = S.endsQ n d := by
  unfold CoS.endsG CoS.endsQ CoS.topsG CoS.tops
  rw [h]
  generalize topG n d S.ws S.knows = l
  generalize S.start * d = a
  have e1 : minL (a :: a :: l) = minL (a :: l) := by cases l <;> simp only [minL] <;> omega
  have e2 : maxL (a :: a :: l) = maxL (a :: l) := by cases l <;> simp only [maxL] <;> omega
  rw [e1, e2]
theorem CoS.knownG_one {S : CoS} (h : S.hi = S.start) (pl : Int) : S.knownG pl = S.knownQ pl := by
  unfold CoS.knownG CoS.knownQ
  rw [h]
  by_cases c : pl = S.start
  · rw [if_pos c, if_pos (by omega)]
  · rw [if_neg c, if_neg (by omega)]
def qs (d : Int) (l : List Int) : List Rat := l.map fun x : Int => (x : Rat) / (d : Rat)
theorem div_le0 {a b d : Int} (hd : 0 < d) (h : a ≤ b) : (a : Rat) / (d : Rat) ≤ (b : Rat) / (d : Rat) := by
  have hd' : (0 : Rat) < (d : Rat) := Rat.intCast_lt_intCast.mpr hd
  rw [Rat.div_def, Rat.div_def]
  have hi : (0 : Rat) ≤ (d : Rat)⁻¹ := Rat.le_of_lt (Rat.inv_pos.mpr hd')
  have := Rat.mul_nonneg (a := (b : Rat) - (a : Rat)) (b := (d : Rat)⁻¹) (by have := Rat.intCast_le_intCast.mpr h; grind) hi
  grind
theorem minR_qs {d : Int} (hd : 0 < d) {l : List Int} (h : l ≠ []) : minR (qs d l) = some ((minL l : Rat) / (d : Rat)) := by
  cases e : minR (qs d l) with
  | none => have := minR_none e; unfold qs at this; cases l with | nil => exact absurd rfl h | cons x xs => cases this
  | some r =>
    obtain ⟨a, b⟩ := minR_mem e
    obtain ⟨c, f⟩ := minL_spec l h
    obtain ⟨x, hx, rfl⟩ := List.mem_map.mp a
    have h1 := b _ (List.mem_map.mpr ⟨_, c, rfl⟩)
    have h2 := div_le0 hd (f x hx)
    exact congrArg some (Rat.le_antisymm h1 h2)
theorem maxR_qs {d : Int} (hd : 0 < d) {l : List Int} (h : l ≠ []) : maxR (qs d l) = some ((maxL l : Rat) / (d : Rat)) := by
  cases e : maxR (qs d l) with
  | none => have := maxR_none e; unfold qs at this; cases l with | nil => exact absurd rfl h | cons x xs => cases this
  | some r =>
    obtain ⟨a, b⟩ := maxR_mem e
    obtain ⟨c, f⟩ := maxL_spec l h
    obtain ⟨x, hx, rfl⟩ := List.mem_map.mp a
    have h1 := b _ (List.mem_map.mpr ⟨_, c, rfl⟩)
    have h2 := div_le0 hd (f x hx)
    exact congrArg some (Rat.le_antisymm h2 h1)
theorem qs_sml {d : Int} (hd : 0 < d) (h : Sml d) (l : List Int) : ∀ r ∈ qs d l, Sml (r.den : Int) := by
  intro r hr
  obtain ⟨x, _, rfl⟩ := List.mem_map.mp hr
  have := den_le (t := x) (b := d) (by omega)
  unfold Sml at *
  omega
theorem frD_int (a : Int) : frD (a : Rat) = .tup [.int a, .int 1] := by
  unfold frD; rw [Rat.num_intCast, Rat.den_intCast]; rfl
theorem mul_div1 (a : Int) {d : Int} (hd : 0 < d) : ((a * d : Int) : Rat) / (d : Rat) = (a : Rat) := by
  have hd' : (d : Rat) ≠ 0 := by have := Rat.intCast_lt_intCast.mpr hd; grind
  rw [Rat.intCast_mul]; grind
theorem topG_some {n d : Int} {w : Wl} {k : Kn} {ws : List Wl} {ks : List Kn} : topG n d (w :: ws) (k :: ks) = if toldB n d k then (w.1 * d + w.2 * n) :: topG n d ws ks else topG n d ws ks := by
  cases k with
  | none => rfl
  | some p =>
    rw [topG, toldB]
    by_cases c : n * (p.1.den : Int) < p.1.num * d
    · rw [if_pos c, if_neg (by simpa using c)]
    · rw [if_neg c, if_pos (by simpa using c)]
theorem visL_some {pl : Int} {w : Wl} {k : Kn} {ws : List Wl} {ks : List Kn} : visL pl (w :: ws) (k :: ks) = if w.2 ≠ 0 ∧ toldB (meet w (pl, 0)).num (meet w (pl, 0)).den k then meet w (pl, 0) :: visL pl ws ks else visL pl ws ks := by
  cases k with
  | none => simp [visL, toldB]
  | some p =>
    rw [visL, toldB]
    by_cases c : w.2 ≠ 0 ∧ ¬ meet w (pl, 0) < p.1
    · rw [if_pos c, if_pos ⟨c.1, by rw [← below_iff] at c; simpa using c.2⟩]
    · rw [if_neg c, if_neg (fun z => c ⟨z.1, by rw [← below_iff]; simpa using z.2⟩)]
section
variable (aEnd aCourse : Addr)
def spEnds : XSp := fun ds m Q => ∃ (c aL aR dL dR kn : Addr) (S : CoS) (n d : Int), ds = [.ref c, pairD n d] ∧ CoAt aEnd aCourse m c aL aR dL dR kn S ∧ S.Good ∧ 0 < d ∧ Sml d ∧ Q (endsD (S.endsG n d)) m
def spKnown : XSp := fun ds m Q => ∃ (c aL aR dL dR kn : Addr) (S : CoS) (pl : Int), ds = [.ref c, .int pl] ∧ CoAt aEnd aCourse m c aL aR dL dR kn S ∧ S.Good ∧ (-99 ≤ pl ∧ pl ≤ 99) ∧ Q (minD (S.knownG pl)) m
end
theorem len_Course_ends {aE aC ds m Q} (h : spEnds aE aC ds m Q) : ds.length = 2 := by obtain ⟨_, _, _, _, _, _, _, _, _, rfl, _⟩ := h; rfl
theorem len_Course_known {aE aC ds m Q} (h : spKnown aE aC ds m Q) : ds.length = 2 := by obtain ⟨_, _, _, _, _, _, _, _, rfl, _⟩ := h; rfl
theorem fr0 : frD 0 = .tup [.int 0, .int 1] := rfl
theorem topG_len (n d : Int) : ∀ (ws : List Wl) (ks : List Kn), (topG n d ws ks).length ≤ ws.length
  | [], _ => by simp [topG]
  | _ :: _, [] => by simp [topG]
  | w :: ws, k :: ks => by
    have ih := topG_len n d ws ks
    unfold topG
    split
    · rw [List.length_cons]; omega
    · split <;> simp only [List.length_cons] <;> omega
theorem sml_place {a : Int} (h1 : -99 ≤ a) (h2 : a ≤ 99) : Sml a := by unfold Sml; omega

abbrev s_Course_ends : Stmt := inClass (topS 42) 8
theorem sc_Course_ends : FnScope ["self", "time", "points", "number", "walker"] ["self", "time"] (defScope s_Course_ends) := ⟨rfl, rfl, rfl, by decide +kernel, rfl, by decide +kernel, by decide +kernel⟩
theorem ok_Course_ends (T : Tx P w K mg base aEnd aCourse) {f : Addr} {fd : FuncData} (F : Fun K "ends" "Course.ends" s_Course_ends f fd) (c_most : Dc P w K mg base 2 "most" ["fractions"] spMost) (c_least : Dc P w K mg base 2 "least" ["fractions"] spLeast) (c_Course_is_told : Mc P w K mg base 2 aCourse "is_told" ["self", "number", "time"] (spTold aCourse)) (c_point_of : Dc P w K mg base 2 "point_of" ["line", "time"] spPoint) : FnX P w K mg base 3 f fd ["self", "time"] (spEnds aEnd aCourse) := by
  refine fnX F sc_Course_ends (by intro ds m Q h; exact len_Course_ends h) ⟨_, fun cdv A outer s H E hr => (xss_cons (xs_set (i := 2) sc_Course_ends.nd rfl (Or.inl rfl) (xe_lst (xa_cons (xe_tup (xa_cons (xe_fld (xe_fld (xe_var 0) T.cl_Course T.na_Course_left) T.cl_End T.na_End_begin) (xa_cons xe_int xa_nil))) (xa_cons (xe_tup (xa_cons (xe_fld (xe_fld (xe_var 0) T.cl_Course T.na_Course_right) T.cl_End T.na_End_begin) (xa_cons xe_int xa_nil))) xa_nil))))
      (xss_cons (xs_for (vs := [3, 4]) PassesOwn.never rfl (xi_enumT (by rfl) T.m_enumerate (xa_cons (xe_fld (xe_var 0) T.cl_Course T.na_Course_lines) xa_nil)) (xg_tup (n := 2) rfl (xgs_cons (xg_name (i := 3) sc_Course_ends.nd rfl (Or.inl rfl) (by decide)) (xgs_cons (xg_name (i := 4) sc_Course_ends.nd rfl (Or.inl rfl) (by decide)) xgs_nil))) (xss_one (xs_if (xt_val (xe_methD c_Course_is_told T.cl_Course (hr.mono (by decide)) (xe_var 0) (xa_cons (xe_var 3) (xa_cons (xe_var 1) xa_nil)))) (xss_one (xs_expr (xe_append (xe_var 2) (xe_callD c_point_of (hr.mono (by decide)) (by rfl) (xa_cons (xe_var 4) (xa_cons (xe_var 1) xa_nil)))))) xss_nil)))
      (xss_one (xs_ret (xe_tup (xa_cons (xe_callD c_least (hr.mono (by decide)) (by rfl) (xa_cons (xe_var 2) xa_nil)) (xa_cons (xe_callD c_most (hr.mono (by decide)) (by rfl) (xa_cons (xe_var 2) xa_nil)) xa_nil))))))), fun ds m Q h => ?_⟩

  obtain ⟨c, aL, aR, dL, dR, kn, S, n, dn, rfl, C, G, hd0, hd, q⟩ := h
  show xSeq _ _ _ [some (.ref c), some (pairD n dn), none, none, none] m
  walk_at "rd"
  rw [asIns_ref C.co]
  walk_at "lk"
  rw [asIns_ref C.lf]
  walk_at "lk"
  refine ⟨two_sz, ?_⟩
  rw [asIns_ref C.co]
  walk_at "lk"
  rw [asIns_ref C.rg]
  walk_at "lk"
  refine ⟨two_sz, two_sz, fun p hp => ?_⟩
  have cp : c ≠ p := ne_new C.co hp
  have kp : kn ≠ p := ne_new C.kk hp
  have hc : ∀ x, updM m p x c = some (.ins aCourse (coF S.ws aL aR kn)) := fun x => by rw [updM_ne cp]; exact C.co
  have hk : ∀ x, updM m p x kn = some (.lst (S.knows.map knD)) := fun x => by rw [updM_ne kp]; exact C.kk
  have i0 : [D.tup [.int S.left.bg, .int 1], D.tup [.int S.right.bg, .int 1]] = (qs dn [S.start * dn, S.hi * dn]).map frD := by
    unfold qs
    simp only [List.map_cons, List.map_nil, mul_div1 _ hd0, frD_int, G.lb, G.rb]
  rw [i0]
  rw [asIns_ref (hc _)]
  walk_at "lk"
  walk_at "rd"
  simp only [wsD]
  refine xLoop_ind (fun ds e m' => ∃ (i : Nat) (acc : List Int) (k1 k2 : List Kn) (w2 : List Wl) (x3 x4 : Option D), ds = enumD i (w2.map wkD) ∧ e = [some (.ref c), some (pairD n dn), some (.ref p), x3, x4] ∧ m' = updM m p (.lst ((qs dn acc).map frD)) ∧ k1 ++ k2 = S.knows ∧ k1.length = i ∧ w2.length = k2.length ∧ (∀ w ∈ w2, WSm w) ∧ acc ++ topG n dn w2 k2 = S.topsG n dn ∧ acc.length ≤ i + 2 ∧ i + w2.length ≤ 8 ∧ acc ≠ [])
    ?_ ?_ _ _ _ ⟨0, [S.start * dn, S.hi * dn], [], S.knows, S.ws, none, none, rfl, rfl, rfl, rfl, rfl, G.ok.len, G.ws, rfl, Nat.le_refl _, by have := G.n8; omega, by simp⟩
  · intro e m' ⟨i, acc, k1, k2, w2, x2, x3, h1, h2, h3, h4, h5, h6, h7, h8, h9, h10, h11⟩
    have e2 := enumD_nil h1
    subst e2 h2 h3
    have e3 : acc = S.topsG n dn := by rw [← h8]; simp [topG]
    refine ⟨trivial, ?_⟩
    walk_at "rd"
    refine ⟨p, qs dn acc, rfl, updM_same, qs_sml hd0 hd acc, ?_⟩
    walk_at "rd"
    refine ⟨p, qs dn acc, rfl, updM_same, qs_sml hd0 hd acc, ?_⟩
    walk_at "rd"
    rw [minR_qs hd0 h11, maxR_qs hd0 h11]
    refine ⟨two_sz, m, Sub.refl.upd hp, ?_⟩
    rw [e3]
    exact q
  · intro d ds e m' R ⟨i, acc, k1, k2, w2, x2, x3, h1, h2, h3, h4, h5, h6, h7, h8, h9, h10, h11⟩ hRr
    obtain ⟨w, r, rfl, rfl, rfl⟩ := enumD_cons h1
    cases k2 with
    | nil => cases h6
    | cons k0 k2 =>
    subst h2 h3
    have ow := h7 w List.mem_cons_self
    rw [List.length_cons] at h10
    refine ⟨trivial, ?_⟩
    walk_at "rd"
    have fin : ∀ (acc' : List Int), acc' ++ topG n dn r k2 = S.topsG n dn → acc'.length ≤ i + 1 + 2 → acc' ≠ [] → R [some (.ref c), some (pairD n dn), some (.ref p), some (.int (i : Int)), some (wkD w)] (updM m p (.lst ((qs dn acc').map frD))) := fun acc' e1 e2 e3 => by
      exact hRr _ _ ⟨i + 1, acc', k1 ++ [k0], k2, r, _, _, rfl, rfl, rfl, by rw [← h4]; simp, by simp [h5], by simpa using h6, fun v hv => h7 v (List.mem_cons_of_mem _ hv), e1, e2, by omega, e3⟩
    rw [asIns_ref (hc _)]
    walk_at "lk"
    refine ⟨c, S.ws, aL, aR, kn, S.knows, k0, n, dn, i, rfl, hc _, hk _, by rw [← h4, List.getElem?_append_right (by omega), h5, Nat.sub_self]; rfl, hd, fun kk z => G.kn kk (by rw [← h4, z]; simp), ?_⟩
    walk_at "rd"
    rw [topG_some] at h8
    cases z : toldB n dn k0 with
    | false =>
      rw [z] at h8
      rw [if_neg (by simp)]
      exact fin acc h8 (by omega) h11
    | true =>
      rw [z] at h8
      rw [if_pos rfl] at h8 ⊢
      rw [asL_ref updM_same]
      refine ⟨w.1, w.2, n, dn, rfl, ow.s1, ow.s2, by omega, hd, ?_⟩
      walk_at "rd"
      rw [asL_ref updM_same]
      refine ⟨by rw [List.length_map]; unfold qs; rw [List.length_map]; exact lt_sz (by omega), ?_⟩
      rw [updM_updM, show (qs dn acc).map frD ++ [frD (((w.1 * dn + w.2 * n : Int) : Rat) / (dn : Rat))] = (qs dn (acc ++ [w.1 * dn + w.2 * n])).map frD by simp [qs]]
      exact fin _ (by rw [List.append_assoc]; exact h8) (by rw [List.length_append]; simp; omega) (by simp)
abbrev s_Course_known : Stmt := inClass (topS 42) 9
theorem sc_Course_known : FnScope ["self", "place", "times", "number", "walker", "time"] ["self", "place"] (defScope s_Course_known) := ⟨rfl, rfl, rfl, by decide +kernel, rfl, by decide +kernel, by decide +kernel⟩
theorem ok_Course_known (T : Tx P w K mg base aEnd aCourse) {f : Addr} {fd : FuncData} (F : Fun K "known" "Course.known" s_Course_known f fd) (c_least : Dc P w K mg base 2 "least" ["fractions"] spLeast) (c_Course_is_told : Mc P w K mg base 2 aCourse "is_told" ["self", "number", "time"] (spTold aCourse)) (c_meeting : Dc P w K mg base 2 "meeting" ["one", "other"] spMeeting) (c_Course_is_begun : Mc P w K mg base 1 aCourse "is_begun" ["self", "place"] (spBegun aEnd aCourse)) : FnX P w K mg base 3 f fd ["self", "place"] (spKnown aEnd aCourse) := by
  refine fnX F sc_Course_known (by intro ds m Q h; exact len_Course_known h) ⟨_, fun cdv A outer s H E hr => (xss_cons (xs_if (xt_val (xe_methD c_Course_is_begun T.cl_Course (hr.mono (by decide)) (xe_var 0) (xa_cons (xe_var 1) xa_nil))) (xss_one (xs_ret (xe_gtupE (by rfl) T.m_ZERO))) xss_nil)
      (xss_cons (xs_set (i := 2) sc_Course_known.nd rfl (Or.inl rfl) (xe_lst xa_nil))
      (xss_cons (xs_for (vs := [3, 4]) PassesOwn.never rfl (xi_enumT (by rfl) T.m_enumerate (xa_cons (xe_fld (xe_var 0) T.cl_Course T.na_Course_lines) xa_nil)) (xg_tup (n := 2) rfl (xgs_cons (xg_name (i := 3) sc_Course_known.nd rfl (Or.inl rfl) (by decide)) (xgs_cons (xg_name (i := 4) sc_Course_known.nd rfl (Or.inl rfl) (by decide)) xgs_nil))) (xss_one (xs_if (xt_cmp (xo_ne hr.units) (xe_ix (xe_var 4) xe_int) xe_int (nomark _)) (xss_cons (xs_set (i := 5) sc_Course_known.nd rfl (Or.inl rfl) (xe_callD c_meeting (hr.mono (by decide)) (by rfl) (xa_cons (xe_var 4) (xa_cons (xe_tup (xa_cons (xe_var 1) (xa_cons xe_int xa_nil))) xa_nil))))
      (xss_one (xs_if (xt_val (xe_methD c_Course_is_told T.cl_Course (hr.mono (by decide)) (xe_var 0) (xa_cons (xe_var 3) (xa_cons (xe_var 5) xa_nil)))) (xss_one (xs_expr (xe_append (xe_var 2) (xe_var 5)))) xss_nil))) xss_nil)))
      (xss_one (xs_ret (xe_callD c_least (hr.mono (by decide)) (by rfl) (xa_cons (xe_var 2) xa_nil))))))), fun ds m Q h => ?_⟩

  obtain ⟨c, aL, aR, dL, dR, kn, S, pl, rfl, C, G, hpl, q⟩ := h
  show xSeq _ _ _ [some (.ref c), some (.int pl), none, none, none, none] m
  walk_at "rd"
  rw [asIns_ref C.co]
  walk_at "lk"
  refine ⟨c, S.ws, aL, aR, kn, S.left, S.right, dL, dR, pl, rfl, C.co, C.lf, C.rg, ?_⟩
  walk_at "rd"
  rw [G.lb, G.rb]
  by_cases z : S.start ≤ pl ∧ pl ≤ S.hi
  · rw [if_pos (by simpa using z)]
    rw [CoS.knownG, if_pos z] at q
    exact ⟨m, .refl, q⟩
  rw [if_neg (by simpa using z)]
  rw [CoS.knownG, if_neg z] at q
  refine ⟨Nat.zero_le _, fun p hp => ?_⟩
  have cp : c ≠ p := ne_new C.co hp
  have kp : kn ≠ p := ne_new C.kk hp
  have hc : ∀ x, updM m p x c = some (.ins aCourse (coF S.ws aL aR kn)) := fun x => by rw [updM_ne cp]; exact C.co
  have hk : ∀ x, updM m p x kn = some (.lst (S.knows.map knD)) := fun x => by rw [updM_ne kp]; exact C.kk
  have opl : WSm (pl, 0) := ⟨by show -1000000000 ≤ pl; omega, by show pl ≤ 1000000000; omega, (by show (-9 : Int) ≤ 0; decide), (by show (0 : Int) ≤ 9; decide)⟩
  rw [asIns_ref (hc _)]
  walk_at "lk"
  walk_at "rd"
  simp only [wsD]
  refine xLoop_ind (fun ds e m' => ∃ (i : Nat) (acc : List Rat) (k1 k2 : List Kn) (w2 : List Wl) (x3 x4 x5 : Option D), ds = enumD i (w2.map wkD) ∧ e = [some (.ref c), some (.int pl), some (.ref p), x3, x4, x5] ∧ m' = updM m p (.lst (acc.map frD)) ∧ k1 ++ k2 = S.knows ∧ k1.length = i ∧ w2.length = k2.length ∧ (∀ w ∈ w2, WSm w) ∧ acc ++ visL pl w2 k2 = visL pl S.ws S.knows ∧ acc.length ≤ i ∧ i + w2.length ≤ 8 ∧ ∀ r ∈ acc, Sml (r.den : Int))
    ?_ ?_ _ _ _ ⟨0, [], [], S.knows, S.ws, none, none, none, rfl, rfl, rfl, rfl, rfl, G.ok.len, G.ws, rfl, Nat.le_refl _, by have := G.n8; omega, fun r hr => nomatch hr⟩
  · intro e m' ⟨i, acc, k1, k2, w2, x2, x3, x4, h1, h2, h3, h4, h5, h6, h7, h8, h9, h10, h11⟩
    have e2 := enumD_nil h1
    subst e2 h2 h3
    have e3 : acc = visL pl S.ws S.knows := by rw [← h8]; simp [visL]
    refine ⟨trivial, ?_⟩
    walk_at "rd"
    exact ⟨p, acc, rfl, updM_same, h11, m, Sub.refl.upd hp, by rw [e3]; exact q⟩
  · intro d ds e m' R ⟨i, acc, k1, k2, w2, x2, x3, x4, h1, h2, h3, h4, h5, h6, h7, h8, h9, h10, h11⟩ hRr
    obtain ⟨w, r, rfl, rfl, rfl⟩ := enumD_cons h1
    cases k2 with
    | nil => cases h6
    | cons k0 k2 =>
    subst h2 h3
    have ow := h7 w List.mem_cons_self
    rw [List.length_cons] at h10
    refine ⟨trivial, ?_⟩
    simp only [wkD]
    walk_at "rd"
    have fin : ∀ (x5 : Option D) (acc' : List Rat), acc' ++ visL pl r k2 = visL pl S.ws S.knows → acc'.length ≤ i + 1 → (∀ r ∈ acc', Sml (r.den : Int)) → R [some (.ref c), some (.int pl), some (.ref p), some (.int (i : Int)), some (wkD w), x5] (updM m p (.lst (acc'.map frD))) := fun x5 acc' e1 e2 e3 => by
      exact hRr _ _ ⟨i + 1, acc', k1 ++ [k0], k2, r, _, _, _, rfl, rfl, rfl, by rw [← h4]; simp, by simp [h5], by simpa using h6, fun v hv => h7 v (List.mem_cons_of_mem _ hv), e1, e2, by omega, e3⟩
    simp only [atI_1]
    walk_at "rd"
    refine ⟨trivial, trivial, eq_int ?_⟩
    walk_at "rd"
    rw [visL_some] at h8
    by_cases c0 : w.2 = 0
    · rw [if_neg (by simpa using c0)]
      rw [if_neg (fun z => z.1 c0)] at h8
      exact fin _ acc h8 (by omega) h11
    · rw [if_pos (by simpa using c0)]
      refine ⟨two_sz, ?_⟩
      have hne : w.2 ≠ ((pl, 0) : Wl).2 := c0
      refine ⟨w, (pl, 0), rfl, hne, sub_sml ow opl, ?_⟩
      walk_at "rd"
      have sm := meet_sml hne ow opl
      rw [asIns_ref (hc _)]
      walk_at "lk"
      refine ⟨c, S.ws, aL, aR, kn, S.knows, k0, (meet w (pl, 0)).num, (meet w (pl, 0)).den, i, rfl, hc _, hk _, by rw [← h4, List.getElem?_append_right (by omega), h5, Nat.sub_self]; rfl, sm, fun kk z => G.kn kk (by rw [← h4, z]; simp), ?_⟩
      walk_at "rd"
      cases z : toldB (meet w (pl, 0)).num (meet w (pl, 0)).den k0 with
      | false =>
        rw [if_neg (by rw [z]; simp)] at h8
        rw [if_neg (by simp)]
        exact fin _ acc h8 (by omega) h11
      | true =>
        rw [if_pos ⟨c0, z⟩] at h8
        rw [if_pos rfl]
        rw [asL_ref updM_same, asL_ref updM_same]
        refine ⟨by rw [List.length_map]; exact lt_sz (by omega), ?_⟩
        rw [updM_updM, frs_app]
        refine fin _ _ (by rw [List.append_assoc]; exact h8) (by rw [List.length_append]; simp; omega) fun s hs => ?_
        rcases List.mem_append.mp hs with hs | hs
        · exact h11 s hs
        · rw [List.mem_singleton.mp hs]; exact sm
end
end Sd

set_option Elab.async false
set_option linter.all false
set_option maxRecDepth 100000
set_option maxHeartbeats 4000000
namespace Sd
open PySem PySem.Spec PyProof.Rows L2
local macro_rules | `(tactic| walk_at "rd") => `(tactic| try simp only [xSeq, xAsg, gNm, xRet, xRetN, xIfS, xNext, xDrop, xFor, iRg1, iRg2, iEnuD, gTp, gCo, gNo, gSet, xVar, xC, xOp, xI, xI0, xNeg, xEq, xNe, xIs, xIsNot, xB, xAndT, xOrT, xNotT, xAnd, xOr, xNot, xIfE, xChain, xIx, xNil, xCons, xTup, xLst, xGc, xCall, xMeth, xMake, xFld, xFldS, xApp, xPar, xPar3, xLc, xYes, xCB, xLen, xAbs, x2I, xInt, xList, xTupOf, xIsi, xIsT, iTp, iLst, iZpX, xCat, xCatT, xSlL, xSlT, xpNone, xpSome, xGcS, xBreak, xCont, xIn, xNotIn, xIntB, asBl_bl, xLstRg1, xLstRg2, xTupH, xDNewT, xDNewK, xDPutK, xDGetK, iEnuL, xEqZ, xNeZ, iRevRg1, xLstRev, iZpY, xSortSet, xSortSetA, xRvs, xFmtI, xJs, xStrI, xIntS, xLenS, xAddS, xSplit, xJoin, xRmPre, xIsDec, asS_str, xWord, xCall2, xSeq2, xIf2, xFor2, xRaise2, xRaiseN, xDrop2, xRet2, xIxS, xSlS, xInS, xNotInS, iTxt, xMulS, xRepL, xApp2, xAsg2, xFld2, iLst2, xFor3, xNotInT, asT_tup, xCnt, xIdx, xCls, xXf, xInF, xDGetF, iKeyF, xDictF, iRg3, xRevSl, iSq, seqD_wsX, immD_wsX, immD_tup, oget_some, asI_int, asB_bl, oat_some, one_one, two_two, tri_tri, asT_tup, seqD_tup, seqD_lck, List.getElem?_cons_zero, List.getElem?_cons_succ, List.set_cons_zero, List.set_cons_succ, List.length_cons, List.length_nil])
local macro_rules | `(tactic| walk_at "lk") => `(tactic| try simp only [lk_end_begin, lk_end_way, lk_end_line, lk_end_driver, lk_end_drives, lk_end_lead, lk_end_is_level, lk_end_take, lk_co_lines, lk_co_left, lk_co_right, lk_co_knows, lk_co_is_begun, lk_co_tell_those_inside, lk_co_entry, lk_co_tell, lk_co_drive, lk_co_next_time, lk_co_is_told, lk_co_ends, lk_co_known, lk_co_bringer, oat_some, true_and])

section
variable {P : Program} {w : World} {K : PySem.W.Frag} {mg : Str → Option Value} {base : Heap} {aEnd aCourse : Addr} {PT cT aBadWalkers aBadChain aBadDeed aHalted aBadText aBadPlace aBadTime aBadPoint aNoWalker aNeverKnown aRoadError : Addr}

theorem runC_step : ∀ (n : Nat) (S : CoS) (t : Rat), (S.work t).Ok → mu (S.work t) ≤ n → runC n S t = runC (n + 1) S t
  | 0, S, t, ok, h => by
    rw [runC, runC]
    cases e : (S.work t).next with
    | none => rfl
    | some u => have := mu_work ok e; omega
  | n + 1, S, t, ok, h => by
    rw [runC, runC]
    cases e : (S.work t).next with
    | none => rfl
    | some u => exact runC_step n _ u (ok.work u) (by have := mu_work ok e; omega)
theorem runC_any {S : CoS} {t : Rat} (ok : (S.work t).Ok) : ∀ (k n : Nat), mu (S.work t) ≤ n → runC n S t = runC (n + k) S t
  | 0, n, _ => rfl
  | k + 1, n, h => by rw [runC_any ok k n h, runC_step (n + k) S t ok (by omega)]; rfl
theorem unk_le : ∀ ks : List Kn, unk ks ≤ ks.length
  | [] => Nat.le_refl _
  | none :: ks => by have := unk_le ks; simp only [unk, List.length_cons]; omega
  | some _ :: ks => by have := unk_le ks; simp only [unk, List.length_cons]; omega
theorem quick_le (E : EndS) : ∀ ws : List Wl, quick E ws ≤ ws.length
  | [] => Nat.le_refl _
  | w :: ws => by have := quick_le E ws; simp only [quick, List.length_cons]; split <;> omega
theorem drive_cases (E : EndS) (t : Rat) (ws : List Wl) : E.drive t ws = E ∨ ∃ k w, ws[k]? = some w ∧ E.lead w < 0 ∧ E.level w t ∧ pick E t ws 0 none 0 = some k ∧ E.drive t ws = E.take t k w := by
  unfold EndS.drive
  cases e : pick E t ws 0 none 0 with
  | none => exact .inl rfl
  | some k =>
    rcases pick_le E t ws 0 none 0 k e with z | ⟨i, v, hv, hk, hl, hlev⟩
    · cases z
    · obtain rfl : k = i := by omega
      have hg : ws.getD k (0, 0) = v := by rw [List.getD_eq_getElem?_getD, hv]; rfl
      exact .inr ⟨k, v, hv, hl, hlev, rfl, by simp only [hg]⟩
theorem drive_len (E : EndS) (hw : E.way = 1 ∨ E.way = -1) (t : Rat) (ws : List Wl) : (E.drive t ws).drives.length + quick (E.drive t ws) ws ≤ E.drives.length + quick E ws := by
  rcases drive_cases E t ws with e | ⟨k, w, hk, hl, hv, _, e⟩
  · rw [e]; exact Nat.le_refl _
  · have := (drive_quick E hw t ws).2.2 ⟨w, List.mem_of_getElem? hk, hl, hv⟩
    rw [e] at this ⊢
    have e2 : (E.take t k w).drives.length = E.drives.length + 1 := by simp [EndS.take]
    omega
theorem drive_line {E : EndS} {t : Rat} {ws : List Wl} (h : WSm E.line) (hw : ∀ w ∈ ws, WSm w) : WSm (E.drive t ws).line := by
  rcases drive_cases E t ws with e | ⟨k, w, hk, _, _, _, e⟩
  · rw [e]; exact h
  · rw [e]; exact hw w (List.mem_of_getElem? hk)
theorem drive_bg (E : EndS) (t : Rat) (ws : List Wl) : (E.drive t ws).bg = E.bg := by
  rcases drive_cases E t ws with e | ⟨k, w, _, _, _, _, e⟩
  · rw [e]
  · rw [e]; rfl
theorem tellL_mem (S : CoS) (t : Rat) : ∀ (ws : List Wl) (ks : List Kn) (p : Rat × Option Nat), some p ∈ tellL S t ws ks → some p ∈ ks ∨ p.1 = t
  | w :: ws, k :: ks, p, h => by
    unfold tellL at h
    rcases List.mem_cons.mp h with h | h
    · split at h
      · cases h; exact .inr rfl
      · rw [h]; exact .inl List.mem_cons_self
    · rcases tellL_mem S t ws ks p h with h | h
      · exact .inl (List.mem_cons_of_mem _ h)
      · exact .inr h
  | [], _, _, h => by simp [tellL] at h
  | _ :: _, [], _, h => by simp [tellL] at h
theorem CoS.Good.work {S : CoS} (g : S.Good) {t : Rat} (ht : Sml (t.den : Int)) : (S.work t).Good where
  ok := g.ok.work t
  ws := g.ws
  n8 := g.n8
  lb := (drive_bg S.left t S.ws).trans g.lb
  rb := (drive_bg S.right t S.ws).trans g.rb
  ll := drive_line g.ll g.ws
  rl := drive_line g.rl g.ws
  dl := Nat.le_trans (drive_len S.left (.inr g.ok.lw) t S.ws) g.dl
  dr := Nat.le_trans (drive_len S.right (.inl g.ok.rw) t S.ws) g.dr
  kn := fun p h => by
    rcases tellL_mem S t _ _ p h with h | h
    · exact g.kn p h
    · rw [h]; exact ht
theorem next_sml {S : CoS} (g : S.Good) {u : Rat} (h : S.next = some u) : Sml (u.den : Int) := timesL_sml g _ _ g.ws u (minR_mem h).1
theorem insL_map (lo hi : Int) : ∀ ws : List Wl, insL lo hi ws (ws.map fun _ => none) = ws.map (insK lo hi)
  | [] => rfl
  | w :: ws => by simp only [List.map_cons, insL, insK]; rw [insL_map lo hi ws]
theorem good0 {ws : List Wl} {lo hi : Int} (h : ∀ w ∈ ws, WSm w) (h8 : ws.length ≤ 8) (h1 : WSm (lo, 0)) (h2 : WSm (hi, 0)) : (coG ws lo hi).Good where
  ok := ⟨by simp [coG], rfl, rfl⟩
  ws := h
  n8 := h8
  lb := rfl
  rb := rfl
  ll := h1
  rl := h2
  dl := by have := quick_le (end0 lo (-1)) ws; show 0 + quick (end0 lo (-1)) ws ≤ 8; omega
  dr := by have := quick_le (end0 hi 1) ws; show 0 + quick (end0 hi 1) ws ≤ 8; omega
  kn := fun p h => by
    have h' : some p ∈ ws.map (insK lo hi) := h
    obtain ⟨w, _, e⟩ := List.mem_map.mp h'
    unfold insK at e
    split at e
    · cases e; decide
    · cases e
theorem wsm_st {st : Int} (h1 : -99 ≤ st) (h2 : st ≤ 99) : WSm (st, 0) := ⟨by show -1000000000 ≤ st; omega, by show st ≤ 1000000000; omega, (by show (-9 : Int) ≤ 0; decide), (by show (0 : Int) ≤ 9; decide)⟩
theorem mu0 (ws : List Wl) (lo hi : Int) : mu ((coG ws lo hi).work 0) ≤ 3 * ws.length := by
  have h1 := unk_le ((coG ws lo hi).work 0).knows
  have h2 := quick_le ((coG ws lo hi).work 0).left ws
  have h3 := quick_le ((coG ws lo hi).work 0).right ws
  have h4 : ((coG ws lo hi).work 0).knows.length = ws.length := by
    have := (tell_unk (coG ws lo hi) 0 ws (ws.map (insK lo hi)) (by simp)).1
    show (tellL (coG ws lo hi) 0 ws (ws.map (insK lo hi))).length = _
    rw [this, List.length_map]
  show unk _ + quick _ ws + quick _ ws ≤ _
  omega
/-- from here on any number of turns, if enough, leads to R -/
def Leads (S : CoS) (t : Rat) (R : CoS) : Prop := ∀ n, mu (S.work t) ≤ n → runC n S t = R
theorem leads0 {ws : List Wl} {lo hi : Int} (g : (coG ws lo hi).Good) : Leads (coG ws lo hi) 0 (courseG ws lo hi) := fun n h => by
  have ok := g.ok.work 0
  have m0 := mu0 ws lo hi
  rw [courseG, runC_any ok (3 * ws.length + 1) n h, runC_any ok n (3 * ws.length + 1) (by omega), Nat.add_comm]
theorem Leads.none {S R : CoS} {t : Rat} (h : Leads S t R) (e : (S.work t).next = none) : S.work t = R := by
  have := h _ (Nat.le_refl _)
  rw [← this]
  cases mu (S.work t) with
  | zero => rfl
  | succ n => rw [runC, e]
theorem Leads.some {S R : CoS} {t u : Rat} (ok : (S.work t).Ok) (h : Leads S t R) (e : (S.work t).next = some u) : Leads (S.work t) u R := fun n hn => by
  have h1 := runC_any (ok.work u) (mu (S.work t)) n hn
  rw [h1, ← h (n + mu (S.work t) + 1) (by omega), runC, e]
theorem course_ws : ∀ (n : Nat) (S : CoS) (t : Rat), (runC n S t).ws = S.ws ∧ (runC n S t).start = S.start
  | 0, S, t => ⟨rfl, rfl⟩
  | n + 1, S, t => by
    rw [runC]
    cases (S.work t).next with
    | none => exact ⟨rfl, rfl⟩
    | some u => exact course_ws n _ u
theorem fm_none (ws : List Wl) : ([] : List D) ++ (ws.map wkD).filterMap (fun _ => some D.non) = (ws.map fun _ => (none : Kn)).map knD := by
  rw [List.nil_append]
  induction ws with
  | nil => rfl
  | cons w ws ih => exact congrArg (D.non :: ·) ih
theorem updM_comm {m : M} {a b : Addr} {o u : O} (h : a ≠ b) : updM (updM m a o) b u = updM (updM m b u) a o := by
  funext c
  unfold updM
  by_cases h1 : c = a
  · subst h1; rw [if_neg h]; simp
  · by_cases h2 : c = b
    · subst h2; simp [h1]
    · simp [h1, h2]
structure Fresh (m : M) (aL aR dL dR kn : Addr) : Prop where
  l : m aL = none
  r : m aR = none
  dl : m dL = none
  dr : m dR = none
  k : m kn = none
section
variable (aEnd aCourse : Addr)
def spCourseInit : XSp := fun ds m Q => ∃ x ws lo hi, ds = [.ref x, wsD ws, .int lo, .int hi] ∧ m x = some (.ins aCourse []) ∧ (∀ w ∈ ws, WSm w) ∧ ws.length ≤ 8 ∧ (WSm (lo, 0) ∧ WSm (hi, 0)) ∧
  ∀ m' aL aR dL dR kn, CoAt aEnd aCourse m' x aL aR dL dR kn (courseG ws lo hi) → (courseG ws lo hi).Good → (∀ a, a ≠ x → m a ≠ none → m' a = m a) → Fresh m aL aR dL dR kn → Q .non m'
end
theorem len_Course___init__ {aE aC ds m Q} (h : spCourseInit aE aC ds m Q) : ds.length = 4 := by obtain ⟨_, _, _, _, rfl, _⟩ := h; rfl
section
variable (aEnd aCourse : Addr)
def spCourseFrom : XSp := fun ds m Q => ∃ ws st, ds = [wsD ws, .int st] ∧ (∀ w ∈ ws, WSm w) ∧ ws.length ≤ 8 ∧ WSm (st, 0) ∧
  ∀ m' x aL aR dL dR kn, CoAt aEnd aCourse m' x aL aR dL dR kn (course ws st) → (course ws st).Good → (∀ a, m a ≠ none → m' a = m a) → m x = none → Fresh m aL aR dL dR kn → Q (.ref x) m'
end
theorem len_course_from {aE aC ds m Q} (h : spCourseFrom aE aC ds m Q) : ds.length = 2 := by obtain ⟨_, _, rfl, _⟩ := h; rfl

abbrev s_End___init__ : Stmt := inClass (topS 41) 0
theorem sc_End___init__ : FnScope ["self", "begin", "way"] ["self", "begin", "way"] (defScope s_End___init__) := ⟨rfl, rfl, rfl, by decide +kernel, rfl, by decide +kernel, by decide +kernel⟩
theorem ok_End___init__ (T : Tx P w K mg base aEnd aCourse) {f : Addr} {fd : FuncData} (F : Fun K "__init__" "End.__init__" s_End___init__ f fd)  : FnX P w K mg base 1 f fd ["self", "begin", "way"] (spEndInit aEnd) := by
  refine fnX F sc_End___init__ (by intro ds m Q h; exact len_End___init__ h) ⟨_, fun cdv A outer s H E hr => (xss_cons (xs_fld (xe_var 0) (xe_var 1) T.cl_End T.na_End_begin)
      (xss_cons (xs_fld (xe_var 0) (xe_var 2) T.cl_End T.na_End_way)
      (xss_cons (xs_fld (xe_var 0) (xe_tup (xa_cons (xe_var 1) (xa_cons xe_int xa_nil))) T.cl_End T.na_End_line)
      (xss_cons (xs_fld (xe_var 0) xe_non T.cl_End T.na_End_driver)
      (xss_one (xs_fld (xe_var 0) (xe_lst xa_nil) T.cl_End T.na_End_drives)))))), fun ds m Q h => ?_⟩

  obtain ⟨e, st, way, rfl, he, q⟩ := h
  show xSeq _ _ _ [some (.ref e), some (.int st), some (.int way)] m
  walk_at "rd"
  rw [asIns_ref he]
  refine ⟨(by show 0 < 1000; decide), ?_⟩
  rw [asIns_ref updM_same]
  refine ⟨(by show 1 < 1000; decide), two_sz, ?_⟩
  rw [updM_updM, asIns_ref updM_same]
  refine ⟨(by show 2 < 1000; decide), ?_⟩
  rw [updM_updM, asIns_ref updM_same]
  refine ⟨(by show 3 < 1000; decide), Nat.zero_le _, fun dl hd => ?_⟩
  rw [updM_updM] at hd ⊢
  have ne : dl ≠ e := fun z => by subst z; rw [updM_same] at hd; cases hd
  have hd0 : m dl = none := by rw [updM_ne ne] at hd; exact hd
  rw [asIns_ref (by rw [updM_ne ne.symm]; exact updM_same)]
  refine ⟨(by show 4 < 1000; decide), _, .refl, ?_⟩
  have := q dl ne hd0
  rw [updM_comm ne.symm, updM_updM]
  exact this
abbrev s_Course___init__ : Stmt := inClass (topS 42) 0
theorem sc_Course___init__ : FnScope ["self", "walkers", "left", "right", "time", "_"] ["self", "walkers", "left", "right"] (defScope s_Course___init__) := ⟨rfl, rfl, rfl, by decide +kernel, rfl, by decide +kernel, by decide +kernel⟩
theorem ok_Course___init__ (T : Tx P w K mg base aEnd aCourse) {f : Addr} {fd : FuncData} (F : Fun K "__init__" "Course.__init__" s_Course___init__ f fd) (c_Course_next_time : Mc P w K mg base 3 aCourse "next_time" ["self"] (spNext aEnd aCourse)) (c_Course_drive : Mc P w K mg base 4 aCourse "drive" ["self", "end", "time"] (spDrive aEnd aCourse)) (c_Course_tell : Mc P w K mg base 4 aCourse "tell" ["self", "time"] (spTell aEnd aCourse)) (c_Course_tell_those_inside : Mc P w K mg base 2 aCourse "tell_those_inside" ["self"] (spInside aEnd aCourse)) (k_End : Kc P w K mg base 1 "End" aEnd ["self", "begin", "way"] (spEndInit aEnd)) : FnX P w K mg base 5 f fd ["self", "walkers", "left", "right"] (spCourseInit aEnd aCourse) := by
  refine fnX F sc_Course___init__ (by intro ds m Q h; exact len_Course___init__ h) ⟨_, fun cdv A outer s H E hr => (xss_cons (xs_fld (xe_var 0) (xe_var 1) T.cl_Course T.na_Course_lines)
      (xss_cons (xs_fld (xe_var 0) (xe_makeD k_End (hr.mono (by decide)) (by rfl) (xa_cons (xe_var 2) (xa_cons (xe_neg xe_int) xa_nil))) T.cl_Course T.na_Course_left)
      (xss_cons (xs_fld (xe_var 0) (xe_makeD k_End (hr.mono (by decide)) (by rfl) (xa_cons (xe_var 3) (xa_cons xe_int xa_nil))) T.cl_Course T.na_Course_right)
      (xss_cons (xs_fld (xe_var 0) (xe_lc (own := [("_", 5)]) rfl sc_Course___init__.nd (xi_tup (xe_var 1)) (blkOk_by (N := ["self", "walkers", "left", "right", "time", "_"]) (sc := defScope s_Course___init__) (by decide +kernel)) (fun _ _ _ _ _ => (xg_name (i := 5) sc_Course___init__.nd rfl (Or.inl rfl) (by decide))) (fun _ _ _ _ _ => xts_nil) (fun _ _ _ _ _ => xe_non)) T.cl_Course T.na_Course_knows)
      (xss_cons (xs_expr (xe_meth0D c_Course_tell_those_inside T.cl_Course (hr.mono (by decide)) (xe_var 0)))
      (xss_cons (xs_set (i := 4) sc_Course___init__.nd rfl (Or.inl rfl) (xe_gtupE (by rfl) T.m_ZERO))
      (xss_one (xs_while PassesOwn.never (xt_cmp xo_isnot (xe_var 4) xe_non (nomark _)) (xss_cons (xs_expr (xe_methD c_Course_tell T.cl_Course (hr.mono (by decide)) (xe_var 0) (xa_cons (xe_var 4) xa_nil)))
      (xss_cons (xs_expr (xe_methD c_Course_drive T.cl_Course (hr.mono (by decide)) (xe_var 0) (xa_cons (xe_fld (xe_var 0) T.cl_Course T.na_Course_left) (xa_cons (xe_var 4) xa_nil))))
      (xss_cons (xs_expr (xe_methD c_Course_drive T.cl_Course (hr.mono (by decide)) (xe_var 0) (xa_cons (xe_fld (xe_var 0) T.cl_Course T.na_Course_right) (xa_cons (xe_var 4) xa_nil))))
      (xss_one (xs_set (i := 4) sc_Course___init__.nd rfl (Or.inl rfl) (xe_meth0D c_Course_next_time T.cl_Course (hr.mono (by decide)) (xe_var 0))))))))))))))), fun ds m Q h => ?_⟩

  obtain ⟨c, ws, lo, hi, rfl, hc, ow, h8, ⟨st1, st2⟩, q⟩ := h
  show xSeq _ _ _ [some (.ref c), some (wsD ws), some (.int lo), some (.int hi), none, none] m
  walk_at "rd"
  rw [asIns_ref hc]
  refine ⟨(by show 0 < 1000; decide), fun aL haL => ?_⟩
  generalize hm1 : updM m c _ = m1 at haL ⊢
  have f1 : m1 c = some (.ins aCourse [("lines", wsD ws)]) := by rw [← hm1]; exact updM_same
  have g1 : ∀ a, a ≠ c → m1 a = m a := fun a h => by rw [← hm1, updM_ne h]
  clear hm1
  refine ⟨aL, lo, -1, rfl, updM_same, fun dL ndL hdL => ⟨rfl, ?_⟩⟩
  have ncL : c ≠ aL := ne_new f1 haL
  have ncdL : c ≠ dL := by intro z; subst z; rw [updM_ne ncL, f1] at hdL; cases hdL
  rw [updM_ne ndL] at hdL
  generalize hm2 : updM (updM (updM m1 aL _) dL _) aL _ = m2
  have f2 : m2 c = some (.ins aCourse [("lines", wsD ws)]) := by rw [← hm2, updM_ne ncL, updM_ne ncdL, updM_ne ncL]; exact f1
  have l2 : m2 aL = some (.ins aEnd (endF (end0 lo (-1)) dL)) := by rw [← hm2]; exact updM_same
  have d2 : m2 dL = some (.lst []) := by rw [← hm2, updM_ne ndL]; exact updM_same
  have g2 : ∀ a, a ≠ c → m a ≠ none → m2 a = m a := fun a h n => by
    have h1 : a ≠ aL := fun z => by subst z; rw [← g1 a h] at n; exact n haL
    have h2 : a ≠ dL := fun z => by subst z; rw [← g1 a h] at n; exact n hdL
    rw [← hm2, updM_ne h1, updM_ne h2, updM_ne h1, g1 a h]
  clear hm2
  rw [asIns_ref f2]
  refine ⟨(by show 1 < 1000; decide), fun aR haR => ?_⟩
  generalize hm3 : updM m2 c _ = m3 at haR ⊢
  have f3 : m3 c = some (.ins aCourse [("lines", wsD ws), ("left", .ref aL)]) := by rw [← hm3]; exact updM_same
  have l3 : m3 aL = some (.ins aEnd (endF (end0 lo (-1)) dL)) := by rw [← hm3, updM_ne ncL.symm]; exact l2
  have d3 : m3 dL = some (.lst []) := by rw [← hm3, updM_ne ncdL.symm]; exact d2
  have g3 : ∀ a, a ≠ c → m a ≠ none → m3 a = m a := fun a h n => by rw [← hm3, updM_ne h]; exact g2 a h n
  clear hm3
  refine ⟨aR, hi, 1, rfl, updM_same, fun dR ndR hdR => ⟨rfl, ?_⟩⟩
  have ncR : c ≠ aR := ne_new f3 haR
  have nLR : aL ≠ aR := ne_new l3 haR
  have ndLR : dL ≠ aR := ne_new d3 haR
  rw [updM_ne ndR] at hdR
  have ncdR : c ≠ dR := ne_new f3 hdR
  have nLdR : aL ≠ dR := ne_new l3 hdR
  have ndd : dL ≠ dR := ne_new d3 hdR
  generalize hm4 : updM (updM (updM m3 aR _) dR _) aR _ = m4
  have f4 : m4 c = some (.ins aCourse [("lines", wsD ws), ("left", .ref aL)]) := by rw [← hm4, updM_ne ncR, updM_ne ncdR, updM_ne ncR]; exact f3
  have l4 : m4 aL = some (.ins aEnd (endF (end0 lo (-1)) dL)) := by rw [← hm4, updM_ne nLR, updM_ne nLdR, updM_ne nLR]; exact l3
  have d4 : m4 dL = some (.lst []) := by rw [← hm4, updM_ne ndLR, updM_ne ndd, updM_ne ndLR]; exact d3
  have r4 : m4 aR = some (.ins aEnd (endF (end0 hi 1) dR)) := by rw [← hm4]; exact updM_same
  have e4 : m4 dR = some (.lst []) := by rw [← hm4, updM_ne ndR]; exact updM_same
  have g4 : ∀ a, a ≠ c → m a ≠ none → m4 a = m a := fun a h n => by
    have h1 : a ≠ aR := fun z => by subst z; rw [← g3 a h n] at n; exact n haR
    have h2 : a ≠ dR := fun z => by subst z; rw [← g3 a h n] at n; exact n hdR
    rw [← hm4, updM_ne h1, updM_ne h2, updM_ne h1]; exact g3 a h n
  clear hm4
  rw [asIns_ref f4]
  refine ⟨(by show 2 < 1000; decide), ?_⟩
  generalize hm5 : updM m4 c _ = m5
  have f5 : m5 c = some (.ins aCourse [("lines", wsD ws), ("left", .ref aL), ("right", .ref aR)]) := by rw [← hm5]; exact updM_same
  have l5 : m5 aL = some (.ins aEnd (endF (end0 lo (-1)) dL)) := by rw [← hm5, updM_ne ncL.symm]; exact l4
  have d5 : m5 dL = some (.lst []) := by rw [← hm5, updM_ne ncdL.symm]; exact d4
  have r5 : m5 aR = some (.ins aEnd (endF (end0 hi 1) dR)) := by rw [← hm5, updM_ne ncR.symm]; exact r4
  have e5 : m5 dR = some (.lst []) := by rw [← hm5, updM_ne ncdR.symm]; exact e4
  have g5 : ∀ a, a ≠ c → m a ≠ none → m5 a = m a := fun a h n => by rw [← hm5, updM_ne h]; exact g4 a h n
  clear hm5
  simp only [wsD]
  walk_at "rd"
  refine xLcG_pure (fun _ => some .non) trivial _ _ (fun d hd R h => ?_) (by simp; exact lt_sz (by omega)) (fun kn hkn => ?_)
  · walk_at "rd"
    exact h
  have nck : c ≠ kn := ne_new f5 hkn
  have nLk : aL ≠ kn := ne_new l5 hkn
  have nRk : aR ≠ kn := ne_new r5 hkn
  have ndk : dL ≠ kn := ne_new d5 hkn
  have nek : dR ≠ kn := ne_new e5 hkn
  rw [asIns_ref (by rw [updM_ne nck]; exact f5)]
  refine ⟨(by show 3 < 1000; decide), ?_⟩
  rw [show ([] : List D) ++ (ws.map wkD).filterMap (fun _ => some D.non) = (ws.map fun _ => (none : Kn)).map knD from fm_none ws]
  have G0 : (coG ws lo hi).Good := good0 ow h8 st1 st2
  have cz : ∀ x y, updM (updM m5 kn x) c y c = some y := fun x y => updM_same
  rw [asIns_ref (cz _ _)]
  refine ⟨rfl, c, ws, aL, aR, kn, end0 lo (-1), end0 hi 1, dL, dR, ws.map fun _ => none, rfl, updM_same, by rw [updM_ne ncL.symm, updM_ne nLk]; exact l5, by rw [updM_ne ncR.symm, updM_ne nRk]; exact r5, by rw [updM_ne nck.symm, updM_same], by rw [List.length_map], ?_⟩
  walk_at "rd"
  generalize hm6 : updM (updM (updM m5 kn _) c _) kn _ = m6
  have C0 : CoAt aEnd aCourse m6 c aL aR dL dR kn (coG ws lo hi) := by
    refine ⟨?_, ?_, ?_, ?_, ?_, ?_, nLR, ndd, ndk, nek⟩
    · rw [← hm6, updM_ne nck, updM_same]; rfl
    · rw [← hm6, updM_ne nLk, updM_ne ncL.symm, updM_ne nLk]; exact l5
    · rw [← hm6, updM_ne nRk, updM_ne ncR.symm, updM_ne nRk]; exact r5
    · rw [← hm6, updM_ne ndk, updM_ne ncdL.symm, updM_ne ndk]; exact d5
    · rw [← hm6, updM_ne nek, updM_ne ncdR.symm, updM_ne nek]; exact e5
    · rw [← hm6, updM_same]
      exact congrArg (fun x : List Kn => some (O.lst (x.map knD))) (insL_map lo hi ws)
  have g6 : ∀ a, a ≠ c → m a ≠ none → m6 a = m a := fun a h n => by
    have h1 : a ≠ kn := fun z => by subst z; rw [← g5 a h n] at n; exact n hkn
    rw [← hm6, updM_ne h1, updM_ne h, updM_ne h1]; exact g5 a h n
  clear hm6
  have zL : m aL = none := by rw [← g1 _ ncL.symm]; exact haL
  have zdL : m dL = none := by rw [← g1 _ ncdL.symm]; exact hdL
  have frn : ∀ (mm : M) (a : Addr), (∀ a, a ≠ c → m a ≠ none → mm a = m a) → a ≠ c → mm a = none → m a = none := fun mm a h1 h2 h3 => by
    cases hx : m a with
    | none => rfl
    | some o => rw [h1 a h2 (by rw [hx]; exact fun z => nomatch z), hx] at h3; cases h3
  have zR : m aR = none := frn m3 aR g3 ncR.symm haR
  have zdR : m dR = none := frn m3 dR g3 ncdR.symm hdR
  have zk : m kn = none := frn m5 kn g5 nck.symm hkn
  refine ⟨fun n e m' => ∃ (o : Option Rat) (S : CoS) (x4 : Option D), e = [some (.ref c), some (wsD ws), some (.int lo), some (.int hi), some (minD o), x4] ∧ CoAt aEnd aCourse m' c aL aR dL dR kn S ∧ S.Good ∧ (∀ a, a ≠ c → m a ≠ none → m' a = m a) ∧
    (match o with | none => S = courseG ws lo hi | some t => Sml (t.den : Int) ∧ Leads S t (courseG ws lo hi) ∧ mu (S.work t) < n), ⟨mu ((coG ws lo hi).work 0) + 1, some 0, coG ws lo hi, none, rfl, C0, G0, g6, by decide, leads0 G0, Nat.lt_succ_self _⟩, ?_⟩
  intro n e m' ⟨o, S, x4, he, C, G, fr, ho⟩
  subst he
  walk_at "rd"
  refine ⟨trivial, ?_⟩
  cases o with
  | none =>
    rw [if_neg (by simp [minD, isNon])]
    subst ho
    exact ⟨m', .refl, q m' aL aR dL dR kn C G fr ⟨zL, zR, zdL, zdR, zk⟩⟩
  | some t =>
    rw [if_pos (by simp [minD, isNon, frD])]
    obtain ⟨ht, hL, hn⟩ := ho
    have a1 : c ≠ kn := ne_of_get C.co C.kk (fun z => nomatch z)
    have a2 : aL ≠ kn := ne_of_get C.lf C.kk (fun z => nomatch z)
    have a3 : aR ≠ kn := ne_of_get C.rg C.kk (fun z => nomatch z)
    have b1 : c ≠ dL := ne_of_get C.co C.ld (fun z => nomatch z)
    have b2 : aL ≠ dL := ne_of_get C.lf C.ld (fun z => nomatch z)
    have b3 : aR ≠ dL := ne_of_get C.rg C.ld (fun z => nomatch z)
    have e1 : c ≠ dR := ne_of_get C.co C.rd (fun z => nomatch z)
    have e2 : aL ≠ dR := ne_of_get C.lf C.rd (fun z => nomatch z)
    have e3 : aR ≠ dR := ne_of_get C.rg C.rd (fun z => nomatch z)
    refine ⟨fun e' m2 => ∃ (o : Option Rat) (x4 : Option D), e' = [some (.ref c), some (wsD ws), some (.int lo), some (.int hi), some (minD o), x4] ∧ CoAt aEnd aCourse m2 c aL aR dL dR kn (S.work t) ∧ (∀ a, a ≠ c → m a ≠ none → m2 a = m a) ∧ o = (S.work t).next, fun e' m2 ⟨o, x4, h1, h2, h3, h4⟩ => ?_, ?_⟩
    · subst h4
      cases hx : (S.work t).next with
      | none => exact ⟨0, by omega, none, S.work t, x4, by rw [h1, hx], h2, G.work ht, h3, hL.none hx⟩
      | some u => exact ⟨mu ((S.work t).work u) + 1, by have := mu_work (G.ok.work t) hx; omega, some u, S.work t, x4, by rw [h1, hx], h2, G.work ht, h3, next_sml (G.work ht) hx, hL.some (G.ok.work t) hx, Nat.lt_succ_self _⟩
    rw [asIns_ref C.co]
    walk_at "lk"
    refine ⟨c, aL, aR, dL, dR, kn, S, t, rfl, C, G, ht, fun m1 k1 fr1 => ?_⟩
    walk_at "rd"
    have co1 := (fr1 c a1).trans C.co
    rw [asIns_ref co1]
    walk_at "lk"
    rw [asIns_ref co1]
    walk_at "lk"
    refine ⟨c, aL, dL, S.left, S.ws, aL, aR, kn, t, rfl, co1, ⟨(fr1 aL a2).trans C.lf, .inr G.ok.lw, G.ll⟩, (fr1 dL C.n3).trans C.ld, by have := G.dl; omega, G.ws, G.n8, ht, fun m2 p1 p2 fr2 => ?_⟩
    walk_at "rd"
    have c1 : c ≠ aL := ne_of_get C.co C.lf (fun z => by cases z)
    have c2 : c ≠ aR := ne_of_get C.co C.rg (fun z => by cases z)
    have co2 := (fr2 c c1 b1).trans co1
    rw [asIns_ref co2]
    walk_at "lk"
    rw [asIns_ref co2]
    walk_at "lk"
    refine ⟨c, aR, dR, S.right, S.ws, aL, aR, kn, t, rfl, co2, ⟨(fr2 aR C.n1.symm b3).trans ((fr1 aR a3).trans C.rg), .inl G.ok.rw, G.rl⟩, (fr2 dR e2.symm C.n2.symm).trans ((fr1 dR C.n4).trans C.rd), by have := G.dr; omega, G.ws, G.n8, ht, fun m3 p3 p4 fr3 => ?_⟩
    walk_at "rd"
    have co3 := (fr3 c c2 e1).trans co2
    have C3 : CoAt aEnd aCourse m3 c aL aR dL dR kn (S.work t) :=
      ⟨co3, (fr3 aL C.n1 e2).trans p1, p3, (fr3 dL b3.symm C.n2).trans p2, p4, (fr3 kn a3.symm C.n4.symm).trans ((fr2 kn a2.symm C.n3.symm).trans k1), C.n1, C.n2, C.n3, C.n4⟩
    rw [asIns_ref co3]
    walk_at "lk"
    refine ⟨c, aL, aR, dL, dR, kn, S.work t, rfl, C3, G.work ht, ?_⟩
    walk_at "rd"
    refine ⟨_, _, rfl, C3, fun a ha hn => ?_, rfl⟩
    have q1 : a ≠ aL := fun z => by subst z; exact hn zL
    have q2 : a ≠ dL := fun z => by subst z; exact hn zdL
    have q3 : a ≠ aR := fun z => by subst z; exact hn zR
    have q4 : a ≠ dR := fun z => by subst z; exact hn zdR
    have q5 : a ≠ kn := fun z => by subst z; exact hn zk
    rw [fr3 a q3 q4, fr2 a q1 q2, fr1 a q5]
    exact fr a ha hn
abbrev s_course_from : Stmt := topS 43
theorem sc_course_from : FnScope ["walkers", "start"] ["walkers", "start"] (defScope s_course_from) := ⟨rfl, rfl, rfl, by decide +kernel, rfl, by decide +kernel, by decide +kernel⟩
theorem ok_course_from (T : Tx P w K mg base aEnd aCourse) {f : Addr} {fd : FuncData} (F : Fun K "course_from" "course_from" s_course_from f fd) (k_Course : Kc P w K mg base 5 "Course" aCourse ["self", "walkers", "left", "right"] (spCourseInit aEnd aCourse)) : FnX P w K mg base 7 f fd ["walkers", "start"] (spCourseFrom aEnd aCourse) := by
  refine fnX F sc_course_from (by intro ds m Q h; exact len_course_from h) ⟨_, fun cdv A outer s H E hr => (xss_one (xs_ret (xe_makeD k_Course (hr.mono (by decide)) (by rfl) (xa_cons (xe_var 0) (xa_cons (xe_var 1) (xa_cons (xe_var 1) xa_nil)))))), fun ds m Q h => ?_⟩

  obtain ⟨ws, st, rfl, ow, h8, os, q⟩ := h
  show xRet _ _ [some (wsD ws), some (.int st)] m
  walk_at "rd"
  refine fun x hx => ?_
  refine ⟨x, ws, st, st, rfl, updM_same, ow, h8, ⟨os, os⟩, fun m' aL aR dL dR kn C Gd fr Fr => ⟨rfl, m', .refl, ?_⟩⟩
  rw [courseG_one] at C Gd
  have un : ∀ a, updM m x (.ins aCourse []) a = none → m a = none := fun a h => by
    have ne : a ≠ x := fun z => by subst z; rw [updM_same] at h; cases h
    rw [updM_ne ne] at h; exact h
  refine q m' x aL aR dL dR kn C Gd (fun a ha => ?_) hx ⟨un _ Fr.l, un _ Fr.r, un _ Fr.dl, un _ Fr.dr, un _ Fr.k⟩
  have ne : a ≠ x := fun z => by subst z; exact ha hx
  rw [fr a ne (by rw [updM_ne ne]; exact ha), updM_ne ne]
end
end Sd

set_option Elab.async false
set_option linter.all false
set_option maxRecDepth 100000
set_option maxHeartbeats 4000000
namespace Sd
open PySem PySem.Spec PyProof.Rows L2
local macro_rules | `(tactic| walk_at "rd") => `(tactic| try simp only [xSeq, xAsg, gNm, xRet, xRetN, xIfS, xNext, xDrop, xFor, iRg1, iRg2, iEnuD, gTp, gCo, gNo, gSet, xVar, xC, xOp, xI, xI0, xNeg, xEq, xNe, xIs, xIsNot, xB, xAndT, xOrT, xNotT, xAnd, xOr, xNot, xIfE, xChain, xIx, xNil, xCons, xTup, xLst, xGc, xCall, xMeth, xMake, xFld, xFldS, xApp, xPar, xPar3, xLc, xYes, xCB, xLen, xAbs, x2I, xInt, xList, xTupOf, xIsi, xIsT, iTp, iLst, iZpX, xCat, xCatT, xSlL, xSlT, xpNone, xpSome, xGcS, xBreak, xCont, xIn, xNotIn, xIntB, asBl_bl, xLstRg1, xLstRg2, xTupH, xDNewT, xDNewK, xDPutK, xDGetK, iEnuL, xEqZ, xNeZ, iRevRg1, xLstRev, iZpY, xSortSet, xSortSetA, xRvs, xFmtI, xJs, xStrI, xIntS, xLenS, xAddS, xSplit, xJoin, xRmPre, xIsDec, asS_str, xWord, xCall2, xSeq2, xIf2, xFor2, xRaise2, xRaiseN, xDrop2, xRet2, xIxS, xSlS, xInS, xNotInS, iTxt, xMulS, xRepL, xApp2, xAsg2, xFld2, iLst2, xFor3, xNotInT, asT_tup, xCnt, xIdx, xCls, xXf, xInF, xDGetF, iKeyF, xDictF, iRg3, xRevSl, iSq, seqD_wsX, immD_wsX, immD_tup, oget_some, asI_int, asB_bl, oat_some, one_one, two_two, tri_tri, asT_tup, seqD_tup, seqD_lck, List.getElem?_cons_zero, List.getElem?_cons_succ, List.set_cons_zero, List.set_cons_succ, List.length_cons, List.length_nil])
local macro_rules | `(tactic| walk_at "lk") => `(tactic| try simp only [lk_end_begin, lk_end_way, lk_end_line, lk_end_driver, lk_end_drives, lk_end_lead, lk_end_is_level, lk_end_take, lk_co_lines, lk_co_left, lk_co_right, lk_co_knows, lk_co_is_begun, lk_co_tell_those_inside, lk_co_entry, lk_co_tell, lk_co_drive, lk_co_next_time, lk_co_is_told, lk_co_ends, lk_co_known, lk_co_bringer, oat_some, true_and])

section
variable {P : Program} {w : World} {K : PySem.W.Frag} {mg : Str → Option Value} {base : Heap} {aEnd aCourse : Addr} {PT cT aBadWalkers aBadChain aBadDeed aHalted aBadText aBadPlace aBadTime aBadPoint aNoWalker aNeverKnown aRoadError : Addr}
theorem chi (ws : List Wl) (st : Int) : (course ws st).hi = (course ws st).start := by
  unfold course
  rw [runC_hi, (course_ws _ _ _).2]; rfl
def lrnD : Kn → D
  | none => .non
  | some p => frD p.1
section
variable (aEnd aCourse : Addr)
structure Given (ws : List Wl) (st : Int) : Prop where
  ow : ∀ w ∈ ws, WOk w
  h8 : ws.length ≤ 8
  s1 : -99 ≤ st
  s2 : st ≤ 99
def spCourseOf : XSp := fun ds m Q => ∃ ws st, ds = [wsD ws, .int st] ∧ Given ws st ∧
  ∀ m' x aL aR dL dR kn, CoAt aEnd aCourse m' x aL aR dL dR kn (course ws st) → (course ws st).Good → (∀ a, m a ≠ none → m' a = m a) → m x = none → Fresh m aL aR dL dR kn → Q (.ref x) m'

variable (aW : Addr)
theorem plD_sub {m m' : M} {d : D} (h : PlD m d) (s : Sub m m') : PlD m' d := by
  cases d <;> first | exact h | (obtain ⟨es, e⟩ := h; exact ⟨es, s _ _ e⟩)
theorem plA_sub {m m' : M} {d : D} (h : PlA m d) (s : Sub m m') : PlA m' d := ⟨plD_sub h.1 s, fun xs e x hx => plD_sub (h.2 xs e x hx) s⟩
theorem plB_sub {m m' : M} {d : D} (h : PlB m d) (s : Sub m m') : PlB m' d := ⟨plD_sub h.1 s, fun xs e x hx => plA_sub (h.2 xs e x hx) s⟩
def xLearnt : XSp2 := fun ds m Q G => ∃ o st, ds = [o, .int st] ∧ PlB m o ∧ (-99 ≤ st ∧ st ≤ 99) ∧ ((∃ ws, o = wsD ws ∧ Given ws st ∧ ∀ p, m p = none → Q (.ref p) (updM m p (.lst ((course ws st).knows.map lrnD)))) ∨ ∃ k, WsB o = some k ∧ G aW [("number", (k : Int))] m)
def xCourseOf : XSp2 := fun ds m Q G => ∃ o st, ds = [o, .int st] ∧ PlB m o ∧ (-99 ≤ st ∧ st ≤ 99) ∧ ((∃ ws, o = wsD ws ∧ Given ws st ∧
  ∀ m' x aL aR dL dR kn, CoAt aEnd aCourse m' x aL aR dL dR kn (course ws st) → (course ws st).Good → (∀ a, m a ≠ none → m' a = m a) → m x = none → Fresh m aL aR dL dR kn → Q (.ref x) m') ∨ ∃ k, WsB o = some k ∧ G aW [("number", (k : Int))] m)
end
theorem lenx_course_of {aE aC aW ds m Q G} (h : xCourseOf aE aC aW ds m Q G) : ds.length = 2 := by obtain ⟨_, _, rfl, _⟩ := h; rfl
theorem lenx_learnt {aW ds m Q G} (h : xLearnt aW ds m Q G) : ds.length = 2 := by obtain ⟨_, _, rfl, _⟩ := h; rfl
theorem isNon_lrn {k : Kn} : isNon (lrnD k) = decide (k = none) := by cases k <;> rfl
theorem wkB_ok {w : Wl} (h : WOk w) : wkB (wkD w) = true := by
  have := h.h1; have := h.h2; have := h.h3; have := h.h4
  show (decide _ && decide _) = true
  rw [decide_eq_true (by omega), decide_eq_true (by omega)]; rfl
theorem badW_ok : ∀ (ws : List Wl) (i : Nat), (∀ w ∈ ws, WOk w) → i + ws.length ≤ 8 → badW i (ws.map wkD) = none
  | [], _, _, _ => rfl
  | w :: ws, i, h, hl => by
    rw [List.length_cons] at hl
    rw [List.map_cons, badW, if_neg (by rw [wkB_ok (h w List.mem_cons_self)]; simp; omega)]
    exact badW_ok ws (i + 1) (fun v hv => h v (List.mem_cons_of_mem _ hv)) (by omega)
theorem ws_ok {ws : List Wl} {st : Int} (h : Given ws st) : WsB (wsD ws) = none := badW_ok ws 0 h.ow (by have := h.h8; omega)
theorem wkB_out {d : D} (h : wkB d = true) : ∃ w, d = wkD w ∧ WOk w := by
  unfold wkB at h
  split at h
  · rename_i a b
    rw [Bool.and_eq_true] at h
    cases a <;> simp only [whD, Bool.false_eq_true, false_and] at h
    cases b <;> simp only [Bool.false_eq_true, and_false] at h
    rename_i i j
    rw [decide_eq_true_eq, decide_eq_true_eq] at h
    exact ⟨(i, j), rfl, ⟨h.1.1, h.1.2, h.2.1, h.2.2⟩⟩
  · cases h
theorem badW_out : ∀ (ds : List D) (i : Nat), badW i ds = none → i ≤ 8 → ∃ ws : List Wl, ds = ws.map wkD ∧ (∀ w ∈ ws, WOk w) ∧ i + ws.length ≤ 8
  | [], i, _, hi => ⟨[], rfl, (fun _ z => nomatch z), hi⟩
  | d :: ds, i, h, hi => by
    unfold badW at h
    split at h
    · cases h
    · rename_i c
      obtain ⟨w, rfl, ow⟩ := wkB_out (d := d) (by cases e : wkB d with | true => rfl | false => exact absurd (.inr e) c)
      obtain ⟨ws, rfl, o2, hl⟩ := badW_out ds (i + 1) h (by by_cases z : i = 8; exact absurd (.inl z) c; omega)
      exact ⟨w :: ws, rfl, fun v hv => by
        rcases List.mem_cons.mp hv with z | z
        · rw [z]; exact ow
        · exact o2 v z, by rw [List.length_cons]; omega⟩
theorem ws_out {o : D} (h : WsB o = none) : ∃ ws, o = wsD ws ∧ (∀ w ∈ ws, WOk w) ∧ ws.length ≤ 8 := by
  cases o <;> try (cases h)
  rename_i xs
  obtain ⟨ws, rfl, ow, hl⟩ := badW_out xs 0 h (by decide)
  exact ⟨ws, rfl, ow, by omega⟩
theorem plB_ws (m : M) (ws : List Wl) : PlB m (wsD ws) := ⟨trivial, fun xs e x hx => by
  cases e
  obtain ⟨w, _, rfl⟩ := List.mem_map.mp hx
  refine ⟨trivial, fun ys e y hy => ?_⟩
  cases e
  rcases List.mem_cons.mp hy with z | z
  · rw [z]; trivial
  · rw [List.mem_singleton.mp z]; trivial⟩

abbrev s_course_of : Stmt := topS 45
theorem sc_course_of : FnScope ["walkers", "start"] ["walkers", "start"] (defScope s_course_of) := ⟨rfl, rfl, rfl, by decide +kernel, rfl, by decide +kernel, by decide +kernel⟩
theorem ok_course_of (T : Tx P w K mg base aEnd aCourse) {f : Addr} {fd : FuncData} (F : Fun K "course_of" "course_of" s_course_of f fd) (c_course_from : Dc P w K mg base 7 "course_from" ["walkers", "start"] (spCourseFrom aEnd aCourse)) (c2_check_place : D2 P w K mg base 4 "check_place" ["place"] (gCkP aBadPlace)) (c2_check_walkers : D2 P w K mg base 5 "check_walkers" ["walkers"] (gCkWalkers aBadWalkers)) : Fn2 P w K mg base 8 f fd ["walkers", "start"] (xCourseOf aEnd aCourse aBadWalkers) := by
  refine fnX3 F sc_course_of (by intro ds m Q G h; exact lenx_course_of h) ⟨_, fun cdv A outer s H E hr tk hp => (xx_cons (xx_expr (xe_call2D tk c2_check_walkers (hr.mono (by decide)) (by rfl) (xa_cons (xe_var 0) xa_nil)))
      (xx_cons (xx_expr (xe_call2D tk c2_check_place (hr.mono (by decide)) (by rfl) (xa_cons (xe_var 1) xa_nil)))
      (xx_one (PS.upX (xs_ret (xe_callD c_course_from (hr.mono (by decide)) (by rfl) (xa_cons (xe_var 0) (xa_cons (xe_var 1) xa_nil)))))))), fun ds m Q G h => ?_⟩

  obtain ⟨o, st, rfl, pl, hst, hc⟩ := h
  show xSeq2 _ _ _ _ [some o, some (.int st)] m
  walk_at "rd"
  rcases hc with ⟨ws, rfl, GV, q⟩ | ⟨k, hk, g⟩
  · refine ⟨_, rfl, pl, .inl ⟨ws_ok GV, ?_⟩⟩
    refine ⟨_, rfl, trivial, .inl ⟨decide_eq_true hst, ?_⟩⟩
    exact ⟨ws, st, rfl, fun w hw => (GV.ow w hw).sm, GV.h8, wsm_st GV.s1 GV.s2, fun m' x aL aR dL dR kn C Gd fr hx Fr => ⟨m', .refl, q m' x aL aR dL dR kn C Gd fr hx Fr⟩⟩
  · exact ⟨_, rfl, pl, .inr ⟨k, hk, m, .refl, g⟩⟩
abbrev s_learnt : Stmt := topS 46
theorem sc_learnt : FnScope ["walkers", "start", "found", "knows"] ["walkers", "start"] (defScope s_learnt) := ⟨rfl, rfl, rfl, by decide +kernel, rfl, by decide +kernel, by decide +kernel⟩
theorem ok_learnt (T : Tx P w K mg base aEnd aCourse) {f : Addr} {fd : FuncData} (F : Fun K "learnt" "learnt" s_learnt f fd) (c2_course_of : D2 P w K mg base 8 "course_of" ["walkers", "start"] (xCourseOf aEnd aCourse aBadWalkers)) : Fn2 P w K mg base 9 f fd ["walkers", "start"] (xLearnt aBadWalkers) := by
  refine fnX3 F sc_learnt (by intro ds m Q G h; exact lenx_learnt h) ⟨_, fun cdv A outer s H E hr tk hp => (xx_cons (PS.upX (xs_set (i := 2) sc_learnt.nd rfl (Or.inl rfl) (xe_lst xa_nil)))
      (xx_cons (xx_forX (vs := [3]) hp rfl (xi_listX (xe_fldX (xe_call2D tk c2_course_of (hr.mono (by decide)) (by rfl) (xa_cons (xe_var 0) (xa_cons (xe_var 1) xa_nil))) T.cl_Course T.na_Course_knows)) (xg_name (i := 3) sc_learnt.nd rfl (Or.inl rfl) (by decide)) (PSs.upX (xss_one (xs_if (xt_cmp xo_is (xe_var 3) xe_non (nomark _)) (xss_one (xs_expr (xe_append (xe_var 2) xe_non))) (xss_one (xs_expr (xe_append (xe_var 2) (xe_ix (xe_var 3) xe_int))))))))
      (xx_one (PS.upX (xs_ret (xe_var 2)))))), fun ds m Q G h => ?_⟩

  obtain ⟨o, st, rfl, pl, hst, hc⟩ := h
  show xSeq2 _ _ _ _ [some o, some (.int st), none, none] m
  walk_at "rd"
  refine ⟨Nat.zero_le _, fun p hp => ?_⟩
  have plu : PlB (updM m p (.lst [])) o := plB_sub pl (Sub.refl.upd hp)
  rcases hc with ⟨ws, rfl, GV, q⟩ | ⟨k, hk, g⟩
  rotate_left
  · exact ⟨o, st, rfl, plu, hst, .inr ⟨k, hk, m, Sub.refl.upd hp, g⟩⟩
  refine ⟨_, st, rfl, plu, hst, .inl ⟨ws, rfl, GV, fun m' x aL aR dL dR kn C Gd fr hx Fr => ?_⟩⟩
  have hp1 : m' p = some (.lst []) := by rw [fr p (by rw [updM_same]; exact fun z => nomatch z), updM_same]
  dsimp only
  rw [asIns_ref C.co]
  walk_at "lk"
  rw [asL_ref C.kk]
  have hl : (course ws st).knows.length ≤ 8 := by rw [← Gd.ok.len]; exact Gd.n8
  have hsub : ∀ (a : Addr) (o : O), m a = some o → m' a = some o ∧ a ≠ p := fun a o ha => by
    have ne : a ≠ p := fun z => by subst z; rw [hp] at ha; cases ha
    rw [fr a (by rw [updM_ne ne, ha]; exact fun z => nomatch z), updM_ne ne]
    exact ⟨ha, ne⟩
  have pk : p ≠ kn := fun z => by subst z; have := Fr.k; rw [updM_same] at this; cases this
  refine xLoop2_ind (fun ds e mm => ∃ (acc : List D) (ks : List Kn) (x3 : Option D), ds = ks.map knD ∧ e = [some (wsD ws), some (.int st), some (.ref p), x3] ∧ mm = updM m' p (.lst acc) ∧ acc ++ ks.map lrnD = (course ws st).knows.map lrnD)
    ?_ ?_ _ _ _ ⟨[], (course ws st).knows, none, rfl, rfl, by funext a; unfold updM; split <;> simp_all, rfl⟩
  · intro e mm ⟨acc, ks, x3, h1, h2, h3, h4⟩
    have hk : ks = [] := by cases ks with | nil => rfl | cons k ks => cases h1
    subst hk h2 h3
    rw [List.map_nil, List.append_nil] at h4
    refine ⟨by rw [updM_ne pk.symm]; exact C.kk, ?_⟩
    walk_at "rd"
    refine ⟨updM m p (.lst ((course ws st).knows.map lrnD)), fun a o ha => ?_, q p hp⟩
    by_cases z : a = p
    · subst z; rw [updM_same] at ha ⊢; rw [h4]; exact ha
    · rw [updM_ne z] at ha ⊢; exact (hsub a o ha).1
  · intro d ds e mm R ⟨acc, ks, x3, h1, h2, h3, h4⟩ hR
    cases ks with
    | nil => cases h1
    | cons k ks =>
    cases h1
    subst h2 h3
    have hlen : acc.length < 1000 := by
      have := congrArg List.length h4
      rw [List.length_append, List.length_map, List.length_map, List.length_cons] at this
      omega
    refine ⟨by rw [updM_ne pk.symm]; exact C.kk, ?_⟩
    walk_at "rd"
    try refine And.intro trivial ?_
    rw [isNon_kn]
    have fin : R [some (wsD ws), some (.int st), some (.ref p), some (knD k)] (updM m' p (.lst (acc ++ [lrnD k]))) := hR _ _ ⟨acc ++ [lrnD k], ks, _, rfl, rfl, rfl, by rw [List.append_assoc]; exact h4⟩
    cases k with
    | none =>
      rw [if_pos (by simp), asL_ref updM_same, asL_ref updM_same]
      refine ⟨lt_sz (by omega), ?_⟩
      rw [updM_updM]
      exact fin
    | some kk =>
      rw [if_neg (by simp), asL_ref updM_same]
      simp only [knD]
      walk_at "rd"
      simp only [atI_0]
      walk_at "rd"
      rw [asL_ref updM_same]
      refine ⟨lt_sz (by omega), ?_⟩
      rw [updM_updM]
      exact fin
end
end Sd

set_option Elab.async false
set_option linter.all false
set_option maxRecDepth 100000
set_option maxHeartbeats 4000000
namespace Sd
open PySem PySem.Spec PyProof.Rows L2
local macro_rules | `(tactic| walk_at "rd") => `(tactic| try simp only [xSeq, xAsg, gNm, xRet, xRetN, xIfS, xNext, xDrop, xFor, iRg1, iRg2, iEnuD, gTp, gCo, gNo, gSet, xVar, xC, xOp, xI, xI0, xNeg, xEq, xNe, xIs, xIsNot, xB, xAndT, xOrT, xNotT, xAnd, xOr, xNot, xIfE, xChain, xIx, xNil, xCons, xTup, xLst, xGc, xCall, xMeth, xMake, xFld, xFldS, xApp, xPar, xPar3, xLc, xYes, xCB, xLen, xAbs, x2I, xInt, xList, xTupOf, xIsi, xIsT, iTp, iLst, iZpX, xCat, xCatT, xSlL, xSlT, xpNone, xpSome, xGcS, xBreak, xCont, xIn, xNotIn, xIntB, asBl_bl, xLstRg1, xLstRg2, xTupH, xDNewT, xDNewK, xDPutK, xDGetK, iEnuL, xEqZ, xNeZ, iRevRg1, xLstRev, iZpY, xSortSet, xSortSetA, xRvs, xFmtI, xJs, xStrI, xIntS, xLenS, xAddS, xSplit, xJoin, xRmPre, xIsDec, asS_str, xWord, xCall2, xSeq2, xIf2, xFor2, xRaise2, xRaiseN, xDrop2, xRet2, xIxS, xSlS, xInS, xNotInS, iTxt, xMulS, xRepL, xApp2, xAsg2, xFld2, iLst2, xFor3, xNotInT, asT_tup, xCnt, xIdx, xCls, xXf, xInF, xDGetF, iKeyF, xDictF, iRg3, xRevSl, iSq, seqD_wsX, immD_wsX, immD_tup, oget_some, asI_int, asB_bl, oat_some, one_one, two_two, tri_tri, asT_tup, seqD_tup, seqD_lck, List.getElem?_cons_zero, List.getElem?_cons_succ, List.set_cons_zero, List.set_cons_succ, List.length_cons, List.length_nil])
local macro_rules | `(tactic| walk_at "lk") => `(tactic| try simp only [lk_end_begin, lk_end_way, lk_end_line, lk_end_driver, lk_end_drives, lk_end_lead, lk_end_is_level, lk_end_take, lk_co_lines, lk_co_left, lk_co_right, lk_co_knows, lk_co_is_begun, lk_co_tell_those_inside, lk_co_entry, lk_co_tell, lk_co_drive, lk_co_next_time, lk_co_is_told, lk_co_ends, lk_co_known, lk_co_bringer, oat_some, true_and])

section
variable {P : Program} {w : World} {K : PySem.W.Frag} {mg : Str → Option Value} {base : Heap} {aEnd aCourse : Addr} {PT cT aBadWalkers aBadChain aBadDeed aHalted aBadText aBadPlace aBadTime aBadPoint aNoWalker aNeverKnown aRoadError : Addr}
abbrev s_check_walkersR : Stmt := s_check_walkers
theorem ok_check_walkersR (T : Tx P w K mg base aEnd aCourse) {f : Addr} {fd : FuncData} (F : Fun K "check_walkers" "check_walkers" s_check_walkersR f fd) (c_is_walker : Dc P w K mg base 4 "is_walker" ["told"] gWalker) (k2_BadWalkers : K2 P w K mg base 1 "BadWalkers" "number" aBadWalkers) : FnX P w K mg base 5 f fd ["walkers"] (of2 (gCkWalkers aBadWalkers)) := fnX_of2 (ok_check_walkers T F c_is_walker k2_BadWalkers)
abbrev s_check_placeR : Stmt := s_check_place
theorem ok_check_placeR (T : Tx P w K mg base aEnd aCourse) {f : Addr} {fd : FuncData} (F : Fun K "check_place" "check_place" s_check_placeR f fd) (c_is_place : Dc P w K mg base 3 "is_place" ["told"] gPlace) (NK_BadPlace : NKx K mg "BadPlace" aBadPlace) : FnX P w K mg base 4 f fd ["place"] (of2 (gCkP aBadPlace)) := fnX_of2 (ok_check_place T F c_is_place NK_BadPlace)
abbrev s_readR : Stmt := s_read
theorem ok_readR (T : Tx P w K mg base aEnd aCourse) {f : Addr} {fd : FuncData} (F : Fun K "read" "read" s_readR f fd) (c2_check_walkers : D2 P w K mg base 5 "check_walkers" ["walkers"] (gCkWalkers aBadWalkers)) (c2_numbers_of : D2 P w K mg base 4 "numbers_of" ["row", "words"] (xNums aBadText)) (k2_BadText : K2 P w K mg base 1 "BadText" "row" aBadText) : FnX P w K mg base 7 f fd ["text"] (of2 (xRead aBadText aBadWalkers)) := fnX_of2 (ok_read T F c2_check_walkers c2_numbers_of k2_BadText)

def dueD (l : List Nat) : D := match readV l with
  | .inl k => .tup [.str "text", .int (k : Int)]
  | .inr (o, st) => .tup [.str "road", o, .int st]
def spDue : XSp := fun ds m Q => ∃ l, ds = [.str (ofL l)] ∧ (∀ c ∈ l, c < 128) ∧ l.length ≤ 1700 ∧ Q (dueD l) m
theorem len_law_due {ds m Q} (h : spDue ds m Q) : ds.length = 1 := by obtain ⟨_, rfl, _⟩ := h; rfl
def pyN (l : List Nat) : PyData := match numB l with
  | some n => .int n
  | none => .none
theorem toPy_num (l : List Nat) : toPy (numD l) = some (pyN l) := by
  unfold numD pyN
  cases numB l <;> simp [toPy]
theorem toPys_nums : ∀ ls : List (List Nat), toPys (ls.map numD) = some (ls.map pyN)
  | [] => by simp [toPys]
  | l :: r => by simp [toPys, toPy_num, toPys_nums r]
theorem lay_nums : ∀ ls : List (List Nat), PyData.canLayAll0 (ls.map pyN) = true ∧ PyData.depthAll (ls.map pyN) ≤ 10
  | [] => by simp [PyData.canLayAll0, PyData.depthAll]
  | l :: r => by
    obtain ⟨h1, h2⟩ := lay_nums r
    have h3 : PyData.canLay0 (pyN l) = true ∧ PyData.depth (pyN l) ≤ 10 := by
      unfold pyN
      cases numB l <;> simp [PyData.depth, PyData.canLay0]
    refine ⟨by simp [PyData.canLayAll0, h3.1, h1], ?_⟩
    rw [List.map_cons, PyData.depthAll]
    exact Nat.max_le.mpr ⟨h3.2, h2⟩
theorem shaped_nums (ls : List (List Nat)) : SeqAt.shaped (.list (ls.map pyN)) = true := by
  obtain ⟨h1, h2⟩ := lay_nums ls
  unfold SeqAt.shaped
  rw [PyData.canLay0, PyData.depth, h1, Bool.true_and]
  exact decide_eq_true (by omega)
theorem any_none : ∀ ls : List (List Nat), ((ls.map pyN).any fun z => PyData.eqv z .none) = (numsB ls).isNone
  | [] => rfl
  | l :: r => by
    have e : numsB (l :: r) = (match numB l, numsB r with | some n, some ns => some (n :: ns) | _, _ => none) := rfl
    rw [List.map_cons, List.any_cons, any_none r, e]
    unfold pyN
    cases numB l <;> cases numsB r <;> simp [PyData.eqv]
theorem in_nums {m : M} {p : Addr} {ls : List (List Nat)} {k : Bool → Prop} (h : m p = some (.lst (ls.map numD))) (hk : k (numsB ls).isNone) : inD m .non (.ref p) k :=
  ⟨.none, ls.map pyN, rfl, by simp [toPyM, h, toPys_nums], rfl, shaped_nums ls, by rw [any_none]; exact hk⟩
def numF : D → Option D
  | .str s => some (numD s.cps.toList)
  | _ => none
theorem numF_map : ∀ ls : List (List Nat), (wdsD ls).filterMap numF = ls.map numD
  | [] => rfl
  | l :: r => by
    have e : numF (.str (ofL l)) = some (numD l) := rfl
    show ((D.str (ofL l)) :: wdsD r).filterMap numF = _
    rw [List.filterMap_cons_some e, numF_map r]; rfl
theorem nums_all : ∀ (ls : List (List Nat)) (ns : List Int), numsB ls = some ns → ls.map numD = ns.map D.int
  | [], ns, h => by cases h; rfl
  | l :: r, ns, h => by
    unfold numsB at h
    split at h
    · rename_i n ns' e1 e2
      cases h
      rw [List.map_cons, nums_all r ns' e2]
      unfold numD
      rw [e1]; rfl
    · cases h
theorem rangeD_cons {a b : Int} (h : a < b) : rangeD a b = .int a :: rangeD (a + 1) b := by
  unfold rangeD
  obtain ⟨k, hk⟩ : ∃ k, (b - a).toNat = k + 1 := ⟨(b - a).toNat - 1, by omega⟩
  rw [hk, show (b - (a + 1)).toNat = k by omega, List.range_succ_eq_map, List.map_cons, List.map_map]
  congr 1
  · simp
  · refine List.map_congr_left fun i _ => ?_
    simp only [Function.comp_apply, D.int.injEq]
    show a + ((i + 1 : Nat) : Int) = a + 1 + (i : Int)
    omega
theorem rangeD_nil {a b : Int} (h : b ≤ a) : rangeD a b = [] := by
  unfold rangeD
  rw [show (b - a).toNat = 0 by omega]; rfl

abbrev s_law_due : Stmt := topS 55
theorem sc_law_due : FnScope ["_law_text", "_law_found", "_law_lines", "_law_k", "_law_words", "_law_numbers", "_law_word_here"] ["_law_text"] (defScope s_law_due) := ⟨rfl, rfl, rfl, by decide +kernel, rfl, by decide +kernel, by decide +kernel⟩
theorem ok_law_due (T : Tx P w K mg base aEnd aCourse) {f : Addr} {fd : FuncData} (F : Fun K "_law_due" "_law_due" s_law_due f fd) (c__law_number : Dc P w K mg base 1 "_law_number" ["_law_word_here"] spLN) : FnX P w K mg base 2 f fd ["_law_text"] spDue := by
  refine fnX F sc_law_due (by intro ds m Q h; exact len_law_due h) ⟨_, fun cdv A outer s H E hr => (xss_cons (xs_set (i := 1) sc_law_due.nd rfl (Or.inl rfl) (xe_lst xa_nil))
      (xss_cons (xs_set (i := 2) sc_law_due.nd rfl (Or.inl rfl) (xe_split (xe_var 0) xe_str))
      (xss_cons (xs_for (vs := [3]) PassesOwn.never rfl (xi_range1 (by rfl) T.m_range (xa_cons (xe_cb xc_len (by rfl) T.m_len boot_len (xa_cons (xe_var 2) xa_nil)) xa_nil)) (xg_name (i := 3) sc_law_due.nd rfl (Or.inl rfl) (by decide)) (xss_cons (xs_set (i := 4) sc_law_due.nd rfl (Or.inl rfl) (xe_split (xe_ix (xe_var 2) (xe_var 3)) xe_str))
      (xss_cons (xs_if (PW.pt (xw_or (xt_cmp (xo_ne hr.units) (xe_ix (xe_var 4) xe_int) (xe_gc (xe_ix (xe_lst (xa_cons xe_str (xa_cons xe_str xa_nil))) (xe_ct xc_intB (by rfl) T.m_int boot_int (xa_cons (xe_cmp (xo_eq hr.units) (xe_var 3) xe_int (nomark _)) xa_nil)))) (nomark _)) (xw_or1 (xt_cmp (xo_ne hr.units) (xe_cb xc_len (by rfl) T.m_len boot_len (xa_cons (xe_var 4) xa_nil)) (xe_gc (xe_ix (xe_lst (xa_cons xe_int (xa_cons xe_int xa_nil))) (xe_ct xc_intB (by rfl) T.m_int boot_int (xa_cons (xe_cmp (xo_eq hr.units) (xe_var 3) xe_int (nomark _)) xa_nil)))) (nomark _))))) (xss_one (xs_ret (xe_tup (xa_cons xe_str (xa_cons (xe_var 3) xa_nil))))) xss_nil)
      (xss_cons (xs_setLc (own := [("_law_word_here", 6)]) (i := 5) rfl sc_law_due.nd rfl rfl (sw_true rfl rfl rfl (by decide +kernel)) (xi_list (xe_slL (xe_var 4) (xp_some xe_int) xp_none)) (blkOk_by (N := ["_law_text", "_law_found", "_law_lines", "_law_k", "_law_words", "_law_numbers", "_law_word_here"]) (sc := defScope s_law_due) (by decide +kernel)) (fun _ _ _ _ _ => (xg_name (i := 6) sc_law_due.nd rfl (Or.inl rfl) (by decide))) (fun _ _ _ _ _ => xts_nil) (fun _ _ _ _ _ => (xe_callD c__law_number (hr.mono (by decide)) (by rfl) (xa_cons (xe_var 6) xa_nil))))
      (xss_cons (xs_if (xt_cmp (xo_inD (room65 hr)) xe_non (xe_var 5) rfl) (xss_one (xs_ret (xe_tup (xa_cons xe_str (xa_cons (xe_var 3) xa_nil))))) xss_nil)
      (xss_one (xs_expr (xe_append (xe_var 1) (xe_tupleOf (by rfl) T.m_tuple (xe_var 5))))))))))
      (xss_one (xs_ret (xe_tup (xa_cons xe_str (xa_cons (xe_tupleOf (by rfl) T.m_tuple (xe_slL (xe_var 1) (xp_some xe_int) xp_none)) (xa_cons (xe_ix (xe_ix (xe_var 1) xe_int) xe_int) xa_nil))))))))), fun ds m Q h => ?_⟩

  obtain ⟨l, rfl, la, ll, q⟩ := h
  show xSeq _ _ _ [some (.str (ofL l)), none, none, none, none, none, none] m
  refine hide fun K1 hK1 => ?_
  walk_at "rd"
  refine ⟨Nat.zero_le _, fun pN hpN => ?_⟩
  rw [hK1]
  clear hK1
  refine hide fun K1 hK1 => ?_
  walk_at "rd"
  refine ⟨by decide +kernel, le_bg (by show l.length + 2 ≤ 100000; omega), fun pL hpL => ?_⟩
  obtain ⟨R, hR0⟩ : ∃ R, cutL 10 [] l = R := ⟨_, rfl⟩
  have Rlen : R.length ≤ 1701 := by have := (cutL_len 10 l []).1; rw [hR0] at this; omega
  have Ras : ∀ r ∈ R, (∀ c ∈ r, c < 128) ∧ r.length ≤ 1700 := fun r hr => by
    rw [← hR0] at hr
    have := (cutL_len 10 l []).2 r hr
    exact ⟨cutL_mem 10 (· < 128) l [] (fun _ z => nomatch z) la r hr, by simp at this; omega⟩
  have Rne : R ≠ [] := by rw [← hR0]; exact cutL_ne 10 l []
  rw [show (Str.ofString "\n") = ofL [10] from by decide +kernel, split_ofL la (by decide), hR0]
  have hL : updM (updM m pN (.lst [])) pL (.lst ((R.map ofL).map D.str)) pL = some (.lst ((R.map ofL).map D.str)) := updM_same
  have hN : updM (updM m pN (.lst [])) pL (.lst ((R.map ofL).map D.str)) pN = some (.lst (([] : List (List Int)).map fun ns => D.tup (ns.map .int))) := by rw [updM_ne (neW updM_same hpL), updM_same]; rfl
  have hM : Sub m (updM (updM m pN (.lst [])) pL (.lst ((R.map ofL).map D.str))) := (Sub.refl.upd hpN).upd hpL
  have nL : pN ≠ pL := neW updM_same hpL
  generalize updM (updM m pN (.lst [])) pL (.lst ((R.map ofL).map D.str)) = m1 at hL hN hM ⊢
  rw [hK1]
  clear hK1
  refine hide fun K1 hK1 => ?_
  walk_at "rd"
  rw [seqD_ref hL, oat_some]
  simp only [List.length_map]
  refine ⟨⟨by omega, by omega⟩, ?_⟩
  refine xLoop_ind (fun ds e m' => ∃ (i : Nat) (rest : List (List Nat)) (dn : List (List Int)) (x3 x4 x5 x6 : Option D), ds = rangeD (i : Int) (R.length : Int) ∧ R.drop i = rest ∧ i ≤ R.length ∧ dn.length = i ∧ e = [some (.str (ofL l)), some (.ref pN), some (.ref pL), x3, x4, x5, x6] ∧ m' pL = some (.lst ((R.map ofL).map D.str)) ∧ m' pN = some (.lst (dn.map fun ns => D.tup (ns.map .int))) ∧ Sub m m' ∧ readR 0 R = (match readR i rest with | .inl k => .inl k | .inr x => .inr (dn ++ x)))
    ?_ ?_ _ _ _ ⟨0, R, [], none, none, none, none, rfl, rfl, Nat.zero_le _, rfl, rfl, hL, hN, hM, by cases readR 0 R <;> rfl⟩
  · intro e m' ⟨i, rest, dn, x3, x4, x5, x6, g1, g2, g3, g4, g5, hL, hN, hM, hr⟩
    subst g5
    have iR : i = R.length := by
      by_cases z : i < R.length
      · rw [rangeD_cons (by omega)] at g1; cases g1
      · omega
    have re : rest = [] := by rw [← g2, iR, List.drop_length]
    subst re
    have hdn : readR 0 R = .inr dn := by rw [hr]; unfold readR; simp
    obtain ⟨n0, dr, rfl⟩ : ∃ n0 dr, dn = n0 :: dr := by
      cases dn with
      | nil => have := List.length_pos_iff.mpr Rne; simp at g4; omega
      | cons a b => exact ⟨a, b, rfl⟩
    obtain ⟨z0, hz0⟩ := read_head Rne hdn
    subst hz0
    have rv : readV l = .inr (numsD dr, z0) := by unfold readV; rw [hR0, hdn]; rfl
    have q2 : Q (.tup [.str "road", numsD dr, .int z0]) m := by
      unfold dueD at q; rw [rv] at q; exact q
    refine ⟨trivial, ?_⟩
    dsimp only
    rw [hK1]
    clear hK1
    walk_at "rd"
    rw [lstD_ref hN, oat_some]
    intro pC hpC
    rw [show cutD ((([z0] : List Int) :: dr).map fun ns => D.tup (ns.map .int)) (some 1) none = dr.map fun ns => D.tup (ns.map .int) from by
      rw [show (1 : Int) = ((0 : Nat) : Int) + 1 from rfl, cut_drop (by simp)]; rfl]
    rw [seqD_ref updM_same, oat_some, seqD_ref (by rw [updM_ne (neW hN hpC)]; exact hN), oat_some]
    simp only [List.map_cons, atI_0, oat_some, seqD_tup]
    exact ⟨le_sz (by decide), m, Sub.upd hM hpC, q2⟩
  · intro d ds e m' Rk ⟨i, rest, dn, x3, x4, x5, x6, g1, g2, g3, g4, g5, hL, hN, hM, hr⟩ hRk
    have il : i < R.length := by
      by_cases z : i < R.length
      · exact z
      · rw [rangeD_nil (by omega)] at g1; cases g1
    rw [rangeD_cons (by omega)] at g1
    cases g1
    subst g5
    obtain ⟨r, rest, rfl⟩ : ∃ r r', rest = r :: r' := by
      cases rest with
      | nil => have := List.drop_eq_nil_iff.mp g2; omega
      | cons a b => exact ⟨a, b, rfl⟩
    have hi : R[i]? = some r := by rw [← List.head?_drop, g2]; rfl
    have or := Ras r (List.mem_of_getElem? hi)
    refine ⟨trivial, ?_⟩
    simp only [gNm, List.set_cons_succ, List.set_cons_zero]
    refine hide fun K2 hK2 => ?_
    walk_at "rd"
    rw [seqD_ref hL, oat_some, show ((R.map ofL).map D.str) = R.map fun r => D.str (ofL r) from by rw [List.map_map]; rfl, atI_map hi]
    walk_at "rd"
    refine ⟨by decide +kernel, le_bg (by show r.length + 2 ≤ 100000; omega), fun p1 hp1 => ?_⟩
    rw [show (Str.ofString " ") = ofL [32] from by decide +kernel, split_ofL or.1 (by decide), show ((cutL 32 [] r).map ofL).map D.str = wdsD (cutL 32 [] r) from by unfold wdsD; rw [List.map_map]; rfl]
    have wo := wds_ok or.1 (by omega)
    obtain ⟨h0, fs, hw⟩ : ∃ h0 fs, cutL 32 [] r = h0 :: fs := by
      cases e : cutL 32 [] r with
      | nil => exact absurd e (cutL_ne 32 r [])
      | cons a b => exact ⟨a, b, rfl⟩
    rw [hw] at wo ⊢
    have hp1' : updM m' p1 (.lst (wdsD (h0 :: fs))) p1 = some (.lst (wdsD (h0 :: fs))) := updM_same
    have hL1 : updM m' p1 (.lst (wdsD (h0 :: fs))) pL = some (.lst ((R.map ofL).map D.str)) := by rw [updM_ne (neW hL hp1)]; exact hL
    have hN1 : updM m' p1 (.lst (wdsD (h0 :: fs))) pN = some (.lst (dn.map fun ns => D.tup (ns.map .int))) := by rw [updM_ne (neW hN hp1)]; exact hN
    have hM1 : Sub m (updM m' p1 (.lst (wdsD (h0 :: fs)))) := Sub.upd hM hp1
    generalize updM m' p1 (.lst (wdsD (h0 :: fs))) = m2 at hp1' hL1 hN1 hM1 ⊢
    rw [hK2]
    clear hK2
    refine hide fun K2 hK2 => ?_
    walk_at "rd"
    have bad : rowB i (h0 :: fs) = none → Q (.tup [.str "text", .int (i : Int)]) m := fun hb => by
      have e : readV l = .inl i := by
        have e2 : readR 0 R = .inl i := by
          rw [hr]
          unfold readR
          rw [hw, hb]
        unfold readV
        rw [hR0, e2]
      unfold dueD at q; rw [e] at q; exact q
    have o0 := wo.as h0 List.mem_cons_self
    have lenF : (wdsD (h0 :: fs)).length = fs.length + 1 := by unfold wdsD; simp
    rw [seqD_ref hp1', oat_some, show atI (wdsD (h0 :: fs)) 0 = some (.str (ofL h0)) from atI_0, oat_some]
    refine ⟨two_sz, fun p2 hp2 => eq_int ?_⟩
    rw [seqD_ref updM_same, oat_some]
    have hd : atI [D.str (Str.ofString "walker"), D.str (Str.ofString "said")] (if decide ((i : Int) = 0) = true then 1 else 0) = some (.str (headR i)) := by
      unfold headR
      by_cases c : i = 0
      · rw [decide_eq_true (by omega), if_pos rfl, atI_1, if_pos c]; try rfl
      · rw [decide_eq_false (by omega), if_neg (by decide), atI_0, if_neg c]; try rfl
    rw [hd, oat_some]
    refine ⟨m2, Sub.refl.upd hp2, eq_str o0.2.2 (by unfold headR; split <;> decide +kernel) ?_⟩
    by_cases c1 : ofL h0 = headR i
    rotate_left
    · rw [decide_eq_false c1, if_pos (by decide), if_pos trivial]
      exact ⟨two_sz, m, hM1, bad (if_neg fun z => c1 z.1)⟩
    rw [decide_eq_true c1, if_neg (by decide), seqD_ref hp1', oat_some]
    refine ⟨two_sz, fun p3 hp3 => eq_int ?_⟩
    rw [seqD_ref updM_same, oat_some]
    have hd3 : atI [D.int 3, D.int 2] (if decide ((i : Int) = 0) = true then 1 else 0) = some (.int ((manyR i : Int) + 1)) := by
      unfold manyR
      by_cases c : i = 0
      · rw [decide_eq_true (by omega), if_pos rfl, atI_1, if_pos c]; try rfl
      · rw [decide_eq_false (by omega), if_neg (by decide), atI_0, if_neg c]; try rfl
    rw [hd3, oat_some, lenF]
    refine ⟨m2, Sub.refl.upd hp3, eq_int ?_⟩
    by_cases c2 : fs.length = manyR i
    rotate_left
    · rw [decide_eq_false (by omega), if_pos (by decide)]
      exact ⟨two_sz, m, hM1, bad (if_neg fun z => c2 z.2)⟩
    rw [decide_eq_true (by omega), if_neg (by decide)]
    have e1 : rowB i (h0 :: fs) = numsB fs := if_pos ⟨c1, c2⟩
    rw [e1] at bad
    rw [hK2]
    clear hK2
    refine hide fun K2 hK2 => ?_
    walk_at "rd"
    rw [lstD_ref hp1', oat_some]
    intro p4 hp4
    rw [show cutD (wdsD (h0 :: fs)) (some 1) none = wdsD fs from by
      rw [show (1 : Int) = ((0 : Nat) : Int) + 1 from rfl, cut_drop (by simp [wdsD])]; rfl, asL_ref updM_same]
    refine xLcG_pure numF updM_same _ _ (fun x hx R hR => ?_) (by have := wo.few; unfold wdsD; simp at this ⊢; exact lt_bg (by omega)) (fun p5 hp5 => ?_)
    · obtain ⟨l2, hl2, rfl⟩ := List.mem_map.mp hx
      simp only [wipeD, List.map_cons, List.map_nil]
      walk_at "rd"
      have o2 := wo.as l2 (List.mem_cons_of_mem _ hl2)
      refine ⟨l2, rfl, o2.1, o2.2.1, ?_⟩
      exact hR
    rw [List.nil_append, numF_map]
    have s4 : Sub m2 (updM m2 p4 (.lst (wdsD fs))) := Sub.refl.upd hp4
    have s5 : Sub m2 (updM (updM m2 p4 (.lst (wdsD fs))) p5 (.lst (fs.map numD))) := s4.upd hp5
    have hp5' : updM (updM m2 p4 (.lst (wdsD fs))) p5 (.lst (fs.map numD)) p5 = some (.lst (fs.map numD)) := updM_same
    generalize updM (updM m2 p4 (.lst (wdsD fs))) p5 (.lst (fs.map numD)) = m3 at s5 hp5' ⊢
    rw [hK2]
    clear hK2
    refine hide fun K2 hK2 => ?_
    walk_at "rd"
    refine in_nums hp5' ?_
    cases hb : numsB fs with
    | none =>
      rw [Option.isNone_none, if_pos rfl]
      try rw [if_pos trivial]
      exact ⟨two_sz, m, Sub.trans hM1 s5, bad hb⟩
    | some ns =>
    rw [Option.isNone_some, if_neg (by decide)]
    rw [hK2]
    clear hK2
    walk_at "rd"
    rw [asL_ref (s5 _ _ hN1), seqD_ref hp5', oat_some, asL_ref (s5 _ _ hN1), nums_all fs ns hb]
    refine ⟨by rw [List.length_map]; exact lt_bg (by omega), ?_⟩
    refine hRk _ _ ⟨i + 1, rest, dn ++ [ns], _, _, _, _, by rw [show ((i + 1 : Nat) : Int) = (i : Int) + 1 by omega], ?_, il, by simp [g4], rfl, by rw [updM_ne nL.symm]; exact s5 _ _ hL1, by rw [updM_same, List.map_append]; rfl, fun b o h => ?_, ?_⟩
    · rw [← List.tail_drop, g2]; rfl
    · have z : b ≠ pN := neW h hpN
      rw [updM_ne z]; exact s5 _ _ (hM1 b o h)
    · rw [hr]
      conv => lhs; unfold readR
      rw [hw, e1, hb]
      cases readR (i + 1) rest with
      | inl k => rfl
      | inr x => simp
end
end Sd

set_option Elab.async false
set_option linter.all false
set_option maxRecDepth 100000
set_option maxHeartbeats 4000000
namespace Sd
open PySem PySem.Spec PyProof.Rows L2
local macro_rules | `(tactic| walk_at "rd") => `(tactic| try simp only [xSeq, xAsg, gNm, xRet, xRetN, xIfS, xNext, xDrop, xFor, iRg1, iRg2, iEnuD, gTp, gCo, gNo, gSet, xVar, xC, xOp, xI, xI0, xNeg, xEq, xNe, xIs, xIsNot, xB, xAndT, xOrT, xNotT, xAnd, xOr, xNot, xIfE, xChain, xIx, xNil, xCons, xTup, xLst, xGc, xCall, xMeth, xMake, xFld, xFldS, xApp, xPar, xPar3, xLc, xYes, xCB, xLen, xAbs, x2I, xInt, xList, xTupOf, xIsi, xIsT, iTp, iLst, iZpX, xCat, xCatT, xSlL, xSlT, xpNone, xpSome, xGcS, xBreak, xCont, xIn, xNotIn, xIntB, asBl_bl, xLstRg1, xLstRg2, xTupH, xDNewT, xDNewK, xDPutK, xDGetK, iEnuL, xEqZ, xNeZ, iRevRg1, xLstRev, iZpY, xSortSet, xSortSetA, xRvs, xFmtI, xJs, xStrI, xIntS, xLenS, xAddS, xSplit, xJoin, xRmPre, xIsDec, asS_str, xWord, xCall2, xSeq2, xIf2, xFor2, xRaise2, xRaiseN, xDrop2, xRet2, xIxS, xSlS, xInS, xNotInS, iTxt, xMulS, xRepL, xApp2, xAsg2, xFld2, iLst2, xFor3, xNotInT, asT_tup, xCnt, xIdx, xCls, xXf, xInF, xDGetF, iKeyF, xDictF, iRg3, xRevSl, iSq, seqD_wsX, immD_wsX, immD_tup, oget_some, asI_int, asB_bl, oat_some, one_one, two_two, tri_tri, asT_tup, seqD_tup, seqD_lck, List.getElem?_cons_zero, List.getElem?_cons_succ, List.set_cons_zero, List.set_cons_succ, List.length_cons, List.length_nil])
local macro_rules | `(tactic| walk_at "lk") => `(tactic| try simp only [lk_end_begin, lk_end_way, lk_end_line, lk_end_driver, lk_end_drives, lk_end_lead, lk_end_is_level, lk_end_take, lk_co_lines, lk_co_left, lk_co_right, lk_co_knows, lk_co_is_begun, lk_co_tell_those_inside, lk_co_entry, lk_co_tell, lk_co_drive, lk_co_next_time, lk_co_is_told, lk_co_ends, lk_co_known, lk_co_bringer, oat_some, true_and])

section
variable {P : Program} {w : World} {K : PySem.W.Frag} {mg : Str → Option Value} {base : Heap} {aEnd aCourse : Addr} {PT cT aBadWalkers aBadChain aBadDeed aHalted aBadText aBadPlace aBadTime aBadPoint aNoWalker aNeverKnown aRoadError : Addr}

/-! ### what a law draws -/
def rowL (ns : List Int) (i sd r : Int) : List D := [.lck (ns.map D.int), .int i, .int sd, .int r]
structure RowOk (i sd : Int) : Prop where
  i0 : 0 ≤ i
  s0 : 0 ≤ sd
  s1 : sd < 2147483647
def RowAt (m : M) (a : Addr) (ns : List Int) : Prop := ∃ i sd r, m a = some (.lst (rowL ns i sd r)) ∧ RowOk i sd
def spTaken : XSp := fun ds m Q => ∃ a ns many, ds = [.ref a, .int many] ∧ RowAt m a ns ∧ 0 < many ∧ many < 1000000 ∧
  ∀ v m', 0 ≤ v → v < many → RowAt m' a ns → (∀ b, b ≠ a → m' b = m b) → Q (.int v) m'
def spWalkers : XSp := fun ds m Q => ∃ a ns many, ds = [.ref a, .int many] ∧ RowAt m a ns ∧ 0 ≤ many ∧ many ≤ 8 ∧
  ∀ ws m', (∀ w ∈ ws, WOk w) → (ws.length : Int) ≤ many → RowAt m' a ns → (∀ b, b ≠ a → m' b = m b) → Q (wsD ws) m'
def spStart : XSp := fun ds m Q => ∃ a ns ws, ds = [.ref a, wsD ws] ∧ RowAt m a ns ∧ (∀ w ∈ ws, WOk w) ∧ ws.length ≤ 8 ∧
  ∀ st m', -99 ≤ st → st ≤ 99 → RowAt m' a ns → (∀ b, b ≠ a → m' b = m b) → Q (.int st) m'
def spTimeL : XSp := fun ds m Q => ∃ a ns, ds = [.ref a] ∧ RowAt m a ns ∧
  ∀ n d m', 0 ≤ n → n ≤ 99999 → 1 ≤ d → d ≤ 999 → RowAt m' a ns → (∀ b, b ≠ a → m' b = m b) → Q (pairD n d) m'
theorem len_law_taken {ds m Q} (h : spTaken ds m Q) : ds.length = 2 := by obtain ⟨_, _, _, rfl, _⟩ := h; rfl
theorem len_law_walkers {ds m Q} (h : spWalkers ds m Q) : ds.length = 2 := by obtain ⟨_, _, _, rfl, _⟩ := h; rfl
theorem len_law_start {ds m Q} (h : spStart ds m Q) : ds.length = 2 := by obtain ⟨_, _, _, rfl, _⟩ := h; rfl
theorem len_law_time {ds m Q} (h : spTimeL ds m Q) : ds.length = 1 := by obtain ⟨_, _, rfl, _⟩ := h; rfl
theorem atI_2 {α : Type} {x y z : α} {xs : List α} : atI (x :: y :: z :: xs) 2 = some z := atI_nat (j := 2) rfl
theorem atI_3 {α : Type} {x y z u : α} {xs : List α} : atI (x :: y :: z :: u :: xs) 3 = some u := atI_nat (j := 3) rfl
theorem ixN_1 {α : Type} {x y : α} {xs : List α} : ixN (x :: y :: xs).length 1 = some 1 := ixN_nat (i := 1) (by simp)
theorem pow18 : (10 : Int) ^ (18 : Int).toNat = 1000000000000000000 := by decide
theorem log_lit {b : Int} (h : 0 < b) (h2 : b < 1000000) : CDivX 0 b := ⟨by omega, log_small (by unfold Sml; omega)⟩

abbrev s_law_taken : Stmt := topS 48
theorem sc_law_taken : FnScope ["_law_row", "_law_many", "_law_found", "_law_cell"] ["_law_row", "_law_many"] (defScope s_law_taken) := ⟨rfl, rfl, rfl, by decide +kernel, rfl, by decide +kernel, by decide +kernel⟩
theorem ok_law_taken (T : Tx P w K mg base aEnd aCourse) {f : Addr} {fd : FuncData} (F : Fun K "_law_taken" "_law_taken" s_law_taken f fd)  : FnX P w K mg base 1 f fd ["_law_row", "_law_many"] spTaken := by
  refine fnX F sc_law_taken (by intro ds m Q h; exact len_law_taken h) ⟨_, fun cdv A outer s H E hr => (xss_cons (xs_if (xt_cmp xo_gt (xe_ix (xe_var 0) xe_int) xe_int (nomark _)) (xss_cons (xs_set (i := 2) sc_law_taken.nd rfl (Or.inl rfl) (xe_op xo_mod (xe_ix (xe_var 0) xe_int) (xe_var 1)))
      (xss_cons (xs_asg (vs := []) (xe_op xo_fdiv (xe_ix (xe_var 0) xe_int) (xe_var 1)) (xg_set (xe_var 0) xe_int))
      (xss_one (xs_ret (xe_var 2))))) xss_nil)
      (xss_cons (xs_asg (vs := []) (xe_op xo_add (xe_ix (xe_var 0) xe_int) xe_int) (xg_set (xe_var 0) xe_int))
      (xss_cons (xs_if (xt_cmp xo_gt (xe_ix (xe_var 0) xe_int) (xe_cb xc_len (by rfl) T.m_len boot_len (xa_cons (xe_ix (xe_var 0) xe_int) xa_nil)) (nomark _)) (xss_cons (xs_asg (vs := []) (xe_op xo_mod (xe_op xo_add (xe_op xo_mul (xe_ix (xe_var 0) xe_int) xe_int) xe_int) xe_int) (xg_set (xe_var 0) xe_int))
      (xss_one (xs_ret (xe_op xo_mod (xe_op xo_fdiv (xe_ix (xe_var 0) xe_int) xe_int) (xe_var 1))))) xss_nil)
      (xss_cons (xs_set (i := 3) sc_law_taken.nd rfl (Or.inl rfl) (xe_ix (xe_ix (xe_var 0) xe_int) (xe_op xo_sub (xe_ix (xe_var 0) xe_int) xe_int)))
      (xss_cons (xs_asg (vs := []) (xe_op xo_mod (xe_op xo_add (xe_op xo_add (xe_op xo_mul (xe_ix (xe_var 0) xe_int) xe_int) (xe_var 3)) xe_int) xe_int) (xg_set (xe_var 0) xe_int))
      (xss_cons (xs_if (xt_cmp xo_ge (xe_var 3) (xe_op xo_pow xe_int xe_int) (nomark _)) (xss_one (xs_asg (vs := []) (xe_op xo_fdiv (xe_var 3) (xe_var 1)) (xg_set (xe_var 0) xe_int))) xss_nil)
      (xss_one (xs_ret (xe_op xo_mod (xe_var 3) (xe_var 1)))))))))), fun ds m Q h => ?_⟩

  obtain ⟨a, ns, many, rfl, ⟨i, sd, r, ha, ok⟩, h0, h1, q⟩ := h
  have dv : ∀ x : Int, CDivX x many := fun x => ⟨by omega, log_small (by unfold Sml; omega)⟩
  have fin : ∀ (v : Int) (ii ss rr : Int) (m2 : M), m2 a = some (.lst (rowL ns ii ss rr)) → RowOk ii ss → (∀ b, b ≠ a → m2 b = m b) → ∃ m3, Sub m3 m2 ∧ Q (.int (v % many)) m3 := fun v ii ss rr m2 e k f =>
    ⟨m2, .refl, q _ _ (Int.emod_nonneg _ (by omega)) (Int.emod_lt_of_pos _ h0) ⟨ii, ss, rr, e, k⟩ f⟩
  show xSeq _ _ _ [some (.ref a), some (.int many), none, none] m
  walk_at "rd"
  simp only [seqD_ref ha, oat_some, rowL, atI_3, asI_int]
  by_cases hr : 0 < r
  · rw [if_pos (decide_eq_true hr)]
    refine ⟨h0, dv r, ?_⟩
    rw [asL_ref ha]
    simp only [rowL]
    rw [show ixN [D.lck (ns.map D.int), D.int i, D.int sd, D.int r].length 3 = some 3 from ixN_nat (i := 3) (by simp)]
    walk_at "rd"
    exact fin r i sd (r.fdiv many) _ updM_same ok fun b hb => updM_ne hb
  · rw [if_neg (by simpa using hr)]
    simp only [atI_1, oat_some, asI_int]
    rw [asL_ref ha]
    simp only [rowL]
    rw [show ixN [D.lck (ns.map D.int), D.int i, D.int sd, D.int r].length 1 = some 1 from ixN_nat (i := 1) (by simp)]
    walk_at "rd"
    have ha1 : updM m a (.lst [D.lck (ns.map D.int), D.int (i + 1), D.int sd, D.int r]) a = some (.lst [D.lck (ns.map D.int), D.int (i + 1), D.int sd, D.int r]) := updM_same
    simp only [seqD_ref ha1, oat_some, atI_0, atI_1, atI_2, asI_int, seqD_lck, List.length_map]
    have sm : CMul sd 48271 := cmul_r (by unfold Sml; decide)
    have sok : ∀ x : Int, RowOk (i + 1) (x % 2147483647) := fun x => ⟨by have := ok.i0; omega, Int.emod_nonneg _ (by decide), Int.emod_lt_of_pos _ (by decide)⟩
    by_cases hl : (ns.length : Int) < i + 1
    · rw [if_pos (decide_eq_true hl)]
      refine ⟨sm, by decide, ?_⟩
      rw [asL_ref ha1]
      rw [show ixN [D.lck (ns.map D.int), D.int (i + 1), D.int sd, D.int r].length 2 = some 2 from ixN_nat (i := 2) (by simp)]
      walk_at "rd"
      rw [updM_updM]
      simp only [seqD_ref updM_same, oat_some, atI_2, asI_int]
      refine ⟨⟨by decide, by decide⟩, h0, ?_⟩
      exact fin _ (i + 1) _ r _ updM_same (sok _) fun b hb => updM_ne hb
    · rw [if_neg (by simpa using hl)]
      have hi0 := ok.i0
      obtain ⟨j, rfl⟩ : ∃ j : Nat, i = (j : Int) := ⟨i.toNat, by omega⟩
      have hj : j < ns.length := by omega
      rw [show (j : Int) + 1 - 1 = (j : Int) by omega, atI_map (List.getElem?_eq_getElem hj)]
      walk_at "rd"
      try simp only [seqD_ref ha1, oat_some, atI_2, asI_int]
      refine ⟨sm, by decide, ?_⟩
      rw [asL_ref ha1]
      rw [show ixN [D.lck (ns.map D.int), D.int ((j : Int) + 1), D.int sd, D.int r].length 2 = some 2 from ixN_nat (i := 2) (by simp)]
      walk_at "rd"
      rw [updM_updM]
      simp only [pow18]
      refine ⟨⟨by decide, by decide, by decide⟩, ?_⟩
      by_cases hc : (1000000000000000000 : Int) ≤ ns[j]
      · rw [if_pos (decide_eq_true hc)]
        refine ⟨dv _, ?_⟩
        rw [asL_ref updM_same]
        rw [show ixN [D.lck (ns.map D.int), D.int ((j : Int) + 1), D.int ((sd * 48271 + ns[j] + 11) % 2147483647), D.int r].length 3 = some 3 from ixN_nat (i := 3) (by simp)]
        walk_at "rd"
        rw [updM_updM]
        exact ⟨h0, fin _ ((j : Int) + 1) _ (ns[j].fdiv many) _ updM_same (sok _) fun b hb => updM_ne hb⟩
      · rw [if_neg (by simpa using hc)]
        exact ⟨h0, fin _ ((j : Int) + 1) _ r _ updM_same (sok _) fun b hb => updM_ne hb⟩

theorem RowAt.mono {m m' : M} {a : Addr} {ns : List Int} (h : RowAt m a ns) (e : m' a = m a) : RowAt m' a ns := by
  obtain ⟨i, sd, r, h1, h2⟩ := h
  exact ⟨i, sd, r, e.trans h1, h2⟩
theorem RowAt.ne {m : M} {a p : Addr} {ns : List Int} (h : RowAt m a ns) (n : m p = none) : a ≠ p := by
  obtain ⟨i, sd, r, h1, _⟩ := h
  exact ne_new h1 n
theorem RowAt.new {m : M} {a p : Addr} {ns : List Int} {o : O} (h : RowAt m a ns) (n : m p = none) : RowAt (updM m p o) a ns := h.mono (updM_ne (h.ne n))
theorem RowAt.get {m : M} {a : Addr} {ns : List Int} (h : RowAt m a ns) : m a ≠ none := by
  obtain ⟨i, sd, r, h1, _⟩ := h
  rw [h1]; exact fun z => nomatch z
/-- what was known, but the row, is known still -/
def Grow (a : Addr) (m m' : M) : Prop := ∀ b o, b ≠ a → m b = some o → m' b = some o
theorem Grow.refl {a : Addr} {m : M} : Grow a m m := fun _ _ _ h => h
theorem Grow.trans {a : Addr} {m m1 m2 : M} (h : Grow a m m1) (k : Grow a m1 m2) : Grow a m m2 := fun b o n e => k b o n (h b o n e)
theorem Grow.new {a p : Addr} {m m1 : M} {o : O} (h : Grow a m m1) (n : m1 p = none) : Grow a m (updM m1 p o) := fun b u ne e => by
  have e1 := h b u ne e
  rw [updM_ne (ne_new e1 n)]; exact e1
theorem Grow.same {a : Addr} {m m1 m2 : M} (h : Grow a m m1) (k : ∀ b, b ≠ a → m2 b = m1 b) : Grow a m m2 := fun b o ne e => by rw [k b ne]; exact h b o ne e
theorem Grow.set {a p : Addr} {m m1 : M} {o : O} (h : Grow a m m1) (n : m p = none) : Grow a m (updM m1 p o) := fun b u ne e => by
  rw [updM_ne (ne_new e n)]; exact h b u ne e
theorem row_exit {m m' : M} {a : Addr} {ns : List Int} {d : D} {Q : D → M → Prop} (h : RowAt m' a ns) (g : Grow a m m') (q : ∀ m2, RowAt m2 a ns → (∀ b, b ≠ a → m2 b = m b) → Q d m2) : ∃ m2, Sub m2 m' ∧ Q d m2 := by
  refine ⟨fun b => if b = a then m' b else m b, fun b o e => ?_, q _ (h.mono (by simp)) fun b hb => by simp [hb]⟩
  by_cases z : b = a
  · simpa [z] using e
  · exact g b o z (by simpa [z] using e)
theorem pick3 {a : Addr} {ns : List Int} {c0 c1 c2 : Int} {e : En} {m : M} {Q : D → M → Prop} {i : Nat} (he : e[i]? = some (some (.ref a))) (h : RowAt m a ns)
    (q : ∀ v m', (v = c0 ∨ v = c1 ∨ v = c2) → RowAt m' a ns → (∀ b, b ≠ a → m' b = m b) → Q (.int v) m') :
    xGc (xOp xIx (xLst (xCons (xC (.int c0)) (xCons (xC (.int c1)) (xCons (xC (.int c2)) xNil)))) (xCall spTaken (xCons (xVar i) (xCons (xC (.int 3)) xNil)))) e m Q := by
  walk_at "rd"
  refine ⟨le_sz (by decide), fun p hp => ?_⟩
  simp only [he, oget_some]
  refine ⟨a, ns, 3, rfl, h.new hp, by decide, by decide, fun v m' v0 v3 hr hs => ?_⟩
  have ap := h.ne hp
  have hp' : m' p = some (.lst [D.int c0, D.int c1, D.int c2]) := by rw [hs p ap.symm, updM_same]
  walk_at "rd"
  simp only [seqD_ref hp', oat_some]
  have fin : ∀ c, (c = c0 ∨ c = c1 ∨ c = c2) → ∃ m2, Sub m2 m' ∧ Q (.int c) m2 := fun c hc => row_exit hr (Grow.same (Grow.refl.new hp) hs) fun m2 r2 s2 => q c m2 hc r2 s2
  rcases (show v = 0 ∨ v = 1 ∨ v = 2 by omega) with z | z | z
  · subst z; rw [atI_0]; exact fin _ (.inl rfl)
  · subst z; rw [atI_1]; exact fin _ (.inr (.inl rfl))
  · subst z; rw [atI_2]; exact fin _ (.inr (.inr rfl))
theorem pick3u {a : Addr} {ns : List Int} {c0 c1 c2 : Int} {m : M} {Q : D → M → Prop} (h : RowAt m a ns)
    (q : ∀ v m', (v = c0 ∨ v = c1 ∨ v = c2) → RowAt m' a ns → (∀ b, b ≠ a → m' b = m b) → Q (.int v) m') :
    0 + 1 + 1 + 1 ≤ sizeLine ∧ ∀ p, m p = none → spTaken [.ref a, .int 3] (updM m p (.lst [.int c0, .int c1, .int c2])) fun y m2 => asI y fun i => oat (seqD m2 (.ref p)) fun ds => oat (atI ds i) fun d => ∃ m3, Sub m3 m2 ∧ Q d m3 := by
  refine ⟨le_sz (by decide), fun p hp => ?_⟩
  refine ⟨a, ns, 3, rfl, h.new hp, by decide, by decide, fun v m' v0 v3 hr hs => ?_⟩
  have ap := h.ne hp
  have hp' : m' p = some (.lst [D.int c0, D.int c1, D.int c2]) := by rw [hs p ap.symm, updM_same]
  walk_at "rd"
  simp only [seqD_ref hp', oat_some]
  have fin : ∀ c, (c = c0 ∨ c = c1 ∨ c = c2) → ∃ m2, Sub m2 m' ∧ Q (.int c) m2 := fun c hc => row_exit hr (Grow.same (Grow.refl.new hp) hs) fun m2 r2 s2 => q c m2 hc r2 s2
  rcases (show v = 0 ∨ v = 1 ∨ v = 2 by omega) with z | z | z
  · subst z; rw [atI_0]; exact fin _ (.inl rfl)
  · subst z; rw [atI_1]; exact fin _ (.inr (.inl rfl))
  · subst z; rw [atI_2]; exact fin _ (.inr (.inr rfl))
def fstD : D → Option D
  | .tup (x :: _) => some x
  | _ => none
theorem fst_map (ws : List Wl) : (ws.map wkD).filterMap fstD = (ws.map (·.1)).map D.int := by
  induction ws with
  | nil => rfl
  | cons w ws ih => exact congrArg (D.int w.1 :: ·) ih

abbrev s_law_walkers : Stmt := topS 51
theorem sc_law_walkers : FnScope ["_law_row", "_law_many", "_law_far", "_law_quick", "_law_found", "_law_k"] ["_law_row", "_law_many"] (defScope s_law_walkers) := ⟨rfl, rfl, rfl, by decide +kernel, rfl, by decide +kernel, by decide +kernel⟩
theorem ok_law_walkers (T : Tx P w K mg base aEnd aCourse) {f : Addr} {fd : FuncData} (F : Fun K "_law_walkers" "_law_walkers" s_law_walkers f fd) (c__law_taken : Dc P w K mg base 1 "_law_taken" ["_law_row", "_law_many"] spTaken) : FnX P w K mg base 2 f fd ["_law_row", "_law_many"] spWalkers := by
  refine fnX F sc_law_walkers (by intro ds m Q h; exact len_law_walkers h) ⟨_, fun cdv A outer s H E hr => (xss_cons (xs_par (i := 2) (j := 3) rfl sc_law_walkers.nd rfl rfl (by decide) rfl rfl (xa_cons (xe_gc (xe_ix (xe_lst (xa_cons xe_int (xa_cons xe_int (xa_cons xe_int xa_nil)))) (xe_callD c__law_taken (hr.mono (by decide)) (by rfl) (xa_cons (xe_var 0) (xa_cons xe_int xa_nil))))) (xa_cons (xe_gc (xe_ix (xe_lst (xa_cons xe_int (xa_cons xe_int (xa_cons xe_int xa_nil)))) (xe_callD c__law_taken (hr.mono (by decide)) (by rfl) (xa_cons (xe_var 0) (xa_cons xe_int xa_nil))))) xa_nil)) (by rfl))
      (xss_cons (xs_set (i := 4) sc_law_walkers.nd rfl (Or.inl rfl) (xe_lst xa_nil))
      (xss_cons (xs_for (vs := [5]) PassesOwn.never rfl (xi_range1 (by rfl) T.m_range (xa_cons (xe_callD c__law_taken (hr.mono (by decide)) (by rfl) (xa_cons (xe_var 0) (xa_cons (xe_op xo_add (xe_var 1) xe_int) xa_nil))) xa_nil)) (xg_name (i := 5) sc_law_walkers.nd rfl (Or.inl rfl) (by decide)) (xss_one (xs_expr (xe_append (xe_var 4) (xe_tup (xa_cons (xe_op xo_sub (xe_callD c__law_taken (hr.mono (by decide)) (by rfl) (xa_cons (xe_var 0) (xa_cons (xe_op xo_add (xe_op xo_mul xe_int (xe_var 2)) xe_int) xa_nil))) (xe_var 2)) (xa_cons (xe_op xo_sub (xe_callD c__law_taken (hr.mono (by decide)) (by rfl) (xa_cons (xe_var 0) (xa_cons (xe_op xo_add (xe_op xo_mul xe_int (xe_var 3)) xe_int) xa_nil))) (xe_var 3)) xa_nil)))))))
      (xss_one (xs_ret (xe_tupleOf (by rfl) T.m_tuple (xe_var 4))))))), fun ds m Q h => ?_⟩

  obtain ⟨a, ns, many, rfl, hr, h0, h8, q⟩ := h
  show xSeq _ _ _ [some (.ref a), some (.int many), none, none, none, none] m
  simp only [xSeq, xPar, xCons, xNil]
  refine pick3 rfl hr fun far m1 hf r1 s1 => ?_
  refine pick3 rfl r1 fun qk m2 hq r2 s2 => ?_
  walk_at "rd"
  refine ⟨Nat.zero_le _, fun p hp => ?_⟩
  refine ⟨a, ns, many + 1, rfl, r2.new hp, by omega, by omega, fun v m3 v0 v1 r3 s3 => ?_⟩
  walk_at "rd"
  refine ⟨⟨by omega, by omega⟩, ?_⟩
  have ap := r2.ne hp
  have g2 : Grow a m m2 := Grow.same (Grow.same Grow.refl s1) s2
  have np : m p = none := by
    cases hx : m p with
    | none => rfl
    | some o => rw [g2 p o ap.symm hx] at hp; cases hp
  have fb : 0 < far ∧ far ≤ 99 := by rcases hf with z | z | z <;> subst z <;> decide
  have qb : 0 < qk ∧ qk ≤ 9 := by rcases hq with z | z | z <;> subst z <;> decide
  have hlen : (rangeD 0 v).length = v.toNat := by simp [rangeD]
  refine xLoop_ind (fun ds e m' => ∃ (ws : List Wl) (x5 : Option D), e = [some (.ref a), some (.int many), some (.int far), some (.int qk), some (.ref p), x5] ∧ m' p = some (.lst (ws.map wkD)) ∧ (∀ w ∈ ws, WOk w) ∧ ((ws.length + ds.length : Nat) : Int) ≤ many ∧ RowAt m' a ns ∧ Grow a m m')
    ?_ ?_ _ _ _ ⟨[], none, rfl, by rw [s3 p ap.symm, updM_same]; rfl, (fun _ h => nomatch h), by rw [hlen]; simp; omega, r3, Grow.same (g2.new hp) s3⟩
  · intro e m' ⟨ws, x5, h1, h2, h3, h4, h5, h6⟩
    subst h1
    refine ⟨trivial, ?_⟩
    walk_at "rd"
    simp only [seqD_ref h2, oat_some]
    exact row_exit h5 h6 fun m4 r4 s4 => q ws m4 h3 (by simpa using h4) r4 s4
  · intro d ds e m' R ⟨ws, x5, h1, h2, h3, h4, h5, h6⟩ hR
    subst h1
    refine ⟨trivial, ?_⟩
    walk_at "rd"
    rw [asL_ref h2]
    refine ⟨cmul_l (by decide), ?_⟩
    refine ⟨a, ns, _, rfl, h5, by omega, by omega, fun v1 m4 b0 b1 r4 s4 => ?_⟩
    walk_at "rd"
    refine ⟨cmul_l (by decide), ?_⟩
    refine ⟨a, ns, _, rfl, r4, by omega, by omega, fun v2 m5 c0 c1 r5 s5 => ?_⟩
    walk_at "rd"
    refine ⟨two_sz, ?_⟩
    have h2' : m5 p = some (.lst (ws.map wkD)) := by rw [s5 p ap.symm, s4 p ap.symm]; exact h2
    rw [asL_ref h2']
    have hwl : ws.length ≤ 8 := by simp only [List.length_cons] at h4; omega
    refine ⟨by rw [List.length_map]; exact lt_sz (by omega), ?_⟩
    refine hR _ _ ⟨ws ++ [(v1 - far, v2 - qk)], some d, rfl, ?_, fun w hw => ?_, ?_, r5.mono (updM_ne ap), Grow.set (Grow.same (Grow.same h6 s4) s5) np⟩
    · rw [updM_same, List.map_append]; rfl
    · rcases List.mem_append.mp hw with hw | hw
      · exact h3 w hw
      · rw [List.mem_singleton.mp hw]
        exact ⟨by show -99 ≤ v1 - far; omega, by show v1 - far ≤ 99; omega, by show -9 ≤ v2 - qk; omega, by show v2 - qk ≤ 9; omega⟩
    · rw [List.length_append]; simp only [List.length_cons, List.length_nil] at h4 ⊢; omega
abbrev s_law_start : Stmt := topS 52
theorem sc_law_start : FnScope ["_law_row", "_law_some", "_law_places", "_law_place", "_law_pace"] ["_law_row", "_law_some"] (defScope s_law_start) := ⟨rfl, rfl, rfl, by decide +kernel, rfl, by decide +kernel, by decide +kernel⟩
theorem ok_law_start (T : Tx P w K mg base aEnd aCourse) {f : Addr} {fd : FuncData} (F : Fun K "_law_start" "_law_start" s_law_start f fd) (c__law_taken : Dc P w K mg base 1 "_law_taken" ["_law_row", "_law_many"] spTaken) : FnX P w K mg base 2 f fd ["_law_row", "_law_some"] spStart := by
  refine fnX F sc_law_start (by intro ds m Q h; exact len_law_start h) ⟨_, fun cdv A outer s H E hr => (xss_cons (xs_set (i := 2) sc_law_start.nd rfl (Or.inl rfl) (xe_op xo_cat (xe_lc (own := [("_law_place", 3), ("_law_pace", 4)]) rfl sc_law_start.nd (xi_tup (xe_var 1)) (blkOk_by (N := ["_law_row", "_law_some", "_law_places", "_law_place", "_law_pace"]) (sc := defScope s_law_start) (by decide +kernel)) (fun _ _ _ _ _ => (xg_tup (n := 2) rfl (xgs_cons (xg_name (i := 3) sc_law_start.nd rfl (Or.inl rfl) (by decide)) (xgs_cons (xg_name (i := 4) sc_law_start.nd rfl (Or.inl rfl) (by decide)) xgs_nil)))) (fun _ _ _ _ _ => xts_nil) (fun _ _ _ _ _ => (xe_var 3))) (xe_lst (xa_cons (xe_op xo_sub (xe_callD c__law_taken (hr.mono (by decide)) (by rfl) (xa_cons (xe_var 0) (xa_cons xe_int xa_nil))) xe_int) (xa_cons (xe_op xo_sub (xe_callD c__law_taken (hr.mono (by decide)) (by rfl) (xa_cons (xe_var 0) (xa_cons xe_int xa_nil))) xe_int) xa_nil)))))
      (xss_one (xs_ret (xe_ix (xe_var 2) (xe_callD c__law_taken (hr.mono (by decide)) (by rfl) (xa_cons (xe_var 0) (xa_cons (xe_cb xc_len (by rfl) T.m_len boot_len (xa_cons (xe_var 2) xa_nil)) xa_nil))))))), fun ds m Q h => ?_⟩

  obtain ⟨a, ns, ws, rfl, hr, ow, h8, q⟩ := h
  show xSeq _ _ _ [some (.ref a), some (wsD ws), none, none, none] m
  simp only [wsD]
  walk_at "rd"
  refine xLcG_pure fstD trivial _ _ (fun d hd R h => ?_) (by rw [List.length_map]; exact lt_sz (by simp; omega)) (fun p1 hp1 => ?_)
  · obtain ⟨w, _, rfl⟩ := List.mem_map.mp hd
    simp only [wkD, fstD] at h ⊢
    refine ⟨rfl, ?_⟩
    walk_at "rd"
    refine ⟨trivial, ?_⟩
    rw [if_pos trivial]
    exact h
  rw [List.nil_append, fst_map]
  refine ⟨a, ns, 19, rfl, hr.new hp1, by decide, by decide, fun v1 m1 b0 b1 r1 s1 => ?_⟩
  walk_at "rd"
  refine ⟨a, ns, 199, rfl, r1, by decide, by decide, fun v2 m2 c0 c1 r2 s2 => ?_⟩
  walk_at "rd"
  refine ⟨two_sz, fun p2 hp2 => ?_⟩
  have a1 := hr.ne hp1
  have e1 : m2 p1 = some (.lst ((ws.map (·.1)).map D.int)) := by rw [s2 p1 a1.symm, s1 p1 a1.symm, updM_same]
  have n12 : p1 ≠ p2 := ne_new e1 hp2
  rw [asL_ref (by rw [updM_ne n12]; exact e1), asL_ref updM_same]
  refine ⟨le_sz (by simp; omega), fun p3 hp3 => ?_⟩
  walk_at "rd"
  simp only [seqD_ref updM_same, oat_some]
  have g2 : Grow a m m2 := Grow.same (Grow.same (Grow.refl.new hp1) s1) s2
  have r3 : RowAt (updM (updM m2 p2 (.lst [D.int (v1 - 9), D.int (v2 - 99)])) p3 (.lst ((ws.map (·.1)).map D.int ++ [D.int (v1 - 9), D.int (v2 - 99)]))) a ns := (r2.new hp2).new hp3
  have lenE : ((ws.map (·.1)).map D.int ++ [D.int (v1 - 9), D.int (v2 - 99)]).length = ws.length + 2 := by simp
  rw [lenE]
  refine ⟨a, ns, _, rfl, r3, by omega, by omega, fun v3 m3 d0 d1 r4 s4 => ?_⟩
  have a3 := (r2.new (o := .lst [D.int (v1 - 9), D.int (v2 - 99)]) hp2).ne hp3
  have e3 : m3 p3 = some (.lst (((ws.map (·.1)) ++ [v1 - 9, v2 - 99]).map D.int)) := by rw [s4 p3 a3.symm, updM_same, List.map_append]; rfl
  walk_at "rd"
  simp only [seqD_ref e3, oat_some]
  obtain ⟨j, rfl⟩ : ∃ j : Nat, v3 = (j : Int) := ⟨v3.toNat, by omega⟩
  have hj : j < (ws.map (·.1) ++ [v1 - 9, v2 - 99]).length := by simp; omega
  rw [atI_map (List.getElem?_eq_getElem hj)]
  walk_at "rd"
  have bd : ∀ x ∈ (ws.map (·.1) ++ [v1 - 9, v2 - 99]), -99 ≤ x ∧ x ≤ 99 := fun x hx => by
    rcases List.mem_append.mp hx with hx | hx
    · obtain ⟨w, hw, rfl⟩ := List.mem_map.mp hx
      exact ⟨(ow w hw).h1, (ow w hw).h2⟩
    · rcases List.mem_cons.mp hx with rfl | hx
      · omega
      · rw [List.mem_singleton.mp hx]; omega
  have bj := bd _ (List.getElem_mem hj)
  exact row_exit r4 (Grow.same ((g2.new hp2).new hp3) s4) fun m5 r5 s5 => q _ m5 bj.1 bj.2 r5 s5
abbrev nT (i : Int) : Str := (toString i : String)
def okF (a : Int) : Bool :=
  let w := nT a
  let f := Txt.removeprefix w "-"
  Txt.isdecimal f && decide (f.length ≤ 2) && decide (PySem.intText? w = some a) && decide (w.length ≤ 3) && PyData.strOk w && w.cps.all (fun c => decide (c ≠ 10) && decide (c ≠ 32)) && decide (a.natAbs.log2 < 1920)
theorem okF_all : ((List.range 199).all fun k => okF ((k : Int) - 99)) = true := by decide +kernel
theorem okF_at {a : Int} (h1 : -99 ≤ a) (h2 : a ≤ 99) : okF a = true := by
  have h := List.all_eq_true.mp okF_all (a + 99).toNat (List.mem_range.mpr (by omega))
  rwa [show (((a + 99).toNat : Nat) : Int) - 99 = a by omega] at h
structure Nm (a : Int) : Prop where
  dec : Txt.isdecimal (Txt.removeprefix (nT a) "-") = true
  few : (Txt.removeprefix (nT a) "-").length ≤ 2
  int : PySem.intText? (nT a) = some a
  len : (nT a).length ≤ 3
  ok : PyData.strOk (nT a) = true
  nl : ∀ c ∈ TL.tl (nT a), c ≠ 10 ∧ c ≠ 32
  lg : a.natAbs.log2 < 1920
theorem nt_at {a : Int} (h1 : -99 ≤ a) (h2 : a ≤ 99) : Nm a := by
  have h := okF_at h1 h2
  unfold okF at h
  simp only [Bool.and_eq_true, decide_eq_true_eq] at h
  obtain ⟨⟨⟨⟨⟨⟨a1, a2⟩, a3⟩, a4⟩, a5⟩, a6⟩, a7⟩ := h
  refine ⟨a1, a2, a3, a4, a5, fun c hc => ?_, a7⟩
  have := Array.all_eq_true_iff_forall_mem.mp a6 c (Array.mem_def.mpr hc)
  simpa using this
theorem tl_extZ {x y : Str} (h : TL.tl x = TL.tl y) : x = y := by
  obtain ⟨⟨a⟩⟩ := x
  obtain ⟨⟨b⟩⟩ := y
  exact congrArg (fun l => (⟨⟨l⟩⟩ : Str)) h
theorem tl_len (x : Str) : (TL.tl x).length = x.length := by
  obtain ⟨⟨a⟩⟩ := x; rfl
theorem emp_app (x : Str) : Str.empty ++ x = x := tl_extZ (by rw [TL.tl_append]; rfl)
theorem app_len (x y : Str) : (x ++ y).length = x.length + y.length := by rw [← tl_len, TL.tl_append, List.length_append, tl_len, tl_len]
def rowW (w : Wl) : Str := ((("walker " : Str) ++ nT w.1) ++ (" " : Str)) ++ nT w.2
def rowS (st : Int) : Str := ("said " : Str) ++ nT st
def rowsT (ws : List Wl) (st : Int) : List Str := rowS st :: ws.map rowW
def txt (ws : List Wl) (st : Int) : Str := Txt.join "\n" (rowsT ws st)
theorem rowS_join (st : Int) : rowS st = Txt.join " " [("said" : Str), nT st] := by
  rw [TL.join_eq]
  refine tl_extZ ?_
  unfold rowS
  rw [TL.tl_join, TL.tl_append]
  simp only [List.map_cons, List.map_nil, TL.joinL]
  rw [show TL.tl ("said " : Str) = TL.tl ("said" : Str) ++ TL.tl (" " : Str) from by decide +kernel]
  simp only [List.append_assoc]
theorem rowW_join (w : Wl) : rowW w = Txt.join " " [("walker" : Str), nT w.1, nT w.2] := by
  rw [TL.join_eq]
  refine tl_extZ ?_
  unfold rowW
  rw [TL.tl_join, TL.tl_append, TL.tl_append, TL.tl_append]
  simp only [List.map_cons, List.map_nil, TL.joinL]
  rw [show TL.tl ("walker " : Str) = TL.tl ("walker" : Str) ++ TL.tl (" " : Str) from by decide +kernel]
  simp only [List.append_assoc]
theorem split_rowS {st : Int} (h : Nm st) : Txt.split (rowS st) " " = [("said" : Str), nT st] := by
  rw [rowS_join]
  refine TL.split_join (s := 32) (S := []) (by decide +kernel) (by decide +kernel) (by simp) fun p hp => ?_
  rcases List.mem_cons.mp hp with z | z
  · subst z; decide +kernel
  · rw [List.mem_singleton.mp z]; exact fun c => (h.nl _ c).2 rfl
theorem split_rowW {w : Wl} (h1 : Nm w.1) (h2 : Nm w.2) : Txt.split (rowW w) " " = [("walker" : Str), nT w.1, nT w.2] := by
  rw [rowW_join]
  refine TL.split_join (s := 32) (S := []) (by decide +kernel) (by decide +kernel) (by simp) fun p hp => ?_
  rcases List.mem_cons.mp hp with z | z
  · subst z; decide +kernel
  · rcases List.mem_cons.mp z with z | z
    · subst z; exact fun c => (h1.nl _ c).2 rfl
    · rw [List.mem_singleton.mp z]; exact fun c => (h2.nl _ c).2 rfl
structure RowT (y : Str) : Prop where
  len : y.length ≤ 20
  ok : ∀ c ∈ TL.tl y, c < 1114112
  nl : 10 ∉ TL.tl y
theorem lit_row {y : Str} (h : (y.cps.all fun c => decide (c < 1114112) && decide (c ≠ 10)) = true) : (∀ c ∈ TL.tl y, c < 1114112) ∧ 10 ∉ TL.tl y := by
  have a : ∀ c ∈ TL.tl y, c < 1114112 ∧ c ≠ 10 := fun c hc => by
    have := Array.all_eq_true_iff_forall_mem.mp h c (Array.mem_def.mpr hc)
    simpa using this
  exact ⟨fun c hc => (a c hc).1, fun hc => (a 10 hc).2 rfl⟩
theorem nt_row {a : Int} (h : Nm a) : (∀ c ∈ TL.tl (nT a), c < 1114112) ∧ 10 ∉ TL.tl (nT a) := by
  refine ⟨fun c hc => ?_, fun hc => (h.nl _ hc).1 rfl⟩
  have := Array.all_eq_true_iff_forall_mem.mp h.ok c (Array.mem_def.mpr hc)
  simpa using this
theorem app_row {x y : Str} (h : (∀ c ∈ TL.tl x, c < 1114112) ∧ 10 ∉ TL.tl x) (k : (∀ c ∈ TL.tl y, c < 1114112) ∧ 10 ∉ TL.tl y) : (∀ c ∈ TL.tl (x ++ y), c < 1114112) ∧ 10 ∉ TL.tl (x ++ y) := by
  rw [TL.tl_append]
  refine ⟨fun c hc => ?_, fun hc => ?_⟩
  · rcases List.mem_append.mp hc with z | z
    · exact h.1 c z
    · exact k.1 c z
  · rcases List.mem_append.mp hc with z | z
    · exact h.2 z
    · exact k.2 z
theorem rowS_ok {st : Int} (h : Nm st) : RowT (rowS st) := by
  have a := app_row (x := ("said " : Str)) (lit_row (by decide +kernel)) (nt_row h)
  refine ⟨?_, a.1, a.2⟩
  unfold rowS
  rw [app_len, show ("said " : Str).length = 5 from by decide +kernel]
  have := h.len
  omega
theorem rowW_ok {w : Wl} (h1 : Nm w.1) (h2 : Nm w.2) : RowT (rowW w) := by
  have a := app_row (app_row (app_row (x := ("walker " : Str)) (lit_row (by decide +kernel)) (nt_row h1)) (y := (" " : Str)) (lit_row (by decide +kernel))) (nt_row h2)
  refine ⟨?_, a.1, a.2⟩
  unfold rowW
  rw [app_len, app_len, app_len, show ("walker " : Str).length = 7 from by decide +kernel, show (" " : Str).length = 1 from by decide +kernel]
  have := h1.len
  have := h2.len
  omega
theorem wok_nt {w : Wl} (h : WOk w) : Nm w.1 ∧ Nm w.2 := ⟨nt_at h.h1 h.h2, nt_at (by have := h.h3; omega) (by have := h.h4; omega)⟩
structure GivenT (ws : List Wl) (st : Int) : Prop where
  ow : ∀ w ∈ ws, WOk w
  h8 : ws.length ≤ 8
  s1 : -99 ≤ st
  s2 : st ≤ 99
theorem rows_ok {ws : List Wl} {st : Int} (G : GivenT ws st) : ∀ y ∈ rowsT ws st, RowT y := fun y hy => by
  rcases List.mem_cons.mp hy with z | z
  · rw [z]; exact rowS_ok (nt_at G.s1 G.s2)
  · obtain ⟨w, hw, rfl⟩ := List.mem_map.mp z
    exact rowW_ok (wok_nt (G.ow w hw)).1 (wok_nt (G.ow w hw)).2
theorem rows_len {ws : List Wl} {st : Int} : (rowsT ws st).length = ws.length + 1 := by unfold rowsT; rw [List.length_cons, List.length_map]
theorem sum_le : ∀ (ys : List Str), (∀ y ∈ ys, RowT y) → (ys.map (·.length)).sum ≤ 20 * ys.length
  | [], _ => by simp
  | y :: ys, h => by
    have a := (h y List.mem_cons_self).len
    have b := sum_le ys fun z hz => h z (List.mem_cons_of_mem _ hz)
    simp only [List.map_cons, List.sum_cons, List.length_cons]
    omega
theorem joinL_len (S : List Nat) : ∀ ps : List (List Nat), (TL.joinL S ps).length ≤ (ps.map (·.length)).sum + ps.length * S.length
  | [] => by simp [TL.joinL]
  | [p] => by simp [TL.joinL]
  | p :: q :: r => by
    have := joinL_len S (q :: r)
    simp only [TL.joinL, List.length_append, List.map_cons, List.sum_cons, List.length_cons, Nat.add_mul, Nat.one_mul] at this ⊢
    omega
theorem joinL_mem (S : List Nat) (c : Nat) : ∀ ps : List (List Nat), c ∈ TL.joinL S ps → c ∈ S ∨ ∃ p ∈ ps, c ∈ p
  | [], h => by simp [TL.joinL] at h
  | [p], h => .inr ⟨p, List.mem_cons_self, by simpa [TL.joinL] using h⟩
  | p :: q :: r, h => by
    simp only [TL.joinL, List.mem_append] at h
    rcases h with h | h | h
    · exact .inr ⟨p, List.mem_cons_self, h⟩
    · exact .inl h
    · rcases joinL_mem S c (q :: r) h with z | ⟨p', h1, h2⟩
      · exact .inl z
      · exact .inr ⟨p', List.mem_cons_of_mem _ h1, h2⟩
theorem tl_txt (ws : List Wl) (st : Int) : TL.tl (txt ws st) = TL.joinL [10] ((rowsT ws st).map TL.tl) := by
  unfold txt
  rw [TL.join_eq, TL.tl_join, show TL.tl ("\n" : Str) = [10] from by decide +kernel]
theorem txt_len {ws : List Wl} {st : Int} (G : GivenT ws st) : (txt ws st).length ≤ 500 := by
  rw [← tl_len, tl_txt]
  have a := joinL_len [10] ((rowsT ws st).map TL.tl)
  have b := sum_le _ (rows_ok G)
  have l := rows_len (ws := ws) (st := st)
  have h8 := G.h8
  have e : (((rowsT ws st).map TL.tl).map (·.length)).sum = ((rowsT ws st).map (·.length)).sum := by
    rw [List.map_map]
    refine congrArg List.sum (List.map_congr_left fun y _ => tl_len y)
  rw [e, List.length_map] at a
  simp only [List.length_cons, List.length_nil] at a
  omega
def spWritten : XSp := fun ds m Q => ∃ ws st, ds = [wsD ws, .int st] ∧ GivenT ws st ∧ Q (.str (txt ws st)) m
theorem len_written {ds m Q} (h : spWritten ds m Q) : ds.length = 2 := by obtain ⟨_, _, rfl, _⟩ := h; rfl
theorem row_sz {y : Str} (h : y.length ≤ 100) : y.length ≤ sizeLine := le_sz (by omega)
theorem sum_join {ws : List Wl} {st : Int} (G : GivenT ws st) : ((rowsT ws st).map (·.length)).sum + (rowsT ws st).length * ("\n" : Str).length ≤ 16777216 := by
  have b := sum_le _ (rows_ok G)
  have l := rows_len (ws := ws) (st := st)
  have h8 := G.h8
  rw [show ("\n" : Str).length = 1 from by decide +kernel]
  omega

theorem join_ofL (ls : List (List Nat)) : Txt.join "\n" (ls.map ofL) = ofL (TL.joinL [10] ls) := by
  rw [TL.join_eq]
  refine tl_extZ ?_
  rw [TL.tl_join, show TL.tl ("\n" : Str) = [10] from by decide +kernel, List.map_map]
  show TL.joinL [10] (ls.map fun l => TL.tl (ofL l)) = TL.tl (ofL (TL.joinL [10] ls))
  rw [show (fun l => TL.tl (ofL l)) = fun l => l from rfl, List.map_id']; rfl
def totL (ls : List (List Nat)) : Nat := (ls.map fun l => l.length + 1).sum
theorem totL_eq : ∀ ls : List (List Nat), totL ls = (ls.map (·.length)).sum + ls.length
  | [] => rfl
  | l :: r => by
    have := totL_eq r
    unfold totL at this ⊢
    simp only [List.map_cons, List.sum_cons, List.length_cons]
    omega
theorem joinL_tot (ls : List (List Nat)) : (TL.joinL [10] ls).length ≤ totL ls := by
  have := joinL_len [10] ls
  rw [totL_eq]
  simpa using this
theorem totL_app (a b : List (List Nat)) : totL (a ++ b) = totL a + totL b := by simp [totL]
theorem totL_cut (s : Nat) : ∀ (l acc : List Nat), totL (cutL s acc l) = acc.length + l.length + 1
  | [], acc => by simp [cutL, totL]
  | c :: r, acc => by
    unfold cutL
    split
    · have := totL_cut s r []
      unfold totL at this ⊢
      simp only [List.map_cons, List.sum_cons, List.length_cons, List.length_nil] at this ⊢
      omega
    · rw [totL_cut s r (acc ++ [c])]
      simp only [List.length_append, List.length_cons, List.length_nil]
      omega
theorem totL_td (ls : List (List Nat)) (k : Nat) : totL (ls.take k) + totL (ls.drop k) = totL ls := by rw [← totL_app, List.take_append_drop]
theorem totL_drop (ls : List (List Nat)) (k j : Nat) (h : k ≤ j) : totL (ls.drop j) ≤ totL (ls.drop k) := by
  have := totL_td (ls.drop k) (j - k)
  rw [List.drop_drop, show k + (j - k) = j by omega] at this
  omega
theorem joinL_asc {ls : List (List Nat)} (h : ∀ l ∈ ls, ∀ c ∈ l, c < 128) : ∀ c ∈ TL.joinL [10] ls, c < 128 := fun c hc => by
  rcases joinL_mem _ _ _ hc with z | ⟨p, hp, z⟩
  · rw [List.mem_singleton.mp z]; decide
  · exact h p hp c z
theorem sum_ofL (ls : List (List Nat)) : ((ls.map ofL).map (·.length)).sum = (ls.map (·.length)).sum := by rw [List.map_map]; rfl
theorem sIx_min (n d v : Nat) : HT.sIx n d (some (v : Int)) = min v n := by
  show (if (v : Int) < 0 then ((v : Int) + n).toNat else min (v : Int).toNat n) = _
  rw [if_neg (by omega)]; simp
theorem cut_from (ds : List D) (v : Nat) : cutD ds (some (v : Int)) none = ds.drop v := by
  unfold cutD
  rw [sIx_min, show HT.sIx ds.length ds.length none = ds.length from rfl, List.take_of_length_le (by rw [List.length_drop]; omega)]
  by_cases h : v ≤ ds.length
  · rw [Nat.min_eq_left h]
  · rw [Nat.min_eq_right (by omega), List.drop_of_length_le (by omega), List.drop_of_length_le (by omega)]
theorem cut_to (ds : List D) (v : Nat) : cutD ds none (some (v : Int)) = ds.take v := by
  unfold cutD
  rw [sIx_min, show HT.sIx ds.length 0 none = 0 from rfl, List.drop_zero, Nat.sub_zero]
  by_cases h : v ≤ ds.length
  · rw [Nat.min_eq_left h]
  · rw [Nat.min_eq_right (by omega), List.take_of_length_le (by omega), List.take_of_length_le (by omega)]
theorem cut_one (ds : List D) (v : Nat) (h : v < ds.length) : cutD ds (some (v : Int)) (some ((v : Int) + 1)) = (ds.drop v).take 1 := by
  unfold cutD
  rw [show (v : Int) + 1 = ((v + 1 : Nat) : Int) by omega, sIx_min, sIx_min, Nat.min_eq_left (by omega), Nat.min_eq_left (by omega), show v + 1 - v = 1 by omega]
def linD (ls : List (List Nat)) : List D := (ls.map ofL).map D.str
theorem linD_take (ls : List (List Nat)) (k : Nat) : (linD ls).take k = linD (ls.take k) := by unfold linD; rw [List.map_take, List.map_take]
theorem linD_drop (ls : List (List Nat)) (k : Nat) : (linD ls).drop k = linD (ls.drop k) := by unfold linD; rw [List.map_drop, List.map_drop]
theorem linD_app (a b : List (List Nat)) : linD a ++ linD b = linD (a ++ b) := by unfold linD; simp
theorem linD_len (ls : List (List Nat)) : (linD ls).length = ls.length := by unfold linD; simp
theorem ofL_app (a b : List Nat) : ofL a ++ ofL b = ofL (a ++ b) := tl_extZ (by rw [TL.tl_append]; rfl)
def spChanged : XSp := fun ds m Q => ∃ a ns l, ds = [.ref a, .str (ofL l)] ∧ RowAt m a ns ∧ (∀ c ∈ l, c < 128) ∧ l.length ≤ 820 ∧
  ∀ l' m', (∀ c ∈ l', c < 128) → l'.length ≤ 2 * l.length + 20 → RowAt m' a ns → (∀ b, b ≠ a → m' b = m b) → Q (.str (ofL l')) m'
theorem len_law_changed {ds m Q} (h : spChanged ds m Q) : ds.length = 2 := by obtain ⟨_, _, _, rfl, _⟩ := h; rfl
theorem sign_asc {z : Str} (h : (z.cps.toList.all fun c => decide (c < 128)) = true) {i : Nat} (hi : i < z.length) : ∃ c, z.cps[i]? = some c ∧ c < 128 := by
  have hi' : i < z.cps.size := hi
  refine ⟨z.cps[i], by simp [hi'], ?_⟩
  have := List.all_eq_true.mp h z.cps[i] (Array.mem_def.mp (Array.getElem_mem hi'))
  simpa using this

abbrev s_written : Stmt := topS 28
theorem sc_written : FnScope ["walkers", "start", "rows", "place", "pace"] ["walkers", "start"] (defScope s_written) := ⟨rfl, rfl, rfl, by decide +kernel, rfl, by decide +kernel, by decide +kernel⟩
theorem ok_written (T : Tx P w K mg base aEnd aCourse) {f : Addr} {fd : FuncData} (F : Fun K "written" "written" s_written f fd) (c_check_place : Dc P w K mg base 4 "check_place" ["place"] (of2 (gCkP aBadPlace))) (c_check_walkers : Dc P w K mg base 5 "check_walkers" ["walkers"] (of2 (gCkWalkers aBadWalkers))) : FnX P w K mg base 6 f fd ["walkers", "start"] spWritten := by
  refine fnX F sc_written (by intro ds m Q h; exact len_written h) ⟨_, fun cdv A outer s H E hr => (xss_cons (xs_expr (xe_callD c_check_walkers (hr.mono (by decide)) (by rfl) (xa_cons (xe_var 0) xa_nil)))
      (xss_cons (xs_expr (xe_callD c_check_place (hr.mono (by decide)) (by rfl) (xa_cons (xe_var 1) xa_nil)))
      (xss_cons (xs_set (i := 2) sc_written.nd rfl (Or.inl rfl) (xe_lst (xa_cons (xe_js (XJ.cons xe_str (XJ.cons (xe_fmtI (xe_var 1)) XJ.nil))) xa_nil)))
      (xss_cons (xs_for (vs := [3, 4]) PassesOwn.never rfl (xi_tup (xe_var 0)) (xg_tup (n := 2) rfl (xgs_cons (xg_name (i := 3) sc_written.nd rfl (Or.inl rfl) (by decide)) (xgs_cons (xg_name (i := 4) sc_written.nd rfl (Or.inl rfl) (by decide)) xgs_nil))) (xss_one (xs_expr (xe_append (xe_var 2) (xe_js (XJ.cons xe_str (XJ.cons (xe_fmtI (xe_var 3)) (XJ.cons xe_str (XJ.cons (xe_fmtI (xe_var 4)) XJ.nil)))))))))
      (xss_one (xs_ret (xe_join xe_str (xe_var 2)))))))), fun ds m Q h => ?_⟩
  obtain ⟨ws, st, rfl, G, q⟩ := h
  show xSeq _ _ _ [some (wsD ws), some (.int st), none, none, none] m
  walk_at "rd"
  refine ⟨wsD ws, rfl, plB_ws _ _, .inl ⟨badW_ok ws 0 G.ow (by have := G.h8; omega), .int st, rfl, trivial, .inl ⟨decide_eq_true ⟨G.s1, G.s2⟩, ?_⟩⟩⟩
  simp only [emp_app, wsD, asT_tup]
  have ns := nt_at G.s1 G.s2
  have nl := ns.len
  have q1 : (("said " : Str) ++ nT st).length ≤ 100 := by have := (rowS_ok ns).len; unfold rowS at this; omega
  refine ⟨row_sz (by decide +kernel), ns.lg, row_sz q1, le_sz (by decide), fun p hp => ?_⟩
  refine xLoop_ind (fun ds e m' => ∃ (w2 : List Wl) (acc : List Str) (x3 x4 : Option D), ds = w2.map wkD ∧ (∀ w ∈ w2, WOk w) ∧ e = [some (.tup (ws.map wkD)), some (.int st), some (.ref p), x3, x4] ∧ m' = updM m p (.lst (acc.map D.str)) ∧ acc ++ w2.map rowW = rowsT ws st) ?_ ?_ _ _ _ ⟨ws, [rowS st], none, none, rfl, G.ow, rfl, rfl, rfl⟩
  · intro e m' ⟨w2, acc, x3, x4, h1, h2, h3, h4, h5⟩
    have e0 : w2 = [] := by cases w2 with | nil => rfl | cons w w2 => cases h1
    subst e0 h3 h4
    rw [List.map_nil, List.append_nil] at h5
    subst h5
    refine ⟨trivial, ?_⟩
    walk_at "rd"
    refine ⟨rowsT ws st, by simp only [lstD, updM_same], sum_join G, m, fun a o h => ?_, q⟩
    rw [updM_ne (ne_new h hp)]; exact h
  · intro d ds e m' R ⟨w2, acc, x3, x4, h1, h2, h3, h4, h5⟩ hR
    cases w2 with
    | nil => cases h1
    | cons w w2 =>
    cases h1
    subst h3 h4
    refine ⟨trivial, ?_⟩
    simp only [wkD]
    walk_at "rd"
    obtain ⟨n1, n2⟩ := wok_nt (h2 w List.mem_cons_self)
    have rl := (rowW_ok n1 n2).len
    have l1 := n1.len
    unfold rowW at rl
    have al : acc.length ≤ 9 := by
      have := congrArg List.length h5
      rw [rows_len, List.length_append] at this
      have := G.h8
      omega
    refine ⟨trivial, trivial, ?_⟩
    rw [asL_ref updM_same]
    have w7 : ("walker " : Str).length = 7 := by decide +kernel
    have l2 : (("walker " : Str) ++ nT w.1).length ≤ 100 := by rw [app_len]; omega
    have l3 : ((("walker " : Str) ++ nT w.1) ++ (" " : Str)).length ≤ 100 := by rw [app_len] at rl; omega
    have l4 : (((("walker " : Str) ++ nT w.1) ++ (" " : Str)) ++ nT w.2).length ≤ 100 := by omega
    refine ⟨row_sz (by omega), n1.lg, row_sz l2, row_sz l3, n2.lg, row_sz l4, ?_⟩
    rw [asL_ref updM_same]
    refine ⟨by rw [List.length_map]; exact lt_sz (by omega), ?_⟩
    rw [updM_updM]
    exact hR _ _ ⟨w2, acc ++ [rowW w], _, _, rfl, fun v hv => h2 v (List.mem_cons_of_mem _ hv), rfl, by rw [List.map_append]; rfl, by rw [List.append_assoc]; exact h5⟩
end
end Sd

set_option Elab.async false
set_option linter.all false
set_option maxRecDepth 100000
set_option maxHeartbeats 4000000
namespace Sd
open PySem PySem.Spec PyProof.Rows L2
local macro_rules | `(tactic| walk_at "rd") => `(tactic| try simp only [xSeq, xAsg, gNm, xRet, xRetN, xIfS, xNext, xDrop, xFor, iRg1, iRg2, iEnuD, gTp, gCo, gNo, gSet, xVar, xC, xOp, xI, xI0, xNeg, xEq, xNe, xIs, xIsNot, xB, xAndT, xOrT, xNotT, xAnd, xOr, xNot, xIfE, xChain, xIx, xNil, xCons, xTup, xLst, xGc, xCall, xMeth, xMake, xFld, xFldS, xApp, xPar, xPar3, xLc, xYes, xCB, xLen, xAbs, x2I, xInt, xList, xTupOf, xIsi, xIsT, iTp, iLst, iZpX, xCat, xCatT, xSlL, xSlT, xpNone, xpSome, xGcS, xBreak, xCont, xIn, xNotIn, xIntB, asBl_bl, xLstRg1, xLstRg2, xTupH, xDNewT, xDNewK, xDPutK, xDGetK, iEnuL, xEqZ, xNeZ, iRevRg1, xLstRev, iZpY, xSortSet, xSortSetA, xRvs, xFmtI, xJs, xStrI, xIntS, xLenS, xAddS, xSplit, xJoin, xRmPre, xIsDec, asS_str, xWord, xCall2, xSeq2, xIf2, xFor2, xRaise2, xRaiseN, xDrop2, xRet2, xIxS, xSlS, xInS, xNotInS, iTxt, xMulS, xRepL, xApp2, xAsg2, xFld2, iLst2, xFor3, xNotInT, asT_tup, xCnt, xIdx, xCls, xXf, xInF, xDGetF, iKeyF, xDictF, iRg3, xRevSl, iSq, seqD_wsX, immD_wsX, immD_tup, oget_some, asI_int, asB_bl, oat_some, one_one, two_two, tri_tri, asT_tup, seqD_tup, seqD_lck, List.getElem?_cons_zero, List.getElem?_cons_succ, List.set_cons_zero, List.set_cons_succ, List.length_cons, List.length_nil])
local macro_rules | `(tactic| walk_at "lk") => `(tactic| try simp only [lk_end_begin, lk_end_way, lk_end_line, lk_end_driver, lk_end_drives, lk_end_lead, lk_end_is_level, lk_end_take, lk_co_lines, lk_co_left, lk_co_right, lk_co_knows, lk_co_is_begun, lk_co_tell_those_inside, lk_co_entry, lk_co_tell, lk_co_drive, lk_co_next_time, lk_co_is_told, lk_co_ends, lk_co_known, lk_co_bringer, oat_some, true_and])

section
variable {P : Program} {w : World} {K : PySem.W.Frag} {mg : Str → Option Value} {base : Heap} {aEnd aCourse : Addr} {PT cT aBadWalkers aBadChain aBadDeed aHalted aBadText aBadPlace aBadTime aBadPoint aNoWalker aNeverKnown aRoadError : Addr}

def oddS : List Str := [("" : Str), ("said 5" : Str), ("walker 1 2" : Str), ("walker 1" : Str), ("walker 01 2" : Str), ("walker -0 1" : Str), ("walker 1 10" : Str), ("walker 1 -9 " : Str), ("walker - 1" : Str), ("walkers 1 1" : Str), ("walker 1  1" : Str), ("walker 100 1" : Str), (" 1 2" : Str), (" walker 1 2" : Str)]
def oddL : List (List Nat) := oddS.map fun s => s.cps.toList
theorem odd_eq : ([D.str (Str.ofString ""), D.str (Str.ofString "said 5"), D.str (Str.ofString "walker 1 2"), D.str (Str.ofString "walker 1"), D.str (Str.ofString "walker 01 2"), D.str (Str.ofString "walker -0 1"), D.str (Str.ofString "walker 1 10"), D.str (Str.ofString "walker 1 -9 ")] : List D) ++ [D.str (Str.ofString "walker - 1"), D.str (Str.ofString "walkers 1 1"), D.str (Str.ofString "walker 1  1"), D.str (Str.ofString "walker 100 1"), D.str (Str.ofString " 1 2"), D.str (Str.ofString " walker 1 2")] = oddL.map fun l => D.str (ofL l) := by
  unfold oddL oddS
  simp only [List.map_cons, List.map_nil, ofL_tl]; rfl
theorem odd_ok : (oddL.all fun l => decide (l.length ≤ 13) && l.all fun c => decide (c < 128)) = true := by decide +kernel
theorem odd_at {j : Nat} (h : j < 14) : ∃ l, oddL[j]? = some l ∧ l.length ≤ 13 ∧ ∀ c ∈ l, c < 128 := by
  have hl : oddL.length = 14 := rfl
  refine ⟨oddL[j], List.getElem?_eq_getElem (by omega), ?_⟩
  have := List.all_eq_true.mp odd_ok oddL[j] (List.getElem_mem (by omega))
  simpa using this

abbrev s_law_changed : Stmt := topS 56
theorem sc_law_changed : FnScope ["_law_row", "_law_text", "_law_at", "_law_way", "_law_sign", "_law_lines", "_law_k", "_law_odd", "_law_again"] ["_law_row", "_law_text"] (defScope s_law_changed) := ⟨rfl, rfl, rfl, by decide +kernel, rfl, by decide +kernel, by decide +kernel⟩
theorem ok_law_changed (T : Tx P w K mg base aEnd aCourse) {f : Addr} {fd : FuncData} (F : Fun K "_law_changed" "_law_changed" s_law_changed f fd) (c__law_taken : Dc P w K mg base 1 "_law_taken" ["_law_row", "_law_many"] spTaken) : FnX P w K mg base 3 f fd ["_law_row", "_law_text"] spChanged := by
  refine fnX F sc_law_changed (by intro ds m Q h; exact len_law_changed h) ⟨_, fun cdv A outer s H E hr => (xss_cons (xs_par (i := 2) (j := 3) rfl sc_law_changed.nd rfl rfl (by decide) rfl rfl (xa_cons (xe_callD c__law_taken (hr.mono (by decide)) (by rfl) (xa_cons (xe_var 0) (xa_cons (xe_op xo_add (xe_cb xc_lenS (by rfl) T.m_len boot_len (xa_cons (xe_var 1) xa_nil)) xe_int) xa_nil))) (xa_cons (xe_callD c__law_taken (hr.mono (by decide)) (by rfl) (xa_cons (xe_var 0) (xa_cons xe_int xa_nil))) xa_nil)) (by rfl))
      (xss_cons (xs_if (xt_cmp xo_lt (xe_var 3) xe_int (nomark _)) (xss_cons (xs_set (i := 4) sc_law_changed.nd rfl (Or.inl rfl) (xe_op xo_mulS (xe_ixS xe_str (xe_callD c__law_taken (hr.mono (by decide)) (by rfl) (xa_cons (xe_var 0) (xa_cons xe_int xa_nil)))) (xe_ct xc_intB (by rfl) T.m_int boot_int (xa_cons (xe_cmp xo_lt (xe_var 3) xe_int (nomark _)) xa_nil))))
      (xss_one (xs_ret (xe_op xo_addS (xe_op xo_addS (xe_slS (xe_var 1) xp_none (xp_some (xe_var 2))) (xe_var 4)) (xe_slS (xe_var 1) (xp_some (xe_op xo_add (xe_var 2) (xe_ct xc_intB (by rfl) T.m_int boot_int (xa_cons (xe_cmp xo_gt (xe_var 3) xe_int (nomark _)) xa_nil)))) xp_none))))) xss_nil)
      (xss_cons (xs_set (i := 5) sc_law_changed.nd rfl (Or.inl rfl) (xe_split (xe_var 1) xe_str))
      (xss_cons (xs_set (i := 6) sc_law_changed.nd rfl (Or.inl rfl) (xe_callD c__law_taken (hr.mono (by decide)) (by rfl) (xa_cons (xe_var 0) (xa_cons (xe_cb xc_len (by rfl) T.m_len boot_len (xa_cons (xe_var 5) xa_nil)) xa_nil))))
      (xss_cons (xs_if (xt_cmp (xo_eq hr.units) (xe_var 3) xe_int (nomark _)) (xss_cons (xs_set (i := 7) sc_law_changed.nd rfl (Or.inl rfl) (xe_lst (xa_cons xe_str (xa_cons xe_str (xa_cons xe_str (xa_cons xe_str (xa_cons xe_str (xa_cons xe_str (xa_cons xe_str (xa_cons xe_str xa_nil))))))))))
      (xss_cons (xs_set (i := 7) sc_law_changed.nd rfl (Or.inl rfl) (xe_op xo_cat (xe_var 7) (xe_lst (xa_cons xe_str (xa_cons xe_str (xa_cons xe_str (xa_cons xe_str (xa_cons xe_str (xa_cons xe_str xa_nil)))))))))
      (xss_one (xs_ret (xe_join xe_str (xe_op xo_cat (xe_op xo_cat (xe_slL (xe_var 5) xp_none (xp_some (xe_var 6))) (xe_lst (xa_cons (xe_ix (xe_var 7) (xe_callD c__law_taken (hr.mono (by decide)) (by rfl) (xa_cons (xe_var 0) (xa_cons xe_int xa_nil)))) xa_nil))) (xe_slL (xe_var 5) (xp_some (xe_var 6)) xp_none))))))) xss_nil)
      (xss_cons (xs_set (i := 8) sc_law_changed.nd rfl (Or.inl rfl) (xe_op xo_repL (xe_slL (xe_var 5) (xp_some (xe_var 6)) (xp_some (xe_op xo_add (xe_var 6) xe_int))) (xe_op xo_mul xe_int (xe_callD c__law_taken (hr.mono (by decide)) (by rfl) (xa_cons (xe_var 0) (xa_cons xe_int xa_nil))))))
      (xss_one (xs_ret (xe_join xe_str (xe_op xo_cat (xe_op xo_cat (xe_slL (xe_var 5) xp_none (xp_some (xe_var 6))) (xe_var 8)) (xe_slL (xe_var 5) (xp_some (xe_op xo_add (xe_op xo_add (xe_var 6) xe_int) (xe_op xo_mod (xe_var 3) xe_int))) xp_none))))))))))), fun ds m Q h => ?_⟩

  obtain ⟨a, ns, l, rfl, hr, la, ll, q⟩ := h
  show xSeq _ _ _ [some (.ref a), some (.str (ofL l)), none, none, none, none, none, none, none] m
  refine hide fun K1 hK1 => ?_
  walk_at "rd"
  have lz : (ofL l).length = l.length := rfl
  rw [lz]
  refine ⟨le_bg (by omega), ?_⟩
  refine ⟨a, ns, _, rfl, hr, by omega, by omega, fun v m1 v0 v1 r1 s1 => ?_⟩
  refine ⟨a, ns, 6, rfl, r1, by decide, by decide, fun u m2 u0 u1 r2 s2 => ?_⟩
  obtain ⟨k, rfl⟩ : ∃ k : Nat, v = (k : Int) := ⟨v.toNat, by omega⟩
  have hk : k ≤ l.length := by omega
  have g2 : Grow a m m2 := Grow.same (Grow.same Grow.refl s1) s2
  rw [hK1]
  clear hK1
  refine hide fun K1 hK1 => ?_
  walk_at "rd"
  by_cases c3 : u < 3
  · rw [if_pos (decide_eq_true c3)]
    clear hK1
    refine ⟨a, ns, 10, rfl, r2, by decide, by decide, fun t m3 t0 t1 r3 s3 => ?_⟩
    dsimp only [asI_int]
    have zl : ((Str.ofString " 0159-sax\n").length : Int) = 10 := by decide +kernel
    obtain ⟨c, hc, ca⟩ := sign_asc (z := Str.ofString " 0159-sax\n") (by decide +kernel) (i := t.toNat) (by omega)
    have g3 : Grow a m m3 := Grow.same g2 s3
    have fin : ∀ (sg : List Nat) (j : Int), (∀ c ∈ sg, c < 128) → sg.length ≤ 1 → 0 ≤ j → (ofL l).length ≤ sizeLine ∧ (Txt.slice (ofL l) none (some (k : Int))).length + (ofL sg).length ≤ sizeLine ∧ (ofL l).length ≤ sizeLine ∧
        (Txt.slice (ofL l) none (some (k : Int)) ++ ofL sg).length + (Txt.slice (ofL l) (some ((k : Int) + j)) none).length ≤ sizeLine ∧
        ∃ m2, Sub m2 m3 ∧ Q (.str (Txt.slice (ofL l) none (some (k : Int)) ++ ofL sg ++ Txt.slice (ofL l) (some ((k : Int) + j)) none)) m2 := fun sg j ha hl hj => by
      rw [show Txt.slice (ofL l) none (some (k : Int)) = ofL (l.take (k : Int).toNat) from SX.slice_to (by omega), show Txt.slice (ofL l) (some ((k : Int) + j)) none = ofL (l.drop ((k : Int) + j).toNat) from SX.slice_from (by omega), ofL_app, ofL_app]
      have e1 : (l.take (k : Int).toNat).length ≤ l.length := by rw [List.length_take]; omega
      have e2 : (l.drop ((k : Int) + j).toNat).length ≤ l.length := by rw [List.length_drop]; omega
      have e3 : (l.take (k : Int).toNat ++ sg).length ≤ l.length + 1 := by rw [List.length_append]; omega
      simp only [ofL_len]
      refine ⟨le_bg (by omega), le_bg (by omega), le_bg (by omega), le_bg (by omega), row_exit r3 g3 fun m4 r4 s4 => q _ m4 (fun d hd => ?_) (by rw [List.length_append]; omega) r4 s4⟩
      rcases List.mem_append.mp hd with hd | hd
      · rcases List.mem_append.mp hd with hd | hd
        · exact la d (List.mem_of_mem_take hd)
        · exact ha d hd
      · exact la d (List.mem_of_mem_drop hd)
    refine ⟨c, t0, by omega, by omega, hc, ?_⟩
    have hj : 0 ≤ (if decide (0 < u) = true then (1 : Int) else 0) := by split <;> decide
    by_cases c2 : u < 2
    · rw [decide_eq_true c2]
      exact .inr ⟨rfl, fin [c] _ (fun d hd => by rw [List.mem_singleton.mp hd]; exact ca) (Nat.le_refl _) hj⟩
    · rw [decide_eq_false c2]
      exact .inl ⟨rfl, fin [] _ (fun _ z => nomatch z) (Nat.zero_le _) hj⟩
  rw [if_neg (by simpa using c3)]
  rw [hK1]
  clear hK1
  refine hide fun K1 hK1 => ?_
  walk_at "rd"
  refine ⟨by decide +kernel, le_bg (by omega), fun pL hpL => ?_⟩
  obtain ⟨R, hR0⟩ : ∃ R, cutL 10 [] l = R := ⟨_, rfl⟩
  have Rtot : totL R = l.length + 1 := by rw [← hR0, totL_cut]; simp
  have Rlen : R.length ≤ 821 := by have := (cutL_len 10 l []).1; rw [hR0] at this; omega
  have Ras : ∀ r ∈ R, ∀ c ∈ r, c < 128 := fun r hr => by
    rw [← hR0] at hr
    exact cutL_mem 10 (· < 128) l [] (fun _ z => nomatch z) la r hr
  have Rne : R ≠ [] := by rw [← hR0]; exact cutL_ne 10 l []
  rw [show (Str.ofString "\n") = ofL [10] from by decide +kernel, split_ofL la (by decide), hR0, show (R.map ofL).map D.str = linD R from rfl]
  have hL : updM m2 pL (.lst (linD R)) pL = some (.lst (linD R)) := updM_same
  have r3 := r2.new (o := .lst (linD R)) hpL
  have g3 : Grow a m (updM m2 pL (.lst (linD R))) := g2.new hpL
  have al := r2.ne hpL
  generalize updM m2 pL (.lst (linD R)) = m3 at hL r3 g3 ⊢
  rw [hK1]
  clear hK1
  refine hide fun K1 hK1 => ?_
  walk_at "rd"
  rw [seqD_ref hL, oat_some, linD_len]
  have R0 := List.length_pos_iff.mpr Rne
  refine ⟨a, ns, _, rfl, r3, by omega, by omega, fun v2 m4 w0 w1 r4 s4 => ?_⟩
  obtain ⟨n, rfl⟩ : ∃ n : Nat, v2 = (n : Int) := ⟨v2.toNat, by omega⟩
  have hn : n < R.length := by omega
  have hL4 : m4 pL = some (.lst (linD R)) := by rw [s4 pL al.symm]; exact hL
  have g4 : Grow a m m4 := Grow.same g3 s4
  rw [hK1]
  clear hK1
  refine hide fun K1 hK1 => ?_
  walk_at "rd"
  refine eq_int ?_
  have fin : ∀ (ls : List (List Nat)) (m' : M), (∀ r ∈ ls, ∀ c ∈ r, c < 128) → totL ls ≤ 2 * l.length + 20 → RowAt m' a ns → Grow a m m' → ((ls.map ofL).map (·.length)).sum + (ls.map ofL).length * (Str.ofString "\n").length ≤ 16777216 ∧ ∃ m2, Sub m2 m' ∧ Q (.str (Txt.join (Str.ofString "\n") (ls.map ofL))) m2 := fun ls m' ha ht r' g' => by
    have e := totL_eq ls
    refine ⟨by rw [sum_ofL, List.length_map, show (Str.ofString "\n").length = 1 from by decide +kernel]; omega, ?_⟩
    rw [join_ofL]
    exact row_exit r' g' fun m5 r5 s5 => q _ m5 (joinL_asc ha) (by have := joinL_tot ls; omega) r5 s5
  by_cases c5 : u = 5
  · rw [decide_eq_true c5, if_pos rfl]
    clear hK1
    refine ⟨le_sz (by decide), fun p5 hp5 => ⟨le_sz (by decide), fun p6 hp6 => ?_⟩⟩
    have oe := odd_eq
    generalize ([D.str (Str.ofString ""), D.str (Str.ofString "said 5"), D.str (Str.ofString "walker 1 2"), D.str (Str.ofString "walker 1"), D.str (Str.ofString "walker 01 2"), D.str (Str.ofString "walker -0 1"), D.str (Str.ofString "walker 1 10"), D.str (Str.ofString "walker 1 -9 ")] : List D) = O1 at oe hp6 ⊢
    generalize ([D.str (Str.ofString "walker - 1"), D.str (Str.ofString "walkers 1 1"), D.str (Str.ofString "walker 1  1"), D.str (Str.ofString "walker 100 1"), D.str (Str.ofString " 1 2"), D.str (Str.ofString " walker 1 2")] : List D) = O2 at oe ⊢
    have f5 : updM (updM m4 p5 (.lst O1)) p6 (.lst O2) p5 = some (.lst O1) := by rw [updM_ne (neW updM_same hp6), updM_same]
    have f6 : updM (updM m4 p5 (.lst O1)) p6 (.lst O2) p6 = some (.lst O2) := updM_same
    have fL : updM (updM m4 p5 (.lst O1)) p6 (.lst O2) pL = some (.lst (linD R)) := ((Sub.refl.upd hp5).upd hp6) _ _ hL4
    have r6 := (r4.new (o := .lst O1) hp5).new (o := .lst O2) hp6
    have g6 : Grow a m (updM (updM m4 p5 (.lst O1)) p6 (.lst O2)) := (g4.new hp5).new hp6
    generalize updM (updM m4 p5 (.lst O1)) p6 (.lst O2) = m6 at f5 f6 fL r6 g6 ⊢
    rw [asL_ref f5, asL_ref f6, oe]
    have le14 : O1.length + O2.length = 14 := by
      have := congrArg List.length oe
      rw [List.length_append, List.length_map] at this
      exact this
    refine ⟨le_sz (by omega), fun p7 hp7 => ?_⟩
    rw [lstD_ref (by rw [updM_ne (neW fL hp7)]; exact fL), oat_some]
    intro p8 hp8
    rw [cut_to, linD_take]
    have f7 : updM (updM m6 p7 (.lst (oddL.map fun l => D.str (ofL l)))) p8 (.lst (linD (R.take n))) p7 = some (.lst (oddL.map fun l => D.str (ofL l))) := by rw [updM_ne (neW updM_same hp8), updM_same]
    have f8 : updM (updM m6 p7 (.lst (oddL.map fun l => D.str (ofL l)))) p8 (.lst (linD (R.take n))) p8 = some (.lst (linD (R.take n))) := updM_same
    have fL8 : updM (updM m6 p7 (.lst (oddL.map fun l => D.str (ofL l)))) p8 (.lst (linD (R.take n))) pL = some (.lst (linD R)) := ((Sub.refl.upd hp7).upd hp8) _ _ fL
    have r7 := r6.new (o := .lst (oddL.map fun l => D.str (ofL l))) hp7
    have r8 := r7.new (o := .lst (linD (R.take n))) hp8
    have g8 := (g6.new (o := .lst (oddL.map fun l => D.str (ofL l))) hp7).new (o := .lst (linD (R.take n))) hp8
    have a7 := r6.ne hp7
    have a8 := r7.ne hp8
    generalize updM (updM m6 p7 (.lst (oddL.map fun l => D.str (ofL l)))) p8 (.lst (linD (R.take n))) = m8 at f7 f8 fL8 r8 g8 ⊢
    refine ⟨a, ns, 14, rfl, r8, by decide, by decide, fun j m9 j0 j1 r9 s9 => ?_⟩
    dsimp only [asI_int]
    rw [← s9 p7 a7.symm] at f7
    rw [← s9 p8 a8.symm] at f8
    rw [← s9 pL al.symm] at fL8
    have g9 := Grow.same g8 s9
    rw [seqD_ref f7, oat_some]
    obtain ⟨jn, rfl⟩ : ∃ jn : Nat, j = (jn : Int) := ⟨j.toNat, by omega⟩
    obtain ⟨ol, ho, hol, hoa⟩ := odd_at (j := jn) (by omega)
    rw [show atI (oddL.map fun l => D.str (ofL l)) (jn : Int) = some (.str (ofL ol)) from atI_map ho, oat_some]
    refine ⟨le_sz (by decide), fun p10 hp10 => ?_⟩
    have sA : Sub m9 (updM m9 p10 (.lst [D.str (ofL ol)])) := Sub.refl.upd hp10
    have f10 : updM m9 p10 (.lst [D.str (ofL ol)]) p10 = some (.lst (linD [ol])) := updM_same
    have r10 := r9.new (o := .lst [D.str (ofL ol)]) hp10
    have g10 := g9.new (o := .lst [D.str (ofL ol)]) hp10
    generalize updM m9 p10 (.lst [D.str (ofL ol)]) = m10 at sA f10 r10 g10 ⊢
    rw [asL_ref (sA _ _ f8), asL_ref f10, linD_app]
    have lt1 : (R.take n).length ≤ 821 := by rw [List.length_take]; omega
    refine ⟨by rw [linD_len, linD_len]; exact le_bg (by simp; omega), fun p11 hp11 => ?_⟩
    have sB : Sub m10 (updM m10 p11 (.lst (linD (R.take n ++ [ol])))) := Sub.refl.upd hp11
    have f11 : updM m10 p11 (.lst (linD (R.take n ++ [ol]))) p11 = some (.lst (linD (R.take n ++ [ol]))) := updM_same
    have r11 := r10.new (o := .lst (linD (R.take n ++ [ol]))) hp11
    have g11 := g10.new (o := .lst (linD (R.take n ++ [ol]))) hp11
    generalize updM m10 p11 (.lst (linD (R.take n ++ [ol]))) = m11 at sB f11 r11 g11 ⊢
    rw [lstD_ref (sB _ _ (sA _ _ fL8)), oat_some]
    intro p12 hp12
    rw [cut_from, linD_drop]
    have sC : Sub m11 (updM m11 p12 (.lst (linD (R.drop n)))) := Sub.refl.upd hp12
    have f12 : updM m11 p12 (.lst (linD (R.drop n))) p12 = some (.lst (linD (R.drop n))) := updM_same
    have r12 := r11.new (o := .lst (linD (R.drop n))) hp12
    have g12 := g11.new (o := .lst (linD (R.drop n))) hp12
    generalize updM m11 p12 (.lst (linD (R.drop n))) = m12 at sC f12 r12 g12 ⊢
    rw [asL_ref (sC _ _ f11), asL_ref f12, linD_app]
    have lt2 : (R.drop n).length ≤ 821 := by rw [List.length_drop]; omega
    refine ⟨by rw [linD_len, linD_len]; exact le_bg (by simp; omega), fun p13 hp13 => ?_⟩
    refine ⟨(R.take n ++ [ol] ++ R.drop n).map ofL, lstD_ref updM_same, fin _ _ (fun r hr => ?_) ?_ (r12.new hp13) (g12.new hp13)⟩
    · rcases List.mem_append.mp hr with hr | hr
      · rcases List.mem_append.mp hr with hr | hr
        · exact Ras r (List.mem_of_mem_take hr)
        · rw [List.mem_singleton.mp hr]; exact hoa
      · exact Ras r (List.mem_of_mem_drop hr)
    · have := totL_td R n
      have e : totL [ol] = ol.length + 1 := by simp [totL]
      rw [totL_app, totL_app]; omega
  rw [decide_eq_false c5, if_neg (by decide)]
  rw [hK1]
  clear hK1
  refine hide fun K1 hK1 => ?_
  walk_at "rd"
  rw [lstD_ref hL4, oat_some]
  intro p5 hp5
  rw [cut_one _ _ (by rw [linD_len]; exact hn), linD_drop, linD_take]
  have f5 : updM m4 p5 (.lst (linD ((R.drop n).take 1))) p5 = some (.lst (linD ((R.drop n).take 1))) := updM_same
  have fL5 : updM m4 p5 (.lst (linD ((R.drop n).take 1))) pL = some (.lst (linD R)) := (Sub.refl.upd hp5) _ _ hL4
  have r5 := r4.new (o := .lst (linD ((R.drop n).take 1))) hp5
  have g5 := g4.new (o := .lst (linD ((R.drop n).take 1))) hp5
  have a5 := r4.ne hp5
  generalize updM m4 p5 (.lst (linD ((R.drop n).take 1))) = m5 at f5 fL5 r5 g5 ⊢
  refine ⟨a, ns, 2, rfl, r5, by decide, by decide, fun j m6 j0 j1 r6 s6 => ?_⟩
  dsimp only [asI_int]
  rw [← s6 p5 a5.symm] at f5
  rw [← s6 pL al.symm] at fL5
  have g6 := Grow.same g5 s6
  refine ⟨cmul_l (by decide), ?_⟩
  rw [asL_ref f5]
  obtain ⟨A, hA, hA2, hA3⟩ : ∃ A : List (List Nat), (List.replicate (2 * j).toNat (linD ((R.drop n).take 1))).flatten = linD A ∧ totL A ≤ 2 * totL ((R.drop n).take 1) ∧ ∀ r ∈ A, r ∈ R := by
    rcases (by omega : j = 0 ∨ j = 1) with z | z <;> subst z
    · exact ⟨[], rfl, by simp [totL], fun _ z => nomatch z⟩
    · refine ⟨(R.drop n).take 1 ++ (R.drop n).take 1, by rw [← linD_app]; simp, by rw [totL_app]; omega, fun r hr => ?_⟩
      rcases List.mem_append.mp hr with hr | hr <;> exact List.mem_of_mem_drop (List.mem_of_mem_take hr)
  have l1 : (linD ((R.drop n).take 1)).length ≤ 1 := by rw [linD_len, List.length_take]; omega
  have sz : (linD ((R.drop n).take 1)).length * (2 * j).toNat ≤ 2 := by
    rcases (by omega : j = 0 ∨ j = 1) with z | z <;> subst z
    · simp
    · show _ * 2 ≤ 2; omega
  refine ⟨by omega, by omega, le_sz (by omega), fun p6 hp6 => ?_⟩
  rw [hA]
  have Alen : A.length ≤ 2 := by
    have e := congrArg List.length hA
    rw [linD_len, List.length_flatten, List.map_replicate, List.sum_replicate_nat] at e
    rw [← e, Nat.mul_comm]; exact sz
  have f6 : updM m6 p6 (.lst (linD A)) p6 = some (.lst (linD A)) := updM_same
  have fL6 : updM m6 p6 (.lst (linD A)) pL = some (.lst (linD R)) := (Sub.refl.upd hp6) _ _ fL5
  have r7 := r6.new (o := .lst (linD A)) hp6
  have g7 := g6.new (o := .lst (linD A)) hp6
  generalize updM m6 p6 (.lst (linD A)) = m7 at f6 fL6 r7 g7 ⊢
  rw [hK1]
  clear hK1
  walk_at "rd"
  rw [lstD_ref fL6, oat_some]
  intro p8 hp8
  rw [cut_to, linD_take]
  have sB : Sub m7 (updM m7 p8 (.lst (linD (R.take n)))) := Sub.refl.upd hp8
  have f8 : updM m7 p8 (.lst (linD (R.take n))) p8 = some (.lst (linD (R.take n))) := updM_same
  have r8 := r7.new (o := .lst (linD (R.take n))) hp8
  have g8 := g7.new (o := .lst (linD (R.take n))) hp8
  generalize updM m7 p8 (.lst (linD (R.take n))) = m8 at sB f8 r8 g8 ⊢
  rw [asL_ref f8, asL_ref (sB _ _ f6), linD_app]
  have lt1 : (R.take n).length ≤ 821 := by rw [List.length_take]; omega
  refine ⟨by rw [linD_len, linD_len]; exact le_bg (by omega), fun p9 hp9 => ⟨by decide, ?_⟩⟩
  have sC : Sub m8 (updM m8 p9 (.lst (linD (R.take n ++ A)))) := Sub.refl.upd hp9
  have f9 : updM m8 p9 (.lst (linD (R.take n ++ A))) p9 = some (.lst (linD (R.take n ++ A))) := updM_same
  have r9 := r8.new (o := .lst (linD (R.take n ++ A))) hp9
  have g9 := g8.new (o := .lst (linD (R.take n ++ A))) hp9
  generalize updM m8 p9 (.lst (linD (R.take n ++ A))) = m9 at sC f9 r9 g9 ⊢
  rw [lstD_ref (sC _ _ (sB _ _ fL6)), oat_some]
  intro p10 hp10
  obtain ⟨d, hd, hd1⟩ : ∃ d : Nat, (n : Int) + 1 + u % 2 = (d : Int) ∧ n + 1 ≤ d := ⟨((n : Int) + 1 + u % 2).toNat, by omega, by omega⟩
  rw [hd, cut_from, linD_drop]
  have sD : Sub m9 (updM m9 p10 (.lst (linD (R.drop d)))) := Sub.refl.upd hp10
  have f10 : updM m9 p10 (.lst (linD (R.drop d))) p10 = some (.lst (linD (R.drop d))) := updM_same
  have r10 := r9.new (o := .lst (linD (R.drop d))) hp10
  have g10 := g9.new (o := .lst (linD (R.drop d))) hp10
  generalize updM m9 p10 (.lst (linD (R.drop d))) = m10 at sD f10 r10 g10 ⊢
  rw [asL_ref (sD _ _ f9), asL_ref f10, linD_app]
  have lt2 : (R.drop d).length ≤ 821 := by rw [List.length_drop]; omega
  refine ⟨by rw [linD_len, linD_len]; exact le_bg (by rw [List.length_append]; omega), fun p11 hp11 => ?_⟩
  refine ⟨(R.take n ++ A ++ R.drop d).map ofL, lstD_ref updM_same, fin _ _ (fun r hr => ?_) ?_ (r10.new hp11) (g10.new hp11)⟩
  · rcases List.mem_append.mp hr with hr | hr
    · rcases List.mem_append.mp hr with hr | hr
      · exact Ras r (List.mem_of_mem_take hr)
      · exact Ras r (hA3 r hr)
    · exact Ras r (List.mem_of_mem_drop hr)
  · have e1 := totL_td R n
    have e2 := totL_td (R.drop n) 1
    have e3 := totL_drop R (n + 1) d hd1
    rw [List.drop_drop] at e2
    rw [totL_app, totL_app]; omega
end
end Sd

set_option Elab.async false
set_option linter.all false
set_option maxRecDepth 100000
set_option maxHeartbeats 4000000
namespace Sd
open PySem PySem.Spec PyProof.Rows L2
local macro_rules | `(tactic| walk_at "rd") => `(tactic| try simp only [xSeq, xAsg, gNm, xRet, xRetN, xIfS, xNext, xDrop, xFor, iRg1, iRg2, iEnuD, gTp, gCo, gNo, gSet, xVar, xC, xOp, xI, xI0, xNeg, xEq, xNe, xIs, xIsNot, xB, xAndT, xOrT, xNotT, xAnd, xOr, xNot, xIfE, xChain, xIx, xNil, xCons, xTup, xLst, xGc, xCall, xMeth, xMake, xFld, xFldS, xApp, xPar, xPar3, xLc, xYes, xCB, xLen, xAbs, x2I, xInt, xList, xTupOf, xIsi, xIsT, iTp, iLst, iZpX, xCat, xCatT, xSlL, xSlT, xpNone, xpSome, xGcS, xBreak, xCont, xIn, xNotIn, xIntB, asBl_bl, xLstRg1, xLstRg2, xTupH, xDNewT, xDNewK, xDPutK, xDGetK, iEnuL, xEqZ, xNeZ, iRevRg1, xLstRev, iZpY, xSortSet, xSortSetA, xRvs, xFmtI, xJs, xStrI, xIntS, xLenS, xAddS, xSplit, xJoin, xRmPre, xIsDec, asS_str, xWord, xCall2, xSeq2, xIf2, xFor2, xRaise2, xRaiseN, xDrop2, xRet2, xIxS, xSlS, xInS, xNotInS, iTxt, xMulS, xRepL, xApp2, xAsg2, xFld2, iLst2, xFor3, xNotInT, asT_tup, xCnt, xIdx, xCls, xXf, xInF, xDGetF, iKeyF, xDictF, iRg3, xRevSl, iSq, seqD_wsX, immD_wsX, immD_tup, oget_some, asI_int, asB_bl, oat_some, one_one, two_two, tri_tri, asT_tup, seqD_tup, seqD_lck, List.getElem?_cons_zero, List.getElem?_cons_succ, List.set_cons_zero, List.set_cons_succ, List.length_cons, List.length_nil])
local macro_rules | `(tactic| walk_at "lk") => `(tactic| try simp only [lk_end_begin, lk_end_way, lk_end_line, lk_end_driver, lk_end_drives, lk_end_lead, lk_end_is_level, lk_end_take, lk_co_lines, lk_co_left, lk_co_right, lk_co_knows, lk_co_is_begun, lk_co_tell_those_inside, lk_co_entry, lk_co_tell, lk_co_drive, lk_co_next_time, lk_co_is_told, lk_co_ends, lk_co_known, lk_co_bringer, oat_some, true_and])

section
variable {P : Program} {w : World} {K : PySem.W.Frag} {mg : Str → Option Value} {base : Heap} {aEnd aCourse : Addr} {PT cT aBadWalkers aBadChain aBadDeed aHalted aBadText aBadPlace aBadTime aBadPoint aNoWalker aNeverKnown aRoadError : Addr}
theorem eq_bl {m : M} {i j : Bool} {k : Bool → Prop} (h : k (decide (i = j))) : eqD m (.bl i) (.bl j) k :=
  ⟨.bool i, .bool j, rfl, rfl, rfl, rfl, by cases i <;> cases j <;> exact h⟩
theorem kb_tt : kitBs "tuple" (["tuple", "list"].map D.ty) = some true := by decide +kernel
theorem kb_tl : kitBs "list" (["tuple", "list"].map D.ty) = some true := by decide +kernel
theorem kb_n : kitBs "NoneType" (["tuple", "list"].map D.ty) = some false := by decide +kernel
theorem kb_i : kitBs "int" (["tuple", "list"].map D.ty) = some false := by decide +kernel
theorem kb_b : kitBs "bool" (["tuple", "list"].map D.ty) = some false := by decide +kernel
theorem kb1 : kitB "tuple" "tuple" = some true := by decide +kernel
theorem kb2 : kitB "list" "tuple" = some false := by decide +kernel
theorem kb3 : kitB "NoneType" "bool" = some false := by decide +kernel
theorem kb4 : kitB "int" "bool" = some false := by decide +kernel
theorem kb5 : kitB "bool" "bool" = some true := by decide +kernel
theorem eq_nil {m : M} {p q : Addr} {k : Bool → Prop} (h1 : m p = some (.lst [])) (h2 : m q = some (.lst [])) (h : k true) : eqD m (.ref p) (.ref q) k := ⟨.list [], .list [], by simp [toPyM, h1, toPys], by simp [toPyM, h2, toPys], rfl, rfl, h⟩
theorem eq_non {m : M} {k : Bool → Prop} (h : k true) : eqD m .non .non k := ⟨.none, .none, rfl, rfl, rfl, rfl, h⟩

theorem kbz_s : kitBs "str" (["tuple", "list"].map D.ty) = some false := by decide +kernel
theorem kbz6 : kitB "str" "bool" = some false := by decide +kernel
def Leaf (x : D) : Prop := x = .non ∨ (∃ i, x = .int i) ∨ (∃ b, x = .bl b) ∨ ∃ s, x = .str s ∧ PyData.strOk s = true
def Alt : Nat → M → D → D → Prop
  | 0, _, _, _ => False
  | n + 1, m, x, y => (x = y ∧ Leaf x) ∨ (∃ l k : List D, x = .tup l ∧ y = .tup k ∧ l.length = k.length ∧ l.length ≤ 1000 ∧ ∀ (i : Nat) (d e : D), l[i]? = some d → k[i]? = some e → Alt n m d e) ∨ ∃ (a b : Addr) (l k : List D), x = .ref a ∧ y = .ref b ∧ m a = some (.lst l) ∧ m b = some (.lst k) ∧ l.length = k.length ∧ l.length ≤ 1000 ∧ ∀ (i : Nat) (d e : D), l[i]? = some d → k[i]? = some e → Alt n m d e
def spAlt (n : Nat) : XSp := fun ds m Q => ∃ x y : D, ds = [x, y] ∧ Alt n m x y ∧ Q (.bl true) m
theorem len_law_alike {n ds m Q} (h : spAlt n ds m Q) : ds.length = 2 := by obtain ⟨_, _, rfl, _⟩ := h; rfl

abbrev s_law_alike : Stmt := topS 49
theorem sc_law_alike : FnScope ["_law_one", "_law_due_here", "_law_k"] ["_law_one", "_law_due_here"] (defScope s_law_alike) := ⟨rfl, rfl, rfl, by decide +kernel, rfl, by decide +kernel, by decide +kernel⟩
theorem ok_law_alike (T : Tx P w K mg base aEnd aCourse) {f : Addr} {fd : FuncData} (F : Fun K "_law_alike" "_law_alike" s_law_alike f fd) {n : Nat} (c__law_alike : Dc P w K mg base n "_law_alike" ["_law_one", "_law_due_here"] (spAlt n)) : FnX P w K mg base (n + 1) f fd ["_law_one", "_law_due_here"] (spAlt (n + 1)) := by
  refine fnX F sc_law_alike (by intro ds m Q h; exact len_law_alike h) ⟨_, fun cdv A outer s H E hr => (xss_cons (xs_if (PW.pt (xw_and (xt_val (xe_isT (by rfl) T.m_isinstance (xe_var 0) (by rfl) T.m_tuple boot_tuple (by rfl) T.m_list boot_list)) (xw_and1 (xt_val (xe_isT (by rfl) T.m_isinstance (xe_var 1) (by rfl) T.m_tuple boot_tuple (by rfl) T.m_list boot_list))))) (xss_cons (xs_if (PW.pt (xw_or (xt_cmp (xo_ne hr.units) (xe_cb xc_isi (by rfl) T.m_isinstance boot_isinstance (xa_cons (xe_var 0) (xa_cons (xe_bty (by rfl) T.m_tuple boot_tuple) xa_nil))) (xe_cb xc_isi (by rfl) T.m_isinstance boot_isinstance (xa_cons (xe_var 1) (xa_cons (xe_bty (by rfl) T.m_tuple boot_tuple) xa_nil))) (nomark _)) (xw_or1 (xt_cmp (xo_ne hr.units) (xe_cb xc_len (by rfl) T.m_len boot_len (xa_cons (xe_var 0) xa_nil)) (xe_cb xc_len (by rfl) T.m_len boot_len (xa_cons (xe_var 1) xa_nil)) (nomark _))))) (xss_one (xs_ret xe_bl)) xss_nil)
      (xss_one (xs_ret (xe_cmp (xo_eq hr.units) (xe_lc (own := [("_law_k", 2)]) rfl sc_law_alike.nd (xi_range1 (by rfl) T.m_range (xa_cons (xe_cb xc_len (by rfl) T.m_len boot_len (xa_cons (xe_var 0) xa_nil)) xa_nil)) (blkOk_by (N := ["_law_one", "_law_due_here", "_law_k"]) (sc := defScope s_law_alike) (by decide +kernel)) (fun _ _ _ _ _ => (xg_name (i := 2) sc_law_alike.nd rfl (Or.inl rfl) (by decide))) (fun _ _ _ _ _ => (xts_one (xt_not (xt_val (xe_callD c__law_alike hr (by rfl) (xa_cons (xe_ix (xe_var 0) (xe_var 2)) (xa_cons (xe_ix (xe_var 1) (xe_var 2)) xa_nil))))))) (fun _ _ _ _ _ => (xe_var 2))) (xe_lst xa_nil) (nomark _))))) xss_nil)
      (xss_one (xs_ret (xe_and (xe_cmp (xo_eq hr.units) (xe_var 0) (xe_var 1) (nomark _)) (xe_one (xe_cmp (xo_eq hr.units) (xe_cb xc_isi (by rfl) T.m_isinstance boot_isinstance (xa_cons (xe_var 0) (xa_cons (xe_bty (by rfl) T.m_bool boot_bool) xa_nil))) (xe_cb xc_isi (by rfl) T.m_isinstance boot_isinstance (xa_cons (xe_var 1) (xa_cons (xe_bty (by rfl) T.m_bool boot_bool) xa_nil))) (nomark _))))))), fun ds m Q h => ?_⟩

  obtain ⟨x, y, rfl, h, q⟩ := h
  show xSeq _ _ _ [some x, some y, none] m
  have or : (x = y ∧ Leaf x) ∨ ∃ (l k : List D) (t : Bool), l.length = k.length ∧ l.length ≤ 1000 ∧ (∀ (i : Nat) (d e : D), l[i]? = some d → k[i]? = some e → Alt n m d e) ∧ seqD m x = some l ∧ seqD m y = some k ∧ tyD m x = some (if t then "tuple" else "list") ∧ tyD m y = some (if t then "tuple" else "list") := by
    rcases h with h | ⟨l, k, e1, e2, el, hl, hs⟩ | ⟨a, b, l, k, e1, e2, h1, h2, el, hl, hs⟩
    · exact .inl h
    · subst e1 e2
      exact .inr ⟨l, k, true, el, hl, hs, rfl, rfl, rfl, rfl⟩
    · subst e1 e2
      exact .inr ⟨l, k, false, el, hl, hs, seqD_ref h1, seqD_ref h2, by simp [tyD, h1], by simp [tyD, h2]⟩
  rcases or with ⟨e, hk⟩ | ⟨l, k, t, el, hl, hs, hx, hy, tx, ty⟩
  · subst e
    walk_at "rd"
    rcases hk with rfl | ⟨i, rfl⟩ | ⟨b, rfl⟩ | ⟨z, rfl, hz⟩
    · simp only [tyD, oat_some, kb_n, kb3]
      rw [if_neg (by decide), if_neg (by decide)]
      refine eq_non ?_
      rw [if_pos rfl]
      exact eq_bl ⟨m, .refl, q⟩
    · simp only [tyD, oat_some, kb_i, kb4]
      rw [if_neg (by decide), if_neg (by decide)]
      refine eq_int ?_
      rw [if_pos (decide_eq_true rfl)]
      exact eq_bl ⟨m, .refl, q⟩
    · simp only [tyD, oat_some, kb_b, kb5]
      rw [if_neg (by decide), if_neg (by decide)]
      refine eq_bl ?_
      rw [if_pos (decide_eq_true rfl)]
      exact eq_bl ⟨m, .refl, q⟩
    · simp only [tyD, oat_some, kbz_s, kbz6]
      rw [if_neg (by decide), if_neg (by decide)]
      refine eq_str hz hz ?_
      rw [if_pos (decide_eq_true rfl)]
      exact eq_bl ⟨m, .refl, q⟩
  · walk_at "rd"
    have k1 : ∀ t : Bool, kitBs (if t = true then "tuple" else "list") (["tuple", "list"].map D.ty) = some true := fun t => by cases t; exact kb_tl; exact kb_tt
    have k2 : ∀ t : Bool, kitB (if t = true then "tuple" else "list") "tuple" = some t := fun t => by cases t; exact kb2; exact kb1
    simp only [tx, ty, hx, hy, oat_some, k1, k2]
    rw [if_pos trivial, if_pos trivial]
    refine eq_bl ?_
    rw [decide_eq_true rfl]
    simp only [Bool.not_true, Bool.false_eq_true, if_false]
    refine eq_int ?_
    rw [decide_eq_true (by omega)]
    simp only [Bool.not_true, Bool.false_eq_true, if_false]
    refine ⟨⟨by omega, by omega⟩, ?_⟩
    refine xLcG_pure (fun _ => none) trivial _ _ (fun d hd R h => ?_) (by simp [rangeD]; exact lt_sz (by omega)) (fun p hp => ?_)
    · obtain ⟨i, hi, rfl⟩ := List.mem_map.mp (show d ∈ (List.range ((l.length : Int) - 0).toNat).map fun i : Nat => D.int (0 + (i : Int)) from hd)
      have il : i < l.length := by have := List.mem_range.mp hi; omega
      obtain ⟨z, hz⟩ : ∃ z, l[i]? = some z := ⟨_, List.getElem?_eq_getElem il⟩
      obtain ⟨y', hy'⟩ : ∃ z, k[i]? = some z := ⟨_, List.getElem?_eq_getElem (by omega)⟩
      simp only [wipeD, List.map_cons, List.map_nil, Int.zero_add]
      walk_at "rd"
      simp only [hx, hy, oat_some, atI_nat hz, atI_nat hy']
      exact ⟨z, y', rfl, hs i z y' hz hy', by simp; exact h⟩
    · rw [show ([] : List D) ++ List.filterMap (fun _ => none) (rangeD 0 ↑l.length) = [] by simp]
      refine ⟨Nat.zero_le _, fun p2 hp2 => ?_⟩
      have n12 : p ≠ p2 := ne_new updM_same hp2
      have mp2 : m p2 = none := by rw [updM_ne n12.symm] at hp2; exact hp2
      exact eq_nil (by rw [updM_ne n12, updM_same]) updM_same ⟨m, fun b o hb => by rw [updM_ne (ne_new hb mp2), updM_ne (ne_new hb hp)]; exact hb, q⟩

theorem fn_neverA {f : Addr} {fd : FuncData} {k : Nat} {ps : List Str} (sp : XSp) (h : ∀ ds m Q, ¬ sp ds m Q) : FnX P w K mg base k f fd ps sp :=
  ⟨fun vs H Q E ⟨ds, m, Q', _, _, hs, _⟩ => (h ds m Q' hs).elim, fun A outer s H args us vs Q E _ _ _ _ ⟨ds, m, Q', _, _, hs, _⟩ => (h ds m Q' hs).elim⟩
theorem alike_all (T : Tx P w K mg base aEnd aCourse) {f : Addr} {fd : FuncData} (F : Fun K "_law_alike" "_law_alike" s_law_alike f fd) (hm : mg "_law_alike" = some (.ref f)) (hk : PySem.W.keepIn K (.ref f) = true) (hb : Binds K fd ["_law_one", "_law_due_here"] []) :
    ∀ n, FnX P w K mg base n f fd ["_law_one", "_law_due_here"] (spAlt n)
  | 0 => fn_neverA _ fun ds m Q ⟨_, _, _, h, _⟩ => h
  | n + 1 => ok_law_alike T F ⟨⟨f, fd, alike_all T F hm hk hb n, hm, hk, hb⟩⟩

end
end Sd

set_option Elab.async false
set_option linter.all false
set_option maxRecDepth 100000
set_option maxHeartbeats 4000000
namespace Sd
open PySem PySem.Spec PyProof.Rows L2
local macro_rules | `(tactic| walk_at "rd") => `(tactic| try simp only [xSeq, xAsg, gNm, xRet, xRetN, xIfS, xNext, xDrop, xFor, iRg1, iRg2, iEnuD, gTp, gCo, gNo, gSet, xVar, xC, xOp, xI, xI0, xNeg, xEq, xNe, xIs, xIsNot, xB, xAndT, xOrT, xNotT, xAnd, xOr, xNot, xIfE, xChain, xIx, xNil, xCons, xTup, xLst, xGc, xCall, xMeth, xMake, xFld, xFldS, xApp, xPar, xPar3, xLc, xYes, xCB, xLen, xAbs, x2I, xInt, xList, xTupOf, xIsi, xIsT, iTp, iLst, iZpX, xCat, xCatT, xSlL, xSlT, xpNone, xpSome, xGcS, xBreak, xCont, xIn, xNotIn, xIntB, asBl_bl, xLstRg1, xLstRg2, xTupH, xDNewT, xDNewK, xDPutK, xDGetK, iEnuL, xEqZ, xNeZ, iRevRg1, xLstRev, iZpY, xSortSet, xSortSetA, xRvs, xFmtI, xJs, xStrI, xIntS, xLenS, xAddS, xSplit, xJoin, xRmPre, xIsDec, asS_str, xWord, xCall2, xSeq2, xIf2, xFor2, xRaise2, xRaiseN, xDrop2, xRet2, xIxS, xSlS, xInS, xNotInS, iTxt, xMulS, xRepL, xApp2, xAsg2, xFld2, iLst2, xFor3, xNotInT, asT_tup, xCnt, xIdx, xCls, xXf, xInF, xDGetF, iKeyF, xDictF, iRg3, xRevSl, iSq, seqD_wsX, immD_wsX, immD_tup, oget_some, asI_int, asB_bl, oat_some, one_one, two_two, tri_tri, asT_tup, seqD_tup, seqD_lck, List.getElem?_cons_zero, List.getElem?_cons_succ, List.set_cons_zero, List.set_cons_succ, List.length_cons, List.length_nil])
local macro_rules | `(tactic| walk_at "lk") => `(tactic| try simp only [lk_end_begin, lk_end_way, lk_end_line, lk_end_driver, lk_end_drives, lk_end_lead, lk_end_is_level, lk_end_take, lk_co_lines, lk_co_left, lk_co_right, lk_co_knows, lk_co_is_begun, lk_co_tell_those_inside, lk_co_entry, lk_co_tell, lk_co_drive, lk_co_next_time, lk_co_is_told, lk_co_ends, lk_co_known, lk_co_bringer, oat_some, true_and])

section
variable {P : Program} {w : World} {K : PySem.W.Frag} {mg : Str → Option Value} {base : Heap} {aEnd aCourse : Addr} {PT cT aBadWalkers aBadChain aBadDeed aHalted aBadText aBadPlace aBadTime aBadPoint aNoWalker aNeverKnown aRoadError : Addr}
theorem alt_leaf {n : Nat} {m : M} {x : D} (h : Leaf x) : Alt (n + 1) m x x := .inl ⟨rfl, h⟩
theorem alt_tup {n : Nat} {m : M} {l : List D} (hl : l.length ≤ 1000) (h : ∀ d ∈ l, Alt n m d d) : Alt (n + 1) m (.tup l) (.tup l) :=
  .inr (.inl ⟨l, l, rfl, rfl, rfl, hl, fun i d e h1 h2 => by rw [h1] at h2; cases h2; exact h d (List.mem_of_getElem? h1)⟩)
theorem leaf_int (i : Int) : Leaf (.int i) := .inr (.inl ⟨i, rfl⟩)
theorem alt_wk (n : Nat) (m : M) (w : Wl) : Alt (n + 2) m (wkD w) (wkD w) := alt_tup (by simp) fun d hd => by
  rcases List.mem_cons.mp hd with z | z
  · rw [z]; exact alt_leaf (leaf_int _)
  · rw [List.mem_singleton.mp z]; exact alt_leaf (leaf_int _)
theorem alt_ws (n : Nat) (m : M) {ws : List Wl} (h : ws.length ≤ 8) : Alt (n + 3) m (wsD ws) (wsD ws) := alt_tup (by rw [List.length_map]; omega) fun d hd => by
  obtain ⟨w, _, rfl⟩ := List.mem_map.mp hd
  exact alt_wk n m w
theorem alt_res (n : Nat) (m : M) {ws : List Wl} (h : ws.length ≤ 8) (st : Int) : Alt (n + 4) m (.tup [wsD ws, .int st]) (.tup [wsD ws, .int st]) := alt_tup (by simp) fun d hd => by
  rcases List.mem_cons.mp hd with z | z
  · rw [z]; exact alt_ws n m h
  · rw [List.mem_singleton.mp z]; exact alt_leaf (leaf_int _)
structure RT (PT : Addr) (m : M) (a : Addr) (ns : List Int) : Prop where
  r : RowAt m a ns
  t : m PT = some (.tab "law.<locals>.<lambda>")
theorem RT.ne {PT a : Addr} {m : M} {ns : List Int} (h : RT PT m a ns) : PT ≠ a := by
  obtain ⟨i, sd, r, e, _⟩ := h.r
  intro z
  have := h.t
  rw [z, e] at this; cases this
theorem RT.new {PT a p : Addr} {m : M} {ns : List Int} {o : O} (h : RT PT m a ns) (n : m p = none) : RT PT (updM m p o) a ns := ⟨h.r.new n, by rw [updM_ne (ne_new h.t n)]; exact h.t⟩
theorem RT.step {PT a : Addr} {m m' : M} {ns : List Int} (h : RT PT m a ns) (r : RowAt m' a ns) (s : ∀ b, b ≠ a → m' b = m b) : RT PT m' a ns := ⟨r, by rw [s PT h.ne]; exact h.t⟩
def spLawW (PT : Addr) : XSp := fun ds m Q => ∃ ns : List Int, ds = [.lck (ns.map D.int)] ∧ m PT = some (.tab "law.<locals>.<lambda>") ∧ ∀ m', Q (.bl true) m'
theorem len_lawW {PT ds m Q} (h : spLawW PT ds m Q) : ds.length = 1 := by obtain ⟨_, rfl, _⟩ := h; rfl

def okW (aW aT : Addr) : Addr → Nat → Prop := fun C i => (C = aW ∧ i = 0) ∨ (C = aT ∧ i = 4)
theorem asc_all : ((List.range 199).all fun k => (nT ((k : Int) - 99)).cps.toList.all fun c => decide (c < 128)) = true := by decide +kernel
theorem asc_at {a : Int} (h1 : -99 ≤ a) (h2 : a ≤ 99) : ∀ c ∈ TL.tl (nT a), c < 128 := fun c hc => by
  have h := List.all_eq_true.mp asc_all (a + 99).toNat (List.mem_range.mpr (by omega))
  rw [show (((a + 99).toNat : Nat) : Int) - 99 = a by omega] at h
  exact of_decide_eq_true (List.all_eq_true.mp h c hc)
theorem asc_lit {y : Str} (h : (y.cps.toList.all fun c => decide (c < 128)) = true) : ∀ c ∈ TL.tl y, c < 128 := fun c hc => of_decide_eq_true (List.all_eq_true.mp h c hc)
theorem asc_app {x y : Str} (h : ∀ c ∈ TL.tl x, c < 128) (k : ∀ c ∈ TL.tl y, c < 128) : ∀ c ∈ TL.tl (x ++ y), c < 128 := fun c hc => by
  rw [TL.tl_append] at hc
  rcases List.mem_append.mp hc with z | z
  · exact h c z
  · exact k c z
theorem txt_asc {ws : List Wl} {st : Int} (G : GivenT ws st) : ∀ c ∈ TL.tl (txt ws st), c < 128 := fun c hc => by
  rw [tl_txt] at hc
  rcases joinL_mem _ _ _ hc with z | ⟨p, hp, z⟩
  · rw [List.mem_singleton.mp z]; decide
  · obtain ⟨y, hy, rfl⟩ := List.mem_map.mp hp
    rcases List.mem_cons.mp hy with e | e
    · subst e
      exact asc_app (x := ("said " : Str)) (asc_lit (by decide +kernel)) (asc_at G.s1 G.s2) c z
    · obtain ⟨w, hw, rfl⟩ := List.mem_map.mp e
      have o := G.ow w hw
      have := o.h1; have := o.h2; have := o.h3; have := o.h4
      exact asc_app (asc_app (asc_app (x := ("walker " : Str)) (asc_lit (by decide +kernel)) (asc_at (by omega) (by omega))) (y := (" " : Str)) (asc_lit (by decide +kernel))) (asc_at (by omega) (by omega)) c z
theorem txt_few {ws : List Wl} {st : Int} (G : GivenT ws st) : (TL.tl (txt ws st)).length ≤ 189 := by
  rw [tl_txt]
  have a := joinL_len [10] ((rowsT ws st).map TL.tl)
  have b := sum_le _ (rows_ok G)
  have l := rows_len (ws := ws) (st := st)
  have h8 := G.h8
  have e : (((rowsT ws st).map TL.tl).map (·.length)).sum = ((rowsT ws st).map (·.length)).sum := by
    rw [List.map_map]
    refine congrArg List.sum (List.map_congr_left fun y _ => tl_len y)
  rw [e, List.length_map] at a
  simp only [List.length_cons, List.length_nil] at a
  omega
def bdOk (w : Str) : Bool := match PySem.intText? w with
  | some n => decide (-99 ≤ n) && decide (n ≤ 99)
  | none => true
theorem bd1 : ((List.range 10).all fun c => bdOk ⟨#[48 + c]⟩ && bdOk ⟨#[45, 48 + c]⟩) = true := by decide +kernel
theorem bd2 : ((List.range 10).all fun c => (List.range 10).all fun d => bdOk ⟨#[48 + c, 48 + d]⟩ && bdOk ⟨#[45, 48 + c, 48 + d]⟩) = true := by decide +kernel
theorem numB_bd {l : List Nat} (ha : ∀ c ∈ l, c < 128) {n : Int} (h : numB l = some n) : -99 ≤ n ∧ n ≤ 99 := by
  by_cases cd : (Txt.isdecimal (ofL (figL l)) && (decide ((figL l).length ≤ 2) && numOk l)) = true
  rotate_left
  · unfold numB at h; rw [if_neg cd] at h; cases h
  have e : PySem.intText? (ofL l) = some n := by unfold numB at h; rw [if_pos cd] at h; exact h
  rw [Bool.and_eq_true, Bool.and_eq_true, decide_eq_true_eq] at cd
  obtain ⟨_, hc⟩ := fig_ok ha cd.1 cd.2.1
  have two : l = figL l ∨ l = 45 :: figL l := by
    unfold figL
    split
    · exact .inr rfl
    · exact .inl rfl
  have key : bdOk (ofL l) = true := by
    rcases hc with ⟨c, e1, h1, h2⟩ | ⟨c, d, e1, ⟨h1, h2⟩, h3, h4⟩
    · have := List.all_eq_true.mp bd1 (c - 48) (List.mem_range.mpr (by omega))
      rw [Bool.and_eq_true, show 48 + (c - 48) = c by omega] at this
      rw [e1] at two
      rcases two with z | z <;> rw [z]
      · exact this.1
      · exact this.2
    · have := List.all_eq_true.mp (List.all_eq_true.mp bd2 (c - 48) (List.mem_range.mpr (by omega))) (d - 48) (List.mem_range.mpr (by omega))
      rw [Bool.and_eq_true, show 48 + (c - 48) = c by omega, show 48 + (d - 48) = d by omega] at this
      rw [e1] at two
      rcases two with z | z <;> rw [z]
      · exact this.1
      · exact this.2
  unfold bdOk at key
  rw [e] at key
  simpa using key
theorem numsB_bd : ∀ (ls : List (List Nat)) (ns : List Int), (∀ l ∈ ls, ∀ c ∈ l, c < 128) → numsB ls = some ns → ∀ n ∈ ns, -99 ≤ n ∧ n ≤ 99
  | [], ns, _, h => by cases h; exact fun _ z => nomatch z
  | l :: r, ns, ha, h => by
    unfold numsB at h
    split at h
    · rename_i n ns' e1 e2
      cases h
      intro k hk
      rcases List.mem_cons.mp hk with z | z
      · rw [z]; exact numB_bd (ha l List.mem_cons_self) e1
      · exact numsB_bd r ns' (fun l hl => ha l (List.mem_cons_of_mem _ hl)) e2 k z
    · cases h
/-- what is read of a text: a place, and what may be handed on -/
theorem readV_ok {l : List Nat} (la : ∀ c ∈ l, c < 128) {o : D} {st : Int} (h : readV l = .inr (o, st)) : (-99 ≤ st ∧ st ≤ 99) ∧ ∃ nss, o = numsD nss := by
  unfold readV at h
  have Rne := cutL_ne 10 l []
  have Ras := cutL_mem 10 (· < 128) l [] (fun _ z => nomatch z) la
  generalize cutL 10 [] l = R at h Rne Ras
  cases hR : readR 0 R with
  | inl k => rw [hR] at h; cases h
  | inr x =>
    rw [hR] at h
    cases x with
    | nil => cases h
    | cons n0 dr =>
      cases h
      refine ⟨?_, dr, rfl⟩
      obtain ⟨z, rfl⟩ := read_head Rne hR
      show -99 ≤ z ∧ z ≤ 99
      cases R with
      | nil => exact absurd rfl Rne
      | cons r R =>
        unfold readR at hR
        split at hR
        · cases hR
        · rename_i ns e1
          split at hR
          · cases hR
          · cases hR
            cases hw : cutL 32 [] r with
            | nil => exact absurd hw (cutL_ne 32 r [])
            | cons h0 fs =>
              rw [hw] at e1
              unfold rowB at e1
              dsimp only at e1
              split at e1
              · refine numsB_bd fs [z] (fun l hl => ?_) e1 z List.mem_cons_self
                exact cutL_mem 32 (· < 128) r [] (fun _ z => nomatch z) (Ras r List.mem_cons_self) l (by rw [hw]; exact List.mem_cons_of_mem _ hl)
              · cases e1
theorem plB_nums (m : M) (nss : List (List Int)) : PlB m (numsD nss) := ⟨trivial, fun xs e x hx => by
  cases e
  obtain ⟨ns, _, rfl⟩ := List.mem_map.mp hx
  refine ⟨trivial, fun ys e y hy => ?_⟩
  cases e
  obtain ⟨n, _, rfl⟩ := List.mem_map.mp hy
  trivial⟩
theorem ok_wkw : PyData.strOk ("walkers" : Str) = true := by decide +kernel
theorem ok_txw : PyData.strOk ("text" : Str) = true := by decide +kernel
theorem sh_wd {z : Str} (h : PyData.strOk z = true) (i : Int) : SeqAt.shaped (.tuple [.str z, .int i]) = true := by
  unfold SeqAt.shaped
  simp [PyData.canLay0, PyData.canLayAll0, PyData.depth, PyData.depthAll, h]
theorem eq_wd {m : M} {z : Str} (hz : PyData.strOk z = true) {i : Int} {k : Bool → Prop} (h : k true) : eqD m (.tup [.str z, .int i]) (.tup [.str z, .int i]) k := by
  refine ⟨.tuple [.str z, .int i], .tuple [.str z, .int i], by simp [toPyM, toPy, toPys], by simp [toPyM, toPy, toPys], sh_wd hz i, sh_wd hz i, ?_⟩
  have e : PyData.eqv (.tuple [.str z, .int i]) (.tuple [.str z, .int i]) = true := by simp [PyData.eqv, PyData.eqvAll]
  rw [e]; exact h
def endS : List Str := ["", "said", "said 00", "said -0", "said 5 "]
theorem end_at {j : Nat} (h : j < 5) : ∃ l : List Nat, endS[j]? = some (ofL l) ∧ l.length ≤ 13 ∧ ∀ c ∈ l, c < 128 := by
  have ok : (endS.all fun s => decide (s.cps.toList.length ≤ 13) && s.cps.toList.all fun c => decide (c < 128)) = true := by decide +kernel
  have hl : endS.length = 5 := rfl
  refine ⟨endS[j].cps.toList, by rw [ofL_tl]; exact List.getElem?_eq_getElem (by omega), ?_⟩
  have := List.all_eq_true.mp ok endS[j] (List.getElem_mem (by omega))
  rw [Bool.and_eq_true, decide_eq_true_eq] at this
  exact ⟨this.1, fun c hc => of_decide_eq_true (List.all_eq_true.mp this.2 c hc)⟩

abbrev s_law : Stmt := topS 57
theorem sc_law : FnScope ["_law_script", "_law_row", "_law_turn", "_law_some", "_law_text", "_law_change", "_law_one", "_law_due_here", "_law_word_here"] ["_law_script"] (defScope s_law) := ⟨rfl, rfl, rfl, by decide +kernel, rfl, by decide +kernel, by decide +kernel⟩
theorem ok_law (T : Tx P w K mg base aEnd aCourse) {f : Addr} {fd : FuncData} (F : Fun K "law" "law" s_law f fd) (hcv : fd.code = .ref cT) (TB : LamX.TabB base mg cT PT) (c__law_taken : Dc P w K mg base 1 "_law_taken" ["_law_row", "_law_many"] spTaken) (c__law_alike : Dc P w K mg base 6 "_law_alike" ["_law_one", "_law_due_here"] (spAlt 6)) (c_read : Dc P w K mg base 7 "read" ["text"] (of2 (xRead aBadText aBadWalkers))) (c__law_due : Dc P w K mg base 2 "_law_due" ["_law_text"] spDue) (c__law_changed : Dc P w K mg base 3 "_law_changed" ["_law_row", "_law_text"] spChanged) (c_written : Dc P w K mg base 6 "written" ["walkers", "start"] spWritten) (c__law_start : Dc P w K mg base 2 "_law_start" ["_law_row", "_law_some"] spStart) (c__law_walkers : Dc P w K mg base 2 "_law_walkers" ["_law_row", "_law_many"] spWalkers) (c_word : WordC P w K mg base [aBadWalkers, aBadChain, aBadDeed, aHalted, aBadText, aBadPlace, aBadTime, aBadPoint, aNoWalker, aNeverKnown] aRoadError) (hokW : ∀ C idx, okW aBadWalkers aBadText C idx → ExW K [aBadWalkers, aBadChain, aBadDeed, aHalted, aBadText, aBadPlace, aBadTime, aBadPoint, aNoWalker, aNeverKnown] C idx ∧ PySem.W.exmOne K (.ref C) (.ref aRoadError) = some true) (c2_learnt : D2 P w K mg base 9 "learnt" ["walkers", "start"] (xLearnt aBadWalkers)) (c2_read : D2 P w K mg base 7 "read" ["text"] (xRead aBadText aBadWalkers)) : FnX P w K mg base 12 f fd ["_law_script"] (spLawW PT) := by
  refine fnXC F sc_law (by intro ds m Q h; exact len_lawW h) ⟨_, fun cdv hcd A outer s H E hr => (xss_cons (xs_set (i := 1) sc_law.nd rfl (Or.inl rfl) (xe_lst (xa_cons (xe_var 0) (xa_cons xe_int (xa_cons xe_int (xa_cons xe_int xa_nil))))))
      (xss_cons (xs_for (vs := [2]) PassesOwn.never rfl (xi_range1 (by rfl) T.m_range (xa_cons xe_int xa_nil)) (xg_name (i := 2) sc_law.nd rfl (Or.inl rfl) (by decide)) (xss_cons (xs_set (i := 3) sc_law.nd rfl (Or.inl rfl) (xe_callD c__law_walkers (hr.mono (by decide)) (by rfl) (xa_cons (xe_var 1) (xa_cons xe_int xa_nil))))
      (xss_cons (xs_set (i := 4) sc_law.nd rfl (Or.inl rfl) (xe_callD c_written (hr.mono (by decide)) (by rfl) (xa_cons (xe_var 3) (xa_cons (xe_callD c__law_start (hr.mono (by decide)) (by rfl) (xa_cons (xe_var 1) (xa_cons (xe_var 3) xa_nil))) xa_nil))))
      (xss_cons (xs_for (vs := [5]) PassesOwn.never rfl (xi_range1 (by rfl) T.m_range (xa_cons (xe_callD c__law_taken (hr.mono (by decide)) (by rfl) (xa_cons (xe_var 1) (xa_cons xe_int xa_nil))) xa_nil)) (xg_name (i := 5) sc_law.nd rfl (Or.inl rfl) (by decide)) (xss_one (xs_set (i := 4) sc_law.nd rfl (Or.inl rfl) (xe_callD c__law_changed (hr.mono (by decide)) (by rfl) (xa_cons (xe_var 1) (xa_cons (xe_var 4) xa_nil))))))
      (xss_one (xs_for (vs := [6]) PassesOwn.never rfl (xi_list (xe_lst (xa_cons (xe_var 4) (xa_cons (xe_gc (xe_ix (xe_lst (xa_cons xe_str (xa_cons xe_str (xa_cons xe_str (xa_cons xe_str (xa_cons xe_str xa_nil)))))) (xe_callD c__law_taken (hr.mono (by decide)) (by rfl) (xa_cons (xe_var 1) (xa_cons xe_int xa_nil))))) xa_nil)))) (xg_name (i := 6) sc_law.nd rfl (Or.inr rfl) (by decide)) (xss_cons (xs_set (i := 7) sc_law.nd rfl (Or.inr rfl) (xe_callD c__law_due (hr.mono (by decide)) (by rfl) (xa_cons (xe_var 6) xa_nil)))
      (xss_cons (xs_set (i := 8) sc_law.nd rfl (Or.inl rfl) (xe_ifExp (xt_cmp (xo_eq hr.units) (xe_ix (xe_var 7) xe_int) xe_str (nomark _)) (xe_var 7) (xe_word (k := 9) (q := "law.<locals>.<lambda>") (ok := okW aBadWalkers aBadText) c_word hokW (by rfl) TB (hcd.symm.trans hcv) (hr.mono (by decide)) (hr.mono (by decide)) (LamX.lamS_by (sc := defScope s_law) (by decide +kernel)) (fun A outer s H E f c' hr2 => (xe_call2D (takes_of rfl rfl rfl rfl) c2_learnt (hr2.mono (by decide)) (by rfl) (xa_cons (xe_ix (xe_var 7) xe_int) (xa_cons (xe_ix (xe_var 7) xe_int) xa_nil)))))))
      (xss_cons (xs_if (xt_cmp (xo_ne hr.units) (xe_word (k := 9) (q := "law.<locals>.<lambda>") (ok := okW aBadWalkers aBadText) c_word hokW (by rfl) TB (hcd.symm.trans hcv) (hr.mono (by decide)) (hr.mono (by decide)) (LamX.lamS_by (sc := defScope s_law) (by decide +kernel)) (fun A outer s H E f c' hr2 => (xe_call2D (takes_of rfl rfl rfl rfl) c2_read (hr2.mono (by decide)) (by rfl) (xa_cons (xe_var 6) xa_nil)))) (xe_var 8) (nomark _)) (xss_one (xs_ret xe_bl)) xss_nil)
      (xss_one (xs_if (PW.pt (xw_and (xt_cmp xo_is (xe_var 8) xe_non (nomark _)) (xw_and1 (xt_not (xt_val (xe_callD c__law_alike (hr.mono (by decide)) (by rfl) (xa_cons (xe_callD c_read (hr.mono (by decide)) (by rfl) (xa_cons (xe_var 6) xa_nil)) (xa_cons (xe_tup (xa_cons (xe_ix (xe_var 7) xe_int) (xa_cons (xe_ix (xe_var 7) xe_int) xa_nil))) xa_nil)))))))) (xss_one (xs_ret xe_bl)) xss_nil)))))))))))
      (xss_one (xs_ret xe_bl)))), fun ds m Q h => ?_⟩

  obtain ⟨ns, rfl, hPT, q⟩ := h
  show xSeq _ _ _ [some (.lck (ns.map D.int)), none, none, none, none, none, none, none, none] m
  refine hide fun K1 hK1 => ?_
  walk_at "rd"
  refine ⟨le_sz (by decide), fun a ha => ?_⟩
  have hR0 : RT PT (updM m a (.lst [.lck (ns.map D.int), .int 0, .int 0, .int 0])) a ns := ⟨⟨0, 0, 0, updM_same, ⟨by decide, by decide, by decide⟩⟩, by rw [updM_ne (ne_new hPT ha)]; exact hPT⟩
  generalize updM m a (.lst [.lck (ns.map D.int), .int 0, .int 0, .int 0]) = m0 at hR0 ⊢
  rw [hK1]
  clear hK1
  refine hide fun K1 hK1 => ?_
  walk_at "rd"
  refine ⟨⟨by decide, by decide⟩, ?_⟩
  refine xLoop_ind (fun ds e m' => ∃ x2 x3 x4 x5 x6 x7 x8, e = [some (.lck (ns.map D.int)), some (.ref a), x2, x3, x4, x5, x6, x7, x8] ∧ RT PT m' a ns) ?_ ?_ _ _ _ ⟨none, none, none, none, none, none, none, rfl, hR0⟩
  · intro e m' ⟨x2, x3, x4, x5, x6, x7, x8, h1, h2⟩
    subst h1
    refine ⟨trivial, ?_⟩
    dsimp only
    rw [hK1]
    clear hK1
    walk_at "rd"
    exact ⟨m', .refl, q _⟩
  intro dd ds e m' R ⟨x2, x3, x4, x5, x6, x7, x8, h1, hr⟩ hR
  subst h1
  refine ⟨trivial, ?_⟩
  simp only [gNm, List.set_cons_succ, List.set_cons_zero]
  clear hK1
  refine hide fun K1 hK1 => ?_
  walk_at "rd"
  refine ⟨a, ns, 8, rfl, hr.r, by decide, by decide, fun ws m1 ow hl r1 s1 => ?_⟩
  have h1 := hr.step r1 s1
  clear hr s1 r1
  rw [hK1]
  clear hK1
  refine hide fun K1 hK1 => ?_
  walk_at "rd"
  refine ⟨a, ns, ws, rfl, h1.r, ow, by omega, fun st m2 b1 b2 r2 s2 => ?_⟩
  have h2 := h1.step r2 s2
  clear h1 s2 r2
  have GT : GivenT ws st := ⟨ow, by omega, b1, b2⟩
  refine ⟨ws, st, rfl, GT, ?_⟩
  have ta := txt_asc GT
  have tl := txt_few GT
  rw [show txt ws st = ofL (TL.tl (txt ws st)) from (ofL_tl _).symm]
  generalize TL.tl (txt ws st) = l0 at ta tl ⊢
  rw [hK1]
  clear hK1
  refine hide fun K1 hK1 => ?_
  walk_at "rd"
  refine ⟨a, ns, 4, rfl, h2.r, by decide, by decide, fun j m3 j0 j1 r3 s3 => ?_⟩
  have h3 := h2.step r3 s3
  clear h2 s3 r3
  dsimp only [asI_int]
  refine ⟨⟨by omega, by omega⟩, ?_⟩
  have jl : (rangeD 0 j).length ≤ 3 := by unfold rangeD; rw [List.length_map, List.length_range]; omega
  refine xLoop_ind (fun ds e m' => ∃ (k : Nat) (l : List Nat) (x5 : Option D), ds.length + k ≤ 3 ∧ l.length + 20 ≤ 209 * 2 ^ k ∧ (∀ c ∈ l, c < 128) ∧ e = [some (.lck (ns.map D.int)), some (.ref a), some dd, some (wsD ws), some (.str (ofL l)), x5, x6, x7, x8] ∧ RT PT m' a ns) ?_ ?_ _ _ _ ⟨0, l0, x5, jl, by omega, ta, rfl, h3⟩
  rotate_left
  · intro d1 ds1 e m4 R2 ⟨k, l, y5, g1, g2, g3, g4, h4⟩ hR2
    subst g4
    refine ⟨trivial, ?_⟩
    walk_at "rd"
    rw [List.length_cons] at g1
    have hk : 209 * 2 ^ k ≤ 836 := by
      rcases (by omega : k = 0 ∨ k = 1 ∨ k = 2) with z | z | z <;> subst z <;> decide
    refine ⟨a, ns, l, rfl, h4.r, g3, by omega, fun l' m5 la' ll' r5 s5 => ?_⟩
    exact hR2 _ _ ⟨k + 1, l', _, by omega, by rw [Nat.pow_succ]; omega, la', rfl, h4.step r5 s5⟩
  clear h3 jl
  intro e m4 ⟨k, l, y5, g1, g2, g3, g4, h4⟩
  subst g4
  have ll : l.length ≤ 1652 := by
    have hk : 209 * 2 ^ k ≤ 1672 := by
      rcases (by simp at g1; omega : k = 0 ∨ k = 1 ∨ k = 2 ∨ k = 3) with z | z | z | z <;> subst z <;> decide
    omega
  refine ⟨trivial, ?_⟩
  dsimp only
  rw [hK1]
  clear hK1
  walk_at "rd"
  refine ⟨le_sz (by decide), fun p hp => ?_⟩
  refine ⟨a, ns, 5, rfl, (h4.new hp).r, by decide, by decide, fun i m5 i0 i1 r5 s5 => ?_⟩
  have h5 := (h4.new hp).step r5 s5
  have pa := h4.r.ne hp
  have hp5 := s5 p pa.symm
  rw [updM_same] at hp5
  clear s5 r5 hp h4
  dsimp only [asI_int]
  rw [seqD_ref hp5, oat_some]
  obtain ⟨jn, rfl⟩ : ∃ jn : Nat, i = (jn : Int) := ⟨i.toNat, by omega⟩
  obtain ⟨l2, e2, ll2, la2⟩ := end_at (j := jn) (by omega)
  rw [show atI ([D.str (Str.ofString ""), D.str (Str.ofString "said"), D.str (Str.ofString "said 00"), D.str (Str.ofString "said -0"), D.str (Str.ofString "said 5 ")] : List D) (jn : Int) = some (D.str (ofL l2)) from atI_map (f := D.str) (xs := endS) e2, oat_some]
  clear hp5
  refine ⟨m5, .refl, two_sz, fun p2 hp2 => ?_⟩
  have h6 := h5.new (o := .lst [D.str (ofL l), D.str (ofL l2)]) hp2
  have f6 : updM m5 p2 (.lst [D.str (ofL l), D.str (ofL l2)]) p2 = some (.lst ([l, l2].map fun l => D.str (ofL l))) := updM_same
  rw [asL_ref updM_same]
  generalize updM m5 p2 (.lst [D.str (ofL l), D.str (ofL l2)]) = m6 at h6 f6 ⊢
  clear h5 hp2
  refine xLoop_ind (fun ds e m' => ∃ (ls : List (List Nat)) (y6 y7 y8 : Option D), ds = ls.map (fun l => D.str (ofL l)) ∧ (∀ l ∈ ls, (∀ c ∈ l, c < 128) ∧ l.length ≤ 1700) ∧ e = [some (.lck (ns.map D.int)), some (.ref a), some dd, some (wsD ws), some (.str (ofL l)), y5, y6, y7, y8] ∧ RT PT m' a ns ∧ m' p2 = some (.lst ([l, l2].map fun l => D.str (ofL l)))) ?_ ?_ _ _ _ ⟨[l, l2], x6, x7, x8, rfl, ?_, rfl, h6, f6⟩
  rotate_left
  rotate_left
  · intro l1 hl1
    rcases List.mem_cons.mp hl1 with z | z
    · rw [z]; exact ⟨g3, by omega⟩
    · rw [List.mem_singleton.mp z]; exact ⟨la2, by omega⟩
  · intro e m7 ⟨ls, y6, y7, y8, k1, k2, k3, h7, f7⟩
    subst k3
    exact ⟨f7, hR _ _ ⟨_, _, _, _, _, _, _, rfl, h7⟩⟩
  intro d1 ds1 e m7 R3 ⟨ls, y6, y7, y8, k1, k2, k3, h7, f7⟩ hR3
  subst k3
  cases ls with
  | nil => cases k1
  | cons l1 ls =>
  cases k1
  obtain ⟨la1, ll1⟩ := k2 l1 List.mem_cons_self
  have k2' := fun v (hv : v ∈ ls) => k2 v (List.mem_cons_of_mem _ hv)
  refine ⟨f7, ?_⟩
  simp only [gNm, List.set_cons_succ, List.set_cons_zero]
  refine hide fun K1 hK1 => ?_
  walk_at "rd"
  refine ⟨l1, rfl, la1, ll1, ?_⟩
  have fine : ∀ (m8 : M) (y7 y8 : Option D), RT PT m8 a ns → m8 p2 = some (.lst ([l, l2].map fun l => D.str (ofL l))) → R3 [some (.lck (ns.map D.int)), some (.ref a), some dd, some (wsD ws), some (.str (ofL l)), y5, some (.str (ofL l1)), y7, y8] m8 := fun m8 y7 y8 h8 f8 => hR3 _ _ ⟨ls, _, y7, y8, rfl, k2', rfl, h8, f8⟩
  clear hR3 hR h6 f6
  cases hv : readV l1 with
  | inl k =>
    rw [show dueD l1 = .tup [.str "text", .int (k : Int)] from by unfold dueD; rw [hv]]
    rw [hK1]
    clear hK1
    refine hide fun K1 hK1 => ?_
    walk_at "rd"
    rw [atI_0, oat_some]
    refine eq_str ok_txw ok_txw ?_
    rw [decide_eq_true rfl, if_pos rfl]
    rw [hK1]
    clear hK1
    refine hide fun K1 hK1 => ?_
    walk_at "rd"
    refine ⟨h7.t, l1, rfl, la1, ll1, .inl ⟨k, hv, 4, _, .inr ⟨rfl, rfl⟩, rfl, eq_wd ok_txw ?_⟩⟩
    rw [if_neg (by decide)]
    rw [hK1]
    clear hK1
    walk_at "rd"
    refine ⟨trivial, ?_⟩
    rw [if_neg (by simp [isNon]), if_neg (by decide)]
    exact fine _ _ _ h7 f7
  | inr os =>
    obtain ⟨o, sv⟩ := os
    rw [show dueD l1 = .tup [.str "road", o, .int sv] from by unfold dueD; rw [hv]]
    obtain ⟨bs, nss, ho⟩ := readV_ok la1 hv
    rw [hK1]
    clear hK1
    refine hide fun K1 hK1 => ?_
    walk_at "rd"
    rw [atI_0, oat_some]
    refine eq_str (by decide +kernel) ok_txw ?_
    rw [show decide ((Str.ofString "road" : Str) = "text") = false from by decide +kernel, if_neg (by decide)]
    refine ⟨h7.t, ?_⟩
    rw [atI_1, oat_some, show atI [D.str (Str.ofString "road"), o, D.int sv] 2 = some (.int sv) from atI_2, oat_some]
    have plo : ∀ m : M, PlB m o := fun m => by rw [ho]; exact plB_nums m nss
    refine ⟨o, sv, rfl, plo _, bs, ?_⟩
    cases hw : WsB o with
    | some k =>
      refine .inr ⟨k, rfl, 0, _, .inl ⟨rfl, rfl⟩, rfl, ?_⟩
      rw [hK1]
      clear hK1
      refine hide fun K1 hK1 => ?_
      walk_at "rd"
      refine ⟨h7.t, l1, rfl, la1, ll1, .inr ⟨o, sv, hv, .inr ⟨k, hw, 0, _, .inl ⟨rfl, rfl⟩, rfl, eq_wd ok_wkw ?_⟩⟩⟩
      rw [if_neg (by decide)]
      rw [hK1]
      clear hK1
      walk_at "rd"
      refine ⟨trivial, ?_⟩
      rw [if_neg (by simp [isNon]), if_neg (by decide)]
      exact fine _ _ _ h7 f7
    | none =>
    obtain ⟨ws2, ew, ow2, hl2⟩ := ws_out hw
    subst ew
    refine .inl ⟨ws2, rfl, ⟨ow2, hl2, bs.1, bs.2⟩, fun p9 hp9 => ?_⟩
    have h8 := h7.new (o := .lst ((course ws2 sv).knows.map lrnD)) hp9
    have f8 : updM m7 p9 (.lst ((course ws2 sv).knows.map lrnD)) p2 = some (.lst ([l, l2].map fun l => D.str (ofL l))) := (Sub.refl.upd hp9) _ _ f7
    generalize updM m7 p9 (.lst ((course ws2 sv).knows.map lrnD)) = m8 at h8 f8 ⊢
    rw [hK1]
    clear hK1
    refine hide fun K1 hK1 => ?_
    walk_at "rd"
    refine ⟨h8.t, l1, rfl, la1, ll1, .inr ⟨_, sv, hv, .inl ⟨hw, eq_non ?_⟩⟩⟩
    rw [if_neg (by decide)]
    rw [hK1]
    clear hK1
    walk_at "rd"
    refine ⟨trivial, ?_⟩
    rw [if_pos (show isNon D.non = true from rfl)]
    refine ⟨l1, rfl, la1, ll1, .inr ⟨_, sv, hv, .inl ⟨hw, ?_⟩⟩⟩
    dsimp only
    rw [atI_1, oat_some, show atI [D.str (Str.ofString "road"), wsD ws2, D.int sv] 2 = some (.int sv) from atI_2, oat_some]
    refine ⟨two_sz, _, _, rfl, alt_res 2 _ hl2 sv, ?_⟩
    simp only [asB_bl, Bool.not_true, Bool.false_eq_true, if_false]
    exact fine _ _ _ h8 f8
end
end Sd

set_option Elab.async false
set_option linter.all false
set_option maxRecDepth 100000
set_option maxHeartbeats 4000000
namespace Sd
open PySem PySem.Spec PyProof.Rows L2

theorem vals_2 {a b : Int} {t u : Tok} : Vals [V.int a, V.int b] (#[Value.int a t, Value.int b u] : Array Value).toList := by first | exact .cons ⟨_, rfl⟩ (.cons ⟨_, rfl⟩ .nil) | exact ⟨rfl, rfl, trivial⟩ | simp [Vals, Paired, L2.RelV]
theorem all_mk {l : PySem.W.OpenLaw} {w : World} {K : PySem.W.Frag} {h : Heap} {mg : Str → Option Value} {fa aEnd aCourse z_ZERO aBadPlace aBadWalkers aBadChain aBadDeed aHalted aBadText aBadTime aBadPoint aNoWalker aNeverKnown aRoadError fI_BadText cd_BadText cc_BadText fI_BadWalkers cd_BadWalkers cc_BadWalkers f_w cT PT f_lowest f_is_below f_least f_most f_point_of f_meeting f_End_lead f_End_is_level f_End_take f_is_number f_is_whole f_is_pair f_is_place f_is_pace f_is_walker f_check_walkers f_check_place f_is_figures f_numbers_of f_read f_law_number f_Course_entry f_Course_is_begun f_Course_tell_those_inside f_Course_is_told f_Course_tell f_Course_drive f_Course_next_time f_Course_ends f_Course_known f_End___init__ f_Course___init__ f_course_from f_course_of f_learnt f_check_walkersR f_check_placeR f_readR f_law_due f_law_taken f_law_walkers f_law_start f_written f_law_changed f_law_alike f_law : Addr} (X : K.In h) (G : h.Ns mainGlobals mg) (hfa : mg "law" = some (.ref fa))
    {oci_BadText kVi_BadText dci_BadText pmi_BadText cti_BadText ccli_BadText cli_BadText oci_BadWalkers kVi_BadWalkers dci_BadWalkers pmi_BadWalkers cti_BadWalkers ccli_BadWalkers cli_BadWalkers oc_w kV_w dc_w pm_w cd_w ct_w oc_lowest kV_lowest dc_lowest pm_lowest cd_lowest ct_lowest oc_is_below kV_is_below dc_is_below pm_is_below cd_is_below ct_is_below oc_least kV_least dc_least pm_least cd_least ct_least oc_most kV_most dc_most pm_most cd_most ct_most oc_point_of kV_point_of dc_point_of pm_point_of cd_point_of ct_point_of oc_meeting kV_meeting dc_meeting pm_meeting cd_meeting ct_meeting oc_End_lead kV_End_lead dc_End_lead pm_End_lead cd_End_lead ct_End_lead oc_End_is_level kV_End_is_level dc_End_is_level pm_End_is_level cd_End_is_level ct_End_is_level oc_End_take kV_End_take dc_End_take pm_End_take cd_End_take ct_End_take oc_is_number kV_is_number dc_is_number pm_is_number cd_is_number ct_is_number oc_is_whole kV_is_whole dc_is_whole pm_is_whole cd_is_whole ct_is_whole oc_is_pair kV_is_pair dc_is_pair pm_is_pair cd_is_pair ct_is_pair oc_is_place kV_is_place dc_is_place pm_is_place cd_is_place ct_is_place oc_is_pace kV_is_pace dc_is_pace pm_is_pace cd_is_pace ct_is_pace oc_is_walker kV_is_walker dc_is_walker pm_is_walker cd_is_walker ct_is_walker oc_check_walkers kV_check_walkers dc_check_walkers pm_check_walkers cd_check_walkers ct_check_walkers oc_check_place kV_check_place dc_check_place pm_check_place cd_check_place ct_check_place oc_is_figures kV_is_figures dc_is_figures pm_is_figures cd_is_figures ct_is_figures oc_numbers_of kV_numbers_of dc_numbers_of pm_numbers_of cd_numbers_of ct_numbers_of oc_read kV_read dc_read pm_read cd_read ct_read oc_law_number kV_law_number dc_law_number pm_law_number cd_law_number ct_law_number oc_Course_entry kV_Course_entry dc_Course_entry pm_Course_entry cd_Course_entry ct_Course_entry oc_Course_is_begun kV_Course_is_begun dc_Course_is_begun pm_Course_is_begun cd_Course_is_begun ct_Course_is_begun oc_Course_tell_those_inside kV_Course_tell_those_inside dc_Course_tell_those_inside pm_Course_tell_those_inside cd_Course_tell_those_inside ct_Course_tell_those_inside oc_Course_is_told kV_Course_is_told dc_Course_is_told pm_Course_is_told cd_Course_is_told ct_Course_is_told oc_Course_tell kV_Course_tell dc_Course_tell pm_Course_tell cd_Course_tell ct_Course_tell oc_Course_drive kV_Course_drive dc_Course_drive pm_Course_drive cd_Course_drive ct_Course_drive oc_Course_next_time kV_Course_next_time dc_Course_next_time pm_Course_next_time cd_Course_next_time ct_Course_next_time oc_Course_ends kV_Course_ends dc_Course_ends pm_Course_ends cd_Course_ends ct_Course_ends oc_Course_known kV_Course_known dc_Course_known pm_Course_known cd_Course_known ct_Course_known oc_End___init__ kV_End___init__ dc_End___init__ pm_End___init__ cd_End___init__ ct_End___init__ oc_Course___init__ kV_Course___init__ dc_Course___init__ pm_Course___init__ cd_Course___init__ ct_Course___init__ oc_course_from kV_course_from dc_course_from pm_course_from cd_course_from ct_course_from oc_course_of kV_course_of dc_course_of pm_course_of cd_course_of ct_course_of oc_learnt kV_learnt dc_learnt pm_learnt cd_learnt ct_learnt oc_check_walkersR kV_check_walkersR dc_check_walkersR pm_check_walkersR cd_check_walkersR ct_check_walkersR oc_check_placeR kV_check_placeR dc_check_placeR pm_check_placeR cd_check_placeR ct_check_placeR oc_readR kV_readR dc_readR pm_readR cd_readR ct_readR oc_law_due kV_law_due dc_law_due pm_law_due cd_law_due ct_law_due oc_law_taken kV_law_taken dc_law_taken pm_law_taken cd_law_taken ct_law_taken oc_law_walkers kV_law_walkers dc_law_walkers pm_law_walkers cd_law_walkers ct_law_walkers oc_law_start kV_law_start dc_law_start pm_law_start cd_law_start ct_law_start oc_written kV_written dc_written pm_written cd_written ct_written oc_law_changed kV_law_changed dc_law_changed pm_law_changed cd_law_changed ct_law_changed oc_law_alike kV_law_alike dc_law_alike pm_law_alike cd_law_alike ct_law_alike oc_law kV_law dc_law pm_law ct_law : Value} {t_FARTHEST t_MOST_FIGURES t_MOST_WALKERS t_QUICKEST t_ZERO0 t_ZERO1 : Tok}
    {od_ZERO : Option Addr} {n_ZERO : Nat} {sl_ZERO : Array (Option Value)} {odi_BadText : Option Addr} {ani_BadText : Option Addr} {sli_BadText : Array (Option Value)} {cdd_BadText : Option Addr} {ccs_BadText : Array (Option Value)} {vsi_BadText : Array Value} {cld_BadText : Option Addr} {csl_BadText : Array (Option Value)} {file_BadText : Str} {tfi_BadText : Tok} {odi_BadWalkers : Option Addr} {ani_BadWalkers : Option Addr} {sli_BadWalkers : Array (Option Value)} {cdd_BadWalkers : Option Addr} {ccs_BadWalkers : Array (Option Value)} {vsi_BadWalkers : Array Value} {cld_BadWalkers : Option Addr} {csl_BadWalkers : Array (Option Value)} {file_BadWalkers : Str} {tfi_BadWalkers : Tok} {od_w : Option Addr} {an_w : Option Addr} {sl_w : Array (Option Value)} {od_lowest : Option Addr} {an_lowest : Option Addr} {sl_lowest : Array (Option Value)} {od_is_below : Option Addr} {an_is_below : Option Addr} {sl_is_below : Array (Option Value)} {od_least : Option Addr} {an_least : Option Addr} {sl_least : Array (Option Value)} {od_most : Option Addr} {an_most : Option Addr} {sl_most : Array (Option Value)} {od_point_of : Option Addr} {an_point_of : Option Addr} {sl_point_of : Array (Option Value)} {od_meeting : Option Addr} {an_meeting : Option Addr} {sl_meeting : Array (Option Value)} {od_End_lead : Option Addr} {an_End_lead : Option Addr} {sl_End_lead : Array (Option Value)} {od_End_is_level : Option Addr} {an_End_is_level : Option Addr} {sl_End_is_level : Array (Option Value)} {od_End_take : Option Addr} {an_End_take : Option Addr} {sl_End_take : Array (Option Value)} {od_is_number : Option Addr} {an_is_number : Option Addr} {sl_is_number : Array (Option Value)} {od_is_whole : Option Addr} {an_is_whole : Option Addr} {sl_is_whole : Array (Option Value)} {od_is_pair : Option Addr} {an_is_pair : Option Addr} {sl_is_pair : Array (Option Value)} {od_is_place : Option Addr} {an_is_place : Option Addr} {sl_is_place : Array (Option Value)} {od_is_pace : Option Addr} {an_is_pace : Option Addr} {sl_is_pace : Array (Option Value)} {od_is_walker : Option Addr} {an_is_walker : Option Addr} {sl_is_walker : Array (Option Value)} {od_check_walkers : Option Addr} {an_check_walkers : Option Addr} {sl_check_walkers : Array (Option Value)} {od_check_place : Option Addr} {an_check_place : Option Addr} {sl_check_place : Array (Option Value)} {od_is_figures : Option Addr} {an_is_figures : Option Addr} {sl_is_figures : Array (Option Value)} {od_numbers_of : Option Addr} {an_numbers_of : Option Addr} {sl_numbers_of : Array (Option Value)} {od_read : Option Addr} {an_read : Option Addr} {sl_read : Array (Option Value)} {od_law_number : Option Addr} {an_law_number : Option Addr} {sl_law_number : Array (Option Value)} {od_Course_entry : Option Addr} {an_Course_entry : Option Addr} {sl_Course_entry : Array (Option Value)} {od_Course_is_begun : Option Addr} {an_Course_is_begun : Option Addr} {sl_Course_is_begun : Array (Option Value)} {od_Course_tell_those_inside : Option Addr} {an_Course_tell_those_inside : Option Addr} {sl_Course_tell_those_inside : Array (Option Value)} {od_Course_is_told : Option Addr} {an_Course_is_told : Option Addr} {sl_Course_is_told : Array (Option Value)} {od_Course_tell : Option Addr} {an_Course_tell : Option Addr} {sl_Course_tell : Array (Option Value)} {od_Course_drive : Option Addr} {an_Course_drive : Option Addr} {sl_Course_drive : Array (Option Value)} {od_Course_next_time : Option Addr} {an_Course_next_time : Option Addr} {sl_Course_next_time : Array (Option Value)} {od_Course_ends : Option Addr} {an_Course_ends : Option Addr} {sl_Course_ends : Array (Option Value)} {od_Course_known : Option Addr} {an_Course_known : Option Addr} {sl_Course_known : Array (Option Value)} {od_End___init__ : Option Addr} {an_End___init__ : Option Addr} {sl_End___init__ : Array (Option Value)} {od_Course___init__ : Option Addr} {an_Course___init__ : Option Addr} {sl_Course___init__ : Array (Option Value)} {od_course_from : Option Addr} {an_course_from : Option Addr} {sl_course_from : Array (Option Value)} {od_course_of : Option Addr} {an_course_of : Option Addr} {sl_course_of : Array (Option Value)} {od_learnt : Option Addr} {an_learnt : Option Addr} {sl_learnt : Array (Option Value)} {od_check_walkersR : Option Addr} {an_check_walkersR : Option Addr} {sl_check_walkersR : Array (Option Value)} {od_check_placeR : Option Addr} {an_check_placeR : Option Addr} {sl_check_placeR : Array (Option Value)} {od_readR : Option Addr} {an_readR : Option Addr} {sl_readR : Array (Option Value)} {od_law_due : Option Addr} {an_law_due : Option Addr} {sl_law_due : Array (Option Value)} {od_law_taken : Option Addr} {an_law_taken : Option Addr} {sl_law_taken : Array (Option Value)} {od_law_walkers : Option Addr} {an_law_walkers : Option Addr} {sl_law_walkers : Array (Option Value)} {od_law_start : Option Addr} {an_law_start : Option Addr} {sl_law_start : Array (Option Value)} {od_written : Option Addr} {an_written : Option Addr} {sl_written : Array (Option Value)} {od_law_changed : Option Addr} {an_law_changed : Option Addr} {sl_law_changed : Array (Option Value)} {od_law_alike : Option Addr} {an_law_alike : Option Addr} {sl_law_alike : Array (Option Value)} {od_law : Option Addr} {an_law : Option Addr} {sl_law : Array (Option Value)} {eT : Value} {dT : Option Addr} {vT : Array Value} {sT : Array (Option Value)} {fileT : Str} {tfT : Tok} {flagsT : Int} {tgT : Tok} {inFT : Bool} {textT : Int} {ttT : Tok}
    (ac_End : PySem.W.nsIn K mainGlobals "End" = some (some (.ref aEnd)))
    (pg_End : PySem.W.plainGet K aEnd Str.empty = true)
    (hd_End : PySem.W.hasDictIn K aEnd = true)
    (po_End : PySem.W.plainOver K aEnd = true)
    (sa_End : PySem.W.findIn K (.ref aEnd) "__setattr__" = some (some (.builtin "object.__setattr__")))
    (mk_End : PySem.W.makesIn K aEnd = true)
    (kc_End : PySem.W.keepIn K (.ref aEnd) = true)
    (ac_Course : PySem.W.nsIn K mainGlobals "Course" = some (some (.ref aCourse)))
    (pg_Course : PySem.W.plainGet K aCourse Str.empty = true)
    (hd_Course : PySem.W.hasDictIn K aCourse = true)
    (po_Course : PySem.W.plainOver K aCourse = true)
    (sa_Course : PySem.W.findIn K (.ref aCourse) "__setattr__" = some (some (.builtin "object.__setattr__")))
    (mk_Course : PySem.W.makesIn K aCourse = true)
    (kc_Course : PySem.W.keepIn K (.ref aCourse) = true)
    (g_FARTHEST : PySem.W.nsIn K mainGlobals "FARTHEST" = some (some (.int 99 t_FARTHEST)))
    (g_MOST_FIGURES : PySem.W.nsIn K mainGlobals "MOST_FIGURES" = some (some (.int 2 t_MOST_FIGURES)))
    (g_MOST_WALKERS : PySem.W.nsIn K mainGlobals "MOST_WALKERS" = some (some (.int 8 t_MOST_WALKERS)))
    (g_QUICKEST : PySem.W.nsIn K mainGlobals "QUICKEST" = some (some (.int 9 t_QUICKEST)))
    (g_ValueError : PySem.W.nsIn K mainGlobals "ValueError" = some none)
    (g_ZERO : PySem.W.nsIn K mainGlobals "ZERO" = some (some (.ref z_ZERO)))
    (l_ZERO : K.lookup z_ZERO = some ⟨.type "tuple", od_ZERO, .seq #[.int 0 t_ZERO0, .int 1 t_ZERO1] n_ZERO, sl_ZERO⟩)
    (g_bool : PySem.W.nsIn K mainGlobals "bool" = some none)
    (g_enumerate : PySem.W.nsIn K mainGlobals "enumerate" = some none)
    (g_gcd : PySem.W.nsIn K mainGlobals "gcd" = some (some (.builtin "math.gcd")))
    (g_int : PySem.W.nsIn K mainGlobals "int" = some none)
    (g_isinstance : PySem.W.nsIn K mainGlobals "isinstance" = some none)
    (g_len : PySem.W.nsIn K mainGlobals "len" = some none)
    (g_list : PySem.W.nsIn K mainGlobals "list" = some none)
    (g_range : PySem.W.nsIn K mainGlobals "range" = some none)
    (g_str : PySem.W.nsIn K mainGlobals "str" = some none)
    (g_tuple : PySem.W.nsIn K mainGlobals "tuple" = some none)
    (na_Course_knows : PySem.W.findIn K (.ref aCourse) "knows" = some none)
    (na_Course_left : PySem.W.findIn K (.ref aCourse) "left" = some none)
    (na_Course_lines : PySem.W.findIn K (.ref aCourse) "lines" = some none)
    (na_Course_right : PySem.W.findIn K (.ref aCourse) "right" = some none)
    (na_End_begin : PySem.W.findIn K (.ref aEnd) "begin" = some none)
    (na_End_driver : PySem.W.findIn K (.ref aEnd) "driver" = some none)
    (na_End_drives : PySem.W.findIn K (.ref aEnd) "drives" = some none)
    (na_End_line : PySem.W.findIn K (.ref aEnd) "line" = some none)
    (na_End_way : PySem.W.findIn K (.ref aEnd) "way" = some none)
    (xq_BadPlace : PySem.W.excIn K aBadPlace [.type "ValueError", .type "Exception", .type "BaseException", .type "object"] "ValueError.__new__" = true)
    (xg_BadPlace : PySem.W.nsIn K mainGlobals "BadPlace" = some (some (.ref aBadPlace)))
    (xk_BadPlace : PySem.W.keepIn K (.ref aBadPlace) = true)
    (xs_BadPlace : PySem.W.subIn K (.ref aBadPlace) (.type "BaseException") = some true)
    (xt_BadPlace : PySem.W.typeIn K (.ref aBadPlace) = some (.type "type"))
    (xi_BadPlace : PySem.W.isClsIn K aBadPlace = true)
    (xc_BadPlace : PySem.W.subIn K (.ref aBadPlace) (.ref aBadPlace) = some true)
    (xg_BadWalkers : PySem.W.nsIn K mainGlobals "BadWalkers" = some (some (.ref aBadWalkers)))
    (xi_BadWalkers : PySem.W.isClsIn K aBadWalkers = true)
    (xt_BadWalkers : PySem.W.typeIn K (.ref aBadWalkers) = some (.type "type"))
    (xg_BadChain : PySem.W.nsIn K mainGlobals "BadChain" = some (some (.ref aBadChain)))
    (xi_BadChain : PySem.W.isClsIn K aBadChain = true)
    (xt_BadChain : PySem.W.typeIn K (.ref aBadChain) = some (.type "type"))
    (xg_BadDeed : PySem.W.nsIn K mainGlobals "BadDeed" = some (some (.ref aBadDeed)))
    (xi_BadDeed : PySem.W.isClsIn K aBadDeed = true)
    (xt_BadDeed : PySem.W.typeIn K (.ref aBadDeed) = some (.type "type"))
    (xg_Halted : PySem.W.nsIn K mainGlobals "Halted" = some (some (.ref aHalted)))
    (xi_Halted : PySem.W.isClsIn K aHalted = true)
    (xt_Halted : PySem.W.typeIn K (.ref aHalted) = some (.type "type"))
    (xg_BadText : PySem.W.nsIn K mainGlobals "BadText" = some (some (.ref aBadText)))
    (xi_BadText : PySem.W.isClsIn K aBadText = true)
    (xt_BadText : PySem.W.typeIn K (.ref aBadText) = some (.type "type"))
    (xg_BadTime : PySem.W.nsIn K mainGlobals "BadTime" = some (some (.ref aBadTime)))
    (xi_BadTime : PySem.W.isClsIn K aBadTime = true)
    (xt_BadTime : PySem.W.typeIn K (.ref aBadTime) = some (.type "type"))
    (xg_BadPoint : PySem.W.nsIn K mainGlobals "BadPoint" = some (some (.ref aBadPoint)))
    (xi_BadPoint : PySem.W.isClsIn K aBadPoint = true)
    (xt_BadPoint : PySem.W.typeIn K (.ref aBadPoint) = some (.type "type"))
    (xg_NoWalker : PySem.W.nsIn K mainGlobals "NoWalker" = some (some (.ref aNoWalker)))
    (xi_NoWalker : PySem.W.isClsIn K aNoWalker = true)
    (xt_NoWalker : PySem.W.typeIn K (.ref aNoWalker) = some (.type "type"))
    (xg_NeverKnown : PySem.W.nsIn K mainGlobals "NeverKnown" = some (some (.ref aNeverKnown)))
    (xi_NeverKnown : PySem.W.isClsIn K aNeverKnown = true)
    (xt_NeverKnown : PySem.W.typeIn K (.ref aNeverKnown) = some (.type "type"))
    (xg_RoadError : PySem.W.nsIn K mainGlobals "RoadError" = some (some (.ref aRoadError)))
    (xi_RoadError : PySem.W.isClsIn K aRoadError = true)
    (xt_RoadError : PySem.W.typeIn K (.ref aRoadError) = some (.type "type"))
    (xs_RoadError : PySem.W.subIn K (.ref aRoadError) (.type "BaseException") = some true)
    (w_get : PySem.W.specialIn K (.builtin "object.__class__") "__get__" = some (some (.builtin "getset_descriptor.__get__")))
    (w_tak : PySem.W.takesIn K (.builtin "object.__class__") = some true)
    (w_ga_BadPlace : PySem.W.findIn K (.ref aBadPlace) "__getattribute__" = some (some (.builtin "BaseException.__getattribute__")))
    (w_gg_BadPlace : PySem.W.findIn K (.ref aBadPlace) "__getattr__" = some none)
    (w_hd_BadPlace : PySem.W.hasDictIn K aBadPlace = true)
    (w_cl_BadPlace : PySem.W.findIn K (.ref aBadPlace) "__class__" = some (some (.builtin "object.__class__")))
    (w_mo_BadPlace : PySem.W.mroIn K aBadPlace (.type "object") = some true)
    (w_ve_BadPlace : PySem.W.subIn K (.ref aBadPlace) (.type "ValueError") = some true)
    (w_rd_BadPlace : PySem.W.subIn K (.ref aBadPlace) (.ref aRoadError) = some true)
    (w_number_BadPlace : PySem.W.findIn K (.ref aBadPlace) "number" = some none)
    (w_done_BadPlace : PySem.W.findIn K (.ref aBadPlace) "done" = some none)
    (w_row_BadPlace : PySem.W.findIn K (.ref aBadPlace) "row" = some none)
    (w_BadWalkers_BadPlace : PySem.W.subIn K (.ref aBadPlace) (.ref aBadWalkers) = some false)
    (w_BadChain_BadPlace : PySem.W.subIn K (.ref aBadPlace) (.ref aBadChain) = some false)
    (w_BadDeed_BadPlace : PySem.W.subIn K (.ref aBadPlace) (.ref aBadDeed) = some false)
    (w_Halted_BadPlace : PySem.W.subIn K (.ref aBadPlace) (.ref aHalted) = some false)
    (w_BadText_BadPlace : PySem.W.subIn K (.ref aBadPlace) (.ref aBadText) = some false)
    (w_BadTime_BadPlace : PySem.W.subIn K (.ref aBadPlace) (.ref aBadTime) = some false)
    (w_BadPoint_BadPlace : PySem.W.subIn K (.ref aBadPlace) (.ref aBadPoint) = some false)
    (w_NoWalker_BadPlace : PySem.W.subIn K (.ref aBadPlace) (.ref aNoWalker) = some false)
    (w_NeverKnown_BadPlace : PySem.W.subIn K (.ref aBadPlace) (.ref aNeverKnown) = some false)
    (xs_BadText : PySem.W.subIn K (.ref aBadText) (.type "BaseException") = some true)
    (xc_BadText : PySem.W.subIn K (.ref aBadText) (.ref aBadText) = some true)
    (w_ga_BadText : PySem.W.findIn K (.ref aBadText) "__getattribute__" = some (some (.builtin "BaseException.__getattribute__")))
    (w_gg_BadText : PySem.W.findIn K (.ref aBadText) "__getattr__" = some none)
    (w_hd_BadText : PySem.W.hasDictIn K aBadText = true)
    (w_cl_BadText : PySem.W.findIn K (.ref aBadText) "__class__" = some (some (.builtin "object.__class__")))
    (w_mo_BadText : PySem.W.mroIn K aBadText (.type "object") = some true)
    (w_ve_BadText : PySem.W.subIn K (.ref aBadText) (.type "ValueError") = some true)
    (w_rd_BadText : PySem.W.subIn K (.ref aBadText) (.ref aRoadError) = some true)
    (w_number_BadText : PySem.W.findIn K (.ref aBadText) "number" = some none)
    (w_done_BadText : PySem.W.findIn K (.ref aBadText) "done" = some none)
    (w_row_BadText : PySem.W.findIn K (.ref aBadText) "row" = some none)
    (w_BadWalkers_BadText : PySem.W.subIn K (.ref aBadText) (.ref aBadWalkers) = some false)
    (w_BadChain_BadText : PySem.W.subIn K (.ref aBadText) (.ref aBadChain) = some false)
    (w_BadDeed_BadText : PySem.W.subIn K (.ref aBadText) (.ref aBadDeed) = some false)
    (w_Halted_BadText : PySem.W.subIn K (.ref aBadText) (.ref aHalted) = some false)
    (w_BadPlace_BadText : PySem.W.subIn K (.ref aBadText) (.ref aBadPlace) = some false)
    (w_BadTime_BadText : PySem.W.subIn K (.ref aBadText) (.ref aBadTime) = some false)
    (w_BadPoint_BadText : PySem.W.subIn K (.ref aBadText) (.ref aBadPoint) = some false)
    (w_NoWalker_BadText : PySem.W.subIn K (.ref aBadText) (.ref aNoWalker) = some false)
    (w_NeverKnown_BadText : PySem.W.subIn K (.ref aBadText) (.ref aNeverKnown) = some false)
    (xs_BadWalkers : PySem.W.subIn K (.ref aBadWalkers) (.type "BaseException") = some true)
    (xc_BadWalkers : PySem.W.subIn K (.ref aBadWalkers) (.ref aBadWalkers) = some true)
    (w_ga_BadWalkers : PySem.W.findIn K (.ref aBadWalkers) "__getattribute__" = some (some (.builtin "BaseException.__getattribute__")))
    (w_gg_BadWalkers : PySem.W.findIn K (.ref aBadWalkers) "__getattr__" = some none)
    (w_hd_BadWalkers : PySem.W.hasDictIn K aBadWalkers = true)
    (w_cl_BadWalkers : PySem.W.findIn K (.ref aBadWalkers) "__class__" = some (some (.builtin "object.__class__")))
    (w_mo_BadWalkers : PySem.W.mroIn K aBadWalkers (.type "object") = some true)
    (w_ve_BadWalkers : PySem.W.subIn K (.ref aBadWalkers) (.type "ValueError") = some true)
    (w_rd_BadWalkers : PySem.W.subIn K (.ref aBadWalkers) (.ref aRoadError) = some true)
    (w_number_BadWalkers : PySem.W.findIn K (.ref aBadWalkers) "number" = some none)
    (w_done_BadWalkers : PySem.W.findIn K (.ref aBadWalkers) "done" = some none)
    (w_row_BadWalkers : PySem.W.findIn K (.ref aBadWalkers) "row" = some none)
    (w_BadChain_BadWalkers : PySem.W.subIn K (.ref aBadWalkers) (.ref aBadChain) = some false)
    (w_BadDeed_BadWalkers : PySem.W.subIn K (.ref aBadWalkers) (.ref aBadDeed) = some false)
    (w_Halted_BadWalkers : PySem.W.subIn K (.ref aBadWalkers) (.ref aHalted) = some false)
    (w_BadText_BadWalkers : PySem.W.subIn K (.ref aBadWalkers) (.ref aBadText) = some false)
    (w_BadPlace_BadWalkers : PySem.W.subIn K (.ref aBadWalkers) (.ref aBadPlace) = some false)
    (w_BadTime_BadWalkers : PySem.W.subIn K (.ref aBadWalkers) (.ref aBadTime) = some false)
    (w_BadPoint_BadWalkers : PySem.W.subIn K (.ref aBadWalkers) (.ref aBadPoint) = some false)
    (w_NoWalker_BadWalkers : PySem.W.subIn K (.ref aBadWalkers) (.ref aNoWalker) = some false)
    (w_NeverKnown_BadWalkers : PySem.W.subIn K (.ref aBadWalkers) (.ref aNeverKnown) = some false)
    (ox_BadText : oexB K aBadText = true)
    (xk_BadText : PySem.W.keepIn K (.ref aBadText) = true)
    (o_sa_BadText : PySem.W.findIn K (.ref aBadText) "__setattr__" = some (some (.builtin "object.__setattr__")))
    (o_in_BadText : PySem.W.findIn K (.ref aBadText) "__init__" = some (some (.ref fI_BadText)))
    (o_ti_BadText : PySem.W.typeIn K (.ref fI_BadText) = some (.type "function"))
    (o_mr_BadText : PySem.W.mroIn K aBadText (.ref aBadText) = some true)
    (o_su_BadText : PySem.W.ks_superIn K aBadText aBadText "__init__" = some (some (.builtin "ValueError.__init__")))
    (o_ex_BadText : PySem.W.excInitIn K aBadText veTail "ValueError.__new__" = true)
    (o_lk_BadText : K.lookup fI_BadText = some ⟨oci_BadText, odi_BadText, .func (PySem.W.ksFn "__init__" "BadText.__init__" (defArgs (inClass (topS 13) 0)) (defBody (inClass (topS 13) 0)) (defScope (inClass (topS 13) 0)) .none kVi_BadText dci_BadText pmi_BadText ani_BadText (.ref cd_BadText) cti_BadText cc_BadText), sli_BadText⟩)
    (o_cd_BadText : PySem.W.codeIn K (.ref cd_BadText) "BadText.__init__" = true)
    (o_co_BadText : K.lookup cd_BadText = some ⟨ccli_BadText, cdd_BadText, .fields vsi_BadText, ccs_BadText⟩)
    (tb_o_BadText : vsi_BadText[2]? = some (.str file_BadText tfi_BadText))
    (tb_f_BadText : ((l.prog.main.file : Str) == file_BadText) = true)
    (o_ce_BadText : K.lookup cc_BadText = some ⟨cli_BadText, cld_BadText, .cell (some (.ref aBadText)), csl_BadText⟩)
    (ox_BadWalkers : oexB K aBadWalkers = true)
    (xk_BadWalkers : PySem.W.keepIn K (.ref aBadWalkers) = true)
    (o_sa_BadWalkers : PySem.W.findIn K (.ref aBadWalkers) "__setattr__" = some (some (.builtin "object.__setattr__")))
    (o_in_BadWalkers : PySem.W.findIn K (.ref aBadWalkers) "__init__" = some (some (.ref fI_BadWalkers)))
    (o_ti_BadWalkers : PySem.W.typeIn K (.ref fI_BadWalkers) = some (.type "function"))
    (o_mr_BadWalkers : PySem.W.mroIn K aBadWalkers (.ref aBadWalkers) = some true)
    (o_su_BadWalkers : PySem.W.ks_superIn K aBadWalkers aBadWalkers "__init__" = some (some (.builtin "ValueError.__init__")))
    (o_ex_BadWalkers : PySem.W.excInitIn K aBadWalkers veTail "ValueError.__new__" = true)
    (o_lk_BadWalkers : K.lookup fI_BadWalkers = some ⟨oci_BadWalkers, odi_BadWalkers, .func (PySem.W.ksFn "__init__" "BadWalkers.__init__" (defArgs (inClass (topS 4) 0)) (defBody (inClass (topS 4) 0)) (defScope (inClass (topS 4) 0)) .none kVi_BadWalkers dci_BadWalkers pmi_BadWalkers ani_BadWalkers (.ref cd_BadWalkers) cti_BadWalkers cc_BadWalkers), sli_BadWalkers⟩)
    (o_cd_BadWalkers : PySem.W.codeIn K (.ref cd_BadWalkers) "BadWalkers.__init__" = true)
    (o_co_BadWalkers : K.lookup cd_BadWalkers = some ⟨ccli_BadWalkers, cdd_BadWalkers, .fields vsi_BadWalkers, ccs_BadWalkers⟩)
    (tb_o_BadWalkers : vsi_BadWalkers[2]? = some (.str file_BadWalkers tfi_BadWalkers))
    (tb_f_BadWalkers : ((l.prog.main.file : Str) == file_BadWalkers) = true)
    (o_ce_BadWalkers : K.lookup cc_BadWalkers = some ⟨cli_BadWalkers, cld_BadWalkers, .cell (some (.ref aBadWalkers)), csl_BadWalkers⟩)
    (o_any : PySem.W.nsIn K cStatics "thirdparty.any" = some none)
    (g_super : PySem.W.nsIn K mainGlobals "super" = some none)
    (tb_super : (l.prog.main.scope.names.lookup ("super" : Str)).isSome = false)
    (a_w : PySem.W.nsIn K mainGlobals "_law_word" = some (some (.ref f_w)))
    (l_w : K.lookup f_w = some ⟨oc_w, od_w, .func (PySem.W.fnOf "_law_word" "_law_word" (defArgs s_law_word) (defBody s_law_word) (defScope s_law_word) .none kV_w dc_w pm_w an_w cd_w ct_w), sl_w⟩)
    (o_w : PySem.W.codeIn K cd_w "_law_word" = true)
    (k_w : PySem.W.keepIn K (.ref f_w) = true)
    (a_lowest : PySem.W.nsIn K mainGlobals "lowest" = some (some (.ref f_lowest)))
    (l_lowest : K.lookup f_lowest = some ⟨oc_lowest, od_lowest, .func (PySem.W.fnOf "lowest" "lowest" (defArgs s_lowest) (defBody s_lowest) (defScope s_lowest) .none kV_lowest dc_lowest pm_lowest an_lowest cd_lowest ct_lowest), sl_lowest⟩)
    (o_lowest : PySem.W.codeIn K cd_lowest "lowest" = true)
    (k_lowest : PySem.W.keepIn K (.ref f_lowest) = true)
    (a_is_below : PySem.W.nsIn K mainGlobals "is_below" = some (some (.ref f_is_below)))
    (l_is_below : K.lookup f_is_below = some ⟨oc_is_below, od_is_below, .func (PySem.W.fnOf "is_below" "is_below" (defArgs s_is_below) (defBody s_is_below) (defScope s_is_below) .none kV_is_below dc_is_below pm_is_below an_is_below cd_is_below ct_is_below), sl_is_below⟩)
    (o_is_below : PySem.W.codeIn K cd_is_below "is_below" = true)
    (k_is_below : PySem.W.keepIn K (.ref f_is_below) = true)
    (a_least : PySem.W.nsIn K mainGlobals "least" = some (some (.ref f_least)))
    (l_least : K.lookup f_least = some ⟨oc_least, od_least, .func (PySem.W.fnOf "least" "least" (defArgs s_least) (defBody s_least) (defScope s_least) .none kV_least dc_least pm_least an_least cd_least ct_least), sl_least⟩)
    (o_least : PySem.W.codeIn K cd_least "least" = true)
    (k_least : PySem.W.keepIn K (.ref f_least) = true)
    (a_most : PySem.W.nsIn K mainGlobals "most" = some (some (.ref f_most)))
    (l_most : K.lookup f_most = some ⟨oc_most, od_most, .func (PySem.W.fnOf "most" "most" (defArgs s_most) (defBody s_most) (defScope s_most) .none kV_most dc_most pm_most an_most cd_most ct_most), sl_most⟩)
    (o_most : PySem.W.codeIn K cd_most "most" = true)
    (k_most : PySem.W.keepIn K (.ref f_most) = true)
    (a_point_of : PySem.W.nsIn K mainGlobals "point_of" = some (some (.ref f_point_of)))
    (l_point_of : K.lookup f_point_of = some ⟨oc_point_of, od_point_of, .func (PySem.W.fnOf "point_of" "point_of" (defArgs s_point_of) (defBody s_point_of) (defScope s_point_of) .none kV_point_of dc_point_of pm_point_of an_point_of cd_point_of ct_point_of), sl_point_of⟩)
    (o_point_of : PySem.W.codeIn K cd_point_of "point_of" = true)
    (k_point_of : PySem.W.keepIn K (.ref f_point_of) = true)
    (a_meeting : PySem.W.nsIn K mainGlobals "meeting" = some (some (.ref f_meeting)))
    (l_meeting : K.lookup f_meeting = some ⟨oc_meeting, od_meeting, .func (PySem.W.fnOf "meeting" "meeting" (defArgs s_meeting) (defBody s_meeting) (defScope s_meeting) .none kV_meeting dc_meeting pm_meeting an_meeting cd_meeting ct_meeting), sl_meeting⟩)
    (o_meeting : PySem.W.codeIn K cd_meeting "meeting" = true)
    (k_meeting : PySem.W.keepIn K (.ref f_meeting) = true)
    (a_End_lead : PySem.W.findIn K (.ref aEnd) "lead" = some (some (.ref f_End_lead)))
    (i_End_lead : PySem.W.isFn K (.ref f_End_lead) = true)
    (l_End_lead : K.lookup f_End_lead = some ⟨oc_End_lead, od_End_lead, .func (PySem.W.fnOf "lead" "End.lead" (defArgs s_End_lead) (defBody s_End_lead) (defScope s_End_lead) .none kV_End_lead dc_End_lead pm_End_lead an_End_lead cd_End_lead ct_End_lead), sl_End_lead⟩)
    (o_End_lead : PySem.W.codeIn K cd_End_lead "End.lead" = true)
    (k_End_lead : PySem.W.keepIn K (.ref f_End_lead) = true)
    (a_End_is_level : PySem.W.findIn K (.ref aEnd) "is_level" = some (some (.ref f_End_is_level)))
    (i_End_is_level : PySem.W.isFn K (.ref f_End_is_level) = true)
    (l_End_is_level : K.lookup f_End_is_level = some ⟨oc_End_is_level, od_End_is_level, .func (PySem.W.fnOf "is_level" "End.is_level" (defArgs s_End_is_level) (defBody s_End_is_level) (defScope s_End_is_level) .none kV_End_is_level dc_End_is_level pm_End_is_level an_End_is_level cd_End_is_level ct_End_is_level), sl_End_is_level⟩)
    (o_End_is_level : PySem.W.codeIn K cd_End_is_level "End.is_level" = true)
    (k_End_is_level : PySem.W.keepIn K (.ref f_End_is_level) = true)
    (a_End_take : PySem.W.findIn K (.ref aEnd) "take" = some (some (.ref f_End_take)))
    (i_End_take : PySem.W.isFn K (.ref f_End_take) = true)
    (l_End_take : K.lookup f_End_take = some ⟨oc_End_take, od_End_take, .func (PySem.W.fnOf "take" "End.take" (defArgs s_End_take) (defBody s_End_take) (defScope s_End_take) .none kV_End_take dc_End_take pm_End_take an_End_take cd_End_take ct_End_take), sl_End_take⟩)
    (o_End_take : PySem.W.codeIn K cd_End_take "End.take" = true)
    (k_End_take : PySem.W.keepIn K (.ref f_End_take) = true)
    (a_is_number : PySem.W.nsIn K mainGlobals "is_number" = some (some (.ref f_is_number)))
    (l_is_number : K.lookup f_is_number = some ⟨oc_is_number, od_is_number, .func (PySem.W.fnOf "is_number" "is_number" (defArgs s_is_number) (defBody s_is_number) (defScope s_is_number) .none kV_is_number dc_is_number pm_is_number an_is_number cd_is_number ct_is_number), sl_is_number⟩)
    (o_is_number : PySem.W.codeIn K cd_is_number "is_number" = true)
    (k_is_number : PySem.W.keepIn K (.ref f_is_number) = true)
    (a_is_whole : PySem.W.nsIn K mainGlobals "is_whole" = some (some (.ref f_is_whole)))
    (l_is_whole : K.lookup f_is_whole = some ⟨oc_is_whole, od_is_whole, .func (PySem.W.fnOf "is_whole" "is_whole" (defArgs s_is_whole) (defBody s_is_whole) (defScope s_is_whole) .none kV_is_whole dc_is_whole pm_is_whole an_is_whole cd_is_whole ct_is_whole), sl_is_whole⟩)
    (o_is_whole : PySem.W.codeIn K cd_is_whole "is_whole" = true)
    (k_is_whole : PySem.W.keepIn K (.ref f_is_whole) = true)
    (a_is_pair : PySem.W.nsIn K mainGlobals "is_pair" = some (some (.ref f_is_pair)))
    (l_is_pair : K.lookup f_is_pair = some ⟨oc_is_pair, od_is_pair, .func (PySem.W.fnOf "is_pair" "is_pair" (defArgs s_is_pair) (defBody s_is_pair) (defScope s_is_pair) .none kV_is_pair dc_is_pair pm_is_pair an_is_pair cd_is_pair ct_is_pair), sl_is_pair⟩)
    (o_is_pair : PySem.W.codeIn K cd_is_pair "is_pair" = true)
    (k_is_pair : PySem.W.keepIn K (.ref f_is_pair) = true)
    (a_is_place : PySem.W.nsIn K mainGlobals "is_place" = some (some (.ref f_is_place)))
    (l_is_place : K.lookup f_is_place = some ⟨oc_is_place, od_is_place, .func (PySem.W.fnOf "is_place" "is_place" (defArgs s_is_place) (defBody s_is_place) (defScope s_is_place) .none kV_is_place dc_is_place pm_is_place an_is_place cd_is_place ct_is_place), sl_is_place⟩)
    (o_is_place : PySem.W.codeIn K cd_is_place "is_place" = true)
    (k_is_place : PySem.W.keepIn K (.ref f_is_place) = true)
    (a_is_pace : PySem.W.nsIn K mainGlobals "is_pace" = some (some (.ref f_is_pace)))
    (l_is_pace : K.lookup f_is_pace = some ⟨oc_is_pace, od_is_pace, .func (PySem.W.fnOf "is_pace" "is_pace" (defArgs s_is_pace) (defBody s_is_pace) (defScope s_is_pace) .none kV_is_pace dc_is_pace pm_is_pace an_is_pace cd_is_pace ct_is_pace), sl_is_pace⟩)
    (o_is_pace : PySem.W.codeIn K cd_is_pace "is_pace" = true)
    (k_is_pace : PySem.W.keepIn K (.ref f_is_pace) = true)
    (a_is_walker : PySem.W.nsIn K mainGlobals "is_walker" = some (some (.ref f_is_walker)))
    (l_is_walker : K.lookup f_is_walker = some ⟨oc_is_walker, od_is_walker, .func (PySem.W.fnOf "is_walker" "is_walker" (defArgs s_is_walker) (defBody s_is_walker) (defScope s_is_walker) .none kV_is_walker dc_is_walker pm_is_walker an_is_walker cd_is_walker ct_is_walker), sl_is_walker⟩)
    (o_is_walker : PySem.W.codeIn K cd_is_walker "is_walker" = true)
    (k_is_walker : PySem.W.keepIn K (.ref f_is_walker) = true)
    (a_check_walkers : PySem.W.nsIn K mainGlobals "check_walkers" = some (some (.ref f_check_walkers)))
    (l_check_walkers : K.lookup f_check_walkers = some ⟨oc_check_walkers, od_check_walkers, .func (PySem.W.fnOf "check_walkers" "check_walkers" (defArgs s_check_walkers) (defBody s_check_walkers) (defScope s_check_walkers) .none kV_check_walkers dc_check_walkers pm_check_walkers an_check_walkers cd_check_walkers ct_check_walkers), sl_check_walkers⟩)
    (o_check_walkers : PySem.W.codeIn K cd_check_walkers "check_walkers" = true)
    (k_check_walkers : PySem.W.keepIn K (.ref f_check_walkers) = true)
    (a_check_place : PySem.W.nsIn K mainGlobals "check_place" = some (some (.ref f_check_place)))
    (l_check_place : K.lookup f_check_place = some ⟨oc_check_place, od_check_place, .func (PySem.W.fnOf "check_place" "check_place" (defArgs s_check_place) (defBody s_check_place) (defScope s_check_place) .none kV_check_place dc_check_place pm_check_place an_check_place cd_check_place ct_check_place), sl_check_place⟩)
    (o_check_place : PySem.W.codeIn K cd_check_place "check_place" = true)
    (k_check_place : PySem.W.keepIn K (.ref f_check_place) = true)
    (a_is_figures : PySem.W.nsIn K mainGlobals "is_figures" = some (some (.ref f_is_figures)))
    (l_is_figures : K.lookup f_is_figures = some ⟨oc_is_figures, od_is_figures, .func (PySem.W.fnOf "is_figures" "is_figures" (defArgs s_is_figures) (defBody s_is_figures) (defScope s_is_figures) .none kV_is_figures dc_is_figures pm_is_figures an_is_figures cd_is_figures ct_is_figures), sl_is_figures⟩)
    (o_is_figures : PySem.W.codeIn K cd_is_figures "is_figures" = true)
    (k_is_figures : PySem.W.keepIn K (.ref f_is_figures) = true)
    (a_numbers_of : PySem.W.nsIn K mainGlobals "numbers_of" = some (some (.ref f_numbers_of)))
    (l_numbers_of : K.lookup f_numbers_of = some ⟨oc_numbers_of, od_numbers_of, .func (PySem.W.fnOf "numbers_of" "numbers_of" (defArgs s_numbers_of) (defBody s_numbers_of) (defScope s_numbers_of) .none kV_numbers_of dc_numbers_of pm_numbers_of an_numbers_of cd_numbers_of ct_numbers_of), sl_numbers_of⟩)
    (o_numbers_of : PySem.W.codeIn K cd_numbers_of "numbers_of" = true)
    (k_numbers_of : PySem.W.keepIn K (.ref f_numbers_of) = true)
    (a_read : PySem.W.nsIn K mainGlobals "read" = some (some (.ref f_read)))
    (l_read : K.lookup f_read = some ⟨oc_read, od_read, .func (PySem.W.fnOf "read" "read" (defArgs s_read) (defBody s_read) (defScope s_read) .none kV_read dc_read pm_read an_read cd_read ct_read), sl_read⟩)
    (o_read : PySem.W.codeIn K cd_read "read" = true)
    (k_read : PySem.W.keepIn K (.ref f_read) = true)
    (a_law_number : PySem.W.nsIn K mainGlobals "_law_number" = some (some (.ref f_law_number)))
    (l_law_number : K.lookup f_law_number = some ⟨oc_law_number, od_law_number, .func (PySem.W.fnOf "_law_number" "_law_number" (defArgs s_law_number) (defBody s_law_number) (defScope s_law_number) .none kV_law_number dc_law_number pm_law_number an_law_number cd_law_number ct_law_number), sl_law_number⟩)
    (o_law_number : PySem.W.codeIn K cd_law_number "_law_number" = true)
    (k_law_number : PySem.W.keepIn K (.ref f_law_number) = true)
    (a_Course_entry : PySem.W.findIn K (.ref aCourse) "entry" = some (some (.ref f_Course_entry)))
    (i_Course_entry : PySem.W.isFn K (.ref f_Course_entry) = true)
    (l_Course_entry : K.lookup f_Course_entry = some ⟨oc_Course_entry, od_Course_entry, .func (PySem.W.fnOf "entry" "Course.entry" (defArgs s_Course_entry) (defBody s_Course_entry) (defScope s_Course_entry) .none kV_Course_entry dc_Course_entry pm_Course_entry an_Course_entry cd_Course_entry ct_Course_entry), sl_Course_entry⟩)
    (o_Course_entry : PySem.W.codeIn K cd_Course_entry "Course.entry" = true)
    (k_Course_entry : PySem.W.keepIn K (.ref f_Course_entry) = true)
    (a_Course_is_begun : PySem.W.findIn K (.ref aCourse) "is_begun" = some (some (.ref f_Course_is_begun)))
    (i_Course_is_begun : PySem.W.isFn K (.ref f_Course_is_begun) = true)
    (l_Course_is_begun : K.lookup f_Course_is_begun = some ⟨oc_Course_is_begun, od_Course_is_begun, .func (PySem.W.fnOf "is_begun" "Course.is_begun" (defArgs s_Course_is_begun) (defBody s_Course_is_begun) (defScope s_Course_is_begun) .none kV_Course_is_begun dc_Course_is_begun pm_Course_is_begun an_Course_is_begun cd_Course_is_begun ct_Course_is_begun), sl_Course_is_begun⟩)
    (o_Course_is_begun : PySem.W.codeIn K cd_Course_is_begun "Course.is_begun" = true)
    (k_Course_is_begun : PySem.W.keepIn K (.ref f_Course_is_begun) = true)
    (a_Course_tell_those_inside : PySem.W.findIn K (.ref aCourse) "tell_those_inside" = some (some (.ref f_Course_tell_those_inside)))
    (i_Course_tell_those_inside : PySem.W.isFn K (.ref f_Course_tell_those_inside) = true)
    (l_Course_tell_those_inside : K.lookup f_Course_tell_those_inside = some ⟨oc_Course_tell_those_inside, od_Course_tell_those_inside, .func (PySem.W.fnOf "tell_those_inside" "Course.tell_those_inside" (defArgs s_Course_tell_those_inside) (defBody s_Course_tell_those_inside) (defScope s_Course_tell_those_inside) .none kV_Course_tell_those_inside dc_Course_tell_those_inside pm_Course_tell_those_inside an_Course_tell_those_inside cd_Course_tell_those_inside ct_Course_tell_those_inside), sl_Course_tell_those_inside⟩)
    (o_Course_tell_those_inside : PySem.W.codeIn K cd_Course_tell_those_inside "Course.tell_those_inside" = true)
    (k_Course_tell_those_inside : PySem.W.keepIn K (.ref f_Course_tell_those_inside) = true)
    (a_Course_is_told : PySem.W.findIn K (.ref aCourse) "is_told" = some (some (.ref f_Course_is_told)))
    (i_Course_is_told : PySem.W.isFn K (.ref f_Course_is_told) = true)
    (l_Course_is_told : K.lookup f_Course_is_told = some ⟨oc_Course_is_told, od_Course_is_told, .func (PySem.W.fnOf "is_told" "Course.is_told" (defArgs s_Course_is_told) (defBody s_Course_is_told) (defScope s_Course_is_told) .none kV_Course_is_told dc_Course_is_told pm_Course_is_told an_Course_is_told cd_Course_is_told ct_Course_is_told), sl_Course_is_told⟩)
    (o_Course_is_told : PySem.W.codeIn K cd_Course_is_told "Course.is_told" = true)
    (k_Course_is_told : PySem.W.keepIn K (.ref f_Course_is_told) = true)
    (a_Course_tell : PySem.W.findIn K (.ref aCourse) "tell" = some (some (.ref f_Course_tell)))
    (i_Course_tell : PySem.W.isFn K (.ref f_Course_tell) = true)
    (l_Course_tell : K.lookup f_Course_tell = some ⟨oc_Course_tell, od_Course_tell, .func (PySem.W.fnOf "tell" "Course.tell" (defArgs s_Course_tell) (defBody s_Course_tell) (defScope s_Course_tell) .none kV_Course_tell dc_Course_tell pm_Course_tell an_Course_tell cd_Course_tell ct_Course_tell), sl_Course_tell⟩)
    (o_Course_tell : PySem.W.codeIn K cd_Course_tell "Course.tell" = true)
    (k_Course_tell : PySem.W.keepIn K (.ref f_Course_tell) = true)
    (a_Course_drive : PySem.W.findIn K (.ref aCourse) "drive" = some (some (.ref f_Course_drive)))
    (i_Course_drive : PySem.W.isFn K (.ref f_Course_drive) = true)
    (l_Course_drive : K.lookup f_Course_drive = some ⟨oc_Course_drive, od_Course_drive, .func (PySem.W.fnOf "drive" "Course.drive" (defArgs s_Course_drive) (defBody s_Course_drive) (defScope s_Course_drive) .none kV_Course_drive dc_Course_drive pm_Course_drive an_Course_drive cd_Course_drive ct_Course_drive), sl_Course_drive⟩)
    (o_Course_drive : PySem.W.codeIn K cd_Course_drive "Course.drive" = true)
    (k_Course_drive : PySem.W.keepIn K (.ref f_Course_drive) = true)
    (a_Course_next_time : PySem.W.findIn K (.ref aCourse) "next_time" = some (some (.ref f_Course_next_time)))
    (i_Course_next_time : PySem.W.isFn K (.ref f_Course_next_time) = true)
    (l_Course_next_time : K.lookup f_Course_next_time = some ⟨oc_Course_next_time, od_Course_next_time, .func (PySem.W.fnOf "next_time" "Course.next_time" (defArgs s_Course_next_time) (defBody s_Course_next_time) (defScope s_Course_next_time) .none kV_Course_next_time dc_Course_next_time pm_Course_next_time an_Course_next_time cd_Course_next_time ct_Course_next_time), sl_Course_next_time⟩)
    (o_Course_next_time : PySem.W.codeIn K cd_Course_next_time "Course.next_time" = true)
    (k_Course_next_time : PySem.W.keepIn K (.ref f_Course_next_time) = true)
    (a_Course_ends : PySem.W.findIn K (.ref aCourse) "ends" = some (some (.ref f_Course_ends)))
    (i_Course_ends : PySem.W.isFn K (.ref f_Course_ends) = true)
    (l_Course_ends : K.lookup f_Course_ends = some ⟨oc_Course_ends, od_Course_ends, .func (PySem.W.fnOf "ends" "Course.ends" (defArgs s_Course_ends) (defBody s_Course_ends) (defScope s_Course_ends) .none kV_Course_ends dc_Course_ends pm_Course_ends an_Course_ends cd_Course_ends ct_Course_ends), sl_Course_ends⟩)
    (o_Course_ends : PySem.W.codeIn K cd_Course_ends "Course.ends" = true)
    (k_Course_ends : PySem.W.keepIn K (.ref f_Course_ends) = true)
    (a_Course_known : PySem.W.findIn K (.ref aCourse) "known" = some (some (.ref f_Course_known)))
    (i_Course_known : PySem.W.isFn K (.ref f_Course_known) = true)
    (l_Course_known : K.lookup f_Course_known = some ⟨oc_Course_known, od_Course_known, .func (PySem.W.fnOf "known" "Course.known" (defArgs s_Course_known) (defBody s_Course_known) (defScope s_Course_known) .none kV_Course_known dc_Course_known pm_Course_known an_Course_known cd_Course_known ct_Course_known), sl_Course_known⟩)
    (o_Course_known : PySem.W.codeIn K cd_Course_known "Course.known" = true)
    (k_Course_known : PySem.W.keepIn K (.ref f_Course_known) = true)
    (a_End___init__ : PySem.W.findIn K (.ref aEnd) "__init__" = some (some (.ref f_End___init__)))
    (i_End___init__ : PySem.W.isFn K (.ref f_End___init__) = true)
    (l_End___init__ : K.lookup f_End___init__ = some ⟨oc_End___init__, od_End___init__, .func (PySem.W.fnOf "__init__" "End.__init__" (defArgs s_End___init__) (defBody s_End___init__) (defScope s_End___init__) .none kV_End___init__ dc_End___init__ pm_End___init__ an_End___init__ cd_End___init__ ct_End___init__), sl_End___init__⟩)
    (o_End___init__ : PySem.W.codeIn K cd_End___init__ "End.__init__" = true)
    (k_End___init__ : PySem.W.keepIn K (.ref f_End___init__) = true)
    (a_Course___init__ : PySem.W.findIn K (.ref aCourse) "__init__" = some (some (.ref f_Course___init__)))
    (i_Course___init__ : PySem.W.isFn K (.ref f_Course___init__) = true)
    (l_Course___init__ : K.lookup f_Course___init__ = some ⟨oc_Course___init__, od_Course___init__, .func (PySem.W.fnOf "__init__" "Course.__init__" (defArgs s_Course___init__) (defBody s_Course___init__) (defScope s_Course___init__) .none kV_Course___init__ dc_Course___init__ pm_Course___init__ an_Course___init__ cd_Course___init__ ct_Course___init__), sl_Course___init__⟩)
    (o_Course___init__ : PySem.W.codeIn K cd_Course___init__ "Course.__init__" = true)
    (k_Course___init__ : PySem.W.keepIn K (.ref f_Course___init__) = true)
    (a_course_from : PySem.W.nsIn K mainGlobals "course_from" = some (some (.ref f_course_from)))
    (l_course_from : K.lookup f_course_from = some ⟨oc_course_from, od_course_from, .func (PySem.W.fnOf "course_from" "course_from" (defArgs s_course_from) (defBody s_course_from) (defScope s_course_from) .none kV_course_from dc_course_from pm_course_from an_course_from cd_course_from ct_course_from), sl_course_from⟩)
    (o_course_from : PySem.W.codeIn K cd_course_from "course_from" = true)
    (k_course_from : PySem.W.keepIn K (.ref f_course_from) = true)
    (a_course_of : PySem.W.nsIn K mainGlobals "course_of" = some (some (.ref f_course_of)))
    (l_course_of : K.lookup f_course_of = some ⟨oc_course_of, od_course_of, .func (PySem.W.fnOf "course_of" "course_of" (defArgs s_course_of) (defBody s_course_of) (defScope s_course_of) .none kV_course_of dc_course_of pm_course_of an_course_of cd_course_of ct_course_of), sl_course_of⟩)
    (o_course_of : PySem.W.codeIn K cd_course_of "course_of" = true)
    (k_course_of : PySem.W.keepIn K (.ref f_course_of) = true)
    (a_learnt : PySem.W.nsIn K mainGlobals "learnt" = some (some (.ref f_learnt)))
    (l_learnt : K.lookup f_learnt = some ⟨oc_learnt, od_learnt, .func (PySem.W.fnOf "learnt" "learnt" (defArgs s_learnt) (defBody s_learnt) (defScope s_learnt) .none kV_learnt dc_learnt pm_learnt an_learnt cd_learnt ct_learnt), sl_learnt⟩)
    (o_learnt : PySem.W.codeIn K cd_learnt "learnt" = true)
    (k_learnt : PySem.W.keepIn K (.ref f_learnt) = true)
    (a_check_walkersR : PySem.W.nsIn K mainGlobals "check_walkers" = some (some (.ref f_check_walkersR)))
    (l_check_walkersR : K.lookup f_check_walkersR = some ⟨oc_check_walkersR, od_check_walkersR, .func (PySem.W.fnOf "check_walkers" "check_walkers" (defArgs s_check_walkersR) (defBody s_check_walkersR) (defScope s_check_walkersR) .none kV_check_walkersR dc_check_walkersR pm_check_walkersR an_check_walkersR cd_check_walkersR ct_check_walkersR), sl_check_walkersR⟩)
    (o_check_walkersR : PySem.W.codeIn K cd_check_walkersR "check_walkers" = true)
    (k_check_walkersR : PySem.W.keepIn K (.ref f_check_walkersR) = true)
    (a_check_placeR : PySem.W.nsIn K mainGlobals "check_place" = some (some (.ref f_check_placeR)))
    (l_check_placeR : K.lookup f_check_placeR = some ⟨oc_check_placeR, od_check_placeR, .func (PySem.W.fnOf "check_place" "check_place" (defArgs s_check_placeR) (defBody s_check_placeR) (defScope s_check_placeR) .none kV_check_placeR dc_check_placeR pm_check_placeR an_check_placeR cd_check_placeR ct_check_placeR), sl_check_placeR⟩)
    (o_check_placeR : PySem.W.codeIn K cd_check_placeR "check_place" = true)
    (k_check_placeR : PySem.W.keepIn K (.ref f_check_placeR) = true)
    (a_readR : PySem.W.nsIn K mainGlobals "read" = some (some (.ref f_readR)))
    (l_readR : K.lookup f_readR = some ⟨oc_readR, od_readR, .func (PySem.W.fnOf "read" "read" (defArgs s_readR) (defBody s_readR) (defScope s_readR) .none kV_readR dc_readR pm_readR an_readR cd_readR ct_readR), sl_readR⟩)
    (o_readR : PySem.W.codeIn K cd_readR "read" = true)
    (k_readR : PySem.W.keepIn K (.ref f_readR) = true)
    (a_law_due : PySem.W.nsIn K mainGlobals "_law_due" = some (some (.ref f_law_due)))
    (l_law_due : K.lookup f_law_due = some ⟨oc_law_due, od_law_due, .func (PySem.W.fnOf "_law_due" "_law_due" (defArgs s_law_due) (defBody s_law_due) (defScope s_law_due) .none kV_law_due dc_law_due pm_law_due an_law_due cd_law_due ct_law_due), sl_law_due⟩)
    (o_law_due : PySem.W.codeIn K cd_law_due "_law_due" = true)
    (k_law_due : PySem.W.keepIn K (.ref f_law_due) = true)
    (a_law_taken : PySem.W.nsIn K mainGlobals "_law_taken" = some (some (.ref f_law_taken)))
    (l_law_taken : K.lookup f_law_taken = some ⟨oc_law_taken, od_law_taken, .func (PySem.W.fnOf "_law_taken" "_law_taken" (defArgs s_law_taken) (defBody s_law_taken) (defScope s_law_taken) .none kV_law_taken dc_law_taken pm_law_taken an_law_taken cd_law_taken ct_law_taken), sl_law_taken⟩)
    (o_law_taken : PySem.W.codeIn K cd_law_taken "_law_taken" = true)
    (k_law_taken : PySem.W.keepIn K (.ref f_law_taken) = true)
    (a_law_walkers : PySem.W.nsIn K mainGlobals "_law_walkers" = some (some (.ref f_law_walkers)))
    (l_law_walkers : K.lookup f_law_walkers = some ⟨oc_law_walkers, od_law_walkers, .func (PySem.W.fnOf "_law_walkers" "_law_walkers" (defArgs s_law_walkers) (defBody s_law_walkers) (defScope s_law_walkers) .none kV_law_walkers dc_law_walkers pm_law_walkers an_law_walkers cd_law_walkers ct_law_walkers), sl_law_walkers⟩)
    (o_law_walkers : PySem.W.codeIn K cd_law_walkers "_law_walkers" = true)
    (k_law_walkers : PySem.W.keepIn K (.ref f_law_walkers) = true)
    (a_law_start : PySem.W.nsIn K mainGlobals "_law_start" = some (some (.ref f_law_start)))
    (l_law_start : K.lookup f_law_start = some ⟨oc_law_start, od_law_start, .func (PySem.W.fnOf "_law_start" "_law_start" (defArgs s_law_start) (defBody s_law_start) (defScope s_law_start) .none kV_law_start dc_law_start pm_law_start an_law_start cd_law_start ct_law_start), sl_law_start⟩)
    (o_law_start : PySem.W.codeIn K cd_law_start "_law_start" = true)
    (k_law_start : PySem.W.keepIn K (.ref f_law_start) = true)
    (a_written : PySem.W.nsIn K mainGlobals "written" = some (some (.ref f_written)))
    (l_written : K.lookup f_written = some ⟨oc_written, od_written, .func (PySem.W.fnOf "written" "written" (defArgs s_written) (defBody s_written) (defScope s_written) .none kV_written dc_written pm_written an_written cd_written ct_written), sl_written⟩)
    (o_written : PySem.W.codeIn K cd_written "written" = true)
    (k_written : PySem.W.keepIn K (.ref f_written) = true)
    (a_law_changed : PySem.W.nsIn K mainGlobals "_law_changed" = some (some (.ref f_law_changed)))
    (l_law_changed : K.lookup f_law_changed = some ⟨oc_law_changed, od_law_changed, .func (PySem.W.fnOf "_law_changed" "_law_changed" (defArgs s_law_changed) (defBody s_law_changed) (defScope s_law_changed) .none kV_law_changed dc_law_changed pm_law_changed an_law_changed cd_law_changed ct_law_changed), sl_law_changed⟩)
    (o_law_changed : PySem.W.codeIn K cd_law_changed "_law_changed" = true)
    (k_law_changed : PySem.W.keepIn K (.ref f_law_changed) = true)
    (a_law_alike : PySem.W.nsIn K mainGlobals "_law_alike" = some (some (.ref f_law_alike)))
    (l_law_alike : K.lookup f_law_alike = some ⟨oc_law_alike, od_law_alike, .func (PySem.W.fnOf "_law_alike" "_law_alike" (defArgs s_law_alike) (defBody s_law_alike) (defScope s_law_alike) .none kV_law_alike dc_law_alike pm_law_alike an_law_alike cd_law_alike ct_law_alike), sl_law_alike⟩)
    (o_law_alike : PySem.W.codeIn K cd_law_alike "_law_alike" = true)
    (k_law_alike : PySem.W.keepIn K (.ref f_law_alike) = true)
    (a_law : PySem.W.nsIn K mainGlobals "law" = some (some (.ref f_law)))
    (l_law : K.lookup f_law = some ⟨oc_law, od_law, .func (PySem.W.fnOf "law" "law" (defArgs s_law) (defBody s_law) (defScope s_law) .none kV_law dc_law pm_law an_law (.ref cT) ct_law), sl_law⟩)
    (o_law : PySem.W.codeIn K (.ref cT) "law" = true)
    (k_law : PySem.W.keepIn K (.ref f_law) = true)
    (tb_c : K.lookup cT = some ⟨eT, dT, .fields vT, sT⟩)
    (tb_p : vT[11]? = some (.ref PT))
    (tb_18 : vT.getD 18 .none = .str fileT tfT)
    (tb_7 : vT.getD 7 .none = .int flagsT tgT)
    (tb_9 : vT.getD 9 .none = .bool inFT)
    (tb_10 : vT.getD 10 .none = .int textT ttT)
    (tb_n : K.lookup PT = none)
    : ∃ (ft cT PT : Addr) (fd : FuncData), mg "law" = some (.ref ft) ∧ TabFact K ft cT PT ∧ (∀ (s : Shared) (v : Value), BindsTo s fd ⟨[v], []⟩ [("_law_script", v)]) ∧ ∀ base : Heap, K.In base → base.Ns mainGlobals mg → LamX.TabB base mg cT PT → FnX l.prog w K mg base 12 fa fd ["_law_script"] (spLawW PT) := by
  have e := hfa.symm.trans (PySem.W.mg_of X G a_law)
  cases e
  have T : ∀ base, Tx l.prog w K mg base aEnd aCourse := fun base => { cl_Course := ⟨pg_Course, hd_Course, po_Course, sa_Course⟩, cl_End := ⟨pg_End, hd_End, po_End, sa_End⟩, m_FARTHEST := ⟨_, PySem.W.mg_of X G g_FARTHEST⟩, m_MOST_FIGURES := ⟨_, PySem.W.mg_of X G g_MOST_FIGURES⟩, m_MOST_WALKERS := ⟨_, PySem.W.mg_of X G g_MOST_WALKERS⟩, m_QUICKEST := ⟨_, PySem.W.mg_of X G g_QUICKEST⟩, m_ValueError := PySem.W.mg_none_of X G g_ValueError, m_ZERO := ⟨_, [V.int 0, V.int 1], PySem.W.mg_of X G g_ZERO, fun H => .inr ⟨_, _, _, l_ZERO, rfl, rfl, (two_sz : 2 ≤ sizeLine), vals_2⟩, fun H => by simp [Reps, Rep]⟩, m_bool := PySem.W.mg_none_of X G g_bool, m_enumerate := PySem.W.mg_none_of X G g_enumerate, m_gcd := PySem.W.mg_of X G g_gcd, m_int := PySem.W.mg_none_of X G g_int, m_isinstance := PySem.W.mg_none_of X G g_isinstance, m_len := PySem.W.mg_none_of X G g_len, m_list := PySem.W.mg_none_of X G g_list, m_range := PySem.W.mg_none_of X G g_range, m_str := PySem.W.mg_none_of X G g_str, m_tuple := PySem.W.mg_none_of X G g_tuple, na_Course_knows := na_Course_knows, na_Course_left := na_Course_left, na_Course_lines := na_Course_lines, na_Course_right := na_Course_right, na_End_begin := na_End_begin, na_End_driver := na_End_driver, na_End_drives := na_End_drives, na_End_line := na_End_line, na_End_way := na_End_way }
  have NK_BadPlace : NKx K mg "BadPlace" aBadPlace := ⟨xq_BadPlace, PySem.W.mg_of X G xg_BadPlace, xk_BadPlace, xs_BadPlace, xt_BadPlace, exm_own xs_BadPlace xt_BadPlace xi_BadPlace xc_BadPlace⟩
  have D_k2_BadText : ∀ base : Heap, K2 l.prog w K mg base 1 "BadText" "row" aBadText := fun base => by
    have T : OxT l.prog K mg aBadText fI_BadText "BadText" "row" := ⟨oex_of ox_BadText o_sa_BadText xs_BadText xt_BadText xk_BadText, PySem.W.mg_of X G xg_BadText, o_in_BadText, o_ti_BadText, w_row_BadText, o_su_BadText, o_mr_BadText, w_ve_BadText, o_ex_BadText, o_any, PySem.W.mg_none_of X G g_super, tb_super⟩
    have hb : L2.Binds K (PySem.W.ksFn "__init__" "BadText.__init__" (defArgs (inClass (topS 13) 0)) (defBody (inClass (topS 13) 0)) (defScope (inClass (topS 13) 0)) .none kVi_BadText dci_BadText pmi_BadText ani_BadText (.ref cd_BadText) cti_BadText cc_BadText) ["self", "row"] [] := .all fun us hl => match us, hl with | [_, _], _ => rfl
    exact ⟨⟨fI_BadText, _, T, ox_run (params := defArgs (inClass (topS 13) 0)) (scope := defScope (inClass (topS 13) 0)) T o_lk_BadText o_cd_BadText o_co_BadText tb_o_BadText tb_f_BadText o_ce_BadText rfl rfl rfl rfl rfl rfl rfl rfl rfl (by decide +kernel) (fun env => ⟨_, rfl⟩) (by decide) (by decide) (by decide +kernel) (by decide +kernel) hb, hb⟩⟩
  have D_k2_BadWalkers : ∀ base : Heap, K2 l.prog w K mg base 1 "BadWalkers" "number" aBadWalkers := fun base => by
    have T : OxT l.prog K mg aBadWalkers fI_BadWalkers "BadWalkers" "number" := ⟨oex_of ox_BadWalkers o_sa_BadWalkers xs_BadWalkers xt_BadWalkers xk_BadWalkers, PySem.W.mg_of X G xg_BadWalkers, o_in_BadWalkers, o_ti_BadWalkers, w_number_BadWalkers, o_su_BadWalkers, o_mr_BadWalkers, w_ve_BadWalkers, o_ex_BadWalkers, o_any, PySem.W.mg_none_of X G g_super, tb_super⟩
    have hb : L2.Binds K (PySem.W.ksFn "__init__" "BadWalkers.__init__" (defArgs (inClass (topS 4) 0)) (defBody (inClass (topS 4) 0)) (defScope (inClass (topS 4) 0)) .none kVi_BadWalkers dci_BadWalkers pmi_BadWalkers ani_BadWalkers (.ref cd_BadWalkers) cti_BadWalkers cc_BadWalkers) ["self", "number"] [] := .all fun us hl => match us, hl with | [_, _], _ => rfl
    exact ⟨⟨fI_BadWalkers, _, T, ox_run (params := defArgs (inClass (topS 4) 0)) (scope := defScope (inClass (topS 4) 0)) T o_lk_BadWalkers o_cd_BadWalkers o_co_BadWalkers tb_o_BadWalkers tb_f_BadWalkers o_ce_BadWalkers rfl rfl rfl rfl rfl rfl rfl rfl rfl (by decide +kernel) (fun env => ⟨_, rfl⟩) (by decide) (by decide) (by decide +kernel) (by decide +kernel) hb, hb⟩⟩
  have E_BadPlace : ExW K [aBadWalkers, aBadChain, aBadDeed, aHalted, aBadText, aBadPlace, aBadTime, aBadPoint, aNoWalker, aNeverKnown] aBadPlace 5 := exw_of w_ga_BadPlace w_gg_BadPlace xs_BadPlace w_hd_BadPlace w_cl_BadPlace w_get w_tak w_mo_BadPlace xc_BadPlace (ten (P := fun i C => PySem.W.isClsIn K C = true ∧ PySem.W.typeIn K (.ref C) = some (.type "type") ∧ PySem.W.subIn K (.ref aBadPlace) (.ref C) = some (decide (i = 5))) ⟨xi_BadWalkers, xt_BadWalkers, w_BadWalkers_BadPlace⟩ ⟨xi_BadChain, xt_BadChain, w_BadChain_BadPlace⟩ ⟨xi_BadDeed, xt_BadDeed, w_BadDeed_BadPlace⟩ ⟨xi_Halted, xt_Halted, w_Halted_BadPlace⟩ ⟨xi_BadText, xt_BadText, w_BadText_BadPlace⟩ ⟨xi_BadPlace, xt_BadPlace, xc_BadPlace⟩ ⟨xi_BadTime, xt_BadTime, w_BadTime_BadPlace⟩ ⟨xi_BadPoint, xt_BadPoint, w_BadPoint_BadPlace⟩ ⟨xi_NoWalker, xt_NoWalker, w_NoWalker_BadPlace⟩ ⟨xi_NeverKnown, xt_NeverKnown, w_NeverKnown_BadPlace⟩) w_ve_BadPlace w_number_BadPlace w_done_BadPlace w_row_BadPlace
  have R_BadPlace : PySem.W.exmOne K (.ref aBadPlace) (.ref aRoadError) = some true := exm_of2 xs_RoadError xi_RoadError xt_RoadError w_rd_BadPlace
  have E_BadText : ExW K [aBadWalkers, aBadChain, aBadDeed, aHalted, aBadText, aBadPlace, aBadTime, aBadPoint, aNoWalker, aNeverKnown] aBadText 4 := exw_of w_ga_BadText w_gg_BadText xs_BadText w_hd_BadText w_cl_BadText w_get w_tak w_mo_BadText xc_BadText (ten (P := fun i C => PySem.W.isClsIn K C = true ∧ PySem.W.typeIn K (.ref C) = some (.type "type") ∧ PySem.W.subIn K (.ref aBadText) (.ref C) = some (decide (i = 4))) ⟨xi_BadWalkers, xt_BadWalkers, w_BadWalkers_BadText⟩ ⟨xi_BadChain, xt_BadChain, w_BadChain_BadText⟩ ⟨xi_BadDeed, xt_BadDeed, w_BadDeed_BadText⟩ ⟨xi_Halted, xt_Halted, w_Halted_BadText⟩ ⟨xi_BadText, xt_BadText, xc_BadText⟩ ⟨xi_BadPlace, xt_BadPlace, w_BadPlace_BadText⟩ ⟨xi_BadTime, xt_BadTime, w_BadTime_BadText⟩ ⟨xi_BadPoint, xt_BadPoint, w_BadPoint_BadText⟩ ⟨xi_NoWalker, xt_NoWalker, w_NoWalker_BadText⟩ ⟨xi_NeverKnown, xt_NeverKnown, w_NeverKnown_BadText⟩) w_ve_BadText w_number_BadText w_done_BadText w_row_BadText
  have R_BadText : PySem.W.exmOne K (.ref aBadText) (.ref aRoadError) = some true := exm_of2 xs_RoadError xi_RoadError xt_RoadError w_rd_BadText
  have E_BadWalkers : ExW K [aBadWalkers, aBadChain, aBadDeed, aHalted, aBadText, aBadPlace, aBadTime, aBadPoint, aNoWalker, aNeverKnown] aBadWalkers 0 := exw_of w_ga_BadWalkers w_gg_BadWalkers xs_BadWalkers w_hd_BadWalkers w_cl_BadWalkers w_get w_tak w_mo_BadWalkers xc_BadWalkers (ten (P := fun i C => PySem.W.isClsIn K C = true ∧ PySem.W.typeIn K (.ref C) = some (.type "type") ∧ PySem.W.subIn K (.ref aBadWalkers) (.ref C) = some (decide (i = 0))) ⟨xi_BadWalkers, xt_BadWalkers, xc_BadWalkers⟩ ⟨xi_BadChain, xt_BadChain, w_BadChain_BadWalkers⟩ ⟨xi_BadDeed, xt_BadDeed, w_BadDeed_BadWalkers⟩ ⟨xi_Halted, xt_Halted, w_Halted_BadWalkers⟩ ⟨xi_BadText, xt_BadText, w_BadText_BadWalkers⟩ ⟨xi_BadPlace, xt_BadPlace, w_BadPlace_BadWalkers⟩ ⟨xi_BadTime, xt_BadTime, w_BadTime_BadWalkers⟩ ⟨xi_BadPoint, xt_BadPoint, w_BadPoint_BadWalkers⟩ ⟨xi_NoWalker, xt_NoWalker, w_NoWalker_BadWalkers⟩ ⟨xi_NeverKnown, xt_NeverKnown, w_NeverKnown_BadWalkers⟩) w_ve_BadWalkers w_number_BadWalkers w_done_BadWalkers w_row_BadWalkers
  have R_BadWalkers : PySem.W.exmOne K (.ref aBadWalkers) (.ref aRoadError) = some true := exm_of2 xs_RoadError xi_RoadError xt_RoadError w_rd_BadWalkers
  have D_hokW : ∀ (base : Heap) C idx, okW aBadWalkers aBadText C idx → ExW K [aBadWalkers, aBadChain, aBadDeed, aHalted, aBadText, aBadPlace, aBadTime, aBadPoint, aNoWalker, aNeverKnown] C idx ∧ PySem.W.exmOne K (.ref C) (.ref aRoadError) = some true := fun base C idx h => by
    rcases h with ⟨rfl, rfl⟩ | ⟨rfl, rfl⟩
    · exact ⟨E_BadWalkers, R_BadWalkers⟩
    · exact ⟨E_BadText, R_BadText⟩
  have F_w := fun_mk (st := s_law_word) l_w o_w k_w
  have b_w := F_w.binds (ps := ["_law_work"]) fun _ _ _ _ _ _ us hl => match us, hl with | [_], _ => rfl
  have D_c_word : ∀ base : Heap, WordC l.prog w K mg base [aBadWalkers, aBadChain, aBadDeed, aHalted, aBadText, aBadPlace, aBadTime, aBadPoint, aNoWalker, aNeverKnown] aRoadError := fun base => ok_law_word (T base) F_w (PySem.W.mg_of X G a_w) b_w (PySem.W.mg_of X G xg_BadWalkers) (PySem.W.mg_of X G xg_BadChain) (PySem.W.mg_of X G xg_BadDeed) (PySem.W.mg_of X G xg_Halted) (PySem.W.mg_of X G xg_BadText) (PySem.W.mg_of X G xg_BadPlace) (PySem.W.mg_of X G xg_BadTime) (PySem.W.mg_of X G xg_BadPoint) (PySem.W.mg_of X G xg_NoWalker) (PySem.W.mg_of X G xg_NeverKnown) (PySem.W.mg_of X G xg_RoadError)
  have F_lowest := fun_mk (st := s_lowest) l_lowest o_lowest k_lowest
  have b_lowest := F_lowest.binds (ps := ["top", "bottom"]) fun _ _ _ _ _ _ us hl => match us, hl with | [_, _], _ => rfl
  have D_c_lowest : ∀ (base : Heap) (TB : LamX.TabB base mg cT PT), Dc l.prog w K mg base 1 "lowest" ["top", "bottom"] spLowest := fun base TB => ⟨⟨_, _, ok_lowest (T base) F_lowest, PySem.W.mg_of X G a_lowest, k_lowest, b_lowest⟩⟩
  have F_is_below := fun_mk (st := s_is_below) l_is_below o_is_below k_is_below
  have b_is_below := F_is_below.binds (ps := ["one", "other"]) fun _ _ _ _ _ _ us hl => match us, hl with | [_, _], _ => rfl
  have D_c_is_below : ∀ (base : Heap) (TB : LamX.TabB base mg cT PT), Dc l.prog w K mg base 1 "is_below" ["one", "other"] spBelow := fun base TB => ⟨⟨_, _, ok_is_below (T base) F_is_below, PySem.W.mg_of X G a_is_below, k_is_below, b_is_below⟩⟩
  have F_least := fun_mk (st := s_least) l_least o_least k_least
  have b_least := F_least.binds (ps := ["fractions"]) fun _ _ _ _ _ _ us hl => match us, hl with | [_], _ => rfl
  have D_c_least : ∀ (base : Heap) (TB : LamX.TabB base mg cT PT), Dc l.prog w K mg base 2 "least" ["fractions"] spLeast := fun base TB => ⟨⟨_, _, ok_least (T base) F_least (D_c_is_below base TB), PySem.W.mg_of X G a_least, k_least, b_least⟩⟩
  have F_most := fun_mk (st := s_most) l_most o_most k_most
  have b_most := F_most.binds (ps := ["fractions"]) fun _ _ _ _ _ _ us hl => match us, hl with | [_], _ => rfl
  have D_c_most : ∀ (base : Heap) (TB : LamX.TabB base mg cT PT), Dc l.prog w K mg base 2 "most" ["fractions"] spMost := fun base TB => ⟨⟨_, _, ok_most (T base) F_most (D_c_is_below base TB), PySem.W.mg_of X G a_most, k_most, b_most⟩⟩
  have F_point_of := fun_mk (st := s_point_of) l_point_of o_point_of k_point_of
  have b_point_of := F_point_of.binds (ps := ["line", "time"]) fun _ _ _ _ _ _ us hl => match us, hl with | [_, _], _ => rfl
  have D_c_point_of : ∀ (base : Heap) (TB : LamX.TabB base mg cT PT), Dc l.prog w K mg base 2 "point_of" ["line", "time"] spPoint := fun base TB => ⟨⟨_, _, ok_point_of (T base) F_point_of (D_c_lowest base TB), PySem.W.mg_of X G a_point_of, k_point_of, b_point_of⟩⟩
  have F_meeting := fun_mk (st := s_meeting) l_meeting o_meeting k_meeting
  have b_meeting := F_meeting.binds (ps := ["one", "other"]) fun _ _ _ _ _ _ us hl => match us, hl with | [_, _], _ => rfl
  have D_c_meeting : ∀ (base : Heap) (TB : LamX.TabB base mg cT PT), Dc l.prog w K mg base 2 "meeting" ["one", "other"] spMeeting := fun base TB => ⟨⟨_, _, ok_meeting (T base) F_meeting (D_c_lowest base TB), PySem.W.mg_of X G a_meeting, k_meeting, b_meeting⟩⟩
  have F_End_lead := fun_mk (st := s_End_lead) l_End_lead o_End_lead k_End_lead
  have b_End_lead := F_End_lead.binds (ps := ["self", "walker"]) fun _ _ _ _ _ _ us hl => match us, hl with | [_, _], _ => rfl
  have D_c_End_lead : ∀ (base : Heap) (TB : LamX.TabB base mg cT PT), Mc l.prog w K mg base 1 aEnd "lead" ["self", "walker"] (spLead aEnd) := fun base TB => ⟨⟨_, _, ok_End_lead (T base) F_End_lead, ⟨a_End_lead, i_End_lead, k_End_lead⟩, b_End_lead⟩⟩
  have F_End_is_level := fun_mk (st := s_End_is_level) l_End_is_level o_End_is_level k_End_is_level
  have b_End_is_level := F_End_is_level.binds (ps := ["self", "walker", "time"]) fun _ _ _ _ _ _ us hl => match us, hl with | [_, _, _], _ => rfl
  have D_c_End_is_level : ∀ (base : Heap) (TB : LamX.TabB base mg cT PT), Mc l.prog w K mg base 3 aEnd "is_level" ["self", "walker", "time"] (spIsLevel aEnd) := fun base TB => ⟨⟨_, _, ok_End_is_level (T base) F_End_is_level (D_c_point_of base TB), ⟨a_End_is_level, i_End_is_level, k_End_is_level⟩, b_End_is_level⟩⟩
  have F_End_take := fun_mk (st := s_End_take) l_End_take o_End_take k_End_take
  have b_End_take := F_End_take.binds (ps := ["self", "time", "number", "walker"]) fun _ _ _ _ _ _ us hl => match us, hl with | [_, _, _, _], _ => rfl
  have D_c_End_take : ∀ (base : Heap) (TB : LamX.TabB base mg cT PT), Mc l.prog w K mg base 1 aEnd "take" ["self", "time", "number", "walker"] (spTake aEnd) := fun base TB => ⟨⟨_, _, ok_End_take (T base) F_End_take, ⟨a_End_take, i_End_take, k_End_take⟩, b_End_take⟩⟩
  have F_is_number := fun_mk (st := s_is_number) l_is_number o_is_number k_is_number
  have b_is_number := F_is_number.binds (ps := ["told"]) fun _ _ _ _ _ _ us hl => match us, hl with | [_], _ => rfl
  have D_c_is_number : ∀ (base : Heap) (TB : LamX.TabB base mg cT PT), Dc l.prog w K mg base 1 "is_number" ["told"] gNumb := fun base TB => ⟨⟨_, _, ok_is_number (T base) F_is_number, PySem.W.mg_of X G a_is_number, k_is_number, b_is_number⟩⟩
  have F_is_whole := fun_mk (st := s_is_whole) l_is_whole o_is_whole k_is_whole
  have b_is_whole := F_is_whole.binds (ps := ["told", "low", "high"]) fun _ _ _ _ _ _ us hl => match us, hl with | [_, _, _], _ => rfl
  have D_c_is_whole : ∀ (base : Heap) (TB : LamX.TabB base mg cT PT), Dc l.prog w K mg base 2 "is_whole" ["told", "low", "high"] gWhole := fun base TB => ⟨⟨_, _, ok_is_whole (T base) F_is_whole (D_c_is_number base TB), PySem.W.mg_of X G a_is_whole, k_is_whole, b_is_whole⟩⟩
  have F_is_pair := fun_mk (st := s_is_pair) l_is_pair o_is_pair k_is_pair
  have b_is_pair := F_is_pair.binds (ps := ["told"]) fun _ _ _ _ _ _ us hl => match us, hl with | [_], _ => rfl
  have D_c_is_pair : ∀ (base : Heap) (TB : LamX.TabB base mg cT PT), Dc l.prog w K mg base 1 "is_pair" ["told"] gPair := fun base TB => ⟨⟨_, _, ok_is_pair (T base) F_is_pair, PySem.W.mg_of X G a_is_pair, k_is_pair, b_is_pair⟩⟩
  have F_is_place := fun_mk (st := s_is_place) l_is_place o_is_place k_is_place
  have b_is_place := F_is_place.binds (ps := ["told"]) fun _ _ _ _ _ _ us hl => match us, hl with | [_], _ => rfl
  have D_c_is_place : ∀ (base : Heap) (TB : LamX.TabB base mg cT PT), Dc l.prog w K mg base 3 "is_place" ["told"] gPlace := fun base TB => ⟨⟨_, _, ok_is_place (T base) F_is_place (D_c_is_whole base TB), PySem.W.mg_of X G a_is_place, k_is_place, b_is_place⟩⟩
  have F_is_pace := fun_mk (st := s_is_pace) l_is_pace o_is_pace k_is_pace
  have b_is_pace := F_is_pace.binds (ps := ["told"]) fun _ _ _ _ _ _ us hl => match us, hl with | [_], _ => rfl
  have D_c_is_pace : ∀ (base : Heap) (TB : LamX.TabB base mg cT PT), Dc l.prog w K mg base 3 "is_pace" ["told"] gPace := fun base TB => ⟨⟨_, _, ok_is_pace (T base) F_is_pace (D_c_is_whole base TB), PySem.W.mg_of X G a_is_pace, k_is_pace, b_is_pace⟩⟩
  have F_is_walker := fun_mk (st := s_is_walker) l_is_walker o_is_walker k_is_walker
  have b_is_walker := F_is_walker.binds (ps := ["told"]) fun _ _ _ _ _ _ us hl => match us, hl with | [_], _ => rfl
  have D_c_is_walker : ∀ (base : Heap) (TB : LamX.TabB base mg cT PT), Dc l.prog w K mg base 4 "is_walker" ["told"] gWalker := fun base TB => ⟨⟨_, _, ok_is_walker (T base) F_is_walker (D_c_is_pace base TB) (D_c_is_place base TB) (D_c_is_pair base TB), PySem.W.mg_of X G a_is_walker, k_is_walker, b_is_walker⟩⟩
  have F_check_walkers := fun_mk (st := s_check_walkers) l_check_walkers o_check_walkers k_check_walkers
  have b_check_walkers := F_check_walkers.binds (ps := ["walkers"]) fun _ _ _ _ _ _ us hl => match us, hl with | [_], _ => rfl
  have D_c2_check_walkers : ∀ (base : Heap) (TB : LamX.TabB base mg cT PT), D2 l.prog w K mg base 5 "check_walkers" ["walkers"] (gCkWalkers aBadWalkers) := fun base TB => ⟨⟨_, _, ok_check_walkers (T base) F_check_walkers (D_c_is_walker base TB) (D_k2_BadWalkers base), PySem.W.mg_of X G a_check_walkers, k_check_walkers, b_check_walkers⟩⟩
  have F_check_place := fun_mk (st := s_check_place) l_check_place o_check_place k_check_place
  have b_check_place := F_check_place.binds (ps := ["place"]) fun _ _ _ _ _ _ us hl => match us, hl with | [_], _ => rfl
  have D_c2_check_place : ∀ (base : Heap) (TB : LamX.TabB base mg cT PT), D2 l.prog w K mg base 4 "check_place" ["place"] (gCkP aBadPlace) := fun base TB => ⟨⟨_, _, ok_check_place (T base) F_check_place (D_c_is_place base TB) NK_BadPlace, PySem.W.mg_of X G a_check_place, k_check_place, b_check_place⟩⟩
  have F_is_figures := fun_mk (st := s_is_figures) l_is_figures o_is_figures k_is_figures
  have b_is_figures := F_is_figures.binds (ps := ["word"]) fun _ _ _ _ _ _ us hl => match us, hl with | [_], _ => rfl
  have D_c_is_figures : ∀ (base : Heap) (TB : LamX.TabB base mg cT PT), Dc l.prog w K mg base 1 "is_figures" ["word"] spFig := fun base TB => ⟨⟨_, _, ok_is_figures (T base) F_is_figures, PySem.W.mg_of X G a_is_figures, k_is_figures, b_is_figures⟩⟩
  have F_numbers_of := fun_mk (st := s_numbers_of) l_numbers_of o_numbers_of k_numbers_of
  have b_numbers_of := F_numbers_of.binds (ps := ["row", "words"]) fun _ _ _ _ _ _ us hl => match us, hl with | [_, _], _ => rfl
  have D_c2_numbers_of : ∀ (base : Heap) (TB : LamX.TabB base mg cT PT), D2 l.prog w K mg base 4 "numbers_of" ["row", "words"] (xNums aBadText) := fun base TB => ⟨⟨_, _, ok_numbers_of (T base) F_numbers_of (D_c_is_figures base TB) (D_k2_BadText base), PySem.W.mg_of X G a_numbers_of, k_numbers_of, b_numbers_of⟩⟩
  have F_read := fun_mk (st := s_read) l_read o_read k_read
  have b_read := F_read.binds (ps := ["text"]) fun _ _ _ _ _ _ us hl => match us, hl with | [_], _ => rfl
  have D_c2_read : ∀ (base : Heap) (TB : LamX.TabB base mg cT PT), D2 l.prog w K mg base 7 "read" ["text"] (xRead aBadText aBadWalkers) := fun base TB => ⟨⟨_, _, ok_read (T base) F_read (D_c2_check_walkers base TB) (D_c2_numbers_of base TB) (D_k2_BadText base), PySem.W.mg_of X G a_read, k_read, b_read⟩⟩
  have F_law_number := fun_mk (st := s_law_number) l_law_number o_law_number k_law_number
  have b_law_number := F_law_number.binds (ps := ["_law_word_here"]) fun _ _ _ _ _ _ us hl => match us, hl with | [_], _ => rfl
  have D_c__law_number : ∀ (base : Heap) (TB : LamX.TabB base mg cT PT), Dc l.prog w K mg base 1 "_law_number" ["_law_word_here"] spLN := fun base TB => ⟨⟨_, _, ok_law_number (T base) F_law_number, PySem.W.mg_of X G a_law_number, k_law_number, b_law_number⟩⟩
  have F_Course_entry := fun_mk (st := s_Course_entry) l_Course_entry o_Course_entry k_Course_entry
  have b_Course_entry := F_Course_entry.binds (ps := ["self", "walker"]) fun _ _ _ _ _ _ us hl => match us, hl with | [_, _], _ => rfl
  have D_c_Course_entry : ∀ (base : Heap) (TB : LamX.TabB base mg cT PT), Mc l.prog w K mg base 1 aCourse "entry" ["self", "walker"] (spEntry aEnd aCourse) := fun base TB => ⟨⟨_, _, ok_Course_entry (T base) F_Course_entry, ⟨a_Course_entry, i_Course_entry, k_Course_entry⟩, b_Course_entry⟩⟩
  have F_Course_is_begun := fun_mk (st := s_Course_is_begun) l_Course_is_begun o_Course_is_begun k_Course_is_begun
  have b_Course_is_begun := F_Course_is_begun.binds (ps := ["self", "place"]) fun _ _ _ _ _ _ us hl => match us, hl with | [_, _], _ => rfl
  have D_c_Course_is_begun : ∀ (base : Heap) (TB : LamX.TabB base mg cT PT), Mc l.prog w K mg base 1 aCourse "is_begun" ["self", "place"] (spBegun aEnd aCourse) := fun base TB => ⟨⟨_, _, ok_Course_is_begun (T base) F_Course_is_begun, ⟨a_Course_is_begun, i_Course_is_begun, k_Course_is_begun⟩, b_Course_is_begun⟩⟩
  have F_Course_tell_those_inside := fun_mk (st := s_Course_tell_those_inside) l_Course_tell_those_inside o_Course_tell_those_inside k_Course_tell_those_inside
  have b_Course_tell_those_inside := F_Course_tell_those_inside.binds (ps := ["self"]) fun _ _ _ _ _ _ us hl => match us, hl with | [_], _ => rfl
  have D_c_Course_tell_those_inside : ∀ (base : Heap) (TB : LamX.TabB base mg cT PT), Mc l.prog w K mg base 2 aCourse "tell_those_inside" ["self"] (spInside aEnd aCourse) := fun base TB => ⟨⟨_, _, ok_Course_tell_those_inside (T base) F_Course_tell_those_inside (D_c_Course_is_begun base TB), ⟨a_Course_tell_those_inside, i_Course_tell_those_inside, k_Course_tell_those_inside⟩, b_Course_tell_those_inside⟩⟩
  have F_Course_is_told := fun_mk (st := s_Course_is_told) l_Course_is_told o_Course_is_told k_Course_is_told
  have b_Course_is_told := F_Course_is_told.binds (ps := ["self", "number", "time"]) fun _ _ _ _ _ _ us hl => match us, hl with | [_, _, _], _ => rfl
  have D_c_Course_is_told : ∀ (base : Heap) (TB : LamX.TabB base mg cT PT), Mc l.prog w K mg base 2 aCourse "is_told" ["self", "number", "time"] (spTold aCourse) := fun base TB => ⟨⟨_, _, ok_Course_is_told (T base) F_Course_is_told (D_c_is_below base TB), ⟨a_Course_is_told, i_Course_is_told, k_Course_is_told⟩, b_Course_is_told⟩⟩
  have F_Course_tell := fun_mk (st := s_Course_tell) l_Course_tell o_Course_tell k_Course_tell
  have b_Course_tell := F_Course_tell.binds (ps := ["self", "time"]) fun _ _ _ _ _ _ us hl => match us, hl with | [_, _], _ => rfl
  have D_c_Course_tell : ∀ (base : Heap) (TB : LamX.TabB base mg cT PT), Mc l.prog w K mg base 4 aCourse "tell" ["self", "time"] (spTell aEnd aCourse) := fun base TB => ⟨⟨_, _, ok_Course_tell (T base) F_Course_tell (D_c_End_is_level base TB) (D_c_Course_entry base TB), ⟨a_Course_tell, i_Course_tell, k_Course_tell⟩, b_Course_tell⟩⟩
  have F_Course_drive := fun_mk (st := s_Course_drive) l_Course_drive o_Course_drive k_Course_drive
  have b_Course_drive := F_Course_drive.binds (ps := ["self", "end", "time"]) fun _ _ _ _ _ _ us hl => match us, hl with | [_, _, _], _ => rfl
  have D_c_Course_drive : ∀ (base : Heap) (TB : LamX.TabB base mg cT PT), Mc l.prog w K mg base 4 aCourse "drive" ["self", "end", "time"] (spDrive aEnd aCourse) := fun base TB => ⟨⟨_, _, ok_Course_drive (T base) F_Course_drive (D_c_End_take base TB) (D_c_End_is_level base TB) (D_c_End_lead base TB), ⟨a_Course_drive, i_Course_drive, k_Course_drive⟩, b_Course_drive⟩⟩
  have F_Course_next_time := fun_mk (st := s_Course_next_time) l_Course_next_time o_Course_next_time k_Course_next_time
  have b_Course_next_time := F_Course_next_time.binds (ps := ["self"]) fun _ _ _ _ _ _ us hl => match us, hl with | [_], _ => rfl
  have D_c_Course_next_time : ∀ (base : Heap) (TB : LamX.TabB base mg cT PT), Mc l.prog w K mg base 3 aCourse "next_time" ["self"] (spNext aEnd aCourse) := fun base TB => ⟨⟨_, _, ok_Course_next_time (T base) F_Course_next_time (D_c_least base TB) (D_c_End_lead base TB) (D_c_meeting base TB) (D_c_Course_entry base TB), ⟨a_Course_next_time, i_Course_next_time, k_Course_next_time⟩, b_Course_next_time⟩⟩
  have F_Course_ends := fun_mk (st := s_Course_ends) l_Course_ends o_Course_ends k_Course_ends
  have b_Course_ends := F_Course_ends.binds (ps := ["self", "time"]) fun _ _ _ _ _ _ us hl => match us, hl with | [_, _], _ => rfl
  have D_c_Course_ends : ∀ (base : Heap) (TB : LamX.TabB base mg cT PT), Mc l.prog w K mg base 3 aCourse "ends" ["self", "time"] (spEnds aEnd aCourse) := fun base TB => ⟨⟨_, _, ok_Course_ends (T base) F_Course_ends (D_c_most base TB) (D_c_least base TB) (D_c_Course_is_told base TB) (D_c_point_of base TB), ⟨a_Course_ends, i_Course_ends, k_Course_ends⟩, b_Course_ends⟩⟩
  have F_Course_known := fun_mk (st := s_Course_known) l_Course_known o_Course_known k_Course_known
  have b_Course_known := F_Course_known.binds (ps := ["self", "place"]) fun _ _ _ _ _ _ us hl => match us, hl with | [_, _], _ => rfl
  have D_c_Course_known : ∀ (base : Heap) (TB : LamX.TabB base mg cT PT), Mc l.prog w K mg base 3 aCourse "known" ["self", "place"] (spKnown aEnd aCourse) := fun base TB => ⟨⟨_, _, ok_Course_known (T base) F_Course_known (D_c_least base TB) (D_c_Course_is_told base TB) (D_c_meeting base TB) (D_c_Course_is_begun base TB), ⟨a_Course_known, i_Course_known, k_Course_known⟩, b_Course_known⟩⟩
  have F_End___init__ := fun_mk (st := s_End___init__) l_End___init__ o_End___init__ k_End___init__
  have b_End___init__ := F_End___init__.binds (ps := ["self", "begin", "way"]) fun _ _ _ _ _ _ us hl => match us, hl with | [_, _, _], _ => rfl
  have D_k_End : ∀ (base : Heap) (TB : LamX.TabB base mg cT PT), Kc l.prog w K mg base 1 "End" aEnd ["self", "begin", "way"] (spEndInit aEnd) := fun base TB => ⟨⟨_, _, ok_End___init__ (T base) F_End___init__, ⟨mk_End, a_End___init__, i_End___init__, kc_End⟩, PySem.W.mg_of X G ac_End, b_End___init__⟩⟩
  have F_Course___init__ := fun_mk (st := s_Course___init__) l_Course___init__ o_Course___init__ k_Course___init__
  have b_Course___init__ := F_Course___init__.binds (ps := ["self", "walkers", "left", "right"]) fun _ _ _ _ _ _ us hl => match us, hl with | [_, _, _, _], _ => rfl
  have D_k_Course : ∀ (base : Heap) (TB : LamX.TabB base mg cT PT), Kc l.prog w K mg base 5 "Course" aCourse ["self", "walkers", "left", "right"] (spCourseInit aEnd aCourse) := fun base TB => ⟨⟨_, _, ok_Course___init__ (T base) F_Course___init__ (D_c_Course_next_time base TB) (D_c_Course_drive base TB) (D_c_Course_tell base TB) (D_c_Course_tell_those_inside base TB) (D_k_End base TB), ⟨mk_Course, a_Course___init__, i_Course___init__, kc_Course⟩, PySem.W.mg_of X G ac_Course, b_Course___init__⟩⟩
  have F_course_from := fun_mk (st := s_course_from) l_course_from o_course_from k_course_from
  have b_course_from := F_course_from.binds (ps := ["walkers", "start"]) fun _ _ _ _ _ _ us hl => match us, hl with | [_, _], _ => rfl
  have D_c_course_from : ∀ (base : Heap) (TB : LamX.TabB base mg cT PT), Dc l.prog w K mg base 7 "course_from" ["walkers", "start"] (spCourseFrom aEnd aCourse) := fun base TB => ⟨⟨_, _, ok_course_from (T base) F_course_from (D_k_Course base TB), PySem.W.mg_of X G a_course_from, k_course_from, b_course_from⟩⟩
  have F_course_of := fun_mk (st := s_course_of) l_course_of o_course_of k_course_of
  have b_course_of := F_course_of.binds (ps := ["walkers", "start"]) fun _ _ _ _ _ _ us hl => match us, hl with | [_, _], _ => rfl
  have D_c2_course_of : ∀ (base : Heap) (TB : LamX.TabB base mg cT PT), D2 l.prog w K mg base 8 "course_of" ["walkers", "start"] (xCourseOf aEnd aCourse aBadWalkers) := fun base TB => ⟨⟨_, _, ok_course_of (T base) F_course_of (D_c_course_from base TB) (D_c2_check_place base TB) (D_c2_check_walkers base TB), PySem.W.mg_of X G a_course_of, k_course_of, b_course_of⟩⟩
  have F_learnt := fun_mk (st := s_learnt) l_learnt o_learnt k_learnt
  have b_learnt := F_learnt.binds (ps := ["walkers", "start"]) fun _ _ _ _ _ _ us hl => match us, hl with | [_, _], _ => rfl
  have D_c2_learnt : ∀ (base : Heap) (TB : LamX.TabB base mg cT PT), D2 l.prog w K mg base 9 "learnt" ["walkers", "start"] (xLearnt aBadWalkers) := fun base TB => ⟨⟨_, _, ok_learnt (T base) F_learnt (D_c2_course_of base TB), PySem.W.mg_of X G a_learnt, k_learnt, b_learnt⟩⟩
  have F_check_walkersR := fun_mk (st := s_check_walkersR) l_check_walkersR o_check_walkersR k_check_walkersR
  have b_check_walkersR := F_check_walkersR.binds (ps := ["walkers"]) fun _ _ _ _ _ _ us hl => match us, hl with | [_], _ => rfl
  have D_c_check_walkers : ∀ (base : Heap) (TB : LamX.TabB base mg cT PT), Dc l.prog w K mg base 5 "check_walkers" ["walkers"] (of2 (gCkWalkers aBadWalkers)) := fun base TB => ⟨⟨_, _, ok_check_walkersR (T base) F_check_walkersR (D_c_is_walker base TB) (D_k2_BadWalkers base), PySem.W.mg_of X G a_check_walkersR, k_check_walkersR, b_check_walkersR⟩⟩
  have F_check_placeR := fun_mk (st := s_check_placeR) l_check_placeR o_check_placeR k_check_placeR
  have b_check_placeR := F_check_placeR.binds (ps := ["place"]) fun _ _ _ _ _ _ us hl => match us, hl with | [_], _ => rfl
  have D_c_check_place : ∀ (base : Heap) (TB : LamX.TabB base mg cT PT), Dc l.prog w K mg base 4 "check_place" ["place"] (of2 (gCkP aBadPlace)) := fun base TB => ⟨⟨_, _, ok_check_placeR (T base) F_check_placeR (D_c_is_place base TB) NK_BadPlace, PySem.W.mg_of X G a_check_placeR, k_check_placeR, b_check_placeR⟩⟩
  have F_readR := fun_mk (st := s_readR) l_readR o_readR k_readR
  have b_readR := F_readR.binds (ps := ["text"]) fun _ _ _ _ _ _ us hl => match us, hl with | [_], _ => rfl
  have D_c_read : ∀ (base : Heap) (TB : LamX.TabB base mg cT PT), Dc l.prog w K mg base 7 "read" ["text"] (of2 (xRead aBadText aBadWalkers)) := fun base TB => ⟨⟨_, _, ok_readR (T base) F_readR (D_c2_check_walkers base TB) (D_c2_numbers_of base TB) (D_k2_BadText base), PySem.W.mg_of X G a_readR, k_readR, b_readR⟩⟩
  have F_law_due := fun_mk (st := s_law_due) l_law_due o_law_due k_law_due
  have b_law_due := F_law_due.binds (ps := ["_law_text"]) fun _ _ _ _ _ _ us hl => match us, hl with | [_], _ => rfl
  have D_c__law_due : ∀ (base : Heap) (TB : LamX.TabB base mg cT PT), Dc l.prog w K mg base 2 "_law_due" ["_law_text"] spDue := fun base TB => ⟨⟨_, _, ok_law_due (T base) F_law_due (D_c__law_number base TB), PySem.W.mg_of X G a_law_due, k_law_due, b_law_due⟩⟩
  have F_law_taken := fun_mk (st := s_law_taken) l_law_taken o_law_taken k_law_taken
  have b_law_taken := F_law_taken.binds (ps := ["_law_row", "_law_many"]) fun _ _ _ _ _ _ us hl => match us, hl with | [_, _], _ => rfl
  have D_c__law_taken : ∀ (base : Heap) (TB : LamX.TabB base mg cT PT), Dc l.prog w K mg base 1 "_law_taken" ["_law_row", "_law_many"] spTaken := fun base TB => ⟨⟨_, _, ok_law_taken (T base) F_law_taken, PySem.W.mg_of X G a_law_taken, k_law_taken, b_law_taken⟩⟩
  have F_law_walkers := fun_mk (st := s_law_walkers) l_law_walkers o_law_walkers k_law_walkers
  have b_law_walkers := F_law_walkers.binds (ps := ["_law_row", "_law_many"]) fun _ _ _ _ _ _ us hl => match us, hl with | [_, _], _ => rfl
  have D_c__law_walkers : ∀ (base : Heap) (TB : LamX.TabB base mg cT PT), Dc l.prog w K mg base 2 "_law_walkers" ["_law_row", "_law_many"] spWalkers := fun base TB => ⟨⟨_, _, ok_law_walkers (T base) F_law_walkers (D_c__law_taken base TB), PySem.W.mg_of X G a_law_walkers, k_law_walkers, b_law_walkers⟩⟩
  have F_law_start := fun_mk (st := s_law_start) l_law_start o_law_start k_law_start
  have b_law_start := F_law_start.binds (ps := ["_law_row", "_law_some"]) fun _ _ _ _ _ _ us hl => match us, hl with | [_, _], _ => rfl
  have D_c__law_start : ∀ (base : Heap) (TB : LamX.TabB base mg cT PT), Dc l.prog w K mg base 2 "_law_start" ["_law_row", "_law_some"] spStart := fun base TB => ⟨⟨_, _, ok_law_start (T base) F_law_start (D_c__law_taken base TB), PySem.W.mg_of X G a_law_start, k_law_start, b_law_start⟩⟩
  have F_written := fun_mk (st := s_written) l_written o_written k_written
  have b_written := F_written.binds (ps := ["walkers", "start"]) fun _ _ _ _ _ _ us hl => match us, hl with | [_, _], _ => rfl
  have D_c_written : ∀ (base : Heap) (TB : LamX.TabB base mg cT PT), Dc l.prog w K mg base 6 "written" ["walkers", "start"] spWritten := fun base TB => ⟨⟨_, _, ok_written (T base) F_written (D_c_check_place base TB) (D_c_check_walkers base TB), PySem.W.mg_of X G a_written, k_written, b_written⟩⟩
  have F_law_changed := fun_mk (st := s_law_changed) l_law_changed o_law_changed k_law_changed
  have b_law_changed := F_law_changed.binds (ps := ["_law_row", "_law_text"]) fun _ _ _ _ _ _ us hl => match us, hl with | [_, _], _ => rfl
  have D_c__law_changed : ∀ (base : Heap) (TB : LamX.TabB base mg cT PT), Dc l.prog w K mg base 3 "_law_changed" ["_law_row", "_law_text"] spChanged := fun base TB => ⟨⟨_, _, ok_law_changed (T base) F_law_changed (D_c__law_taken base TB), PySem.W.mg_of X G a_law_changed, k_law_changed, b_law_changed⟩⟩
  have F_law_alike := fun_mk (st := s_law_alike) l_law_alike o_law_alike k_law_alike
  have b_law_alike := F_law_alike.binds (ps := ["_law_one", "_law_due_here"]) fun _ _ _ _ _ _ us hl => match us, hl with | [_, _], _ => rfl
  have D_c__law_alike : ∀ (base : Heap) (TB : LamX.TabB base mg cT PT), Dc l.prog w K mg base 6 "_law_alike" ["_law_one", "_law_due_here"] (spAlt 6) := fun base TB => ⟨⟨_, _, alike_all (T base) F_law_alike (PySem.W.mg_of X G a_law_alike) k_law_alike b_law_alike 6, PySem.W.mg_of X G a_law_alike, k_law_alike, b_law_alike⟩⟩
  have F_law := fun_mk (st := s_law) l_law o_law k_law
  have b_law := F_law.binds (ps := ["_law_script"]) fun _ _ _ _ _ _ us hl => match us, hl with | [_], _ => rfl
  exact ⟨fa, cT, PT, PySem.W.fnOf "law" "law" (defArgs s_law) (defBody s_law) (defScope s_law) .none kV_law dc_law pm_law an_law (.ref cT) ct_law, PySem.W.mg_of X G a_law, ⟨⟨_, _, eT, dT, vT, sT, l_law, rfl, rfl, tb_c, tb_p, fileT, tfT, flagsT, tgT, inFT, textT, ttT, tb_18, tb_7, tb_9, tb_10⟩, tb_n⟩, fun s v => .of_eq rfl, fun base _ _ TB => ok_law (T base) F_law rfl TB (D_c__law_taken base TB) (D_c__law_alike base TB) (D_c_read base TB) (D_c__law_due base TB) (D_c__law_changed base TB) (D_c_written base TB) (D_c__law_start base TB) (D_c__law_walkers base TB) (D_c_word base) (D_hokW base) (D_c2_learnt base TB) (D_c2_read base TB)⟩

end Sd
open PySem PySem.W PyProof.Rows
set_option maxRecDepth 100000 in
set_option maxHeartbeats 0 in
theorem PySem.Challenge.cw_saidroad_k16_texts_refused_holds : PySem.Challenge.rw_saidroad_k16_texts_refused.Holds := by
  w_on; o_law; k_head; (case hw => w_witness2)
  k_fill
  refine Sd.walkT (l := PySem.Challenge.rw_saidroad_k16_texts_refused) (lv := 12) (x := "_law_script") rfl rfl ⟨rfl, by decide, by decide⟩ (fun w h Y => Y.1) "law" "law.<locals>.<lambda>" (by decide +kernel) (sp := fun PT => (Sd.spLawW PT)) (fun PT ns m hm => ⟨ns, rfl, hm, fun _ => rfl⟩) ?F
  case F =>
    intro w mg fa h KX G hmg
    refine' Sd.all_mk KX G hmg ?ac_End ?pg_End ?hd_End ?po_End ?sa_End ?mk_End ?kc_End ?ac_Course ?pg_Course ?hd_Course ?po_Course ?sa_Course ?mk_Course ?kc_Course ?g_FARTHEST ?g_MOST_FIGURES ?g_MOST_WALKERS ?g_QUICKEST ?g_ValueError ?g_ZERO ?l_ZERO ?g_bool ?g_enumerate ?g_gcd ?g_int ?g_isinstance ?g_len ?g_list ?g_range ?g_str ?g_tuple ?na_Course_knows ?na_Course_left ?na_Course_lines ?na_Course_right ?na_End_begin ?na_End_driver ?na_End_drives ?na_End_line ?na_End_way ?xq_BadPlace ?xg_BadPlace ?xk_BadPlace ?xs_BadPlace ?xt_BadPlace ?xi_BadPlace ?xc_BadPlace ?xg_BadWalkers ?xi_BadWalkers ?xt_BadWalkers ?xg_BadChain ?xi_BadChain ?xt_BadChain ?xg_BadDeed ?xi_BadDeed ?xt_BadDeed ?xg_Halted ?xi_Halted ?xt_Halted ?xg_BadText ?xi_BadText ?xt_BadText ?xg_BadTime ?xi_BadTime ?xt_BadTime ?xg_BadPoint ?xi_BadPoint ?xt_BadPoint ?xg_NoWalker ?xi_NoWalker ?xt_NoWalker ?xg_NeverKnown ?xi_NeverKnown ?xt_NeverKnown ?xg_RoadError ?xi_RoadError ?xt_RoadError ?xs_RoadError ?w_get ?w_tak ?w_ga_BadPlace ?w_gg_BadPlace ?w_hd_BadPlace ?w_cl_BadPlace ?w_mo_BadPlace ?w_ve_BadPlace ?w_rd_BadPlace ?w_number_BadPlace ?w_done_BadPlace ?w_row_BadPlace ?w_BadWalkers_BadPlace ?w_BadChain_BadPlace ?w_BadDeed_BadPlace ?w_Halted_BadPlace ?w_BadText_BadPlace ?w_BadTime_BadPlace ?w_BadPoint_BadPlace ?w_NoWalker_BadPlace ?w_NeverKnown_BadPlace ?xs_BadText ?xc_BadText ?w_ga_BadText ?w_gg_BadText ?w_hd_BadText ?w_cl_BadText ?w_mo_BadText ?w_ve_BadText ?w_rd_BadText ?w_number_BadText ?w_done_BadText ?w_row_BadText ?w_BadWalkers_BadText ?w_BadChain_BadText ?w_BadDeed_BadText ?w_Halted_BadText ?w_BadPlace_BadText ?w_BadTime_BadText ?w_BadPoint_BadText ?w_NoWalker_BadText ?w_NeverKnown_BadText ?xs_BadWalkers ?xc_BadWalkers ?w_ga_BadWalkers ?w_gg_BadWalkers ?w_hd_BadWalkers ?w_cl_BadWalkers ?w_mo_BadWalkers ?w_ve_BadWalkers ?w_rd_BadWalkers ?w_number_BadWalkers ?w_done_BadWalkers ?w_row_BadWalkers ?w_BadChain_BadWalkers ?w_BadDeed_BadWalkers ?w_Halted_BadWalkers ?w_BadText_BadWalkers ?w_BadPlace_BadWalkers ?w_BadTime_BadWalkers ?w_BadPoint_BadWalkers ?w_NoWalker_BadWalkers ?w_NeverKnown_BadWalkers ?ox_BadText ?xk_BadText ?o_sa_BadText ?o_in_BadText ?o_ti_BadText ?o_mr_BadText ?o_su_BadText ?o_ex_BadText ?o_lk_BadText ?o_cd_BadText ?o_co_BadText ?tb_o_BadText ?tb_f_BadText ?o_ce_BadText ?ox_BadWalkers ?xk_BadWalkers ?o_sa_BadWalkers ?o_in_BadWalkers ?o_ti_BadWalkers ?o_mr_BadWalkers ?o_su_BadWalkers ?o_ex_BadWalkers ?o_lk_BadWalkers ?o_cd_BadWalkers ?o_co_BadWalkers ?tb_o_BadWalkers ?tb_f_BadWalkers ?o_ce_BadWalkers ?o_any ?g_super ?tb_super ?a_w ?l_w ?o_w ?k_w ?a_lowest ?l_lowest ?o_lowest ?k_lowest ?a_is_below ?l_is_below ?o_is_below ?k_is_below ?a_least ?l_least ?o_least ?k_least ?a_most ?l_most ?o_most ?k_most ?a_point_of ?l_point_of ?o_point_of ?k_point_of ?a_meeting ?l_meeting ?o_meeting ?k_meeting ?a_End_lead ?i_End_lead ?l_End_lead ?o_End_lead ?k_End_lead ?a_End_is_level ?i_End_is_level ?l_End_is_level ?o_End_is_level ?k_End_is_level ?a_End_take ?i_End_take ?l_End_take ?o_End_take ?k_End_take ?a_is_number ?l_is_number ?o_is_number ?k_is_number ?a_is_whole ?l_is_whole ?o_is_whole ?k_is_whole ?a_is_pair ?l_is_pair ?o_is_pair ?k_is_pair ?a_is_place ?l_is_place ?o_is_place ?k_is_place ?a_is_pace ?l_is_pace ?o_is_pace ?k_is_pace ?a_is_walker ?l_is_walker ?o_is_walker ?k_is_walker ?a_check_walkers ?l_check_walkers ?o_check_walkers ?k_check_walkers ?a_check_place ?l_check_place ?o_check_place ?k_check_place ?a_is_figures ?l_is_figures ?o_is_figures ?k_is_figures ?a_numbers_of ?l_numbers_of ?o_numbers_of ?k_numbers_of ?a_read ?l_read ?o_read ?k_read ?a_law_number ?l_law_number ?o_law_number ?k_law_number ?a_Course_entry ?i_Course_entry ?l_Course_entry ?o_Course_entry ?k_Course_entry ?a_Course_is_begun ?i_Course_is_begun ?l_Course_is_begun ?o_Course_is_begun ?k_Course_is_begun ?a_Course_tell_those_inside ?i_Course_tell_those_inside ?l_Course_tell_those_inside ?o_Course_tell_those_inside ?k_Course_tell_those_inside ?a_Course_is_told ?i_Course_is_told ?l_Course_is_told ?o_Course_is_told ?k_Course_is_told ?a_Course_tell ?i_Course_tell ?l_Course_tell ?o_Course_tell ?k_Course_tell ?a_Course_drive ?i_Course_drive ?l_Course_drive ?o_Course_drive ?k_Course_drive ?a_Course_next_time ?i_Course_next_time ?l_Course_next_time ?o_Course_next_time ?k_Course_next_time ?a_Course_ends ?i_Course_ends ?l_Course_ends ?o_Course_ends ?k_Course_ends ?a_Course_known ?i_Course_known ?l_Course_known ?o_Course_known ?k_Course_known ?a_End___init__ ?i_End___init__ ?l_End___init__ ?o_End___init__ ?k_End___init__ ?a_Course___init__ ?i_Course___init__ ?l_Course___init__ ?o_Course___init__ ?k_Course___init__ ?a_course_from ?l_course_from ?o_course_from ?k_course_from ?a_course_of ?l_course_of ?o_course_of ?k_course_of ?a_learnt ?l_learnt ?o_learnt ?k_learnt ?a_check_walkersR ?l_check_walkersR ?o_check_walkersR ?k_check_walkersR ?a_check_placeR ?l_check_placeR ?o_check_placeR ?k_check_placeR ?a_readR ?l_readR ?o_readR ?k_readR ?a_law_due ?l_law_due ?o_law_due ?k_law_due ?a_law_taken ?l_law_taken ?o_law_taken ?k_law_taken ?a_law_walkers ?l_law_walkers ?o_law_walkers ?k_law_walkers ?a_law_start ?l_law_start ?o_law_start ?k_law_start ?a_written ?l_written ?o_written ?k_written ?a_law_changed ?l_law_changed ?o_law_changed ?k_law_changed ?a_law_alike ?l_law_alike ?o_law_alike ?k_law_alike ?a_law ?l_law ?o_law ?k_law ?tb_c ?tb_p ?tb_18 ?tb_7 ?tb_9 ?tb_10 ?tb_n
    (case ac_End => k_is)
    (case pg_End => k_is)
    (case hd_End => k_is)
    (case po_End => k_is)
    (case sa_End => k_is)
    (case mk_End => k_is)
    (case kc_End => k_is)
    (case ac_Course => k_is)
    (case pg_Course => k_is)
    (case hd_Course => k_is)
    (case po_Course => k_is)
    (case sa_Course => k_is)
    (case mk_Course => k_is)
    (case kc_Course => k_is)
    (case g_FARTHEST => k_is)
    (case g_MOST_FIGURES => k_is)
    (case g_MOST_WALKERS => k_is)
    (case g_QUICKEST => k_is)
    (case g_ValueError => k_is)
    (case g_ZERO => k_is)
    (case l_ZERO => k_is)
    (case g_bool => k_is)
    (case g_enumerate => k_is)
    (case g_gcd => k_is)
    (case g_int => k_is)
    (case g_isinstance => k_is)
    (case g_len => k_is)
    (case g_list => k_is)
    (case g_range => k_is)
    (case g_str => k_is)
    (case g_tuple => k_is)
    (case na_Course_knows => k_is)
    (case na_Course_left => k_is)
    (case na_Course_lines => k_is)
    (case na_Course_right => k_is)
    (case na_End_begin => k_is)
    (case na_End_driver => k_is)
    (case na_End_drives => k_is)
    (case na_End_line => k_is)
    (case na_End_way => k_is)
    (case xq_BadPlace => first | kernel_rfl | rfl | decide +kernel)
    (case xg_BadPlace => k_is)
    (case xk_BadPlace => k_is)
    (case xs_BadPlace => k_is)
    (case xt_BadPlace => k_is)
    (case xi_BadPlace => k_is)
    (case xc_BadPlace => k_is)
    (case xg_BadWalkers => k_is)
    (case xi_BadWalkers => k_is)
    (case xt_BadWalkers => k_is)
    (case xg_BadChain => k_is)
    (case xi_BadChain => k_is)
    (case xt_BadChain => k_is)
    (case xg_BadDeed => k_is)
    (case xi_BadDeed => k_is)
    (case xt_BadDeed => k_is)
    (case xg_Halted => k_is)
    (case xi_Halted => k_is)
    (case xt_Halted => k_is)
    (case xg_BadText => k_is)
    (case xi_BadText => k_is)
    (case xt_BadText => k_is)
    (case xg_BadTime => k_is)
    (case xi_BadTime => k_is)
    (case xt_BadTime => k_is)
    (case xg_BadPoint => k_is)
    (case xi_BadPoint => k_is)
    (case xt_BadPoint => k_is)
    (case xg_NoWalker => k_is)
    (case xi_NoWalker => k_is)
    (case xt_NoWalker => k_is)
    (case xg_NeverKnown => k_is)
    (case xi_NeverKnown => k_is)
    (case xt_NeverKnown => k_is)
    (case xg_RoadError => k_is)
    (case xi_RoadError => k_is)
    (case xt_RoadError => k_is)
    (case xs_RoadError => k_is)
    (case w_get => k_is)
    (case w_tak => k_is)
    (case w_ga_BadPlace => k_is)
    (case w_gg_BadPlace => k_is)
    (case w_hd_BadPlace => k_is)
    (case w_cl_BadPlace => k_is)
    (case w_mo_BadPlace => k_is)
    (case w_ve_BadPlace => k_is)
    (case w_rd_BadPlace => k_is)
    (case w_number_BadPlace => k_is)
    (case w_done_BadPlace => k_is)
    (case w_row_BadPlace => k_is)
    (case w_BadWalkers_BadPlace => k_is)
    (case w_BadChain_BadPlace => k_is)
    (case w_BadDeed_BadPlace => k_is)
    (case w_Halted_BadPlace => k_is)
    (case w_BadText_BadPlace => k_is)
    (case w_BadTime_BadPlace => k_is)
    (case w_BadPoint_BadPlace => k_is)
    (case w_NoWalker_BadPlace => k_is)
    (case w_NeverKnown_BadPlace => k_is)
    (case xs_BadText => k_is)
    (case xc_BadText => k_is)
    (case w_ga_BadText => k_is)
    (case w_gg_BadText => k_is)
    (case w_hd_BadText => k_is)
    (case w_cl_BadText => k_is)
    (case w_mo_BadText => k_is)
    (case w_ve_BadText => k_is)
    (case w_rd_BadText => k_is)
    (case w_number_BadText => k_is)
    (case w_done_BadText => k_is)
    (case w_row_BadText => k_is)
    (case w_BadWalkers_BadText => k_is)
    (case w_BadChain_BadText => k_is)
    (case w_BadDeed_BadText => k_is)
    (case w_Halted_BadText => k_is)
    (case w_BadPlace_BadText => k_is)
    (case w_BadTime_BadText => k_is)
    (case w_BadPoint_BadText => k_is)
    (case w_NoWalker_BadText => k_is)
    (case w_NeverKnown_BadText => k_is)
    (case xs_BadWalkers => k_is)
    (case xc_BadWalkers => k_is)
    (case w_ga_BadWalkers => k_is)
    (case w_gg_BadWalkers => k_is)
    (case w_hd_BadWalkers => k_is)
    (case w_cl_BadWalkers => k_is)
    (case w_mo_BadWalkers => k_is)
    (case w_ve_BadWalkers => k_is)
    (case w_rd_BadWalkers => k_is)
    (case w_number_BadWalkers => k_is)
    (case w_done_BadWalkers => k_is)
    (case w_row_BadWalkers => k_is)
    (case w_BadChain_BadWalkers => k_is)
    (case w_BadDeed_BadWalkers => k_is)
    (case w_Halted_BadWalkers => k_is)
    (case w_BadText_BadWalkers => k_is)
    (case w_BadPlace_BadWalkers => k_is)
    (case w_BadTime_BadWalkers => k_is)
    (case w_BadPoint_BadWalkers => k_is)
    (case w_NoWalker_BadWalkers => k_is)
    (case w_NeverKnown_BadWalkers => k_is)
    (case ox_BadText => first | kernel_rfl | rfl | decide +kernel)
    (case xk_BadText => k_is)
    (case o_sa_BadText => k_is)
    (case o_in_BadText => k_is)
    (case o_ti_BadText => k_is)
    (case o_mr_BadText => k_is)
    (case o_su_BadText => first | kernel_rfl | rfl | decide +kernel)
    (case o_ex_BadText => first | kernel_rfl | rfl | decide +kernel)
    (case o_lk_BadText => k_is)
    (case o_cd_BadText => k_is)
    (case o_co_BadText => k_is)
    (case tb_o_BadText => rfl)
    (case tb_f_BadText => first | kernel_rfl | rfl | decide +kernel)
    (case o_ce_BadText => k_is)
    (case ox_BadWalkers => first | kernel_rfl | rfl | decide +kernel)
    (case xk_BadWalkers => k_is)
    (case o_sa_BadWalkers => k_is)
    (case o_in_BadWalkers => k_is)
    (case o_ti_BadWalkers => k_is)
    (case o_mr_BadWalkers => k_is)
    (case o_su_BadWalkers => first | kernel_rfl | rfl | decide +kernel)
    (case o_ex_BadWalkers => first | kernel_rfl | rfl | decide +kernel)
    (case o_lk_BadWalkers => k_is)
    (case o_cd_BadWalkers => k_is)
    (case o_co_BadWalkers => k_is)
    (case tb_o_BadWalkers => rfl)
    (case tb_f_BadWalkers => first | kernel_rfl | rfl | decide +kernel)
    (case o_ce_BadWalkers => k_is)
    (case o_any => k_is)
    (case g_super => k_is)
    (case tb_super => first | kernel_rfl | rfl | decide +kernel)
    (case a_w => k_is)
    (case l_w => k_is)
    (case o_w => k_is)
    (case k_w => k_is)
    (case a_lowest => k_is)
    (case l_lowest => k_is)
    (case o_lowest => k_is)
    (case k_lowest => k_is)
    (case a_is_below => k_is)
    (case l_is_below => k_is)
    (case o_is_below => k_is)
    (case k_is_below => k_is)
    (case a_least => k_is)
    (case l_least => k_is)
    (case o_least => k_is)
    (case k_least => k_is)
    (case a_most => k_is)
    (case l_most => k_is)
    (case o_most => k_is)
    (case k_most => k_is)
    (case a_point_of => k_is)
    (case l_point_of => k_is)
    (case o_point_of => k_is)
    (case k_point_of => k_is)
    (case a_meeting => k_is)
    (case l_meeting => k_is)
    (case o_meeting => k_is)
    (case k_meeting => k_is)
    (case a_End_lead => k_is)
    (case i_End_lead => k_is)
    (case l_End_lead => k_is)
    (case o_End_lead => k_is)
    (case k_End_lead => k_is)
    (case a_End_is_level => k_is)
    (case i_End_is_level => k_is)
    (case l_End_is_level => k_is)
    (case o_End_is_level => k_is)
    (case k_End_is_level => k_is)
    (case a_End_take => k_is)
    (case i_End_take => k_is)
    (case l_End_take => k_is)
    (case o_End_take => k_is)
    (case k_End_take => k_is)
    (case a_is_number => k_is)
    (case l_is_number => k_is)
    (case o_is_number => k_is)
    (case k_is_number => k_is)
    (case a_is_whole => k_is)
    (case l_is_whole => k_is)
    (case o_is_whole => k_is)
    (case k_is_whole => k_is)
    (case a_is_pair => k_is)
    (case l_is_pair => k_is)
    (case o_is_pair => k_is)
    (case k_is_pair => k_is)
    (case a_is_place => k_is)
    (case l_is_place => k_is)
    (case o_is_place => k_is)
    (case k_is_place => k_is)
    (case a_is_pace => k_is)
    (case l_is_pace => k_is)
    (case o_is_pace => k_is)
    (case k_is_pace => k_is)
    (case a_is_walker => k_is)
    (case l_is_walker => k_is)
    (case o_is_walker => k_is)
    (case k_is_walker => k_is)
    (case a_check_walkers => k_is)
    (case l_check_walkers => k_is)
    (case o_check_walkers => k_is)
    (case k_check_walkers => k_is)
    (case a_check_place => k_is)
    (case l_check_place => k_is)
    (case o_check_place => k_is)
    (case k_check_place => k_is)
    (case a_is_figures => k_is)
    (case l_is_figures => k_is)
    (case o_is_figures => k_is)
    (case k_is_figures => k_is)
    (case a_numbers_of => k_is)
    (case l_numbers_of => k_is)
    (case o_numbers_of => k_is)
    (case k_numbers_of => k_is)
    (case a_read => k_is)
    (case l_read => k_is)
    (case o_read => k_is)
    (case k_read => k_is)
    (case a_law_number => k_is)
    (case l_law_number => k_is)
    (case o_law_number => k_is)
    (case k_law_number => k_is)
    (case a_Course_entry => k_is)
    (case i_Course_entry => k_is)
    (case l_Course_entry => k_is)
    (case o_Course_entry => k_is)
    (case k_Course_entry => k_is)
    (case a_Course_is_begun => k_is)
    (case i_Course_is_begun => k_is)
    (case l_Course_is_begun => k_is)
    (case o_Course_is_begun => k_is)
    (case k_Course_is_begun => k_is)
    (case a_Course_tell_those_inside => k_is)
    (case i_Course_tell_those_inside => k_is)
    (case l_Course_tell_those_inside => k_is)
    (case o_Course_tell_those_inside => k_is)
    (case k_Course_tell_those_inside => k_is)
    (case a_Course_is_told => k_is)
    (case i_Course_is_told => k_is)
    (case l_Course_is_told => k_is)
    (case o_Course_is_told => k_is)
    (case k_Course_is_told => k_is)
    (case a_Course_tell => k_is)
    (case i_Course_tell => k_is)
    (case l_Course_tell => k_is)
    (case o_Course_tell => k_is)
    (case k_Course_tell => k_is)
    (case a_Course_drive => k_is)
    (case i_Course_drive => k_is)
    (case l_Course_drive => k_is)
    (case o_Course_drive => k_is)
    (case k_Course_drive => k_is)
    (case a_Course_next_time => k_is)
    (case i_Course_next_time => k_is)
    (case l_Course_next_time => k_is)
    (case o_Course_next_time => k_is)
    (case k_Course_next_time => k_is)
    (case a_Course_ends => k_is)
    (case i_Course_ends => k_is)
    (case l_Course_ends => k_is)
    (case o_Course_ends => k_is)
    (case k_Course_ends => k_is)
    (case a_Course_known => k_is)
    (case i_Course_known => k_is)
    (case l_Course_known => k_is)
    (case o_Course_known => k_is)
    (case k_Course_known => k_is)
    (case a_End___init__ => k_is)
    (case i_End___init__ => k_is)
    (case l_End___init__ => k_is)
    (case o_End___init__ => k_is)
    (case k_End___init__ => k_is)
    (case a_Course___init__ => k_is)
    (case i_Course___init__ => k_is)
    (case l_Course___init__ => k_is)
    (case o_Course___init__ => k_is)
    (case k_Course___init__ => k_is)
    (case a_course_from => k_is)
    (case l_course_from => k_is)
    (case o_course_from => k_is)
    (case k_course_from => k_is)
    (case a_course_of => k_is)
    (case l_course_of => k_is)
    (case o_course_of => k_is)
    (case k_course_of => k_is)
    (case a_learnt => k_is)
    (case l_learnt => k_is)
    (case o_learnt => k_is)
    (case k_learnt => k_is)
    (case a_check_walkersR => k_is)
    (case l_check_walkersR => k_is)
    (case o_check_walkersR => k_is)
    (case k_check_walkersR => k_is)
    (case a_check_placeR => k_is)
    (case l_check_placeR => k_is)
    (case o_check_placeR => k_is)
    (case k_check_placeR => k_is)
    (case a_readR => k_is)
    (case l_readR => k_is)
    (case o_readR => k_is)
    (case k_readR => k_is)
    (case a_law_due => k_is)
    (case l_law_due => k_is)
    (case o_law_due => k_is)
    (case k_law_due => k_is)
    (case a_law_taken => k_is)
    (case l_law_taken => k_is)
    (case o_law_taken => k_is)
    (case k_law_taken => k_is)
    (case a_law_walkers => k_is)
    (case l_law_walkers => k_is)
    (case o_law_walkers => k_is)
    (case k_law_walkers => k_is)
    (case a_law_start => k_is)
    (case l_law_start => k_is)
    (case o_law_start => k_is)
    (case k_law_start => k_is)
    (case a_written => k_is)
    (case l_written => k_is)
    (case o_written => k_is)
    (case k_written => k_is)
    (case a_law_changed => k_is)
    (case l_law_changed => k_is)
    (case o_law_changed => k_is)
    (case k_law_changed => k_is)
    (case a_law_alike => k_is)
    (case l_law_alike => k_is)
    (case o_law_alike => k_is)
    (case k_law_alike => k_is)
    (case a_law => k_is)
    (case l_law => k_is)
    (case o_law => k_is)
    (case k_law => k_is)
    (case tb_c => k_is)
    (case tb_p => rfl)
    (case tb_18 => rfl)
    (case tb_7 => rfl)
    (case tb_9 => rfl)
    (case tb_10 => rfl)
    (case tb_n => first | kernel_rfl | rfl | decide +kernel)
#print axioms PySem.Challenge.cw_saidroad_k16_texts_refused_holds

