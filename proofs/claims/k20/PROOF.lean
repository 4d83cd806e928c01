import PyProof.Rows.All
import Wide.All
import OpenK.AllK
import Wide.FinOn
import HandS.ForMost
import HandS.Codes
import HandS.TupLe
import HandS.TupAny
import HandS.TupMul
import HandS.Wide
import HandS.IsInst
import HandS.Style
import HandS.Flow
import HandS.Exc
import HandS.TryOnly
import HandS.ExcInit
import HandS.DictComp
import HandS.SortKw
import HandS.Deep
import KE.DatumOrd
import HandS.TryElse
import HandS.TryMany
import HandS.ExcField
import HandS.ExcIs
import HandS.ExcOwn
import HandS.FStr
import HandS.ExcCtx
import KE.KExcIs
import PyProof.Rows.EnumRows
import HandS.ReplaceLit
import PyProof.P3In
import HandS.HotCalls
import HandS.Comp
import PyProof.Walks
import PyProof.ConsumeWalk
import HandS.Rev
import HandS.RaiseMore
import HandS.FStrTup
import PySem.Challenge.RW_flowreprise_k20_types_of_expressions
set_option Elab.async false
set_option linter.all false
set_option maxRecDepth 100000
namespace IL
open PySem PySem.Spec PyProof.Rows L2

/-- a value, data as trees, what may change by its number in the store -/
inductive PV where
  | non | bl (b : Bool) | int (i : Int) | str (x : Str) | tup (xs : List PV) | frz (xs : List PV) | ref (n : Nat) | ty (n : String)
  /-- a dict that nobody writes: its keys, its values -/
  | fdk (ks : List Key) (xs : List PV)
/-- what may change -/
inductive SO where
  | lst (xs : List PV)
  | dK (kvs : List (Key × PV))
  /-- an instance of the program's class of that name -/
  | ins (c : Str) (fs : List (Str × PV))
  /-- a list that is no longer written -/
  | gone
/-- the addresses of what may change; those that are no longer written -/
structure Rho where
  l : List Addr
  d : List Addr
def Rho.add (ρ : Rho) (p : Addr) : Rho := ⟨ρ.l ++ [p], ρ.d⟩
def Rho.Safe (ρ : Rho) (a : Addr) : Prop := a ∉ ρ.l ∨ a ∈ ρ.d
/-- the class of that name -/
def ClsAt (K : PySem.W.Frag) (c : Str) (C : Addr) : Prop := PySem.W.nsIn K mainGlobals c = some (some (.ref C))
abbrev Sto := List SO
abbrev PEnv := List (Option PV)

section
variable (K : PySem.W.Frag) (H : Hp) (ρ : Rho)
/-- a list that nobody writes -/
def FrzAt (a : Addr) (vs : List V) : Prop :=
  (Rd H a (.lst vs) ∧ ρ.Safe a) ∨ ∃ (o : Obj) (its : Array Value) (n : Nat), K.lookup a = some o ∧ o.cls = .type "list" ∧ o.dict = none ∧ o.data = .seq its n ∧ its.size ≤ sizeLine ∧ Vals vs its.toList
/-- a dict that nobody writes -/
def FdkAt (a : Addr) (ks : List Key) (vs : List V) : Prop :=
  ∃ kvs : List (Key × V), Rd H a (.dK kvs) ∧ ρ.Safe a ∧ kvs.map (·.1) = ks ∧ kvs.map (·.2) = vs
mutual
def Rep : PV → V → Prop
  | .non, v => v = .non
  | .bl b, v => v = .bl b
  | .int i, v => v = .int i
  | .str x, v => v = .str x
  | .tup xs, v => ∃ a vs, v = .ref a ∧ SqT K H a vs ∧ Reps xs vs
  | .frz xs, v => ∃ a vs, v = .ref a ∧ FrzAt K H ρ a vs ∧ Reps xs vs
  | .ref n, v => ∃ a, v = .ref a ∧ ρ.l[n]? = some a
  | .ty n, v => v = .ty n
  | .fdk ks xs, v => ∃ a vs, v = .ref a ∧ FdkAt H ρ a ks vs ∧ Reps xs vs
def Reps : List PV → List V → Prop
  | [], vs => vs = []
  | x :: xs, vs => ∃ v r, vs = v :: r ∧ Rep x v ∧ Reps xs r
end
def RepK : List (Key × PV) → List (Key × V) → Prop
  | [], vs => vs = []
  | x :: xs, vs => ∃ v r, vs = (x.1, v) :: r ∧ Rep K H ρ x.2 v ∧ RepK xs r
def RepF : List (Str × PV) → List (Str × V) → Prop
  | [], vs => vs = []
  | x :: xs, vs => ∃ v r, vs = (x.1, v) :: r ∧ Rep K H ρ x.2 v ∧ RepF xs r
def RepO : SO → Addr → Prop
  | .lst xs, a => ∃ vs, H a = some (.lst vs) ∧ Reps K H ρ xs vs
  | .dK kvs, a => ∃ vs, H a = some (.dK vs) ∧ RepK K H ρ kvs vs
  | .ins c fs, a => ∃ C dx vs, ClsAt K c C ∧ H a = some (.ins C dx vs) ∧ RepF K H ρ fs vs
  | .gone, a => (∃ vs, Rd H a (.lst vs)) ∨ ∃ vs, Rd H a (.dK vs)
structure RepS (st : Sto) : Prop where
  len : ρ.l.length = st.length
  nd : ρ.l.Nodup
  at_ : ∀ (n : Nat) (so : SO), st[n]? = some so → ∃ a, ρ.l[n]? = some a ∧ RepO K H ρ so a
  lv : ∀ (n : Nat) (so : SO) (a : Addr), st[n]? = some so → so ≠ .gone → ρ.l[n]? = some a → a ∉ ρ.d
  sd : ∀ a, a ∈ ρ.d → a ∈ ρ.l
structure RepE (env : PEnv) (σ : L2.St) : Prop where
  len : env.length = σ.length
  at_ : ∀ (i : Nat) (x : PV), env[i]? = some (some x) → ∃ v, σ[i]? = some (some v) ∧ Rep K H ρ x v
end
/-- not a thing that is locked -/
def NF : HO → Prop
  | .frz _ _ => False
  | _ => True
structure Grow (H : Hp) (ρ : Rho) (H' : Hp) (ρ' : Rho) : Prop where
  ext : ∃ l, ρ'.l = ρ.l ++ l ∧ ∀ b ∈ l, H b = none
  ded : ∀ b, b ∈ ρ.d → b ∈ ρ'.d
  keep : ∀ b u, NF u → ρ.Safe b → Rd H b u → Rd H' b u
  dom : ∀ b, H' b = none → H b = none
  lck : ∀ b o u, ρ.Safe b → H b = some (.frz o u) → H' b = some (.frz o u)

section
variable {K : PySem.W.Frag} {H H' H1 H2 : Hp} {ρ ρ' ρ1 ρ2 : Rho} {st st' : Sto} {env : PEnv} {σ : L2.St}
theorem Grow.refl : Grow H ρ H ρ := ⟨⟨[], by simp, fun _ h => by simp at h⟩, fun _ h => h, fun _ _ _ _ h => h, fun _ h => h, fun _ _ _ _ h => h⟩
theorem Rd.ne_none {a : Addr} {u : HO} (h : Rd H a u) : H a ≠ none := fun e => by
  rcases h with h | ⟨o, h⟩ <;> (rw [e] at h; cases h)
theorem Grow.safe (a : Grow H ρ H1 ρ1) {x : Addr} (h : H x ≠ none) (s : ρ.Safe x) : ρ1.Safe x := by
  obtain ⟨l1, e1, f1⟩ := a.ext
  rcases s with s | s
  · refine .inl fun hm => ?_
    rw [e1] at hm
    rcases List.mem_append.mp hm with hm | hm
    · exact s hm
    · exact h (f1 x hm)
  · exact .inr (a.ded x s)
theorem Grow.trans (a : Grow H ρ H1 ρ1) (b : Grow H1 ρ1 H2 ρ2) : Grow H ρ H2 ρ2 := by
  obtain ⟨l1, e1, f1⟩ := a.ext
  obtain ⟨l2, e2, f2⟩ := b.ext
  refine ⟨⟨l1 ++ l2, by rw [e2, e1, List.append_assoc], fun x hx => ?_⟩, fun x hx => b.ded x (a.ded x hx), fun x u hu hx ho => ?_, fun x hx => a.dom x (b.dom x hx), fun x o u hx ho => b.lck x o u (a.safe (by rw [ho]; simp) hx) (a.lck x o u hx ho)⟩
  · rcases List.mem_append.mp hx with h | h
    · exact f1 x h
    · exact a.dom x (f2 x h)
  · exact b.keep x u hu (a.safe (Rd.ne_none ho) hx) (a.keep x u hu hx ho)
theorem Grow.ix (g : Grow H ρ H' ρ') {n : Nat} {a : Addr} (h : ρ.l[n]? = some a) : ρ'.l[n]? = some a := by
  obtain ⟨l, e, _⟩ := g.ext
  rw [e, List.getElem?_append_left (List.getElem?_eq_some_iff.mp h).1]
  exact h
theorem RepS.mem (S : RepS K H ρ st) {a : Addr} (h : a ∈ ρ.l) : ∃ (n : Nat) (so : SO), ρ.l[n]? = some a ∧ st[n]? = some so ∧ RepO K H ρ so a := by
  obtain ⟨n, hn, e⟩ := List.mem_iff_getElem.mp h
  have hs : n < st.length := by have := S.len; omega
  obtain ⟨b, hb, r⟩ := S.at_ n st[n] (List.getElem?_eq_getElem hs)
  have e2 : ρ.l[n]? = some a := by rw [List.getElem?_eq_getElem hn, e]
  rw [e2] at hb; cases hb
  exact ⟨n, st[n], e2, List.getElem?_eq_getElem hs, r⟩
theorem RepO.some {so : SO} {a : Addr} (h : RepO K H ρ so a) : (∃ vs, Rd H a (.lst vs)) ∨ (∃ vs, Rd H a (.dK vs)) ∨ ∃ C dx vs, Rd H a (.ins C dx vs) := by
  cases so with
  | lst xs => obtain ⟨vs, h, _⟩ := h; exact .inl ⟨vs, .of h⟩
  | dK xs => obtain ⟨vs, h, _⟩ := h; exact .inr (.inl ⟨vs, .of h⟩)
  | ins c xs => obtain ⟨C, dx, vs, _, h, _⟩ := h; exact .inr (.inr ⟨C, dx, vs, .of h⟩)
  | gone =>
    rcases h with ⟨vs, h⟩ | ⟨vs, h⟩
    · exact .inl ⟨vs, h⟩
    · exact .inr (.inl ⟨vs, h⟩)
theorem RepS.notT (S : RepS K H ρ st) {a : Addr} {vs : List V} (h : Rd H a (.tup vs)) : ρ.Safe a := .inl fun hm => by
  obtain ⟨n, so, _, _, r⟩ := S.mem hm
  rcases r.some with ⟨w, e⟩ | ⟨w, e⟩ | ⟨C, dx, w, e⟩ <;> rcases h with h | ⟨o, h⟩ <;> rcases e with e | ⟨o', e⟩ <;> (rw [e] at h; cases h)
theorem RepS.fresh (S : RepS K H ρ st) {p : Addr} (h : H p = none) : p ∉ ρ.l := fun hm => by
  obtain ⟨n, so, _, _, r⟩ := S.mem hm
  rcases r.some with ⟨w, e⟩ | ⟨w, e⟩ | ⟨C, dx, w, e⟩ <;> exact Rd.ne_none e h
theorem Grow.rd (g : Grow H ρ H' ρ') {a : Addr} {u : HO} (n : ρ.Safe a) (h : Rd H a u) (hu : NF u := by trivial) : Rd H' a u := g.keep a u hu n h
theorem SqT.grow (S : RepS K H ρ st) (g : Grow H ρ H' ρ') {a : Addr} {vs : List V} (h : SqT K H a vs) : SqT K H' a vs := by
  rcases h with h | h
  · exact .inl (g.rd (S.notT h) h)
  · exact .inr h
theorem FrzAt.grow (g : Grow H ρ H' ρ') {a : Addr} {vs : List V} (h : FrzAt K H ρ a vs) : FrzAt K H' ρ' a vs := by
  rcases h with ⟨h, n⟩ | h
  · exact .inl ⟨g.rd n h, g.safe (Rd.ne_none h) n⟩
  · exact .inr h
theorem FdkAt.grow (g : Grow H ρ H' ρ') {a : Addr} {ks : List Key} {vs : List V} (h : FdkAt H ρ a ks vs) : FdkAt H' ρ' a ks vs := by
  obtain ⟨kvs, h, n, e1, e2⟩ := h
  exact ⟨kvs, g.rd n h, g.safe (Rd.ne_none h) n, e1, e2⟩
theorem FrzAt.sq {a : Addr} {vs : List V} (h : FrzAt K H ρ a vs) : SqL K H a vs := by
  rcases h with ⟨h, _⟩ | h
  · exact .inl h
  · exact .inr h
mutual
theorem Rep.grow (S : RepS K H ρ st) (g : Grow H ρ H' ρ') : ∀ (x : PV) (v : V), Rep K H ρ x v → Rep K H' ρ' x v
  | .non, v, h => by unfold Rep at *; exact h
  | .bl b, v, h => by unfold Rep at *; exact h
  | .int i, v, h => by unfold Rep at *; exact h
  | .str x, v, h => by unfold Rep at *; exact h
  | .tup xs, v, h => by
    unfold Rep at *
    obtain ⟨a, vs, e, h1, h2⟩ := h
    exact ⟨a, vs, e, SqT.grow S g h1, Reps.grow S g xs vs h2⟩
  | .frz xs, v, h => by
    unfold Rep at *
    obtain ⟨a, vs, e, h1, h2⟩ := h
    exact ⟨a, vs, e, h1.grow g, Reps.grow S g xs vs h2⟩
  | .ref n, v, h => by
    unfold Rep at *
    obtain ⟨a, e, h1⟩ := h
    exact ⟨a, e, g.ix h1⟩
  | .ty n, v, h => by unfold Rep at *; exact h
  | .fdk ks xs, v, h => by
    unfold Rep at *
    obtain ⟨a, vs, e, h1, h2⟩ := h
    exact ⟨a, vs, e, h1.grow g, Reps.grow S g xs vs h2⟩
theorem Reps.grow (S : RepS K H ρ st) (g : Grow H ρ H' ρ') : ∀ (xs : List PV) (vs : List V), Reps K H ρ xs vs → Reps K H' ρ' xs vs
  | [], vs, h => by unfold Reps at *; exact h
  | x :: xs, vs, h => by
    unfold Reps at *
    obtain ⟨v, r, e, h1, h2⟩ := h
    exact ⟨v, r, e, Rep.grow S g x v h1, Reps.grow S g xs r h2⟩
end
theorem RepK.grow (S : RepS K H ρ st) (g : Grow H ρ H' ρ') : ∀ (xs : List (Key × PV)) (vs : List (Key × V)), RepK K H ρ xs vs → RepK K H' ρ' xs vs
  | [], vs, h => h
  | x :: xs, vs, h => by
    obtain ⟨v, r, e, h1, h2⟩ := h
    exact ⟨v, r, e, Rep.grow S g _ v h1, RepK.grow S g xs r h2⟩
theorem RepF.grow (S : RepS K H ρ st) (g : Grow H ρ H' ρ') : ∀ (xs : List (Str × PV)) (vs : List (Str × V)), RepF K H ρ xs vs → RepF K H' ρ' xs vs
  | [], vs, h => h
  | x :: xs, vs, h => by
    obtain ⟨v, r, e, h1, h2⟩ := h
    exact ⟨v, r, e, Rep.grow S g _ v h1, RepF.grow S g xs r h2⟩
theorem RepE.grow (S : RepS K H ρ st) (g : Grow H ρ H' ρ') (E : RepE K H ρ env σ) : RepE K H' ρ' env σ :=
  ⟨E.len, fun i x h => by
    obtain ⟨v, h1, h2⟩ := E.at_ i x h
    exact ⟨v, h1, Rep.grow S g _ _ h2⟩⟩
theorem Reps.length : ∀ {xs : List PV} {vs : List V}, Reps K H ρ xs vs → xs.length = vs.length
  | [], vs, h => by unfold Reps at h; subst h; rfl
  | x :: xs, vs, h => by
    unfold Reps at h
    obtain ⟨v, r, rfl, _, h2⟩ := h
    simp [Reps.length h2]
theorem Reps.get : ∀ {xs : List PV} {vs : List V} {i : Nat} {x : PV}, Reps K H ρ xs vs → xs[i]? = some x → ∃ v, vs[i]? = some v ∧ Rep K H ρ x v
  | [], _, _, _, _, e => by simp at e
  | y :: ys, vs, 0, x, h, e => by
    unfold Reps at h
    obtain ⟨v, r, rfl, h1, _⟩ := h
    simp at e; subst e
    exact ⟨v, rfl, h1⟩
  | y :: ys, vs, i + 1, x, h, e => by
    unfold Reps at h
    obtain ⟨v, r, rfl, _, h2⟩ := h
    obtain ⟨w, a, b⟩ := Reps.get (i := i) (x := x) h2 (by simpa using e)
    exact ⟨w, by simpa using a, b⟩
theorem Reps.append : ∀ {xs ys : List PV} {vs ws : List V}, Reps K H ρ xs vs → Reps K H ρ ys ws → Reps K H ρ (xs ++ ys) (vs ++ ws)
  | [], _, _, _, h, h' => by unfold Reps at h; subst h; exact h'
  | x :: xs, _, _, _, h, h' => by
    unfold Reps at h
    obtain ⟨v, r, rfl, h1, h2⟩ := h
    show Reps K H ρ (x :: (xs ++ _)) (v :: (r ++ _))
    unfold Reps
    exact ⟨v, _, rfl, h1, Reps.append h2 h'⟩
theorem Reps.drop : ∀ {xs : List PV} {vs : List V} (n : Nat), Reps K H ρ xs vs → Reps K H ρ (xs.drop n) (vs.drop n)
  | _, _, 0, h => h
  | [], _, n + 1, h => by unfold Reps at h; subst h; simp [Reps]
  | x :: xs, _, n + 1, h => by
    unfold Reps at h
    obtain ⟨v, r, rfl, _, h2⟩ := h
    exact Reps.drop n h2
theorem Reps.take : ∀ {xs : List PV} {vs : List V} (n : Nat), Reps K H ρ xs vs → Reps K H ρ (xs.take n) (vs.take n)
  | _, _, 0, h => by simp [Reps]
  | [], _, n + 1, h => by unfold Reps at h; subst h; simp [Reps]
  | x :: xs, _, n + 1, h => by
    unfold Reps at h
    obtain ⟨v, r, rfl, h1, h2⟩ := h
    show Reps K H ρ (x :: xs.take n) (v :: r.take n)
    unfold Reps
    exact ⟨v, _, rfl, h1, Reps.take n h2⟩
theorem Reps.set {y : PV} {w : V} (hy : Rep K H ρ y w) : ∀ {xs : List PV} {vs : List V} (n : Nat), Reps K H ρ xs vs → Reps K H ρ (xs.set n y) (vs.set n w)
  | [], _, n, h => by unfold Reps at h; subst h; simp [Reps]
  | x :: xs, _, 0, h => by
    unfold Reps at h
    obtain ⟨v, r, rfl, h1, h2⟩ := h
    show Reps K H ρ (y :: xs) (w :: r)
    unfold Reps
    exact ⟨w, _, rfl, hy, h2⟩
  | x :: xs, _, n + 1, h => by
    unfold Reps at h
    obtain ⟨v, r, rfl, h1, h2⟩ := h
    show Reps K H ρ (x :: xs.set n y) (v :: r.set n w)
    unfold Reps
    exact ⟨v, _, rfl, h1, Reps.set hy n h2⟩
theorem RepE.set (E : RepE K H ρ env σ) {x : PV} {v : V} (h : Rep K H ρ x v) (i : Nat) : RepE K H ρ (env.set i (some x)) (σ.set i (some v)) := by
  refine ⟨by simpa using E.len, fun j y hj => ?_⟩
  by_cases e : i = j
  · subst e
    by_cases hl : i < env.length
    · rw [List.getElem?_set_self hl] at hj
      cases hj
      exact ⟨v, List.getElem?_set_self (by rw [← E.len]; exact hl), h⟩
    · rw [List.getElem?_eq_none (by simpa using hl)] at hj
      cases hj
  · rw [List.getElem?_set_ne e] at hj
    obtain ⟨w, a, b⟩ := E.at_ j y hj
    exact ⟨w, by rw [List.getElem?_set_ne e]; exact a, b⟩
/-- a new tuple -/
theorem grow_new {p : Addr} {o : HO} (h : H p = none) : Grow H ρ (upd H p o) ρ :=
  ⟨⟨[], by simp, fun _ h => by simp at h⟩, fun _ h => h, fun b u _ _ e => by
    have hb : b ≠ p := fun z => Rd.ne_none e (by rw [z]; exact h)
    unfold Rd at e ⊢
    rw [upd_ne hb]; exact e, fun b e => by
    by_cases hb : b = p
    · subst hb; exact h
    · rw [upd_ne hb] at e; exact e, fun b o u _ e => by
    have hb : b ≠ p := fun z => by rw [z, h] at e; cases e
    rw [upd_ne hb]; exact e⟩
theorem grow_alloc {p : Addr} {o : HO} (h : H p = none) : Grow H ρ (upd H p o) (ρ.add p) :=
  ⟨⟨[p], rfl, fun b hb => by simp at hb; subst hb; exact h⟩, fun _ h => h, (grow_new h (ρ := ρ)).keep, (grow_new h (ρ := ρ)).dom, (grow_new h (ρ := ρ)).lck⟩
theorem grow_write {p : Addr} {o u : HO} (h : H p = some u) (m : p ∈ ρ.l) (nd : p ∉ ρ.d) : Grow H ρ (upd H p o) ρ :=
  ⟨⟨[], by simp, fun _ h => by simp at h⟩, fun _ h => h, fun b w _ nb e => by
    have hb : b ≠ p := fun z => by
      subst z
      rcases nb with nb | nb
      · exact nb m
      · exact nd nb
    unfold Rd at e ⊢
    rw [upd_ne hb]; exact e, fun b e => by
    by_cases hb : b = p
    · subst hb; rw [upd_same] at e; cases e
    · rw [upd_ne hb] at e; exact e, fun b w w2 nb e => by
    have hb : b ≠ p := fun z => by
      subst z
      rcases nb with nb | nb
      · exact nb m
      · exact nd nb
    rw [upd_ne hb]; exact e⟩
/-- the store as it was, one heap on -/
theorem RepO.grow (S : RepS K H ρ st) (g : Grow H ρ H' ρ') {so : SO} {a : Addr} (h : RepO K H ρ so a) (e : H' a = H a) : RepO K H' ρ' so a := by
  cases so with
  | lst xs => obtain ⟨vs, h1, h2⟩ := h; exact ⟨vs, by rw [e]; exact h1, Reps.grow S g _ _ h2⟩
  | dK xs => obtain ⟨vs, h1, h2⟩ := h; exact ⟨vs, by rw [e]; exact h1, RepK.grow S g _ _ h2⟩
  | ins c xs => obtain ⟨C, dx, vs, hc, h1, h2⟩ := h; exact ⟨C, dx, vs, hc, by rw [e]; exact h1, RepF.grow S g _ _ h2⟩
  | gone =>
    rcases h with ⟨vs, h1⟩ | ⟨vs, h1⟩
    · exact .inl ⟨vs, by unfold Rd at h1 ⊢; rw [e]; exact h1⟩
    · exact .inr ⟨vs, by unfold Rd at h1 ⊢; rw [e]; exact h1⟩
theorem RepS.same (S : RepS K H ρ st) (g : Grow H ρ H' ρ) (e : ∀ a ∈ ρ.l, H' a = H a) : RepS K H' ρ st :=
  ⟨S.len, S.nd, fun n so h => by
    obtain ⟨a, h1, h2⟩ := S.at_ n so h
    exact ⟨a, h1, h2.grow S g (e a (List.mem_of_getElem? h1))⟩, S.lv, S.sd⟩
theorem RepS.new {p : Addr} {o : HO} (S : RepS K H ρ st) (h : H p = none) : RepS K (upd H p o) ρ st :=
  S.same (grow_new h) fun a ha => upd_ne fun e => S.fresh h (by rw [← e]; exact ha)
theorem RepS.nodead (S : RepS K H ρ st) {p : Addr} (h : H p = none) : p ∉ ρ.d := fun z => S.fresh h (S.sd p z)
theorem RepS.add {p : Addr} {so : SO} (S : RepS K H ρ st) (g : Grow H ρ H' (ρ.add p)) (h : H p = none) (e : ∀ a ∈ ρ.l, H' a = H a) (r : RepO K H' (ρ.add p) so p) : RepS K H' (ρ.add p) (st ++ [so]) := by
  refine ⟨by simp [Rho.add, S.len], ?_, fun n so' hn => ?_, fun n so' a hn hg ha => ?_, fun a ha => List.mem_append_left _ (S.sd a ha)⟩
  · exact List.nodup_append.mpr ⟨S.nd, by simp, fun a ha b hb => by simp at hb; subst hb; exact fun e => S.fresh h (by rw [← e]; exact ha)⟩
  · by_cases hl : n < st.length
    · rw [List.getElem?_append_left hl] at hn
      obtain ⟨a, h1, h2⟩ := S.at_ n so' hn
      exact ⟨a, g.ix h1, h2.grow S g (e a (List.mem_of_getElem? h1))⟩
    · have e : n = st.length := by
        have := (List.getElem?_eq_some_iff.mp hn).1
        simp at this; omega
      subst e
      rw [List.getElem?_append_right (Nat.le_refl _)] at hn
      simp at hn; subst hn
      exact ⟨p, by show (ρ.l ++ [p])[st.length]? = some p; rw [← S.len, List.getElem?_append_right (Nat.le_refl _)]; simp, r⟩
  · by_cases hl : n < st.length
    · rw [List.getElem?_append_left hl] at hn
      exact S.lv n so' a hn hg (by rw [← ha]; show ρ.l[n]? = (ρ.l ++ [p])[n]?; rw [List.getElem?_append_left (by rw [S.len]; exact hl)])
    · have e : n = st.length := by
        have := (List.getElem?_eq_some_iff.mp hn).1
        simp at this; omega
      subst e
      have ha' : (ρ.l ++ [p])[st.length]? = some a := ha
      rw [← S.len, List.getElem?_append_right (Nat.le_refl _)] at ha'
      simp at ha'; subst ha'
      exact S.nodead h
theorem RepS.alloc {p : Addr} {o : HO} {so : SO} (S : RepS K H ρ st) (h : H p = none) (r : RepO K (upd H p o) (ρ.add p) so p) : RepS K (upd H p o) (ρ.add p) (st ++ [so]) :=
  S.add (grow_alloc h) h (fun a ha => upd_ne fun e => S.fresh h (by rw [← e]; exact ha)) r
theorem RepS.write {p : Addr} {o u : HO} {so : SO} {n : Nat} (S : RepS K H ρ st) (hn : ρ.l[n]? = some p) (nd : p ∉ ρ.d) (h : H p = some u) (r : RepO K (upd H p o) ρ so p) : RepS K (upd H p o) ρ (st.set n so) := by
  have g : Grow H ρ (upd H p o) ρ := grow_write h (List.mem_of_getElem? hn) nd
  refine ⟨by simpa using S.len, S.nd, fun m so' hm => ?_, fun m so' a hm hg ha => ?_, S.sd⟩
  · by_cases e : n = m
    · subst e
      have hl : n < st.length := by have := (List.getElem?_eq_some_iff.mp hn).1; rw [S.len] at this; exact this
      rw [List.getElem?_set_self hl] at hm; cases hm
      exact ⟨p, hn, r⟩
    · rw [List.getElem?_set_ne e] at hm
      obtain ⟨a, h1, h2⟩ := S.at_ m so' hm
      refine ⟨a, h1, h2.grow S g (upd_ne fun z => e ?_)⟩
      subst z
      obtain ⟨l1, e1⟩ := List.getElem?_eq_some_iff.mp hn
      obtain ⟨l2, e2⟩ := List.getElem?_eq_some_iff.mp h1
      exact (List.getElem_inj S.nd).mp (e1.trans e2.symm)
  · by_cases e : n = m
    · subst e
      rw [hn] at ha; cases ha
      exact nd
    · rw [List.getElem?_set_ne e] at hm
      exact S.lv m so' a hm hg ha
/-- a list is let go: nobody writes it from now on -/
theorem grow_die {p : Addr} : Grow H ρ H ⟨ρ.l, p :: ρ.d⟩ := ⟨⟨[], by simp, fun _ h => by simp at h⟩, fun _ h => List.mem_cons_of_mem _ h, fun _ _ _ _ h => h, fun _ h => h, fun _ _ _ _ h => h⟩
theorem RepS.die {p : Addr} {n : Nat} {so : SO} (S : RepS K H ρ st) (hn : ρ.l[n]? = some p) (hs : st[n]? = some so) (hk : RepO K H ρ .gone p) : RepS K H ⟨ρ.l, p :: ρ.d⟩ (st.set n .gone) := by
  have g : Grow H ρ H ⟨ρ.l, p :: ρ.d⟩ := grow_die
  refine ⟨by simpa using S.len, S.nd, fun m so' hm => ?_, fun m so' a hm hg ha => ?_, fun a ha => ?_⟩
  · by_cases e : n = m
    · subst e
      have hl : n < st.length := (List.getElem?_eq_some_iff.mp hs).1
      rw [List.getElem?_set_self hl] at hm; cases hm
      exact ⟨p, hn, hk⟩
    · rw [List.getElem?_set_ne e] at hm
      obtain ⟨a, h1, h2⟩ := S.at_ m so' hm
      exact ⟨a, h1, h2.grow S g rfl⟩
  · by_cases e : n = m
    · subst e
      have hl : n < st.length := (List.getElem?_eq_some_iff.mp hs).1
      rw [List.getElem?_set_self hl] at hm; cases hm
      exact absurd rfl hg
    · rw [List.getElem?_set_ne e] at hm
      refine fun z => ?_
      rcases List.mem_cons.mp z with z | z
      · subst z
        obtain ⟨l1, e1⟩ := List.getElem?_eq_some_iff.mp hn
        obtain ⟨l2, e2⟩ := List.getElem?_eq_some_iff.mp (show ρ.l[m]? = some a from ha)
        exact e ((List.getElem_inj S.nd).mp (e1.trans e2.symm))
      · exact S.lv m so' a hm hg ha z
  · rcases List.mem_cons.mp ha with z | z
    · subst z; exact List.mem_of_getElem? hn
    · exact S.sd a z
theorem RepS.dead {p : Addr} {n : Nat} {xs : List PV} (S : RepS K H ρ st) (hn : ρ.l[n]? = some p) (hs : st[n]? = some (.lst xs)) : Rep K H ⟨ρ.l, p :: ρ.d⟩ (.frz xs) (.ref p) := by
  obtain ⟨a, h1, vs, h2, h3⟩ := S.at_ n _ hs
  rw [hn] at h1; cases h1
  unfold Rep
  exact ⟨p, vs, rfl, .inl ⟨.of h2, .inr (List.mem_cons_self ..)⟩, Reps.grow S grow_die _ _ h3⟩
theorem RepK.vals : ∀ {xs : List (Key × PV)} {vs : List (Key × V)}, RepK K H ρ xs vs → Reps K H ρ (xs.map (·.2)) (vs.map (·.2)) ∧ vs.map (·.1) = xs.map (·.1)
  | [], vs, h => by subst h; exact ⟨by unfold Reps; rfl, rfl⟩
  | x :: xs, vs, h => by
    obtain ⟨v, r, rfl, h1, h2⟩ := h
    obtain ⟨a, b⟩ := RepK.vals h2
    refine ⟨?_, by simp [b]⟩
    rw [List.map_cons, List.map_cons]
    unfold Reps
    exact ⟨v, _, rfl, h1, a⟩
theorem RepS.deadK {p : Addr} {n : Nat} {xs : List (Key × PV)} (S : RepS K H ρ st) (hn : ρ.l[n]? = some p) (hs : st[n]? = some (.dK xs)) : Rep K H ⟨ρ.l, p :: ρ.d⟩ (.fdk (xs.map (·.1)) (xs.map (·.2))) (.ref p) := by
  obtain ⟨a, h1, vs, h2, h3⟩ := S.at_ n _ hs
  rw [hn] at h1; cases h1
  obtain ⟨h4, h5⟩ := h3.vals
  unfold Rep
  exact ⟨p, _, rfl, ⟨vs, .of h2, .inr (List.mem_cons_self ..), h5, rfl⟩, Reps.grow S grow_die _ _ h4⟩
/-- what stands at a number -/
theorem RepS.lst (S : RepS K H ρ st) {n : Nat} {v : V} {xs : List PV} (R : Rep K H ρ (.ref n) v) (e : st[n]? = some (.lst xs)) : ∃ a vs, v = .ref a ∧ ρ.l[n]? = some a ∧ a ∉ ρ.d ∧ H a = some (.lst vs) ∧ Reps K H ρ xs vs := by
  unfold Rep at R
  obtain ⟨a, rfl, i1⟩ := R
  obtain ⟨b, hb, vs, h1, h2⟩ := S.at_ _ _ e
  rw [i1] at hb; cases hb
  exact ⟨a, vs, rfl, i1, S.lv n _ a e (by simp) i1, h1, h2⟩
theorem RepS.dct (S : RepS K H ρ st) {n : Nat} {v : V} {xs : List (Key × PV)} (R : Rep K H ρ (.ref n) v) (e : st[n]? = some (.dK xs)) : ∃ a vs, v = .ref a ∧ ρ.l[n]? = some a ∧ a ∉ ρ.d ∧ H a = some (.dK vs) ∧ RepK K H ρ xs vs := by
  unfold Rep at R
  obtain ⟨a, rfl, i1⟩ := R
  obtain ⟨b, hb, vs, h1, h2⟩ := S.at_ _ _ e
  rw [i1] at hb; cases hb
  exact ⟨a, vs, rfl, i1, S.lv n _ a e (by simp) i1, h1, h2⟩
theorem RepS.inst (S : RepS K H ρ st) {n : Nat} {v : V} {c : Str} {fs : List (Str × PV)} (R : Rep K H ρ (.ref n) v) (e : st[n]? = some (.ins c fs)) : ∃ a C dx vs, v = .ref a ∧ ρ.l[n]? = some a ∧ a ∉ ρ.d ∧ ClsAt K c C ∧ H a = some (.ins C dx vs) ∧ RepF K H ρ fs vs := by
  unfold Rep at R
  obtain ⟨a, rfl, i1⟩ := R
  obtain ⟨b, hb, C, dx, vs, hc, h1, h2⟩ := S.at_ _ _ e
  rw [i1] at hb; cases hb
  exact ⟨a, C, dx, vs, rfl, i1, S.lv n _ a e (by simp) i1, hc, h1, h2⟩
theorem ClsAt.uniq {c : Str} {C C' : Addr} (h : ClsAt K c C) (h' : ClsAt K c C') : C = C' := by
  unfold ClsAt at h h'
  rw [h] at h'
  simpa using h'
/-! ### a dict that is walked is locked -/
theorem SqT.rdk (g : ∀ a u, NF u → Rd H a u → Rd H' a u) {a : Addr} {vs : List V} (h : SqT K H a vs) : SqT K H' a vs := by
  rcases h with h | h
  · exact .inl (g _ _ trivial h)
  · exact .inr h
theorem FrzAt.rdk (g : ∀ a u, NF u → Rd H a u → Rd H' a u) {a : Addr} {vs : List V} (h : FrzAt K H ρ a vs) : FrzAt K H' ρ a vs := by
  rcases h with ⟨h, n⟩ | h
  · exact .inl ⟨g _ _ trivial h, n⟩
  · exact .inr h
theorem FdkAt.rdk (g : ∀ a u, NF u → Rd H a u → Rd H' a u) {a : Addr} {ks : List Key} {vs : List V} (h : FdkAt H ρ a ks vs) : FdkAt H' ρ a ks vs := by
  obtain ⟨kvs, h, r⟩ := h
  exact ⟨kvs, g _ _ trivial h, r⟩
mutual
theorem Rep.rdk (g : ∀ a u, NF u → Rd H a u → Rd H' a u) : ∀ (x : PV) (v : V), Rep K H ρ x v → Rep K H' ρ x v
  | .non, v, h => by unfold Rep at *; exact h
  | .bl b, v, h => by unfold Rep at *; exact h
  | .int i, v, h => by unfold Rep at *; exact h
  | .str x, v, h => by unfold Rep at *; exact h
  | .ty x, v, h => by unfold Rep at *; exact h
  | .ref x, v, h => by unfold Rep at *; exact h
  | .tup xs, v, h => by
    unfold Rep at *
    obtain ⟨a, vs, e, h1, h2⟩ := h
    exact ⟨a, vs, e, SqT.rdk g h1, Reps.rdk g xs vs h2⟩
  | .frz xs, v, h => by
    unfold Rep at *
    obtain ⟨a, vs, e, h1, h2⟩ := h
    exact ⟨a, vs, e, h1.rdk g, Reps.rdk g xs vs h2⟩
  | .fdk ks xs, v, h => by
    unfold Rep at *
    obtain ⟨a, vs, e, h1, h2⟩ := h
    exact ⟨a, vs, e, h1.rdk g, Reps.rdk g xs vs h2⟩
theorem Reps.rdk (g : ∀ a u, NF u → Rd H a u → Rd H' a u) : ∀ (xs : List PV) (vs : List V), Reps K H ρ xs vs → Reps K H' ρ xs vs
  | [], vs, h => by unfold Reps at *; exact h
  | x :: xs, vs, h => by
    unfold Reps at *
    obtain ⟨v, r, e, h1, h2⟩ := h
    exact ⟨v, r, e, Rep.rdk g x v h1, Reps.rdk g xs r h2⟩
end
theorem RepK.rdk (g : ∀ a u, NF u → Rd H a u → Rd H' a u) : ∀ (xs : List (Key × PV)) (vs : List (Key × V)), RepK K H ρ xs vs → RepK K H' ρ xs vs
  | [], vs, h => h
  | x :: xs, vs, h => by
    obtain ⟨v, r, e, h1, h2⟩ := h
    exact ⟨v, r, e, Rep.rdk g _ _ h1, RepK.rdk g xs r h2⟩
theorem RepF.rdk (g : ∀ a u, NF u → Rd H a u → Rd H' a u) : ∀ (xs : List (Str × PV)) (vs : List (Str × V)), RepF K H ρ xs vs → RepF K H' ρ xs vs
  | [], vs, h => h
  | x :: xs, vs, h => by
    obtain ⟨v, r, e, h1, h2⟩ := h
    exact ⟨v, r, e, Rep.rdk g _ _ h1, RepF.rdk g xs r h2⟩
theorem RepE.rdk (g : ∀ a u, NF u → Rd H a u → Rd H' a u) (E : RepE K H ρ env σ) : RepE K H' ρ env σ :=
  ⟨E.len, fun i x h => by
    obtain ⟨v, a, b⟩ := E.at_ i x h
    exact ⟨v, a, Rep.rdk g x v b⟩⟩
/-- what is read as u at a, locked or not -/
theorem RepS.rdk (S : RepS K H ρ st) (g : ∀ a u, NF u → Rd H a u → Rd H' a u) {d : Addr} (sd : ρ.Safe d) (e : ∀ a, a ≠ d → H' a = H a) : RepS K H' ρ st := by
  refine ⟨S.len, S.nd, fun n so h => ?_, S.lv, S.sd⟩
  obtain ⟨a, h1, h2⟩ := S.at_ n so h
  refine ⟨a, h1, ?_⟩
  by_cases hg : so = .gone
  · subst hg
    rcases h2 with ⟨vs, h2⟩ | ⟨vs, h2⟩
    · exact .inl ⟨vs, g _ _ trivial h2⟩
    · exact .inr ⟨vs, g _ _ trivial h2⟩
  · have ha : a ≠ d := fun z => by
      subst z
      rcases sd with sd | sd
      · exact sd (List.mem_of_getElem? h1)
      · exact S.lv n so a h hg h1 sd
    cases so with
    | lst xs => obtain ⟨vs, h3, h4⟩ := h2; exact ⟨vs, by rw [e a ha]; exact h3, Reps.rdk g _ _ h4⟩
    | dK xs => obtain ⟨vs, h3, h4⟩ := h2; exact ⟨vs, by rw [e a ha]; exact h3, RepK.rdk g _ _ h4⟩
    | ins c xs => obtain ⟨C, dx, vs, hc, h3, h4⟩ := h2; exact ⟨C, dx, vs, hc, by rw [e a ha]; exact h3, RepF.rdk g _ _ h4⟩
    | gone => exact absurd rfl hg
end
end IL

namespace IL
open PySem PySem.Spec PyProof.Rows L2

/-! ### what is computed, by plain functions -/
def ob {α β : Type} (m : Option (α × Sto)) (k : α → Sto → Option β) : Option β := match m with
  | some (a, s) => k a s
  | none => none
theorem ob_some {α β : Type} {m : Option (α × Sto)} {k : α → Sto → Option β} {r : β} (h : ob m k = some r) : ∃ a s, m = some (a, s) ∧ k a s = some r := by
  unfold ob at h
  split at h
  · exact ⟨_, _, rfl, h⟩
  · cases h
abbrev IE := PEnv → Sto → Option (PV × Sto)
abbrev IA := PEnv → Sto → Option (List PV × Sto)
abbrev IT := PEnv → Sto → Option (Bool × Sto)
abbrev IO := PEnv → Sto → Option (Option Int × Sto)
inductive Fl where
  | nx (e : PEnv) (s : Sto) | rt (v : PV) (s : Sto) | bk (e : PEnv) (s : Sto) | ct (e : PEnv) (s : Sto)
  /-- an exception of the program's class of that name, with its fields -/
  | er (e : PEnv) (c : Str) (fs : List (Str × PV)) (s : Sto)
abbrev IS := PEnv → Sto → Option Fl
/-- operations on values -/
abbrev F1 := PV → Sto → Option (PV × Sto)
abbrev F2 := PV → PV → Sto → Option (PV × Sto)
abbrev FA := List PV → Sto → Option (PV × Sto)

section
variable (K : PySem.W.Frag)
def tI (i : IE) : TE := fun σ H Q => ∃ env st ρ x st', RepE K H ρ env σ ∧ RepS K H ρ st ∧ i env st = some (x, st') ∧ ∀ v H' ρ', Grow H ρ H' ρ' → RepS K H' ρ' st' → Rep K H' ρ' x v → Q v H'
def tIA (i : IA) : TA := fun σ H Q => ∃ env st ρ x st', RepE K H ρ env σ ∧ RepS K H ρ st ∧ i env st = some (x, st') ∧ ∀ v H' ρ', Grow H ρ H' ρ' → RepS K H' ρ' st' → Reps K H' ρ' x v → Q v H'
def tIT (i : IT) : TT := fun σ H Q => ∃ env st ρ x st', RepE K H ρ env σ ∧ RepS K H ρ st ∧ i env st = some (x, st') ∧ ∀ H' ρ', Grow H ρ H' ρ' → RepS K H' ρ' st' → Q x H'
def tIO (i : IO) : TO := fun σ H Q => ∃ env st ρ x st', RepE K H ρ env σ ∧ RepS K H ρ st ∧ i env st = some (x, st') ∧ ∀ H' ρ', Grow H ρ H' ρ' → RepS K H' ρ' st' → Q x H'
def PostF (W : WX) (D : Ends) (H : Hp) (ρ : Rho) : Fl → Prop
  | .nx e s => ∀ σ' H' ρ', Grow H ρ H' ρ' → RepS K H' ρ' s → RepE K H' ρ' e σ' → D.nx σ' H'
  | .bk e s => ∀ σ' H' ρ', Grow H ρ H' ρ' → RepS K H' ρ' s → RepE K H' ρ' e σ' → D.bk σ' H'
  | .ct e s => ∀ σ' H' ρ', Grow H ρ H' ρ' → RepS K H' ρ' s → RepE K H' ρ' e σ' → D.ct σ' H'
  | .rt x s => ∀ v H' ρ', Grow H ρ H' ρ' → RepS K H' ρ' s → Rep K H' ρ' x v → D.rt v H'
  | .er e c fs s => ∀ C d σ' H' ρ' vs, ClsAt K c C → Grow H ρ H' ρ' → RepS K H' ρ' s → RepE K H' ρ' e σ' → RepF K H' ρ' fs vs → H' d = some (.xd vs) → W (.ref C) (some d) σ' H'
def tIS (W : WX) (i : IS) : TS := fun D σ H => ∃ env st ρ f, RepE K H ρ env σ ∧ RepS K H ρ st ∧ i env st = some f ∧ PostF K W D H ρ f
/-- an operation's reading does what the function does -/
def OpI (r : R2) (f : F2) : Prop := ∀ H ρ st x y vx vy z st' (Q : VK), RepS K H ρ st → Rep K H ρ x vx → Rep K H ρ y vy → f x y st = some (z, st') → (∀ v H' ρ', Grow H ρ H' ρ' → RepS K H' ρ' st' → Rep K H' ρ' z v → Q v H') → r vx vy H Q
def UnI (r : V → Hp → VK → Prop) (f : F1) : Prop := ∀ H ρ st x vx z st' (Q : VK), RepS K H ρ st → Rep K H ρ x vx → f x st = some (z, st') → (∀ v H' ρ', Grow H ρ H' ρ' → RepS K H' ρ' st' → Rep K H' ρ' z v → Q v H') → r vx H Q
def CallI (r : List V → Hp → VK → Prop) (f : FA) : Prop := ∀ H ρ st xs vs z st' (Q : VK), RepS K H ρ st → Reps K H ρ xs vs → f xs st = some (z, st') → (∀ v H' ρ', Grow H ρ H' ρ' → RepS K H' ρ' st' → Rep K H' ρ' z v → Q v H') → r vs H Q
end
section
variable {X : Cx} {e : Expr}
theorem PE.imp {t t' : TE} (h : PE X e t) (m : ∀ σ H Q, t' σ H Q → t σ H Q) : PE X e t' := ⟨fun pins s σ H Q I q => h.run pins s σ H Q I (m σ H Q q)⟩
theorem PT.imp {t t' : TT} (h : PT X e t) (m : ∀ σ H Q, t' σ H Q → t σ H Q) : PT X e t' := ⟨fun pins s σ H Q I q => h.run pins s σ H Q I (m σ H Q q)⟩
theorem PA.imp {es : List Expr} {t t' : TA} (h : PA X es t) (m : ∀ σ H Q, t' σ H Q → t σ H Q) : PA X es t' := ⟨fun pos pins s σ H Q I q => h.run pos pins s σ H Q I (m σ H Q q)⟩
theorem PO.imp {e : Option Expr} {t t' : TO} (h : PO X e t) (m : ∀ σ H Q, t' σ H Q → t σ H Q) : PO X e t' := ⟨fun pins s σ H Q I q => h.run pins s σ H Q I (m σ H Q q)⟩
theorem PS.imp {st : Stmt} {t t' : TS} (h : PS X st t) (m : ∀ D σ H, t' D σ H → t D σ H) : PS X st t' := ⟨fun pins s σ H D I q => h.run pins s σ H D I (m D σ H q)⟩
theorem PSs.imp {st : List Stmt} {t t' : TS} (h : PSs X st t) (m : ∀ D σ H, t' D σ H → t D σ H) : PSs X st t' := ⟨fun pins s σ H D I q => h.run pins s σ H D I (m D σ H q)⟩
theorem OpR.or {f : Value → Value → Sem Value} {r r' : R2} (h : OpR X f r) (h' : OpR X f r') : OpR X f (fun x y H Q => r x y H Q ∨ r' x y H Q) := fun pins s σ H x y v u Q I rx ry q =>
  q.elim (h pins s σ H x y v u Q I rx ry) (h' pins s σ H x y v u Q I rx ry)
theorem CallR.or {f : Value} {r r' : List V → Hp → VK → Prop} (h : CallR X f r) (h' : CallR X f r') : CallR X f (fun x H Q => r x H Q ∨ r' x H Q) := fun pins s σ H xs us Q I rx q =>
  q.elim (h pins s σ H xs us Q I rx) (h' pins s σ H xs us Q I rx)
theorem SlR.or {r r' : V → Option Int → Option Int → Hp → VK → Prop} (h : SlR X r) (h' : SlR X r') : SlR X (fun x a b H Q => r x a b H Q ∨ r' x a b H Q) := fun pins s σ H x v vl vu lo hi sl Q I rx hs pl pu q =>
  q.elim (h pins s σ H x v vl vu lo hi sl Q I rx hs pl pu) (h' pins s σ H x v vl vu lo hi sl Q I rx hs pl pu)
end

section
variable {X : Cx} {a b c e : Expr} {es rest : List Expr} {pos : Pos} {ia ib ic : IE} {ta tb : IT}
/-! ### names, constants -/
def iVar (i : Nat) : IE := fun env st => match env[i]? with
  | some (some v) => some (v, st)
  | _ => none
theorem r_var {i : Nat} {x : Str} (hN : X.N[i]? = some x) (hv : Vis X.env.scope x) (hd : (x == ("__debug__" : Str)) = false := by decide) (hcd : (x == ("__classdict__" : Str)) = false := by decide) : PE X (.Name x pos) (tI X.K (iVar i)) :=
  PE.imp (pe_var hN hv hd hcd) fun σ H Q ⟨env, st, ρ, x, st', E, S, h, q⟩ => by
    unfold iVar at h
    split at h
    · rename_i v e
      cases h
      obtain ⟨w, h1, h2⟩ := E.at_ i _ e
      exact ⟨w, h1, q w H ρ Grow.refl S h2⟩
    · cases h
def iC (v : PV) : IE := fun _ st => some (v, st)
theorem r_c {x : PV} {v : V} (h : PE X e (tC v)) (r : ∀ H ρ, Rep X.K H ρ x v) : PE X e (tI X.K (iC x)) := PE.imp h fun σ H Q ⟨env, st, ρ, y, st', E, S, h, q⟩ => by
  cases h
  exact q v H ρ Grow.refl S (r H ρ)
theorem r_int {i j} : PE X (.Constant (.int i) j pos) (tI X.K (iC (.int i))) := r_c pe_int fun _ _ => by unfold Rep; rfl
theorem r_bl {i j} : PE X (.Constant (.bool i) j pos) (tI X.K (iC (.bl i))) := r_c pe_bl fun _ _ => by unfold Rep; rfl
theorem r_non {j} : PE X (.Constant .none j pos) (tI X.K (iC .non)) := r_c pe_non fun _ _ => by unfold Rep; rfl
theorem r_str {i j} : PE X (.Constant (.str i) j pos) (tI X.K (iC (.str i))) := r_c pe_str fun _ _ => by unfold Rep; rfl
/-- a module's constant -/
def GC (K : PySem.W.Frag) (mg : Str → Option Value) (x : Str) (y : PV) : Prop := ∃ u v, mg x = some u ∧ RelV v u ∧ ∀ H ρ, Rep K H ρ y v
theorem r_glob {x : Str} {y : PV} (hg : Gl X x) (h : GC X.K X.mg x y) (hd : (x == ("__debug__" : Str)) = false := by decide) : PE X (.Name x pos) (tI X.K (iC y)) := by
  obtain ⟨u, v, h1, h2, h3⟩ := h
  exact r_c (pe_glob hg h1 h2 hd) h3
/-- a built-in class as a value -/
theorem r_ty {x : Str} {n : String} (hg : Gl X x) (hm : X.mg x = none) (hv : bootBuiltins x = some (.type n)) (hn : x ≠ "__name__" := by decide) (hd : (x == ("__debug__" : Str)) = false := by decide) : PE X (.Name x pos) (tI X.K (iC (.ty n))) :=
  r_c (pe_bltn (v := .ty n) hg hm hv rfl hn hd) fun _ _ => by unfold Rep; rfl

/-! ### two in a row -/
def iBin (f : F2) (ia ib : IE) : IE := fun env st => ob (ia env st) fun x s1 => ob (ib env s1) fun y s2 => f x y s2
def iUn (f : F1) (ia : IE) : IE := fun env st => ob (ia env st) fun x s1 => f x s1
theorem bin_to {r : R2} {f : F2} {K : PySem.W.Frag} (hf : OpI K r f) {σ : L2.St} {H : Hp} {Q : VK} (h : tI K (iBin f ia ib) σ H Q) : tOp r (tI K ia) (tI K ib) σ H Q := by
  obtain ⟨env, st, ρ, z, st', E, S, h, q⟩ := h
  obtain ⟨x, s1, h1, h⟩ := ob_some h
  obtain ⟨y, s2, h2, h⟩ := ob_some h
  refine ⟨env, st, ρ, x, s1, E, S, h1, fun vx H1 ρ1 G1 S1 R1 => ⟨env, s1, ρ1, y, s2, E.grow S G1, S1, h2, fun vy H2 ρ2 G2 S2 R2 => ?_⟩⟩
  exact hf H2 ρ2 s2 x y vx vy z st' Q S2 (Rep.grow S1 G2 _ _ R1) R2 h fun v H3 ρ3 G3 S3 R3 => q v H3 ρ3 ((G1.trans G2).trans G3) S3 R3
theorem r_op {op : Operator} {r : R2} {f : F2} (ho : OpR X (binaryOp op) r) (hf : OpI X.K r f) (ha : PE X a (tI X.K ia)) (hb : PE X b (tI X.K ib)) : PE X (.BinOp a op b pos) (tI X.K (iBin f ia ib)) :=
  PE.imp (pe_op ho ha hb) fun _ _ _ h => bin_to hf h
theorem r_cmp {op : CmpOp} {r : R2} {f : F2} (ho : OpR X (compareOp op) r) (hf : OpI X.K r f) (ha : PE X a (tI X.K ia)) (hb : PE X b (tI X.K ib)) (hm : behindInMarks op b = false) : PE X (.Compare a [op] [b] pos) (tI X.K (iBin f ia ib)) :=
  PE.imp (pe_cmpR ho ha hb hm) fun _ _ _ h => bin_to hf h
theorem r_ix {r : R2} {f : F2} (ho : IxR X r) (hf : OpI X.K r f) (ha : PE X a (tI X.K ia)) (hb : PE X b (tI X.K ib)) (hs : PlainIx b) : PE X (.Subscript a b pos) (tI X.K (iBin f ia ib)) :=
  PE.imp (pe_ix ho ha hb hs) fun _ _ _ h => bin_to hf h
theorem r_un {op : UnaryOp} {r : V → Hp → VK → Prop} {f : F1} (ho : UnR X (unaryOp op) r) (hf : UnI X.K r f) (ha : PE X a (tI X.K ia)) : PE X (.UnaryOp op a pos) (tI X.K (iUn f ia)) :=
  PE.imp (pe_un ho ha) fun σ H Q ⟨env, st, ρ, z, st', E, S, h, q⟩ => by
    obtain ⟨x, s1, h1, h⟩ := ob_some h
    exact ⟨env, st, ρ, x, s1, E, S, h1, fun vx H1 ρ1 G1 S1 R1 => hf H1 ρ1 s1 x vx z st' Q S1 R1 h fun v H3 ρ3 G3 S3 R3 => q v H3 ρ3 (G1.trans G3) S3 R3⟩
/-- a chain of two comparisons -/
def iChain (f g : F2) (ia ib ic : IE) : IE := fun env st => ob (ia env st) fun x s1 => ob (ib env s1) fun y s2 => ob (f x y s2) fun z s3 => match z with
  | .bl true => ob (ic env s3) fun w s4 => g y w s4
  | .bl false => some (.bl false, s3)
  | _ => none
theorem r_chain {op op' : CmpOp} {r r' : R2} {f g : F2} (ho : OpR X (compareOp op) r) (hf : OpI X.K r f) (ho' : OpR X (compareOp op') r') (hg : OpI X.K r' g) (ha : PE X a (tI X.K ia)) (hb : PE X b (tI X.K ib)) (hc : PE X c (tI X.K ic))
    (hm : lastMarks [op, op'] [b, c] = false := by with_unfolding_all rfl) : PE X (.Compare a [op, op'] [b, c] pos) (tI X.K (iChain f g ia ib ic)) :=
  PE.imp (pe_chain ho ho' ha hb hc hm) fun σ H Q ⟨env, st, ρ, z, st', E, S, h, q⟩ => by
    obtain ⟨x, s1, h1, h⟩ := ob_some h
    obtain ⟨y, s2, h2, h⟩ := ob_some h
    obtain ⟨w, s3, h3, h⟩ := ob_some h
    refine ⟨env, st, ρ, x, s1, E, S, h1, fun vx H1 ρ1 G1 S1 R1 => ⟨env, s1, ρ1, y, s2, E.grow S G1, S1, h2, fun vy H2 ρ2 G2 S2 R2 => ?_⟩⟩
    refine hf H2 ρ2 s2 x y vx vy w s3 _ S2 (Rep.grow S1 G2 _ _ R1) R2 h3 fun v H3 ρ3 G3 S3 R3 => ?_
    split at h
    · unfold Rep at R3
      subst R3
      obtain ⟨w, s4, h4, h⟩ := ob_some h
      refine ⟨true, rfl, ?_⟩
      rw [if_pos rfl]
      refine ⟨env, s3, ρ3, w, s4, ((E.grow S G1).grow S1 G2).grow S2 G3, S3, h4, fun vw H4 ρ4 G4 S4 R4 => ?_⟩
      exact hg H4 ρ4 s4 y w vy vw z st' Q S4 (Rep.grow S3 G4 _ _ (Rep.grow S2 G3 _ _ R2)) R4 h fun v H5 ρ5 G5 S5 R5 => q v H5 ρ5 ((((G1.trans G2).trans G3).trans G4).trans G5) S5 R5
    · unfold Rep at R3
      subst R3
      cases h
      refine ⟨false, rfl, ?_⟩
      rw [if_neg Bool.false_ne_true]
      exact q _ H3 ρ3 ((G1.trans G2).trans G3) S3 (by unfold Rep; rfl)
    · cases h

/-! ### truth -/
def tru (st : Sto) : PV → Option Bool
  | .non => some false
  | .bl b => some b
  | .int i => some (i != 0)
  | .str x => if x.length ≤ 9000000 then some ((x.length : Int) != 0) else none
  | .tup xs => some (!xs.isEmpty)
  | .frz xs => some (!xs.isEmpty)
  | .ref n => match st[n]? with
    | some (.lst xs) => some (!xs.isEmpty)
    | some (.dK kvs) => some (!kvs.isEmpty)
    | _ => none
  | .ty _ => none
  | .fdk _ _ => none
theorem line5 {n : Nat} (h : n ≤ 9000000) : n ≤ sizeLine := Nat.le_trans h (by decide)
theorem Reps.empty {K : PySem.W.Frag} {H : Hp} {ρ : Rho} {xs : List PV} {vs : List V} (h : Reps K H ρ xs vs) : vs.isEmpty = xs.isEmpty := by
  have := h.length
  cases xs <;> cases vs <;> simp_all
theorem RepK.length {K : PySem.W.Frag} {H : Hp} {ρ : Rho} : ∀ {xs : List (Key × PV)} {vs : List (Key × V)}, RepK K H ρ xs vs → xs.length = vs.length
  | [], vs, h => by subst h; rfl
  | x :: xs, vs, h => by
    obtain ⟨v, r, rfl, _, h2⟩ := h
    simp [RepK.length h2]
theorem RepK.empty {K : PySem.W.Frag} {H : Hp} {ρ : Rho} {xs : List (Key × PV)} {vs : List (Key × V)} (h : RepK K H ρ xs vs) : vs.isEmpty = xs.isEmpty := by
  have := h.length
  cases xs <;> cases vs <;> simp_all
theorem tru_rep {K : PySem.W.Frag} {H : Hp} {ρ : Rho} {st : Sto} (S : RepS K H ρ st) {x : PV} {v : V} {k : Bool} (R : Rep K H ρ x v) (h : tru st x = some k) : TruV K v H k := by
  cases x with
  | non => unfold Rep at R; subst R; cases h; rfl
  | bl b => unfold Rep at R; subst R; cases h; rfl
  | int i => unfold Rep at R; subst R; cases h; rfl
  | str y =>
    unfold Rep at R; subst R
    simp only [tru] at h
    split at h
    · cases h; exact ⟨line5 (by assumption), rfl⟩
    · cases h
  | tup xs =>
    unfold Rep at R
    obtain ⟨a, vs, rfl, h1, h2⟩ := R
    cases h
    exact .inr (.inl ⟨vs, h1, by rw [h2.empty]⟩)
  | frz xs =>
    unfold Rep at R
    obtain ⟨a, vs, rfl, h1, h2⟩ := R
    cases h
    exact .inl ⟨vs, h1.sq, by rw [h2.empty]⟩
  | ty n => cases h
  | fdk ks xs => cases h
  | ref n =>
    simp only [tru] at h
    split at h
    · rename_i xs e
      obtain ⟨a, vs, rfl, _, _, h2, h3⟩ := S.lst R e
      cases h
      exact .inl ⟨vs, .of h2, by rw [h3.empty]⟩
    · rename_i xs e
      obtain ⟨a, vs, rfl, _, _, h2, h3⟩ := S.dct R e
      cases h
      exact .inr (.inr ⟨vs, h2, by rw [h3.empty]⟩)
    · cases h
def iTest (ia : IE) : IT := fun env st => ob (ia env st) fun x s1 => (tru s1 x).map fun k => (k, s1)
theorem map_pair {α : Type} {o : Option α} {s : Sto} {r : α × Sto} (h : (o.map fun k => (k, s)) = some r) : o = some r.1 ∧ r.2 = s := by
  cases o with
  | none => cases h
  | some k => cases h; exact ⟨rfl, rfl⟩
theorem r_truth (ha : PE X a (tI X.K ia)) (he : ∀ whole, isTrue a X.env whole = (do let v ← whole; standAt a.pos; holding [v] (truthy v))) : PT X a (tIT X.K (iTest ia)) :=
  PT.imp (pt_truth ha he) fun σ H Q ⟨env, st, ρ, z, st', E, S, h, q⟩ => by
    obtain ⟨x, s1, h1, h⟩ := ob_some h
    obtain ⟨h2, h3⟩ := map_pair h
    simp only at h2 h3
    subst h3
    exact ⟨env, st, ρ, x, _, E, S, h1, fun v H1 ρ1 G1 S1 R1 => ⟨z, tru_rep S1 R1 h2, q H1 ρ1 G1 S1⟩⟩
/-- a comparison as a test -/
def isBl : PV → Option Bool
  | .bl b => some b
  | _ => none
def iTestB (ia : IE) : IT := fun env st => ob (ia env st) fun x s1 => (isBl x).map fun k => (k, s1)
theorem testB_to {K : PySem.W.Frag} {σ : L2.St} {H : Hp} {Q : Bool → Hp → Prop} (h : tIT K (iTestB ia) σ H Q) : tTest (tI K ia) σ H Q := by
  obtain ⟨env, st, ρ, z, st', E, S, h, q⟩ := h
  obtain ⟨x, s1, h1, h⟩ := ob_some h
  obtain ⟨h2, h3⟩ := map_pair h
  simp only at h2 h3
  subst h3
  refine ⟨env, st, ρ, x, _, E, S, h1, fun v H1 ρ1 G1 S1 R1 => ?_⟩
  cases x <;> simp only [isBl, Option.some.injEq, reduceCtorEq] at h2
  subst h2
  unfold Rep at R1
  exact ⟨_, R1, q H1 ρ1 G1 S1⟩
theorem TE_test_mono {t t' : TE} (m : ∀ σ H Q, t' σ H Q → t σ H Q) {σ : L2.St} {H : Hp} {Q : Bool → Hp → Prop} (h : tTest t' σ H Q) : tTest t σ H Q := m _ _ _ h
theorem r_cmpT {op : CmpOp} {r : R2} {f : F2} (ho : OpR X (compareOp op) r) (hf : OpI X.K r f) (ha : PE X a (tI X.K ia)) (hb : PE X b (tI X.K ib)) (hm : behindInMarks op b = false) : PT X (.Compare a [op] [b] pos) (tIT X.K (iTestB (iBin f ia ib))) :=
  PT.imp (pt_cmpR ho ha hb hm) fun _ _ _ h => TE_test_mono (fun _ _ _ h => bin_to hf h) (testB_to h)
theorem chain_to {K : PySem.W.Frag} {r r' : R2} {f g : F2} (hf : OpI K r f) (hg : OpI K r' g) {σ : L2.St} {H : Hp} {Q : VK} (h : tI K (iChain f g ia ib ic) σ H Q) : tChain r r' (tI K ia) (tI K ib) (tI K ic) σ H Q := by
  obtain ⟨env, st, ρ, z, st', E, S, h, q⟩ := h
  obtain ⟨x, s1, h1, h⟩ := ob_some h
  obtain ⟨y, s2, h2, h⟩ := ob_some h
  obtain ⟨w, s3, h3, h⟩ := ob_some h
  refine ⟨env, st, ρ, x, s1, E, S, h1, fun vx H1 ρ1 G1 S1 R1 => ⟨env, s1, ρ1, y, s2, E.grow S G1, S1, h2, fun vy H2 ρ2 G2 S2 R2 => ?_⟩⟩
  refine hf H2 ρ2 s2 x y vx vy w s3 _ S2 (Rep.grow S1 G2 _ _ R1) R2 h3 fun v H3 ρ3 G3 S3 R3 => ?_
  split at h
  · unfold Rep at R3
    subst R3
    obtain ⟨w, s4, h4, h⟩ := ob_some h
    refine ⟨true, rfl, ?_⟩
    rw [if_pos rfl]
    refine ⟨env, s3, ρ3, w, s4, ((E.grow S G1).grow S1 G2).grow S2 G3, S3, h4, fun vw H4 ρ4 G4 S4 R4 => ?_⟩
    exact hg H4 ρ4 s4 y w vy vw z st' Q S4 (Rep.grow S3 G4 _ _ (Rep.grow S2 G3 _ _ R2)) R4 h fun v H5 ρ5 G5 S5 R5 => q v H5 ρ5 ((((G1.trans G2).trans G3).trans G4).trans G5) S5 R5
  · unfold Rep at R3
    subst R3
    cases h
    refine ⟨false, rfl, ?_⟩
    rw [if_neg Bool.false_ne_true]
    exact q _ H3 ρ3 ((G1.trans G2).trans G3) S3 (by unfold Rep; rfl)
  · cases h
theorem r_chainT {op op' : CmpOp} {r r' : R2} {f g : F2} (ho : OpR X (compareOp op) r) (hf : OpI X.K r f) (ho' : OpR X (compareOp op') r') (hg : OpI X.K r' g) (ha : PE X a (tI X.K ia)) (hb : PE X b (tI X.K ib)) (hc : PE X c (tI X.K ic))
    (hm : lastMarks [op, op'] [b, c] = false := by with_unfolding_all rfl) : PT X (.Compare a [op, op'] [b, c] pos) (tIT X.K (iTestB (iChain f g ia ib ic))) :=
  PT.imp (pt_chain ho ho' ha hb hc hm) fun _ _ _ h => TE_test_mono (fun _ _ _ h => chain_to hf hg h) (testB_to h)

/-! ### and, or, not -/
def iAnd (t u : IT) : IT := fun env st => ob (t env st) fun k s1 => match k with
  | true => u env s1
  | false => some (false, s1)
def iOr (t u : IT) : IT := fun env st => ob (t env st) fun k s1 => match k with
  | true => some (true, s1)
  | false => u env s1
def iNot (t : IT) : IT := fun env st => ob (t env st) fun k s1 => some (!k, s1)
theorem PW.imp {t t' : TT} (h : PW X e t) (m : ∀ σ H Q, t' σ H Q → t σ H Q) : PW X e t' := ⟨fun w pins s σ H Q I q => h.run w pins s σ H Q I (m σ H Q q)⟩
theorem w_and1 (ha : PT X a (tIT X.K ta)) : PW X (.BoolOp .And [a] pos) (tIT X.K ta) := pw_and1 ha
theorem w_or1 (ha : PT X a (tIT X.K ta)) : PW X (.BoolOp .Or [a] pos) (tIT X.K ta) := pw_or1 ha
theorem w_and (ha : PT X a (tIT X.K ta)) (hb : PW X (.BoolOp .And (b :: rest) pos) (tIT X.K tb)) : PW X (.BoolOp .And (a :: b :: rest) pos) (tIT X.K (iAnd ta tb)) :=
  PW.imp (pw_and ha hb) fun σ H Q ⟨env, st, ρ, z, st', E, S, h, q⟩ => by
    obtain ⟨k, s1, h1, h⟩ := ob_some h
    refine ⟨env, st, ρ, k, s1, E, S, h1, fun H1 ρ1 G1 S1 => ?_⟩
    cases k with
    | true =>
      rw [if_pos rfl]
      exact ⟨env, s1, ρ1, z, st', E.grow S G1, S1, h, fun H2 ρ2 G2 S2 => q H2 ρ2 (G1.trans G2) S2⟩
    | false =>
      rw [if_neg Bool.false_ne_true]
      cases h
      exact q H1 ρ1 G1 S1
theorem w_or (ha : PT X a (tIT X.K ta)) (hb : PW X (.BoolOp .Or (b :: rest) pos) (tIT X.K tb)) : PW X (.BoolOp .Or (a :: b :: rest) pos) (tIT X.K (iOr ta tb)) :=
  PW.imp (pw_or ha hb) fun σ H Q ⟨env, st, ρ, z, st', E, S, h, q⟩ => by
    obtain ⟨k, s1, h1, h⟩ := ob_some h
    refine ⟨env, st, ρ, k, s1, E, S, h1, fun H1 ρ1 G1 S1 => ?_⟩
    cases k with
    | true =>
      rw [if_pos rfl]
      cases h
      exact q H1 ρ1 G1 S1
    | false =>
      rw [if_neg Bool.false_ne_true]
      exact ⟨env, s1, ρ1, z, st', E.grow S G1, S1, h, fun H2 ρ2 G2 S2 => q H2 ρ2 (G1.trans G2) S2⟩
theorem r_not (ha : PT X a (tIT X.K ta)) : PT X (.UnaryOp .Not a pos) (tIT X.K (iNot ta)) :=
  PT.imp (pt_not ha) fun σ H Q ⟨env, st, ρ, z, st', E, S, h, q⟩ => by
    obtain ⟨k, s1, h1, h⟩ := ob_some h
    cases h
    exact ⟨env, st, ρ, k, _, E, S, h1, fun H1 ρ1 G1 S1 => q H1 ρ1 G1 S1⟩
/-- .. as values -/
def iAndV (ia ib : IE) : IE := fun env st => ob (ia env st) fun x s1 => match tru s1 x with
  | some true => ib env s1
  | some false => some (x, s1)
  | none => none
def iOrV (ia ib : IE) : IE := fun env st => ob (ia env st) fun x s1 => match tru s1 x with
  | some true => some (x, s1)
  | some false => ib env s1
  | none => none
def iNotV (ia : IE) : IE := fun env st => ob (ia env st) fun x s1 => (tru s1 x).map fun k => (.bl (!k), s1)
theorem r_one {op} (h : PE X a (tI X.K ia)) : PE X (.BoolOp op [a] pos) (tI X.K ia) := pe_one h
theorem r_andV (ha : PE X a (tI X.K ia)) (hb : PE X (.BoolOp .And (b :: rest) pos) (tI X.K ib)) : PE X (.BoolOp .And (a :: b :: rest) pos) (tI X.K (iAndV ia ib)) :=
  PE.imp (pe_andT ha hb) fun σ H Q ⟨env, st, ρ, z, st', E, S, h, q⟩ => by
    obtain ⟨x, s1, h1, h⟩ := ob_some h
    refine ⟨env, st, ρ, x, s1, E, S, h1, fun v H1 ρ1 G1 S1 R1 => ?_⟩
    split at h
    · rename_i e
      refine ⟨true, tru_rep S1 R1 e, ?_⟩
      rw [if_pos rfl]
      exact ⟨env, s1, ρ1, z, st', E.grow S G1, S1, h, fun v H2 ρ2 G2 S2 R2 => q v H2 ρ2 (G1.trans G2) S2 R2⟩
    · rename_i e
      refine ⟨false, tru_rep S1 R1 e, ?_⟩
      rw [if_neg Bool.false_ne_true]
      cases h
      exact q v H1 ρ1 G1 S1 R1
    · cases h
theorem r_orV (ha : PE X a (tI X.K ia)) (hb : PE X (.BoolOp .Or (b :: rest) pos) (tI X.K ib)) : PE X (.BoolOp .Or (a :: b :: rest) pos) (tI X.K (iOrV ia ib)) :=
  PE.imp (pe_orT ha hb) fun σ H Q ⟨env, st, ρ, z, st', E, S, h, q⟩ => by
    obtain ⟨x, s1, h1, h⟩ := ob_some h
    refine ⟨env, st, ρ, x, s1, E, S, h1, fun v H1 ρ1 G1 S1 R1 => ?_⟩
    split at h
    · rename_i e
      refine ⟨true, tru_rep S1 R1 e, ?_⟩
      rw [if_pos rfl]
      cases h
      exact q v H1 ρ1 G1 S1 R1
    · rename_i e
      refine ⟨false, tru_rep S1 R1 e, ?_⟩
      rw [if_neg Bool.false_ne_true]
      exact ⟨env, s1, ρ1, z, st', E.grow S G1, S1, h, fun v H2 ρ2 G2 S2 R2 => q v H2 ρ2 (G1.trans G2) S2 R2⟩
    · cases h
theorem r_notV (ha : PE X a (tI X.K ia)) : PE X (.UnaryOp .Not a pos) (tI X.K (iNotV ia)) :=
  PE.imp (pe_notT ha) fun σ H Q ⟨env, st, ρ, z, st', E, S, h, q⟩ => by
    obtain ⟨x, s1, h1, h⟩ := ob_some h
    refine ⟨env, st, ρ, x, s1, E, S, h1, fun v H1 ρ1 G1 S1 R1 => ?_⟩
    cases e : tru s1 x with
    | none => rw [e] at h; cases h
    | some k =>
      rw [e] at h
      obtain ⟨rfl, rfl⟩ : PV.bl (!k) = z ∧ s1 = st' := by simpa using h
      exact ⟨k, tru_rep S1 R1 e, q _ H1 ρ1 G1 S1 (by unfold Rep; rfl)⟩
def iIf (t : IT) (ia ib : IE) : IE := fun env st => ob (t env st) fun k s1 => match k with
  | true => ia env s1
  | false => ib env s1
theorem r_ifExp (hc : PT X c (tIT X.K ta)) (ha : PE X a (tI X.K ia)) (hb : PE X b (tI X.K ib)) : PE X (.IfExp c a b pos) (tI X.K (iIf ta ia ib)) :=
  PE.imp (pe_ifExp hc ha hb) fun σ H Q ⟨env, st, ρ, z, st', E, S, h, q⟩ => by
    obtain ⟨k, s1, h1, h⟩ := ob_some h
    refine ⟨env, st, ρ, k, s1, E, S, h1, fun H1 ρ1 G1 S1 => ?_⟩
    cases k with
    | true =>
      rw [if_pos rfl]
      exact ⟨env, s1, ρ1, z, st', E.grow S G1, S1, h, fun v H2 ρ2 G2 S2 R2 => q v H2 ρ2 (G1.trans G2) S2 R2⟩
    | false =>
      rw [if_neg Bool.false_ne_true]
      exact ⟨env, s1, ρ1, z, st', E.grow S G1, S1, h, fun v H2 ρ2 G2 S2 R2 => q v H2 ρ2 (G1.trans G2) S2 R2⟩

/-! ### arguments, displays -/
def iNil : IA := fun _ st => some ([], st)
def iCons (ia : IE) (ir : IA) : IA := fun env st => ob (ia env st) fun x s1 => ob (ir env s1) fun xs s2 => some (x :: xs, s2)
variable {ir : IA}
theorem a_nil : PA X [] (tIA X.K iNil) := PA.imp pa_nil fun σ H Q ⟨env, st, ρ, z, st', E, S, h, q⟩ => by
  cases h
  exact q [] H ρ Grow.refl S (by unfold Reps; rfl)
theorem a_cons (ha : PE X e (tI X.K ia)) (hr : PA X es (tIA X.K ir)) (hs : starEach (e :: es) X.env = (false, eval e X.env) :: starEach es X.env := by rfl) : PA X (e :: es) (tIA X.K (iCons ia ir)) :=
  PA.imp (pa_cons ha hr hs) fun σ H Q ⟨env, st, ρ, z, st', E, S, h, q⟩ => by
    obtain ⟨x, s1, h1, h⟩ := ob_some h
    obtain ⟨xs, s2, h2, h⟩ := ob_some h
    cases h
    refine ⟨env, st, ρ, x, s1, E, S, h1, fun v H1 ρ1 G1 S1 R1 => ⟨env, s1, ρ1, xs, _, E.grow S G1, S1, h2, fun vs H2 ρ2 G2 S2 R2 => ?_⟩⟩
    exact q (v :: vs) H2 ρ2 (G1.trans G2) S2 (by unfold Reps; exact ⟨v, vs, rfl, Rep.grow S1 G2 _ _ R1, R2⟩)
def iTup (ir : IA) : IE := fun env st => ob (ir env st) fun xs s1 => if xs.length ≤ 9000000 then some (.tup xs, s1) else none
theorem new_tup {K : PySem.W.Frag} {H : Hp} {ρ : Rho} {st : Sto} (S : RepS K H ρ st) {xs : List PV} {vs : List V} (R : Reps K H ρ xs vs) {p : Addr} (hp : H p = none) : Rep K (upd H p (.tup vs)) ρ (.tup xs) (.ref p) := by
  unfold Rep
  exact ⟨p, vs, rfl, .of upd_same, Reps.grow S (grow_new hp) _ _ R⟩
theorem r_tup {x1} (h : PA X es (tIA X.K ir)) : PE X (.Tuple es x1 pos) (tI X.K (iTup ir)) :=
  PE.imp (pe_tup h) fun σ H Q ⟨env, st, ρ, z, st', E, S, h, q⟩ => by
    obtain ⟨xs, s1, h1, h⟩ := ob_some h
    split at h
    · rename_i hl
      cases h
      exact ⟨env, st, ρ, xs, _, E, S, h1, fun vs H1 ρ1 G1 S1 R1 => ⟨line5 (by rw [← R1.length]; exact hl), fun p hp => q _ _ ρ1 (G1.trans (grow_new hp)) (S1.new hp) (new_tup S1 R1 hp)⟩⟩
    · cases h
/-- a new list -/
def alloc (so : SO) (st : Sto) : PV × Sto := (.ref st.length, st ++ [so])
theorem new_lst {K : PySem.W.Frag} {H : Hp} {ρ : Rho} {st : Sto} (S : RepS K H ρ st) {xs : List PV} {vs : List V} (R : Reps K H ρ xs vs) {p : Addr} (hp : H p = none) :
    Grow H ρ (upd H p (.lst vs)) (ρ.add p) ∧ RepS K (upd H p (.lst vs)) (ρ.add p) (alloc (.lst xs) st).2 ∧ Rep K (upd H p (.lst vs)) (ρ.add p) (alloc (.lst xs) st).1 (.ref p) := by
  have g : Grow H ρ (upd H p (.lst vs)) (ρ.add p) := grow_alloc hp
  refine ⟨g, S.alloc hp ⟨vs, upd_same, Reps.grow S g _ _ R⟩, ?_⟩
  unfold alloc Rep
  refine ⟨p, rfl, ?_⟩
  show (ρ.l ++ [p])[st.length]? = some p
  rw [← S.len, List.getElem?_append_right (Nat.le_refl _)]
  simp
def iLst (ir : IA) : IE := fun env st => ob (ir env st) fun xs s1 => if xs.length ≤ 9000000 then some (alloc (.lst xs) s1) else none
theorem r_lst (h : PA X es (tIA X.K ir)) : PE X (.List es pos) (tI X.K (iLst ir)) :=
  PE.imp (pe_lst h) fun σ H Q ⟨env, st, ρ, z, st', E, S, h, q⟩ => by
    obtain ⟨xs, s1, h1, h⟩ := ob_some h
    split at h
    · rename_i hl
      refine ⟨env, st, ρ, xs, _, E, S, h1, fun vs H1 ρ1 G1 S1 R1 => ⟨line5 (by rw [← R1.length]; exact hl), fun p hp => ?_⟩⟩
      obtain ⟨a1, a2, a3⟩ := new_lst S1 R1 hp
      have e := Option.some.inj h
      rw [e] at a2 a3
      exact q _ _ _ (G1.trans a1) a2 a3
    · cases h

/-! ### slices -/
def iNo : IO := fun _ st => some (none, st)
def iPart (ia : IE) : IO := fun env st => ob (ia env st) fun x s1 => match x with
  | .int i => some (some i, s1)
  | _ => none
theorem o_none : PO X none (tIO X.K iNo) := PO.imp po_none fun σ H Q ⟨env, st, ρ, z, st', E, S, h, q⟩ => by
  cases h
  exact q H ρ Grow.refl S
theorem o_some (ha : PE X e (tI X.K ia)) : PO X (some e) (tIO X.K (iPart ia)) := PO.imp (po_some ha) fun σ H Q ⟨env, st, ρ, z, st', E, S, h, q⟩ => by
  obtain ⟨x, s1, h1, h⟩ := ob_some h
  split at h
  · cases h
    exact ⟨env, st, ρ, _, _, E, S, h1, fun v H1 ρ1 G1 S1 R1 => by
      unfold Rep at R1
      exact ⟨_, R1, q H1 ρ1 G1 S1⟩⟩
  · cases h
abbrev FSl := PV → Option Int → Option Int → Sto → Option (PV × Sto)
def iSl (f : FSl) (ia : IE) (lo hi : IO) : IE := fun env st => ob (ia env st) fun x s1 => ob (lo env s1) fun l s2 => ob (hi env s2) fun u s3 => f x l u s3
def SlI (K : PySem.W.Frag) (r : V → Option Int → Option Int → Hp → VK → Prop) (f : FSl) : Prop :=
  ∀ H ρ st x vx lo hi z st' (Q : VK), RepS K H ρ st → Rep K H ρ x vx → f x lo hi st = some (z, st') → (∀ v H' ρ', Grow H ρ H' ρ' → RepS K H' ρ' st' → Rep K H' ρ' z v → Q v H') → r vx lo hi H Q
theorem r_slice {r : V → Option Int → Option Int → Hp → VK → Prop} {f : FSl} {lo hi : Option Expr} {il ih : IO} {p2 : Pos} (hr : SlR X r) (hf : SlI X.K r f) (ha : PE X e (tI X.K ia)) (hl : PO X lo (tIO X.K il)) (hh : PO X hi (tIO X.K ih)) :
    PE X (.Subscript e (.Slice lo hi none p2) pos) (tI X.K (iSl f ia il ih)) :=
  PE.imp (pe_slice hr ha hl hh) fun σ H Q ⟨env, st, ρ, z, st', E, S, h, q⟩ => by
    obtain ⟨x, s1, h1, h⟩ := ob_some h
    obtain ⟨l, s2, h2, h⟩ := ob_some h
    obtain ⟨u, s3, h3, h⟩ := ob_some h
    refine ⟨env, st, ρ, x, s1, E, S, h1, fun v H1 ρ1 G1 S1 R1 => ⟨env, s1, ρ1, l, s2, E.grow S G1, S1, h2, fun H2 ρ2 G2 S2 => ⟨env, s2, ρ2, u, s3, (E.grow S G1).grow S1 G2, S2, h3, fun H3 ρ3 G3 S3 => ?_⟩⟩⟩
    exact hf H3 ρ3 s3 x v l u z st' Q S3 (Rep.grow S2 G3 _ _ (Rep.grow S1 G2 _ _ R1)) h fun v H4 ρ4 G4 S4 R4 => q v H4 ρ4 (((G1.trans G2).trans G3).trans G4) S4 R4

/-! ### calls -/
def iCall (f : FA) (ir : IA) : IE := fun env st => ob (ir env st) fun xs s1 => f xs s1
variable {x : Str} {p : Pos}
theorem cb_to {K : PySem.W.Frag} {r : List V → Hp → VK → Prop} {f : FA} (hf : CallI K r f) {σ : L2.St} {H : Hp} {Q : VK} (h : tI K (iCall f ir) σ H Q) : tCB r (tIA K ir) σ H Q := by
  obtain ⟨env, st, ρ, z, st', E, S, h, q⟩ := h
  obtain ⟨xs, s1, h1, h⟩ := ob_some h
  exact ⟨env, st, ρ, xs, s1, E, S, h1, fun vs H1 ρ1 G1 S1 R1 => hf H1 ρ1 s1 xs vs z st' Q S1 R1 h fun v H2 ρ2 G2 S2 R2 => q v H2 ρ2 (G1.trans G2) S2 R2⟩
theorem r_callB {id : String} {r : List V → Hp → VK → Prop} {f : FA} (hc : CallR X (.builtin id) r) (hf : CallI X.K r f) (hg : Gl X x) (hm : X.mg x = none) (hv : bootBuiltins x = some (.builtin id)) (ha : PA X (e :: es) (tIA X.K ir)) (hn : x ≠ "__name__" := by decide) (hdb : (x == ("__debug__" : Str)) = false := by decide)
    (he : starEach (e :: es) X.env = (false, eval e X.env) :: starEach es X.env := by rfl) (hpl : (backTo pos (starEach es X.env)).any (·.1) = false := by rfl) : PE X (.Call (.Name x p) (e :: es) [] pos) (tI X.K (iCall f ir)) :=
  PE.imp (pe_callB hc hg hm hv ha hn hdb he hpl) fun _ _ _ h => cb_to hf h
theorem r_callTy {T : String} {r : List V → Hp → VK → Prop} {f : FA} (hc : CallR X (.type T) r) (hf : CallI X.K r f) (hg : Gl X x) (hm : X.mg x = none) (hv : bootBuiltins x = some (.type T)) (ha : PA X (e :: es) (tIA X.K ir)) (hn : x ≠ "__name__" := by decide) (hdb : (x == ("__debug__" : Str)) = false := by decide)
    (he : starEach (e :: es) X.env = (false, eval e X.env) :: starEach es X.env := by rfl) (hpl : (backTo pos (starEach es X.env)).any (·.1) = false := by rfl) : PE X (.Call (.Name x p) (e :: es) [] pos) (tI X.K (iCall f ir)) :=
  PE.imp (pe_callTy hc hg hm hv ha hn hdb he hpl) fun _ _ _ h => cb_to hf h
/-- a def's promise: it does what f does -/
def spI (K : PySem.W.Frag) (n : Nat) (f : FA) : Sp := fun vs H Q _ => vs.length = n ∧ ∃ st ρ xs z st', RepS K H ρ st ∧ Reps K H ρ xs vs ∧ f xs st = some (z, st') ∧ ∀ v H' ρ', Grow H ρ H' ρ' → RepS K H' ρ' st' → Rep K H' ρ' z v → Q v H'
/-- a def may be called, and does what f does -/
abbrev CalI (P : Program) (w : World) (K : PySem.W.Frag) (mg : Str → Option Value) (base : Heap) (k : Nat) (x : Str) (n : Nat) (f : FA) : Prop := C8.Cal P w K mg base k x (spI K n f) []
/-- f of so many values alone -/
def Ar (n : Nat) (f : FA) : Prop := ∀ xs st r, f xs st = some r → xs.length = n
theorem call_to {K : PySem.W.Frag} {n : Nat} {f : FA} (hn : Ar n f) {σ : L2.St} {H : Hp} {Q : VK} (h : tI K (iCall f ir) σ H Q) : tCall (spI K n f) [] E0 (tIA K ir) σ H Q := by
  obtain ⟨env, st, ρ, z, st', E, S, h, q⟩ := h
  obtain ⟨xs, s1, h1, h⟩ := ob_some h
  refine ⟨env, st, ρ, xs, s1, E, S, h1, fun vs H1 ρ1 G1 S1 R1 => ?_⟩
  show spI K n f (vs ++ []) H1 Q E0
  rw [List.append_nil]
  exact ⟨by rw [← R1.length]; exact hn _ _ _ h, s1, ρ1, xs, z, st', S1, R1, h, fun v H2 ρ2 G2 S2 R2 => q v H2 ρ2 (G1.trans G2) S2 R2⟩
theorem r_call {k j n : Nat} {f : FA} (c : CalI X.prog X.w X.K X.mg X.base k x n f) (hn : Ar n f) (hr : Room j X.A) (hk : k ≤ j) (hg : Gl X x) (ha : PA X (e :: es) (tIA X.K ir))
    (hdb : (x == ("__debug__" : Str)) = false := by decide) (he : starEach (e :: es) X.env = (false, eval e X.env) :: starEach es X.env := by rfl) (hpl : (backTo pos (starEach es X.env)).any (·.1) = false := by rfl) :
    PE X (.Call (.Name x p) (e :: es) [] pos) (tI X.K (iCall f ir)) :=
  PE.imp (C8.pe_c c hr hk hg ha hdb he hpl) fun _ _ _ h => call_to hn h
end
end IL

namespace IL
open PySem PySem.Spec PyProof.Rows L2

section
variable {K : PySem.W.Frag} {H H' : Hp} {ρ ρ' : Rho} {st : Sto} {env : PEnv} {σ : L2.St} {D : Ends} {W : WX}
theorem PostF.grow (g : Grow H ρ H' ρ') : ∀ {f : Fl}, PostF K W D H ρ f → PostF K W D H' ρ' f
  | .nx _ _, h => fun σ' H2 ρ2 G S E => h σ' H2 ρ2 (g.trans G) S E
  | .bk _ _, h => fun σ' H2 ρ2 G S E => h σ' H2 ρ2 (g.trans G) S E
  | .ct _ _, h => fun σ' H2 ρ2 G S E => h σ' H2 ρ2 (g.trans G) S E
  | .rt _ _, h => fun v H2 ρ2 G S R => h v H2 ρ2 (g.trans G) S R
  | .er _ _ _ _, h => fun C d σ' H2 ρ2 vs hc G => h C d σ' H2 ρ2 vs hc (g.trans G)
/-! ### targets -/
abbrev IG := PV → PEnv → Sto → Option PEnv
abbrev IGs := List PV → PEnv → Sto → Option PEnv
def tIG (K : PySem.W.Frag) (T : List Nat) (ig : IG) : TG := fun v σ H Q => ∃ env st ρ x env', RepE K H ρ env σ ∧ RepS K H ρ st ∧ Rep K H ρ x v ∧ ig x env st = some env' ∧
  ∀ σ' : L2.St, RepE K H ρ env' σ' → σ'.length = σ.length → (∀ i, i ∉ T → σ'[i]? = σ[i]?) → Q σ' H
def tIGs (K : PySem.W.Frag) (T : List Nat) (ig : IGs) : TGs := fun vs σ H Q => ∃ env st ρ xs env', RepE K H ρ env σ ∧ RepS K H ρ st ∧ Reps K H ρ xs vs ∧ ig xs env st = some env' ∧
  ∀ σ' : L2.St, RepE K H ρ env' σ' → σ'.length = σ.length → (∀ i, i ∉ T → σ'[i]? = σ[i]?) → Q σ' H
theorem PG.imp {X : Cx} {tg : Expr} {t t' : TG} (h : PG X tg t) (m : ∀ v σ H Q, t' v σ H Q → t v σ H Q) : PG X tg t' := ⟨fun pins s σ H v u Q I r q => h.run pins s σ H v u Q I r (m v σ H Q q)⟩
theorem PGs.imp {X : Cx} {tg : List Expr} {t t' : TGs} (h : PGs X tg t) (m : ∀ v σ H Q, t' v σ H Q → t v σ H Q) : PGs X tg t' := ⟨fun pins s σ H v u Q I r q => h.run pins s σ H v u Q I r (m v σ H Q q)⟩
def gN (i : Nat) : IG := fun x env _ => some (env.set i (some x))
def gNs : IGs := fun xs env _ => if xs.isEmpty then some env else none
def gCs (g : IG) (gs : IGs) : IGs := fun xs env st => match xs with
  | x :: r => match g x env st with
    | some env1 => gs r env1 st
    | none => none
  | [] => none
def gT (n : Nat) (gs : IGs) : IG := fun x env st => match x with
  | .tup xs => if xs.length = n then gs xs env st else none
  | _ => none
end
section
variable {X : Cx} {pos : Pos} {W : WX}
theorem g_name {i : Nat} {x : Str} (hN : X.N.Nodup) (hi : X.N[i]? = some x) (hx : Loc X.env.scope x) (hf : X.fn x = true ∨ X.env.scope.names.lookup x = some .local := by first | exact .inl rfl | exact .inr rfl | assumption) :
    PG X (.Name x pos) (tIG X.K [i] (gN i)) := PG.imp (pg_name hN hi hx hf) fun v σ H Q ⟨env, st, ρ, y, env', E, S, R, h, q⟩ => by
  cases h
  refine q _ (E.set R i) (by simp) fun j hj => ?_
  rw [List.getElem?_set_ne (fun e => hj (by simp [e]))]
theorem gs_nil : PGs X [] (tIGs X.K [] gNs) := PGs.imp pgs_nil fun v σ H Q ⟨env, st, ρ, y, env', E, S, R, h, q⟩ => by
  unfold gNs at h
  cases y with
  | nil =>
    unfold Reps at R
    cases h
    exact ⟨R, q σ E rfl fun _ _ => rfl⟩
  | cons => simp at h
theorem gs_cons {e : Expr} {es : List Expr} {T T' : List Nat} {g : IG} {gs : IGs} (h1 : PG X e (tIG X.K T g)) (h2 : PGs X es (tIGs X.K T' gs))
    (hs : (assignEach (e :: es) X.env).map (·.2) = assign e X.env :: (assignEach es X.env).map (·.2) := by rfl) : PGs X (e :: es) (tIGs X.K (T ++ T') (gCs g gs)) :=
  PGs.imp (pgs_cons h1 h2 hs) fun v σ H Q ⟨env, st, ρ, y, env', E, S, R, h, q⟩ => by
    cases y with
    | nil => cases h
    | cons y ys =>
      unfold Reps at R
      obtain ⟨w, r, rfl, R1, R2⟩ := R
      simp only [gCs] at h
      split at h
      · rename_i env1 h1
        refine ⟨w, r, rfl, env, st, ρ, y, env1, E, S, R1, h1, fun σ1 E1 l1 a1 => ⟨env1, st, ρ, ys, env', E1, S, R2, h, fun σ2 E2 l2 a2 => q σ2 E2 (l2.trans l1) fun i hi => ?_⟩⟩
        rw [a2 i (fun z => hi (List.mem_append_right _ z)), a1 i (fun z => hi (List.mem_append_left _ z))]
      · cases h
theorem g_tup {es : List Expr} {k : Nat} {T : List Nat} {gs : IGs} {n : Nat} (hc : X.calm = true) (h : PGs X es (tIGs X.K T gs))
    (hn : (assignEach es X.env).length = n := by rfl) (hst : (assignEach es X.env).findIdx? (·.1) = none := by rfl) : PG X (.Tuple es k pos) (tIG X.K T (gT n gs)) :=
  PG.imp (pg_tup hc h hn hst) fun v σ H Q ⟨env, st, ρ, y, env', E, S, R, h, q⟩ => by
    cases y with
    | tup xs =>
      unfold Rep at R
      obtain ⟨a, vs, rfl, h1, h2⟩ := R
      simp only [gT] at h
      split at h
      · rename_i hl
        exact ⟨a, vs, rfl, h1, by rw [← h2.length]; exact hl, env, st, ρ, xs, env', E, S, h2, h, q⟩
      · cases h
    | _ => cases h

/-! ### statements -/
def iSkip : IS := fun env st => some (.nx env st)
def iSeq (a b : IS) : IS := fun env st => match a env st with
  | some (.nx e s) => b e s
  | o => o
variable {st : Stmt} {rest : List Stmt} {e : Expr} {ia ib : IS} {ie : IE} {it : IT}
theorem s_nil : PSs X [] (tIS X.K W iSkip) := PSs.imp pss_nil fun D σ H ⟨env, s, ρ, f, E, S, h, q⟩ => by
  cases h
  exact q σ H ρ Grow.refl S E
theorem s_cons (h1 : PS X st (tIS X.K W ia)) (h2 : PSs X rest (tIS X.K W ib)) : PSs X (st :: rest) (tIS X.K W (iSeq ia ib)) := PSs.imp (pss_cons h1 h2) fun D σ H ⟨env, s, ρ, f, E, S, h, q⟩ => by
  unfold iSeq at h
  cases e1 : ia env s with
  | none => rw [e1] at h; cases h
  | some f1 =>
    rw [e1] at h
    refine ⟨env, s, ρ, f1, E, S, e1, ?_⟩
    cases f1 with
    | nx e s1 => exact fun σ' H' ρ' G S' E' => ⟨e, s1, ρ', f, E', S', h, q.grow G⟩
    | rt v s1 => cases h; exact q
    | bk e s1 => cases h; exact q
    | ct e s1 => cases h; exact q
    | er e c fs s1 => cases h; exact q
theorem s_one (h1 : PS X st (tIS X.K W ia)) : PSs X [st] (tIS X.K W ia) := pss_one h1
theorem s_pass : PS X (.Pass pos) (tIS X.K W iSkip) := PS.imp ps_pass fun D σ H ⟨env, s, ρ, f, E, S, h, q⟩ => by
  cases h
  exact q σ H ρ Grow.refl S E
def iBreak : IS := fun env st => some (.bk env st)
def iCont : IS := fun env st => some (.ct env st)
theorem s_break : PS X (.Break pos) (tIS X.K W iBreak) := PS.imp ps_break fun D σ H ⟨env, s, ρ, f, E, S, h, q⟩ => by
  cases h
  exact q σ H ρ Grow.refl S E
theorem s_continue : PS X (.Continue pos) (tIS X.K W iCont) := PS.imp ps_continue fun D σ H ⟨env, s, ρ, f, E, S, h, q⟩ => by
  cases h
  exact q σ H ρ Grow.refl S E
def iDrop (ie : IE) : IS := fun env st => ob (ie env st) fun _ s => some (.nx env s)
theorem s_expr (he : PE X e (tI X.K ie)) (hs : swapsWith e none pos.line X.env = pure false := by rfl) : PS X (.Expr e pos) (tIS X.K W (iDrop ie)) := PS.imp (ps_expr he hs) fun D σ H ⟨env, s, ρ, f, E, S, h, q⟩ => by
  obtain ⟨x, s1, h1, h⟩ := ob_some h
  cases h
  exact ⟨env, s, ρ, x, _, E, S, h1, fun v H1 ρ1 G1 S1 R1 => q σ H1 ρ1 G1 S1 (E.grow S G1)⟩
def iRet (ie : IE) : IS := fun env st => ob (ie env st) fun x s => some (.rt x s)
theorem s_ret (he : PE X e (tI X.K ie)) : PS X (.Return (some e) pos) (tIS X.K W (iRet ie)) := PS.imp (ps_ret he) fun D σ H ⟨env, s, ρ, f, E, S, h, q⟩ => by
  obtain ⟨x, s1, h1, h⟩ := ob_some h
  cases h
  exact ⟨env, s, ρ, x, _, E, S, h1, fun v H1 ρ1 G1 S1 R1 => q v H1 ρ1 G1 S1 R1⟩
def iRetN : IS := fun _ st => some (.rt .non st)
theorem s_retN : PS X (.Return none pos) (tIS X.K W iRetN) := PS.imp ps_retN fun D σ H ⟨env, s, ρ, f, E, S, h, q⟩ => by
  cases h
  exact q .non H ρ Grow.refl S (by unfold Rep; rfl)
def iIfS (t : IT) (a b : IS) : IS := fun env st => ob (t env st) fun k s => match k with
  | true => a env s
  | false => b env s
theorem s_if {c : Expr} {p q : List Stmt} (hc : PT X c (tIT X.K it)) (ha : PSs X p (tIS X.K W ia)) (hb : PSs X q (tIS X.K W ib)) : PS X (.If c p q pos) (tIS X.K W (iIfS it ia ib)) :=
  PS.imp (ps_if hc ha hb) fun D σ H ⟨env, s, ρ, f, E, S, h, q⟩ => by
    obtain ⟨k, s1, h1, h⟩ := ob_some h
    refine ⟨env, s, ρ, k, s1, E, S, h1, fun H1 ρ1 G1 S1 => ?_⟩
    cases k with
    | true =>
      rw [if_pos rfl]
      exact ⟨env, s1, ρ1, f, E.grow S G1, S1, h, q.grow G1⟩
    | false =>
      rw [if_neg Bool.false_ne_true]
      exact ⟨env, s1, ρ1, f, E.grow S G1, S1, h, q.grow G1⟩
def iAsg (ig : IG) (ie : IE) : IS := fun env st => ob (ie env st) fun x s => match ig x env s with
  | some env' => some (.nx env' s)
  | none => none
theorem s_asg {tg : Expr} {T : List Nat} {ig : IG} (he : PE X e (tI X.K ie)) (hg : PG X tg (tIG X.K T ig)) (hs : swapsWithSole [tg] e pos.line X.env = pure false := by rfl) (hw : swappedStores [tg] e X.env = pure none := by rfl)
    (h1 : (assignEach [tg] X.env).map (·.2) = [assign tg X.env] := by rfl) : PS X (.Assign [tg] e pos) (tIS X.K W (iAsg ig ie)) := PS.imp (ps_asg he hg hs hw h1) fun D σ H ⟨env, s, ρ, f, E, S, h, q⟩ => by
  obtain ⟨x, s1, h1, h⟩ := ob_some h
  refine ⟨env, s, ρ, x, s1, E, S, h1, fun v H1 ρ1 G1 S1 R1 => ?_⟩
  split at h
  · rename_i env' hg
    cases h
    exact ⟨env, _, ρ1, x, env', E.grow S G1, S1, R1, hg, fun σ' E' _ _ => q σ' H1 ρ1 G1 S1 E'⟩
  · cases h
theorem s_set {i : Nat} {x : Str} {pos' : Pos} (hN : X.N.Nodup) (hi : X.N[i]? = some x) (hx : Loc X.env.scope x) (he : PE X e (tI X.K ie)) (hs : swapsWith e (some (.Name x pos')) pos.line X.env = pure false := by rfl)
    (hf : X.fn x = true ∨ X.env.scope.names.lookup x = some .local := by first | exact .inl rfl | exact .inr rfl | assumption) : PS X (.Assign [.Name x pos'] e pos) (tIS X.K W (iAsg (gN i) ie)) :=
  PS.imp (ps_set hN hi hx he hs hf) fun D σ H ⟨env, s, ρ, f, E, S, h, q⟩ => by
    obtain ⟨x, s1, h1, h⟩ := ob_some h
    cases h
    exact ⟨env, s, ρ, x, _, E, S, h1, fun v H1 ρ1 G1 S1 R1 => q _ H1 ρ1 G1 S1 ((E.grow S G1).set R1 i)⟩
/-- a, b = x, y: two local names -/
def iPar (i j : Nat) (ir : IA) : IS := fun env st => ob (ir env st) fun xs s => match xs with
  | [x, y] => some (.nx ((env.set i (some x)).set j (some y)) s)
  | _ => none
theorem s_par {i j : Nat} {x y : Str} {a b : Expr} {ir : IA} {px py pt : Pos} {kt k2 pt2} (hc : X.calm = true) (hN : X.N.Nodup) (hi : X.N[i]? = some x) (hj : X.N[j]? = some y) (hij : i ≠ j)
    (hx : X.env.scope.names.lookup x = some .local) (hy : X.env.scope.names.lookup y = some .local) (ha : PA X [a, b] (tIA X.K ir))
    (hw : swappedStores [.Tuple [.Name x px, .Name y py] kt pt] (.Tuple [a, b] k2 pt2) X.env = pure (some [x, y]))
    (hs : swapsWithSole [.Tuple [.Name x px, .Name y py] kt pt] (.Tuple [a, b] k2 pt2) pos.line X.env = pure false := by rfl) :
    PS X (.Assign [.Tuple [.Name x px, .Name y py] kt pt] (.Tuple [a, b] k2 pt2) pos) (tIS X.K W (iPar i j ir)) := PS.imp (ps_par hc hN hi hj hij hx hy ha hw hs) fun D σ H ⟨env, s, ρ, f, E, S, h, q⟩ => by
  obtain ⟨xs, s1, h1, h⟩ := ob_some h
  refine ⟨env, s, ρ, xs, s1, E, S, h1, fun v H1 ρ1 G1 S1 R1 => ?_⟩
  split at h
  · cases h
    unfold Reps at R1
    obtain ⟨v1, r, rfl, R1, R2⟩ := R1
    unfold Reps at R2
    obtain ⟨v2, r, rfl, R2, R3⟩ := R2
    unfold Reps at R3
    subst R3
    exact ⟨v1, v2, rfl, q _ H1 ρ1 G1 S1 (((E.grow S G1).set R1 i).set R2 j)⟩
  · cases h
/-- o[i] = v -/
abbrev FSet := PV → PV → PV → Sto → Option Sto
def SetI (K : PySem.W.Frag) (t : TSet) (f : FSet) : Prop := ∀ H ρ st o i x vo vi vx st' (Q : Hp → Prop), RepS K H ρ st → Rep K H ρ o vo → Rep K H ρ i vi → Rep K H ρ x vx → f o i x st = some st' → (∀ H' ρ', Grow H ρ H' ρ' → RepS K H' ρ' st' → Q H') → t vo vi vx H Q
def iSetIx (f : FSet) (io ii ie : IE) : IS := fun env st => ob (ie env st) fun x s1 => ob (io env s1) fun o s2 => ob (ii env s2) fun i s3 => (f o i x s3).map fun s4 => .nx env s4
theorem s_setIx {o i : Expr} {t : TSet} {f : FSet} {io ii : IE} {ps : Pos} (hs : PSet X t) (hf : SetI X.K t f) (ho : PE X o (tI X.K io)) (hi : PE X i (tI X.K ii)) (he : PE X e (tI X.K ie))
    (ha : ∀ v, assign (.Subscript o i ps) X.env v = (do
      let ov ← holding [v] (eval o X.env)
      let iv ← holding [v, ov] (eval i X.env)
      standAt ps
      holding [v, ov, iv] (setItem ov iv v)
      release [v, ov, iv] []) := by intro _; rfl)
    (hs1 : swapsWithSole [.Subscript o i ps] e pos.line X.env = pure false := by rfl) (hw : swappedStores [.Subscript o i ps] e X.env = pure none := by rfl) (h1 : (assignEach [.Subscript o i ps] X.env).map (·.2) = [assign (.Subscript o i ps) X.env] := by rfl) :
    PS X (.Assign [.Subscript o i ps] e pos) (tIS X.K W (iSetIx f io ii ie)) := PS.imp (ps_asg he (pg_sub ho hi hs ha) hs1 hw h1) fun D σ H ⟨env, s, ρ, fl, E, S, h, q⟩ => by
  obtain ⟨x, s1, h1, h⟩ := ob_some h
  obtain ⟨o, s2, h2, h⟩ := ob_some h
  obtain ⟨i, s3, h3, h⟩ := ob_some h
  cases e4 : f o i x s3 with
  | none => rw [e4] at h; cases h
  | some s4 =>
    rw [e4] at h
    cases h
    refine ⟨env, s, ρ, x, s1, E, S, h1, fun vx H1 ρ1 G1 S1 R1 => ⟨env, s1, ρ1, o, s2, E.grow S G1, S1, h2, fun vo H2 ρ2 G2 S2 R2 => ⟨env, s2, ρ2, i, s3, (E.grow S G1).grow S1 G2, S2, h3, fun vi H3 ρ3 G3 S3 R3 => ?_⟩⟩⟩
    refine hf H3 ρ3 s3 o i x vo vi vx s4 _ S3 (Rep.grow S2 G3 _ _ R2) R3 (Rep.grow S2 G3 _ _ (Rep.grow S1 G2 _ _ R1)) e4 fun H4 ρ4 G4 S4 => ?_
    exact q σ H4 ρ4 (((G1.trans G2).trans G3).trans G4) S4 ((((E.grow S G1).grow S1 G2).grow S2 G3).grow S3 G4)

/-! ### what is walked -/
structure Src where
  n : Nat
  at_ : Sto → Nat → Option (Option PV)
def SrcOk (K : PySem.W.Frag) (src : Src) (J : It) (H0 : Hp) (ρ0 : Rho) : Prop := ∀ H ρ st, Grow H0 ρ0 H ρ → RepS K H ρ st → ∀ i, (src.at_ st i = some none → J.stop i H) ∧
  ∀ x, src.at_ st i = some (some x) → J.go i H ∧ ∀ v H', J.yld i H v H' → ∃ ρ', Grow H ρ H' ρ' ∧ RepS K H' ρ' st ∧ Rep K H' ρ' x v
abbrev II := PEnv → Sto → Option (Src × Sto)
def tII (K : PySem.W.Frag) (ii : II) : TI := fun σ H R => ∃ env st ρ src st', RepE K H ρ env σ ∧ RepS K H ρ st ∧ ii env st = some (src, st') ∧ ∀ J H' ρ', Grow H ρ H' ρ' → RepS K H' ρ' st' → SrcOk K src J H' ρ' → R J H'
theorem PI.imp {tg iter : Expr} {t t' : TI} (h : PI X tg iter t) (m : ∀ σ H R, t' σ H R → t σ H R) : PI X tg iter t' := ⟨fun pins s σ H R I q => h.run pins s σ H R I (m σ H R q)⟩
theorem PI.or {tg iter : Expr} {t t' : TI} (h : PI X tg iter t) (h' : PI X tg iter t') : PI X tg iter (fun σ H R => t σ H R ∨ t' σ H R) := ⟨fun pins s σ H R I q => q.elim (h.run pins s σ H R I) (h'.run pins s σ H R I)⟩
def srcL (n k : Nat) : Src := ⟨k, fun st i => match st[n]? with
  | some (.lst xs) => some xs[i]?
  | _ => none⟩
def srcT (xs : List PV) : Src := ⟨xs.length, fun _ i => some xs[i]?⟩
def srcR (lo : Int) (n : Nat) : Src := ⟨n, fun _ i => some (if i < n then some (.int (lo + i)) else none)⟩
theorem srcL_ok {K : PySem.W.Frag} {H0 : Hp} {ρ0 : Rho} {n k : Nat} {a : Addr} (h : ρ0.l[n]? = some a) : SrcOk K (srcL n k) (Itl K a) H0 ρ0 := fun H ρ st G S i => by
  have ha := G.ix h
  refine ⟨fun hs => ?_, fun x hs => ?_⟩
  · simp only [srcL] at hs
    split at hs
    · rename_i xs e
      obtain ⟨b, vs, e0, hb, _, h1, h2⟩ := S.lst (by unfold Rep; exact ⟨a, rfl, ha⟩) e
      cases e0
      exact ⟨vs, .of h1, by rw [← h2.length]; simpa using hs⟩
    · cases hs
  · simp only [srcL] at hs
    split at hs
    · rename_i xs e
      obtain ⟨b, vs, e0, hb, _, h1, h2⟩ := S.lst (by unfold Rep; exact ⟨a, rfl, ha⟩) e
      cases e0
      obtain ⟨v, hv, r⟩ := h2.get (by simpa using hs)
      refine ⟨⟨vs, v, .of h1, hv⟩, fun w H' y => ?_⟩
      obtain ⟨rfl, y⟩ := y
      have := y vs (.of h1)
      rw [hv] at this; cases this
      exact ⟨ρ, Grow.refl, S, r⟩
    · cases hs
theorem srcT_ok {K : PySem.W.Frag} {H0 : Hp} {ρ0 : Rho} {st0 : Sto} {xs : List PV} {vs : List V} {a : Addr} (S0 : RepS K H0 ρ0 st0) (h : SqT K H0 a vs) (r : Reps K H0 ρ0 xs vs) : SrcOk K (srcT xs) (Itt K a) H0 ρ0 := fun H ρ st G S i => by
  have h1 := SqT.grow S0 G h
  have r1 := Reps.grow S0 G _ _ r
  refine ⟨fun hs => ?_, fun x hs => ?_⟩
  · simp only [srcT] at hs
    exact ⟨vs, h1, by rw [← r1.length]; simpa using hs⟩
  · simp only [srcT] at hs
    obtain ⟨v, hv, r⟩ := r1.get (by simpa using hs)
    refine ⟨⟨vs, v, h1, hv⟩, fun w H' y => ?_⟩
    obtain ⟨rfl, y⟩ := y
    have := y vs h1
    rw [hv] at this; cases this
    exact ⟨ρ, Grow.refl, S, r⟩
theorem srcF_ok {K : PySem.W.Frag} {H0 : Hp} {ρ0 : Rho} {st0 : Sto} {xs : List PV} {vs : List V} {a : Addr} (S0 : RepS K H0 ρ0 st0) (h : FrzAt K H0 ρ0 a vs) (r : Reps K H0 ρ0 xs vs) : SrcOk K (srcT xs) (Itl K a) H0 ρ0 := fun H ρ st G S i => by
  have h1 := (h.grow G).sq
  have r1 := Reps.grow S0 G _ _ r
  refine ⟨fun hs => ?_, fun x hs => ?_⟩
  · simp only [srcT] at hs
    exact ⟨vs, h1, by rw [← r1.length]; simpa using hs⟩
  · simp only [srcT] at hs
    obtain ⟨v, hv, r⟩ := r1.get (by simpa using hs)
    refine ⟨⟨vs, v, h1, hv⟩, fun w H' y => ?_⟩
    obtain ⟨rfl, y⟩ := y
    have := y vs h1
    rw [hv] at this; cases this
    exact ⟨ρ, Grow.refl, S, r⟩
theorem srcR_ok {K : PySem.W.Frag} {H0 : Hp} {ρ0 : Rho} {lo : Int} {n : Nat} : SrcOk K (srcR lo n) (Itr lo n) H0 ρ0 := fun H ρ st G S i => by
  refine ⟨fun hs => ?_, fun x hs => ?_⟩
  · simp only [srcR] at hs
    split at hs
    · cases hs
    · exact Nat.le_of_not_lt (by assumption)
  · simp only [srcR] at hs
    split at hs
    · rename_i hl
      cases hs
      refine ⟨hl, fun w H' y => ?_⟩
      obtain ⟨rfl, rfl⟩ := y
      exact ⟨ρ, Grow.refl, S, by unfold Rep; rfl⟩
    · cases hs
def srcS (x : Str) : Src := ⟨x.length, fun _ i => some ((x.cps[i]?).map fun c => .str ⟨#[c]⟩)⟩
theorem srcS_ok {K : PySem.W.Frag} {H0 : Hp} {ρ0 : Rho} {x : Str} : SrcOk K (srcS x) (Its x) H0 ρ0 := fun H ρ st G S i => by
  refine ⟨fun hs => ?_, fun y hs => ?_⟩
  · simp only [srcS, Option.some.injEq, Option.map_eq_none_iff] at hs
    exact Array.getElem?_eq_none_iff.mp hs
  · simp only [srcS, Option.some.injEq] at hs
    cases e : x.cps[i]? with
    | none => rw [e] at hs; cases hs
    | some c =>
      rw [e] at hs
      cases hs
      refine ⟨(Array.getElem?_eq_some_iff.mp e).1, fun w H' y => ?_⟩
      obtain ⟨rfl, c', e', rfl⟩ := y
      rw [e] at e'; cases e'
      exact ⟨ρ, Grow.refl, S, by unfold Rep; rfl⟩
/-- a list, a tuple or a text is walked -/
def iWalk (ie : IE) : II := fun env st => ob (ie env st) fun x s => match x with
  | .str y => some (srcS y, s)
  | .tup xs => some (srcT xs, s)
  | .frz xs => some (srcT xs, s)
  | .ref n => match s[n]? with
    | some (.lst xs) => some (srcL n xs.length, s)
    | _ => none
  | _ => none
theorem i_walk {tg : Expr} (he : PE X e (tI X.K ie)) : PI X tg e (tII X.K (iWalk ie)) := PI.imp (PI.or (pi_list he) (PI.or (pi_tup he) (pi_str he))) fun σ H R ⟨env, s, ρ, src, st', E, S, h, q⟩ => by
  obtain ⟨x, s1, h1, h⟩ := ob_some h
  cases x with
  | str y =>
    cases h
    refine .inr (.inr ⟨env, s, ρ, _, _, E, S, h1, fun v H1 ρ1 G1 S1 R1 => ?_⟩)
    unfold Rep at R1
    exact ⟨y, R1, q _ H1 ρ1 G1 S1 srcS_ok⟩
  | tup xs =>
    cases h
    refine .inr (.inl ⟨env, s, ρ, _, _, E, S, h1, fun v H1 ρ1 G1 S1 R1 => ?_⟩)
    unfold Rep at R1
    obtain ⟨a, vs, rfl, t1, t2⟩ := R1
    exact ⟨a, rfl, ⟨vs, t1⟩, q _ H1 ρ1 G1 S1 (srcT_ok S1 t1 t2)⟩
  | frz xs =>
    cases h
    refine .inl ⟨env, s, ρ, _, _, E, S, h1, fun v H1 ρ1 G1 S1 R1 => ?_⟩
    unfold Rep at R1
    obtain ⟨a, vs, rfl, t1, t2⟩ := R1
    exact ⟨a, rfl, ⟨vs, t1.sq⟩, q _ H1 ρ1 G1 S1 (srcF_ok S1 t1 t2)⟩
  | ref n =>
    simp only at h
    split at h
    · rename_i xs e1
      cases h
      refine .inl ⟨env, s, ρ, _, _, E, S, h1, fun v H1 ρ1 G1 S1 R1 => ?_⟩
      obtain ⟨a, vs, rfl, t1, _, h2, h3⟩ := S1.lst R1 e1
      exact ⟨a, rfl, ⟨vs, .of h2⟩, q _ H1 ρ1 G1 S1 (srcL_ok t1)⟩
    · cases h
  | _ => cases h
/-- range -/
def big (j : Int) : Bool := decide (-(2 ^ 62) ≤ j) && decide (j < 2 ^ 62)
theorem big_of {j : Int} (h : big j = true) : -(2 ^ 62) ≤ j ∧ j < 2 ^ 62 := by
  unfold big at h
  simp only [Bool.and_eq_true, decide_eq_true_eq] at h
  exact h
def iRange1 (ir : IA) : II := fun env st => ob (ir env st) fun xs s => match xs with
  | [.int j] => if big j then some (srcR 0 j.toNat, s) else none
  | _ => none
def iRange2 (ir : IA) : II := fun env st => ob (ir env st) fun xs s => match xs with
  | [.int i, .int j] => if big i && big j then some (srcR i (j - i).toNat, s) else none
  | _ => none
theorem i_range1 {tg a : Expr} {ir : IA} {p : Pos} (hg : Gl X "range") (hm : X.mg "range" = none) (ha : PA X [a] (tIA X.K ir)) (hs : starEach [a] X.env = [(false, eval a X.env)] := by rfl) : PI X tg (.Call (.Name "range" p) [a] [] pos) (tII X.K (iRange1 ir)) :=
  PI.imp (pi_range1 hg hm ha hs) fun σ H R ⟨env, s, ρ, src, st', E, S, h, q⟩ => by
    obtain ⟨xs, s1, h1, h⟩ := ob_some h
    split at h
    · rename_i j
      split at h
      · rename_i hb
        cases h
        refine ⟨env, s, ρ, _, _, E, S, h1, fun v H1 ρ1 G1 S1 R1 => ?_⟩
        unfold Reps at R1
        obtain ⟨w, r, rfl, R1, R2⟩ := R1
        unfold Reps at R2
        subst R2
        unfold Rep at R1
        subst R1
        obtain ⟨b1, b2⟩ := big_of hb
        exact ⟨j, rfl, b1, b2, q _ H1 ρ1 G1 S1 srcR_ok⟩
      · cases h
    · cases h
theorem i_range2 {tg a b : Expr} {ir : IA} {p : Pos} (hg : Gl X "range") (hm : X.mg "range" = none) (ha : PA X [a, b] (tIA X.K ir)) (hs : starEach [a, b] X.env = [(false, eval a X.env), (false, eval b X.env)] := by rfl) (hs2 : starEach [b] X.env = [(false, eval b X.env)] := by rfl) :
    PI X tg (.Call (.Name "range" p) [a, b] [] pos) (tII X.K (iRange2 ir)) :=
  PI.imp (pi_range2 hg hm ha hs hs2) fun σ H R ⟨env, s, ρ, src, st', E, S, h, q⟩ => by
    obtain ⟨xs, s1, h1, h⟩ := ob_some h
    split at h
    · rename_i i j
      split at h
      · rename_i hb
        cases h
        refine ⟨env, s, ρ, _, _, E, S, h1, fun v H1 ρ1 G1 S1 R1 => ?_⟩
        unfold Reps at R1
        obtain ⟨w, r, rfl, R1, R2⟩ := R1
        unfold Reps at R2
        obtain ⟨w2, r2, rfl, R2, R3⟩ := R2
        unfold Reps at R3
        subst R3
        unfold Rep at R1 R2
        subst R1 R2
        rw [Bool.and_eq_true] at hb
        obtain ⟨b1, b2⟩ := big_of hb.1
        obtain ⟨b3, b4⟩ := big_of hb.2
        exact ⟨i, j, rfl, ⟨b1, b2, b3, b4⟩, q _ H1 ρ1 G1 S1 srcR_ok⟩
      · cases h
    · cases h

/-! ### for -/
def loop (at_ : Sto → Nat → Option (Option PV)) (ig : IG) (body : IS) : Nat → Nat → PEnv → Sto → Option Fl
  | 0, _, _, _ => none
  | m + 1, i, env, st => match at_ st i with
    | none => none
    | some none => some (.nx env st)
    | some (some x) => match ig x env st with
      | none => none
      | some env1 => match body env1 st with
        | some (.nx e s) => loop at_ ig body m (i + 1) e s
        | some (.ct e s) => loop at_ ig body m (i + 1) e s
        | some (.bk e s) => some (.nx e s)
        | some (.rt v s) => some (.rt v s)
        | some (.er e c fs s) => some (.er e c fs s)
        | none => none
def iFor (ii : II) (ig : IG) (body : IS) : IS := fun env st => ob (ii env st) fun src s => loop src.at_ ig body (src.n + 1) 0 env s
theorem s_for {iter tg : Expr} {body : List Stmt} {ii : II} {T : List Nat} {ig : IG} (hp : PassesOwn (model X.prog X.w) X.A X.env X.xe) (hc : X.calm = true) (hi : PI X tg iter (tII X.K ii)) (hg : PG X tg (tIG X.K T ig)) (hb : PSs X body (tIS X.K W ia))
    (hs : ∀ x, foldedSetIterable iter X.env x = pure x := by intro _; rfl) : PS X (.For tg iter body [] pos) (tIS X.K W (iFor ii ig ia)) :=
  PS.imp (ps_for hp hc hi hg hb hs) fun D σ H ⟨env, s, ρ, f, E, S, h, q⟩ => by
    obtain ⟨src, s1, h1, h⟩ := ob_some h
    refine ⟨env, s, ρ, src, s1, E, S, h1, fun J H1 ρ1 G1 S1 O => ?_⟩
    refine ⟨fun i m σ' H' => ∃ env' st' ρ' f', Grow H1 ρ1 H' ρ' ∧ RepE X.K H' ρ' env' σ' ∧ RepS X.K H' ρ' st' ∧ loop src.at_ ig ia m i env' st' = some f' ∧ PostF X.K W D H' ρ' f', ⟨src.n + 1, env, s1, ρ1, f, Grow.refl, E.grow S G1, S1, h, q.grow G1⟩, ?_⟩
    rintro i m σ' H' ⟨env', st', ρ', f', G', E', S', hl, q'⟩
    cases m with
    | zero => cases hl
    | succ m =>
      unfold loop at hl
      obtain ⟨o1, o2⟩ := O H' ρ' st' G' S' i
      split at hl
      · cases hl
      · rename_i e1
        cases hl
        exact .inl ⟨o1 e1, q' σ' H' ρ' Grow.refl S' E'⟩
      · rename_i x e1
        obtain ⟨go, yl⟩ := o2 x e1
        split at hl
        · cases hl
        · rename_i env1 e2
          refine .inr ⟨go, fun σ2 H2 => ∃ m', m' < m + 1 ∧ ∃ env' st' ρ' f', Grow H1 ρ1 H2 ρ' ∧ RepE X.K H2 ρ' env' σ2 ∧ RepS X.K H2 ρ' st' ∧ loop src.at_ ig ia m' (i + 1) env' st' = some f' ∧ PostF X.K W D H2 ρ' f', fun σ2 H2 n => n, fun v H2 y => ?_⟩
          obtain ⟨ρ2, G2, S2, R2⟩ := yl v H2 y
          refine ⟨env', st', ρ2, x, env1, E'.grow S' G2, S2, R2, e2, fun σ3 E3 _ _ => ?_⟩
          cases e3 : ia env1 st' with
          | none => rw [e3] at hl; cases hl
          | some fl =>
            rw [e3] at hl
            refine ⟨env1, st', ρ2, fl, E3, S2, e3, ?_⟩
            cases fl with
            | nx e s => exact fun σ4 H4 ρ4 G4 S4 E4 => ⟨m, Nat.lt_succ_self m, e, s, ρ4, f', (G'.trans G2).trans G4, E4, S4, hl, q'.grow (G2.trans G4)⟩
            | ct e s => exact fun σ4 H4 ρ4 G4 S4 E4 => ⟨m, Nat.lt_succ_self m, e, s, ρ4, f', (G'.trans G2).trans G4, E4, S4, hl, q'.grow (G2.trans G4)⟩
            | bk e s => cases hl; exact fun σ4 H4 ρ4 G4 S4 E4 => q' σ4 H4 ρ4 (G2.trans G4) S4 E4
            | rt v s => cases hl; exact fun v H4 ρ4 G4 S4 R4 => q' v H4 ρ4 (G2.trans G4) S4 R4
            | er e c fs s => cases hl; exact fun C d σ4 H4 ρ4 vs hc G4 => q' C d σ4 H4 ρ4 vs hc (G2.trans G4)

/-! ### while -/
@[irreducible] def bigN : Nat := 1000000
def wloop (t : IT) (body : IS) : Nat → PEnv → Sto → Option Fl
  | 0, _, _ => none
  | m + 1, env, st => match t env st with
    | none => none
    | some (false, s) => some (.nx env s)
    | some (true, s) => match body env s with
      | some (.nx e s) => wloop t body m e s
      | some (.ct e s) => wloop t body m e s
      | some (.bk e s) => some (.nx e s)
      | some (.rt v s) => some (.rt v s)
      | some (.er e c fs s) => some (.er e c fs s)
      | none => none
def iWhile (t : IT) (body : IS) : IS := wloop t body bigN
theorem s_while {c : Expr} {body : List Stmt} (hp : PassesOwn (model X.prog X.w) X.A X.env X.xe) (hc : PT X c (tIT X.K it)) (hb : PSs X body (tIS X.K W ia)) : PS X (.While c body [] pos) (tIS X.K W (iWhile it ia)) :=
  PS.imp (ps_while hp hc hb) fun D σ H ⟨env, s, ρ, f, E, S, h, q⟩ => by
    refine ⟨fun m σ' H' => ∃ env' st' ρ' f', RepE X.K H' ρ' env' σ' ∧ RepS X.K H' ρ' st' ∧ wloop it ia m env' st' = some f' ∧ PostF X.K W D H' ρ' f', ⟨bigN, env, s, ρ, f, E, S, h, q⟩, ?_⟩
    rintro m σ' H' ⟨env', st', ρ', f', E', S', hl, q'⟩
    cases m with
    | zero => cases hl
    | succ m =>
      unfold wloop at hl
      cases e1 : it env' st' with
      | none => rw [e1] at hl; cases hl
      | some r =>
        obtain ⟨b, s1⟩ := r
        rw [e1] at hl
        refine ⟨env', st', ρ', b, s1, E', S', e1, fun H1 ρ1 G1 S1 => ?_⟩
        cases b with
        | false =>
          cases hl
          rw [if_neg Bool.false_ne_true]
          exact q' σ' H1 ρ1 G1 S1 (E'.grow S' G1)
        | true =>
          rw [if_pos rfl]
          refine ⟨fun σ2 H2 => ∃ m', m' < m + 1 ∧ ∃ env' st' ρ' f', RepE X.K H2 ρ' env' σ2 ∧ RepS X.K H2 ρ' st' ∧ wloop it ia m' env' st' = some f' ∧ PostF X.K W D H2 ρ' f', fun σ2 H2 n => n, ?_⟩
          cases e3 : ia env' s1 with
          | none => simp only [e3] at hl; cases hl
          | some fl =>
            simp only [e3] at hl
            refine ⟨env', s1, ρ1, fl, E'.grow S' G1, S1, e3, ?_⟩
            cases fl with
            | nx e s => exact fun σ4 H4 ρ4 G4 S4 E4 => ⟨m, Nat.lt_succ_self m, e, s, ρ4, f', E4, S4, hl, q'.grow (G1.trans G4)⟩
            | ct e s => exact fun σ4 H4 ρ4 G4 S4 E4 => ⟨m, Nat.lt_succ_self m, e, s, ρ4, f', E4, S4, hl, q'.grow (G1.trans G4)⟩
            | bk e s => cases hl; exact fun σ4 H4 ρ4 G4 S4 E4 => q' σ4 H4 ρ4 (G1.trans G4) S4 E4
            | rt v s => cases hl; exact fun v H4 ρ4 G4 S4 R4 => q' v H4 ρ4 (G1.trans G4) S4 R4
            | er e c fs s => cases hl; exact fun C d σ4 H4 ρ4 vs hc G4 => q' C d σ4 H4 ρ4 vs hc (G1.trans G4)

/-! ### comprehensions -/
def wipeE (env : PEnv) : List Nat → PEnv
  | [] => env
  | v :: vs => (wipeE env vs).set v none
theorem RepE.setNone {K : PySem.W.Frag} {H : Hp} {ρ : Rho} {env : PEnv} {σ : L2.St} (E : RepE K H ρ env σ) (i : Nat) : RepE K H ρ (env.set i none) (σ.set i none) := by
  refine ⟨by simpa using E.len, fun j y hj => ?_⟩
  by_cases e : i = j
  · subst e
    by_cases hl : i < env.length
    · rw [List.getElem?_set_self hl] at hj
      cases hj
    · rw [List.getElem?_eq_none (by simpa using hl)] at hj
      cases hj
  · rw [List.getElem?_set_ne e] at hj
    obtain ⟨w, a, b⟩ := E.at_ j y hj
    exact ⟨w, by rw [List.getElem?_set_ne e]; exact a, b⟩
theorem RepE.wipe {K : PySem.W.Frag} {H : Hp} {ρ : Rho} {env : PEnv} {σ : L2.St} (E : RepE K H ρ env σ) : ∀ vs : List Nat, RepE K H ρ (wipeE env vs) (L2.wipe σ vs)
  | [] => E
  | v :: vs => (RepE.wipe E vs).setNone v
theorem wipe_at {σ : L2.St} {i : Nat} : ∀ {vs : List Nat}, i ∈ vs → i < σ.length → (L2.wipe σ vs)[i]? = some none
  | [], h, _ => by simp at h
  | v :: vs, h, hl => by
    unfold L2.wipe
    by_cases e : v = i
    · subst e
      exact List.getElem?_set_self (by rw [L2.wipe_length]; exact hl)
    · rw [List.getElem?_set_ne e]
      exact wipe_at (by rcases List.mem_cons.mp h with h | h; exact absurd h.symm e; exact h) hl
theorem wipe_same {σ σ' : L2.St} {vs : List Nat} (hl : σ'.length = σ.length) (h : ∀ i, i ∉ vs → σ'[i]? = (L2.wipe σ vs)[i]?) : L2.wipe σ' vs = L2.wipe σ vs := by
  refine List.ext_getElem? fun i => ?_
  by_cases hi : i ∈ vs
  · by_cases hb : i < σ.length
    · rw [wipe_at hi hb, wipe_at hi (by rw [hl]; exact hb)]
    · rw [List.getElem?_eq_none (by rw [L2.wipe_length]; omega), List.getElem?_eq_none (by rw [L2.wipe_length]; omega)]
  · rw [L2.wipe_out hi, h i hi]
def lcLoop (at_ : Sto → Nat → Option (Option PV)) (ig : IG) (t : IT) (e : IE) (d : Nat) (env : PEnv) : Nat → Nat → Sto → Option Sto
  | 0, _, _ => none
  | m + 1, i, st => match at_ st i with
    | none => none
    | some none => some st
    | some (some x) => match ig x env st with
      | none => none
      | some env1 => match t env1 st with
        | none => none
        | some (false, s1) => lcLoop at_ ig t e d env m (i + 1) s1
        | some (true, s1) => match e env1 s1 with
          | none => none
          | some (y, s2) => match s2[d]? with
            | some (.lst acc) => if acc.length < 9000000 then lcLoop at_ ig t e d env m (i + 1) (s2.set d (.lst (acc ++ [y]))) else none
            | _ => none
def iLc (ii : II) (ig : IG) (t : IT) (e : IE) (vs : List Nat) : IE := fun env st => ob (ii env st) fun src s =>
  (lcLoop src.at_ ig t e s.length (wipeE env vs) (src.n + 1) 0 (s ++ [.lst []])).map fun s' => (.ref s.length, s')
theorem line6 {n : Nat} (h : n < 9000000) : n < sizeLine := Nat.lt_of_lt_of_le h (by decide)
theorem lc_to {K : PySem.W.Frag} {ii : II} {ig : IG} {T vs : List Nat} {σ : L2.St} {H : Hp} {Q : VK} (hT : ∀ i ∈ T, i ∈ vs) (h : tI K (iLc ii ig it ie vs) σ H Q) : tLc (tII K ii) (tIG K T ig) (tIT K it) (tI K ie) vs σ H Q := by
  obtain ⟨env, s, ρ, z, st', E, S, h, q⟩ := h
  obtain ⟨src, s1, h1, h⟩ := ob_some h
  obtain ⟨hl, hz⟩ : lcLoop src.at_ ig it ie s1.length (wipeE env vs) (src.n + 1) 0 (s1 ++ [.lst []]) = some st' ∧ z = .ref s1.length := by
    cases e : lcLoop src.at_ ig it ie s1.length (wipeE env vs) (src.n + 1) 0 (s1 ++ [.lst []]) with
    | none => rw [e] at h; cases h
    | some s' => rw [e] at h; cases h; exact ⟨rfl, rfl⟩
  subst hz
  refine ⟨env, s, ρ, src, s1, E, S, h1, fun J H1 ρ1 G1 S1 O Dl hD => ?_⟩
  have g0 : Grow H1 ρ1 (upd H1 Dl (.lst [])) (ρ1.add Dl) := grow_alloc hD
  have E1 : RepE K H1 ρ1 env σ := E.grow S G1
  refine ⟨fun i m H' => ∃ st2 ρ', Grow (upd H1 Dl (.lst [])) (ρ1.add Dl) H' ρ' ∧ RepS K H' ρ' st2 ∧ lcLoop src.at_ ig it ie s1.length (wipeE env vs) m i st2 = some st',
    ⟨src.n + 1, _, _, Grow.refl, S1.alloc (so := .lst []) hD ⟨[], upd_same, by unfold Reps; rfl⟩, hl⟩, ?_⟩
  rintro i m H' ⟨st2, ρ', G', S', hl⟩
  have ix : ρ'.l[s1.length]? = some Dl := G'.ix (by show (ρ1.l ++ [Dl])[s1.length]? = some Dl; rw [← S1.len, List.getElem?_append_right (Nat.le_refl _)]; simp)
  cases m with
  | zero => cases hl
  | succ m =>
    unfold lcLoop at hl
    obtain ⟨o1, o2⟩ := O H' ρ' st2 (g0.trans G') S' i
    split at hl
    · cases hl
    · rename_i e1
      cases hl
      refine .inl ⟨o1 e1, q _ H' ρ' (G1.trans (g0.trans G')) S' ?_⟩
      unfold Rep
      exact ⟨Dl, rfl, ix⟩
    · rename_i x e1
      obtain ⟨go, yl⟩ := o2 x e1
      split at hl
      · cases hl
      · rename_i env1 e2
        refine .inr ⟨go, fun H2 => ∃ m', m' < m + 1 ∧ ∃ st2 ρ', Grow (upd H1 Dl (.lst [])) (ρ1.add Dl) H2 ρ' ∧ RepS K H2 ρ' st2 ∧ lcLoop src.at_ ig it ie s1.length (wipeE env vs) m' (i + 1) st2 = some st', fun H2 n => n, fun v H2 y => ?_⟩
        obtain ⟨ρ2, G2, S2, R2⟩ := yl v H2 y
        have Ew : RepE K H2 ρ2 (wipeE env vs) (L2.wipe σ vs) := (E1.wipe vs).grow S1 ((g0.trans G').trans G2)
        refine ⟨wipeE env vs, st2, ρ2, x, env1, Ew, S2, R2, e2, fun σ3 E3 l3 a3 => ⟨?_, ?_⟩⟩
        · rw [L2.wipe_length] at l3
          exact wipe_same l3 fun j hj => a3 j fun z => hj (hT j z)
        · cases e3 : it env1 st2 with
          | none => rw [e3] at hl; cases hl
          | some r =>
            obtain ⟨b, s3⟩ := r
            rw [e3] at hl
            refine ⟨env1, st2, ρ2, b, s3, E3, S2, e3, fun H3 ρ3 G3 S3 => ?_⟩
            cases b with
            | false =>
              rw [if_neg Bool.false_ne_true]
              exact ⟨m, Nat.lt_succ_self m, s3, ρ3, (G'.trans G2).trans G3, S3, hl⟩
            | true =>
              rw [if_pos rfl]
              simp only at hl
              cases e4 : ie env1 s3 with
              | none => rw [e4] at hl; cases hl
              | some r =>
                obtain ⟨y, s4⟩ := r
                rw [e4] at hl
                refine ⟨env1, s3, ρ3, y, s4, E3.grow S2 G3, S3, e4, fun w H4 ρ4 G4 S4 R4 => ?_⟩
                simp only at hl
                split at hl
                · rename_i acc e5
                  split at hl
                  · rename_i hlen
                    have ix4 : ρ4.l[s1.length]? = some Dl := (G2.trans (G3.trans G4)).ix ix
                    obtain ⟨b, ws, e0, hb, ndd, h2, h3⟩ := S4.lst (by unfold Rep; exact ⟨Dl, rfl, ix4⟩) e5
                    cases e0
                    have gw : Grow H4 ρ4 (upd H4 Dl (.lst (ws ++ [w]))) ρ4 := grow_write h2 (List.mem_of_getElem? ix4) ndd
                    refine ⟨ws, h2, line6 (by rw [← h3.length]; exact hlen), m, Nat.lt_succ_self m, _, ρ4, ((G'.trans G2).trans G3).trans (G4.trans gw), S4.write (so := .lst (acc ++ [y])) ix4 ndd h2 ⟨_, upd_same, ?_⟩, hl⟩
                    exact Reps.grow S4 gw _ _ (Reps.append h3 (by unfold Reps; exact ⟨w, [], rfl, R4, by unfold Reps; rfl⟩))
                  · cases hl
                · cases hl
theorem r_lc {elt tg iter : Expr} {ifs : List Expr} {scope : Scope} {own : List (Str × Nat)} {ii : II} {T : List Nat} {ig : IG} (hc : X.calm = true) (hN : X.N.Nodup) (hi : PI X tg iter (tII X.K ii)) (ok : BlkOk X.N X.env.scope scope own)
    (hT : ∀ i ∈ T, i ∈ own.map (·.2))
    (hg : ∀ (s : Shared) (H : Hp) (C : Addr) (cl : List (Str × Addr)) (fp : List Addr), PG (X.blk s H scope (compEnvC scope cl C X.env) fp) tg (tIG X.K T ig)) (ht : ∀ (s : Shared) (H : Hp) (C : Addr) (cl : List (Str × Addr)) (fp : List Addr), PTs (X.blk s H scope (compEnvC scope cl C X.env) fp) ifs (tIT X.K it))
    (he : ∀ (s : Shared) (H : Hp) (C : Addr) (cl : List (Str × Addr)) (fp : List Addr), PE (X.blk s H scope (compEnvC scope cl C X.env) fp) elt (tI X.K ie)) (hs : ∀ x, foldedSetIterable iter X.env x = pure x := by intro _; rfl) :
    PE X (.ListComp elt [⟨tg, iter, ifs, 0⟩] scope pos) (tI X.K (iLc ii ig it ie (own.map (·.2)))) :=
  PE.imp (pe_lc hc hN hi ok hg ht he hs) fun _ _ _ h => lc_to hT h
theorem s_setLc {i : Nat} {y : Str} {py : Pos} {elt tg iter : Expr} {ifs : List Expr} {scope : Scope} {own : List (Str × Nat)} {spos : Pos} {ii : II} {T : List Nat} {ig : IG} (hy : X.N[i]? = some y) (hyl : X.env.scope.names.lookup y = some .local)
    (hsw : swapsWith (.ListComp elt [⟨tg, iter, ifs, 0⟩] scope pos) (some (.Name y py)) spos.line X.env = pure true) (hc : X.calm = true) (hN : X.N.Nodup) (hi : PI X tg iter (tII X.K ii)) (ok : BlkOk X.N X.env.scope scope own)
    (hT : ∀ i ∈ T, i ∈ own.map (·.2))
    (hg : ∀ (s : Shared) (H : Hp) (C : Addr) (cl : List (Str × Addr)) (fp : List Addr), PG (X.blk s H scope (compEnvC scope cl C X.env) fp) tg (tIG X.K T ig)) (ht : ∀ (s : Shared) (H : Hp) (C : Addr) (cl : List (Str × Addr)) (fp : List Addr), PTs (X.blk s H scope (compEnvC scope cl C X.env) fp) ifs (tIT X.K it))
    (he : ∀ (s : Shared) (H : Hp) (C : Addr) (cl : List (Str × Addr)) (fp : List Addr), PE (X.blk s H scope (compEnvC scope cl C X.env) fp) elt (tI X.K ie)) (hs : ∀ x, foldedSetIterable iter X.env x = pure x := by intro _; rfl) :
    PS X (.Assign [.Name y py] (.ListComp elt [⟨tg, iter, ifs, 0⟩] scope pos) spos) (tIS X.K W (iAsg (gN i) (iLc ii ig it ie (own.map (·.2))))) :=
  PS.imp (ps_setLc hc hN hy hyl hsw hi ok hg ht he hs) fun D σ H ⟨env, s, ρ, f, E, S, h, q⟩ => by
    obtain ⟨x, s1, h1, h⟩ := ob_some h
    cases h
    exact lc_to hT ⟨env, s, ρ, x, _, E, S, h1, fun v H1 ρ1 G1 S1 R1 => q _ H1 ρ1 G1 S1 ((E.grow S G1).set R1 i)⟩
/-- x += e of ints -/
def iAugI (g : Int → Int → Int) (i : Nat) (ie : IE) : IS := fun env st => match env[i]? with
  | some (some (.int a)) => ob (ie env st) fun y s => match y with
    | .int b => some (.nx (env.set i (some (.int (g a b)))) s)
    | _ => none
  | _ => none
def iAugAdd : Nat → IE → IS := iAugI (· + ·)
def iAugSub : Nat → IE → IS := iAugI (· - ·)
theorem s_aug {g : Int → Int → Int} {op : Operator} {i : Nat} {x : Str} {pos' : Pos} (hp : PIp X op (ipI g)) (hN : X.N.Nodup) (hi : X.N[i]? = some x) (hx : Loc X.env.scope x) (he : PE X e (tI X.K ie)) (hf : X.fn x = true ∨ X.env.scope.names.lookup x = some .local) :
    PS X (.AugAssign (.Name x pos') op e pos) (tIS X.K W (iAugI g i ie)) :=
  PS.imp (ps_aug hN hi hx he hp hf) fun D σ H ⟨env, s, ρ, f, E, S, h, q⟩ => by
    unfold iAugI at h
    split at h
    · rename_i a ea
      obtain ⟨y, s1, h1, h⟩ := ob_some h
      split at h
      · cases h
        obtain ⟨v, hv, rv⟩ := E.at_ _ _ ea
        refine ⟨v, hv, env, s, ρ, _, _, E, S, h1, fun w H1 ρ1 G1 S1 R1 => ?_⟩
        unfold Rep at rv R1
        subst rv R1
        exact ⟨_, _, rfl, rfl, q _ H1 ρ1 G1 S1 ((E.grow S G1).set (by unfold Rep; rfl) i)⟩
      · cases h
    · cases h
theorem s_augAdd {i : Nat} {x : Str} {pos' : Pos} (hN : X.N.Nodup) (hi : X.N[i]? = some x) (hx : Loc X.env.scope x) (he : PE X e (tI X.K ie)) (hf : X.fn x = true ∨ X.env.scope.names.lookup x = some .local := by first | exact .inl rfl | exact .inr rfl | assumption) :
    PS X (.AugAssign (.Name x pos') .Add e pos) (tIS X.K W (iAugAdd i ie)) := s_aug ip_add hN hi hx he hf
theorem s_augSub {i : Nat} {x : Str} {pos' : Pos} (hN : X.N.Nodup) (hi : X.N[i]? = some x) (hx : Loc X.env.scope x) (he : PE X e (tI X.K ie)) (hf : X.fn x = true ∨ X.env.scope.names.lookup x = some .local := by first | exact .inl rfl | exact .inr rfl | assumption) :
    PS X (.AugAssign (.Name x pos') .Sub e pos) (tIS X.K W (iAugSub i ie)) := s_aug ip_sub hN hi hx he hf
def iYes : IT := fun _ st => some (true, st)
theorem t_yes : PTs X [] (tIT X.K iYes) := ⟨fun pins s σ H Q I h => pts_nil.run pins s σ H Q I (by
  obtain ⟨env, st, ρ, z, st', E, S, h, q⟩ := h
  cases h
  exact q H ρ Grow.refl S)⟩
theorem t_one {c : Expr} (h : PT X c (tIT X.K it)) : PTs X [c] (tIT X.K it) := pts_one h
end

/-! ### defs -/
/-! ### the end of a def: what it made for itself is let go -/
mutual
/-- no number from m on stands in it -/
def rlt (m : Nat) : PV → Prop
  | .tup xs => rlts m xs
  | .frz xs => rlts m xs
  | .fdk _ xs => rlts m xs
  | .ref n => n < m
  | _ => True
def rlts (m : Nat) : List PV → Prop
  | [] => True
  | x :: xs => rlt m x ∧ rlts m xs
end
def rltO (m : Nat) : SO → Prop
  | .lst xs => rlts m xs
  | .dK kvs => rlts m (kvs.map (·.2))
  | .ins _ fs => rlts m (fs.map (·.2))
  | .gone => True
/-- the store behind a def, without what it made for itself alone -/
def Gc (st s : Sto) (v : PV) : Prop := rlt st.length v ∧ ∀ i so, i < st.length → s[i]? = some so → st[i]? = some so ∨ rltO st.length so
open Classical in
noncomputable def gcS (st s : Sto) (v : PV) : Sto := if Gc st s v then s.take st.length else s
section
variable {K : PySem.W.Frag} {H H' : Hp} {ρ ρ' : Rho} {st st' : Sto}
/-- the addresses up to those of ρ -/
def Rho.cut (ρ ρ' : Rho) : Rho := ⟨ρ.l, ρ'.d.filter fun a => decide (a ∈ ρ.l)⟩
theorem safe_cut (g : Grow H ρ H' ρ') {a : Addr} (h : ρ'.Safe a) : (Rho.cut ρ ρ').Safe a := by
  obtain ⟨l, e, _⟩ := g.ext
  by_cases ha : a ∈ ρ.l
  · rcases h with h | h
    · exact absurd (by rw [e]; exact List.mem_append_left _ ha) h
    · exact .inr (List.mem_filter.mpr ⟨h, decide_eq_true ha⟩)
  · exact .inl ha
mutual
theorem rep_cut (g : Grow H ρ H' ρ') : ∀ (x : PV) (v : V), rlt ρ.l.length x → Rep K H' ρ' x v → Rep K H' (Rho.cut ρ ρ') x v
  | .non, v, _, h => by unfold Rep at *; exact h
  | .bl b, v, _, h => by unfold Rep at *; exact h
  | .int i, v, _, h => by unfold Rep at *; exact h
  | .str x, v, _, h => by unfold Rep at *; exact h
  | .tup xs, v, r, h => by
    unfold rlt at r
    unfold Rep at *
    obtain ⟨a, vs, e, h1, h2⟩ := h
    exact ⟨a, vs, e, h1, reps_cut g xs vs r h2⟩
  | .frz xs, v, r, h => by
    unfold rlt at r
    unfold Rep at *
    obtain ⟨a, vs, e, h1, h2⟩ := h
    refine ⟨a, vs, e, ?_, reps_cut g xs vs r h2⟩
    rcases h1 with ⟨h1, n⟩ | h1
    · exact .inl ⟨h1, safe_cut g n⟩
    · exact .inr h1
  | .ref n, v, r, h => by
    unfold rlt at r
    unfold Rep at *
    obtain ⟨a, e, h1⟩ := h
    obtain ⟨l, e2, _⟩ := g.ext
    rw [e2, List.getElem?_append_left r] at h1
    exact ⟨a, e, h1⟩
  | .ty n, v, _, h => by unfold Rep at *; exact h
  | .fdk ks xs, v, r, h => by
    unfold rlt at r
    unfold Rep at *
    obtain ⟨a, vs, e, h1, h2⟩ := h
    obtain ⟨kvs, h1, n, e1, e2⟩ := h1
    exact ⟨a, vs, e, ⟨kvs, h1, safe_cut g n, e1, e2⟩, reps_cut g xs vs r h2⟩
theorem reps_cut (g : Grow H ρ H' ρ') : ∀ (xs : List PV) (vs : List V), rlts ρ.l.length xs → Reps K H' ρ' xs vs → Reps K H' (Rho.cut ρ ρ') xs vs
  | [], vs, _, h => by unfold Reps at *; exact h
  | x :: xs, vs, r, h => by
    unfold rlts at r
    unfold Reps at *
    obtain ⟨v, w, e, h1, h2⟩ := h
    exact ⟨v, w, e, rep_cut g x v r.1 h1, reps_cut g xs w r.2 h2⟩
end
theorem repK_cut (g : Grow H ρ H' ρ') : ∀ (xs : List (Key × PV)) (vs : List (Key × V)), rlts ρ.l.length (xs.map (·.2)) → RepK K H' ρ' xs vs → RepK K H' (Rho.cut ρ ρ') xs vs
  | [], vs, _, h => h
  | x :: xs, vs, r, h => by
    rw [List.map_cons] at r
    unfold rlts at r
    obtain ⟨v, w, e, h1, h2⟩ := h
    exact ⟨v, w, e, rep_cut g _ v r.1 h1, repK_cut g xs w r.2 h2⟩
theorem repF_cut (g : Grow H ρ H' ρ') : ∀ (xs : List (Str × PV)) (vs : List (Str × V)), rlts ρ.l.length (xs.map (·.2)) → RepF K H' ρ' xs vs → RepF K H' (Rho.cut ρ ρ') xs vs
  | [], vs, _, h => h
  | x :: xs, vs, r, h => by
    rw [List.map_cons] at r
    unfold rlts at r
    obtain ⟨v, w, e, h1, h2⟩ := h
    exact ⟨v, w, e, rep_cut g _ v r.1 h1, repF_cut g xs w r.2 h2⟩
theorem repO_cut (g : Grow H ρ H' ρ') {so : SO} {a : Addr} (r : rltO ρ.l.length so) (h : RepO K H' ρ' so a) : RepO K H' (Rho.cut ρ ρ') so a := by
  cases so with
  | lst xs => obtain ⟨vs, h1, h2⟩ := h; exact ⟨vs, h1, reps_cut g xs vs r h2⟩
  | dK xs => obtain ⟨vs, h1, h2⟩ := h; exact ⟨vs, h1, repK_cut g xs vs r h2⟩
  | ins c xs => obtain ⟨C, dx, vs, hc, h1, h2⟩ := h; exact ⟨C, dx, vs, hc, h1, repF_cut g xs vs r h2⟩
  | gone => exact h
mutual
theorem rlt_of : ∀ (x : PV) (v : V), Rep K H ρ x v → rlt ρ.l.length x
  | .non, v, _ => by unfold rlt; trivial
  | .bl b, v, _ => by unfold rlt; trivial
  | .int i, v, _ => by unfold rlt; trivial
  | .str x, v, _ => by unfold rlt; trivial
  | .ty x, v, _ => by unfold rlt; trivial
  | .tup xs, v, h => by
    unfold Rep at h
    unfold rlt
    obtain ⟨a, vs, e, h1, h2⟩ := h
    exact rlts_of xs vs h2
  | .frz xs, v, h => by
    unfold Rep at h
    unfold rlt
    obtain ⟨a, vs, e, h1, h2⟩ := h
    exact rlts_of xs vs h2
  | .fdk ks xs, v, h => by
    unfold Rep at h
    unfold rlt
    obtain ⟨a, vs, e, h1, h2⟩ := h
    exact rlts_of xs vs h2
  | .ref n, v, h => by
    unfold Rep at h
    unfold rlt
    obtain ⟨a, e, h1⟩ := h
    exact (List.getElem?_eq_some_iff.mp h1).1
theorem rlts_of : ∀ (xs : List PV) (vs : List V), Reps K H ρ xs vs → rlts ρ.l.length xs
  | [], vs, _ => by unfold rlts; trivial
  | x :: xs, vs, h => by
    unfold Reps at h
    unfold rlts
    obtain ⟨v, w, e, h1, h2⟩ := h
    exact ⟨rlt_of x v h1, rlts_of xs w h2⟩
end
theorem rltK_of : ∀ (xs : List (Key × PV)) (vs : List (Key × V)), RepK K H ρ xs vs → rlts ρ.l.length (xs.map (·.2))
  | [], vs, _ => by simp [rlts]
  | x :: xs, vs, h => by
    obtain ⟨v, w, e, h1, h2⟩ := h
    rw [List.map_cons]
    unfold rlts
    exact ⟨rlt_of _ v h1, rltK_of xs w h2⟩
theorem rltF_of : ∀ (xs : List (Str × PV)) (vs : List (Str × V)), RepF K H ρ xs vs → rlts ρ.l.length (xs.map (·.2))
  | [], vs, _ => by simp [rlts]
  | x :: xs, vs, h => by
    obtain ⟨v, w, e, h1, h2⟩ := h
    rw [List.map_cons]
    unfold rlts
    exact ⟨rlt_of _ v h1, rltF_of xs w h2⟩
theorem rltO_of {so : SO} {a : Addr} (h : RepO K H ρ so a) : rltO ρ.l.length so := by
  cases so with
  | lst xs => obtain ⟨vs, h1, h2⟩ := h; exact rlts_of xs vs h2
  | dK xs => obtain ⟨vs, h1, h2⟩ := h; exact rltK_of xs vs h2
  | ins c xs => obtain ⟨C, dx, vs, hc, h1, h2⟩ := h; exact rltF_of xs vs h2
  | gone => trivial
theorem gc_to {v : PV} {u : V} (S : RepS K H ρ st) (g : Grow H ρ H' ρ') (S' : RepS K H' ρ' st') (R : Rep K H' ρ' v u) : ∃ ρ2, Grow H ρ H' ρ2 ∧ RepS K H' ρ2 (gcS st st' v) ∧ Rep K H' ρ2 v u := by
  unfold gcS
  split
  · rename_i hg
    obtain ⟨g1, g2⟩ := hg
    obtain ⟨l, e, hl⟩ := g.ext
    have hlen : st.length ≤ st'.length := by rw [← S.len, ← S'.len, e]; simp
    rw [← S.len] at g1
    refine ⟨Rho.cut ρ ρ', ⟨⟨[], by simp [Rho.cut], fun _ h => by simp at h⟩, fun b hb => List.mem_filter.mpr ⟨g.ded b hb, decide_eq_true (S.sd b hb)⟩, g.keep, g.dom, g.lck⟩, ⟨?_, S.nd, fun n so hn => ?_, fun n so a hn hng ha => ?_, fun a ha => of_decide_eq_true (List.mem_filter.mp ha).2⟩, rep_cut g v u g1 R⟩
    · show ρ.l.length = _
      rw [List.length_take, S.len]; omega
    · rw [List.getElem?_take] at hn
      split at hn
      · rename_i hi
        obtain ⟨a, h1, h2⟩ := S'.at_ n so hn
        have h1' : ρ.l[n]? = some a := by rw [e, List.getElem?_append_left (by rw [S.len]; exact hi)] at h1; exact h1
        refine ⟨a, h1', repO_cut g ?_ h2⟩
        rcases g2 n so hi hn with h3 | h3
        · obtain ⟨b, _, h5⟩ := S.at_ n so h3
          exact rltO_of h5
        · rw [S.len]; exact h3
      · cases hn
    · rw [List.getElem?_take] at hn
      split at hn
      · have ha' : ρ'.l[n]? = some a := g.ix ha
        exact fun z => S'.lv n so a hn hng ha' (List.mem_filter.mp z).1
      · cases hn
  · exact ⟨ρ', g, S', R⟩
end
noncomputable def iDef (n nN : Nat) (b : IS) : FA := fun xs st => if xs.length = n then (match b (xs.map some ++ List.replicate (nN - n) none) st with
  | some (.nx _ s) => some (.non, gcS st s .non)
  | some (.rt v s) => some (v, gcS st s v)
  | _ => none) else none
theorem ar_def {n nN : Nat} {b : IS} : Ar n (iDef n nN b) := fun xs st r h => by
  unfold iDef at h
  split at h
  · assumption
  · cases h
theorem repE_start {K : PySem.W.Frag} {H : Hp} {ρ : Rho} {xs : List PV} {vs : List V} (R : Reps K H ρ xs vs) (N : List Str) : RepE K H ρ (xs.map some ++ List.replicate (N.length - vs.length) none) (L2.start N vs) := by
  unfold L2.start
  refine ⟨by simp [R.length], fun i x h => ?_⟩
  by_cases hi : i < xs.length
  · rw [List.getElem?_append_left (by simpa using hi), List.getElem?_map] at h
    cases e : xs[i]? with
    | none => rw [e] at h; cases h
    | some y =>
      rw [e] at h
      cases h
      obtain ⟨v, hv, r⟩ := R.get e
      refine ⟨v, ?_, r⟩
      rw [List.getElem?_append_left (by simp [← R.length]; exact hi), List.getElem?_map, hv]
      rfl
  · rw [List.getElem?_append_right (by simpa using hi), List.getElem?_replicate] at h
    split at h <;> cases h
theorem hb_of {P : Program} {w : World} {K : PySem.W.Frag} {mg : Str → Option Value} {base : Heap} {x : Str} {scope : Scope} {body : List Stmt} {f : Addr} {N ps : List Str} {k : Nat} {ib : IS} {W : WX}
    (hb : ∀ (cdv : Value) (A : Around) (outer : List PySem.Env) (s : Shared) (H : Hp) (E : XK), Room k (A.deeper (envOfC x scope s.heap.objs.size f cdv)) → PSs (cxOf CX0 P w K mg base N x scope f cdv A outer s H E).nox body (tIS K W ib)) :
    ∀ (cdv : Value) (A : Around) (outer : List PySem.Env) (s : Shared) (H : Hp) (vs : List V) (Q : VK) (E : XK), Room k (A.deeper (envOfC x scope s.heap.objs.size f cdv)) → spI K ps.length (iDef ps.length N.length ib) vs H Q E →
      ∃ t, PSs (cxOf CX0 P w K mg base N x scope f cdv A outer s H E).nox body t ∧ t { nx := fun _ H' => Q .non H', rt := Q } (L2.start N vs) H :=
  fun cdv A outer s H vs Q E hr hsp => ⟨tIS K W ib, hb cdv A outer s H E hr, by
    obtain ⟨hl, s1, ρ, xs, z, st', S1, R1, h, q⟩ := hsp
    unfold iDef at h
    split at h
    · have E1 := repE_start R1 N
      rw [hl] at E1
      split at h
      · rename_i e1 s2 e
        cases h
        refine ⟨_, s1, ρ, _, E1, S1, e, fun σ' H' ρ' G S' E' => ?_⟩
        obtain ⟨ρ2, G2, S2, R2⟩ := gc_to (v := .non) (u := .non) S1 G S' (by unfold Rep; rfl)
        exact q .non H' ρ2 G2 S2 R2
      · rename_i v s2 e
        cases h
        refine ⟨_, s1, ρ, _, E1, S1, e, fun v H' ρ' G S' R' => ?_⟩
        obtain ⟨ρ2, G2, S2, R2⟩ := gc_to S1 G S' R'
        exact q v H' ρ2 G2 S2 R2
      · cases h
    · cases h⟩
theorem cal_def {P : Program} {w : World} {K : PySem.W.Frag} {mg : Str → Option Value} {base : Heap} {x : Str} {st : Stmt} {f : Addr} {fd : FuncData} {N ps : List Str} {k : Nat} {ib : IS} {W : WX} (F : C8.Def K mg x st f fd) (b : Binds K fd ps []) (S : FnScope N ps (C8.fnScope st))
    (hb : ∀ (cdv : Value) (A : Around) (outer : List PySem.Env) (s : Shared) (H : Hp) (E : XK), Room k (A.deeper (envOfC x (C8.fnScope st) s.heap.objs.size f cdv)) →
      PSs (cxOf CX0 P w K mg base N x (C8.fnScope st) f cdv A outer s H E).nox (C8.fnBody st) (tIS K W ib)) : CalI P w K mg base (k + 1) x ps.length (iDef ps.length N.length ib) :=
  C8.cal0 F b .nil S (fun vs H Q E h => h.1) (hb_of hb)
end IL

namespace IL
open PySem PySem.Spec PyProof.Rows L2

section
variable {X : Cx}
def listOf (st : Sto) : PV → Option (List PV)
  | .frz xs => some xs
  | .ref n => match st[n]? with
    | some (.lst xs) => some xs
    | _ => none
  | _ => none
theorem list_rep {K : PySem.W.Frag} {H : Hp} {ρ : Rho} {st : Sto} (S : RepS K H ρ st) {x : PV} {v : V} {xs : List PV} (R : Rep K H ρ x v) (h : listOf st x = some xs) : ∃ a vs, v = .ref a ∧ SqL K H a vs ∧ Reps K H ρ xs vs := by
  cases x with
  | frz ys =>
    unfold Rep at R
    obtain ⟨a, vs, rfl, t, r⟩ := R
    cases h
    exact ⟨a, vs, rfl, t.sq, r⟩
  | ref n =>
    unfold Rep at R
    obtain ⟨a, rfl, i1⟩ := R
    simp only [listOf] at h
    split at h
    · rename_i ys e1
      obtain ⟨b1, hb1, vs1, h1, r1⟩ := S.at_ _ _ e1
      rw [i1] at hb1; cases hb1
      cases h
      exact ⟨a, vs1, rfl, .of h1, r1⟩
    · cases h
  | _ => cases h
theorem list_add_any (l : Addr) (items : Array Value) (n : Nat) (s1 s2 : Array (Option Value)) (b : Addr) (items2 : Array Value) (n2 : Nat) (hc0 : items.size + items2.size ≤ sizeLine) :
    Meets (Builtin.«list.__add__» { pos := [Value.ref l, Value.ref b] }) fun x R s =>
      s.heap.get? l = some ⟨Value.type "list", none, Data.seq items n, s1⟩ ∧
        s.heap.get? b = some ⟨Value.type "list", none, Data.seq items2 n2, s2⟩ ∧
          R (Except.ok (Flow.ret (Value.ref s.heap.objs.size)))
            { heap := s.heap.push { cls := Value.type "list", data := Data.seq (items ++ items2) }, gens := s.gens,
              drawn := s.drawn, toks := s.toks, os := s.os } := by
  refine Meets.of_wp fun prog w A R s h => ?_
  obtain ⟨hp, g, d, tk, os⟩ := s
  obtain ⟨hl, hb, h⟩ := h
  have f3 := AutoSeq1.sub_list_list
  have hz : decide ((items ++ items2).size > sizeLine) = false := by
    rw [Array.size_append]; exact decide_eq_false (by omega)
  unfold Builtin.«list.__add__»
  refine wpAny_bind ?_
  unfold slotArgs
  refine wpAny_ite_false rfl (wpAny_ite_false rfl (wpAny_pure ?_))
  refine wpAny_bind ?_
  unfold isInstance
  refine wpAny_bind ?_
  try unfold typeOf
  refine wpAny_bind ?_
  refine AutoSeq1.wpAny_loadPart' hb (wpAny_pure ?_)
  refine wpAny_of_eq f3 ?_
  refine wpAny_ite_false rfl ?_
  refine wpAny_bind ?_
  unfold Builtin.List.listItems
  unfold seqItems?
  refine wpAny_bind ?_
  refine wpAny_bind ?_
  refine wpAny_load' hl (wpAny_pure (wpAny_pure ?_))
  refine wpAny_bind ?_
  refine wpAny_bind ?_
  refine wpAny_bind ?_
  refine wpAny_load' hb (wpAny_pure (wpAny_pure ?_))
  refine wpAny_bind ?_
  unfold newObj
  refine wpAny_ite_false hz ?_
  refine wpAny_bind ?_
  refine wpAny_alloc' (wpAny_pure (wpAny_pure ⟨_, rfl, h⟩))
def rCatS (K : PySem.W.Frag) : R2 := fun x y H Q => ∃ a b xs zs, x = .ref a ∧ y = .ref b ∧ SqL K H a xs ∧ SqL K H b zs ∧ xs.length + zs.length ≤ sizeLine ∧ ∀ p : Addr, H p = none → Q (.ref p) (upd H p (.lst (xs ++ zs)))
theorem op_catS : OpR X (binaryOp .Add) (rCatS X.K) := by
  intro pins s σ H x y v u Q I rx ry h
  obtain ⟨a, b, xs, zs, rfl, rfl, ha, hb, hz, q⟩ := h
  cases rx
  cases ry
  obtain ⟨its, r, ⟨o, n, e, k1, k2, k3⟩, hn⟩ := I.list ha
  obtain ⟨its2, r2, ⟨o2, n2, e2, k12, k22, k32⟩, hn2⟩ := I.list hb
  obtain ⟨oc, od, odd, os⟩ := o
  obtain ⟨oc2, od2, odd2, os2⟩ := o2
  simp only at k1 k2 k3 k12 k22 k32
  subst k1 k2 k3 k12 k22 k32
  refine concat_meets ⟨_, e, rfl⟩ ⟨_, e2, rfl⟩ noFill_list_add seq_list_add F.slot_list_add F.entry_list_add (F.args_list_add_2 (Value.ref a) (Value.ref b)) (list_add_any a _ n _ _ b _ n2 ?_) ⟨e, e2, ?_⟩
  · have h1 := r.length
    have h2 := r2.length
    simp only [List.size_toArray]
    omega
  · rw [List.append_toArray]
    exact ⟨.ref s.heap.objs.size, upd H s.heap.objs.size (.lst (xs ++ zs)), I.lnew (r.append r2) (by rw [List.length_append]; exact hz), rfl, q _ I.fresh⟩
/-! ### arithmetic, joining -/
def fAdd : F2 := fun x y st => match x, y with
  | .int a, .int b => some (.int (a + b), st)
  | .str a, .str b => if a.length + b.length ≤ 9000000 then some (.str (a ++ b), st) else none
  | .tup a, .tup b => if a.length + b.length ≤ 9000000 then some (.tup (a ++ b), st) else none
  | x, y => match listOf st x, listOf st y with
    | some a, some b => if a.length + b.length ≤ 9000000 then some (alloc (.lst (a ++ b)) st) else none
    | _, _ => none
def rAdd (K : PySem.W.Frag) : R2 := fun x y H Q => (rI0 (fun i j => .int (i + j)) x y H Q) ∨ (∃ i j, x = .str i ∧ y = .str j ∧ i.length + j.length ≤ sizeLine ∧ Q (.str (i ++ j)) H) ∨ rCatA K x y H Q ∨ rCatS K x y H Q
theorem op_addI : OpR X (binaryOp .Add) (rAdd X.K) := OpR.or op_add (OpR.or op_add_str (OpR.or op_catA op_catS))
theorem f_add {K : PySem.W.Frag} : OpI K (rAdd K) fAdd := by
  intro H ρ st x y vx vy z st' Q S Rx Ry h q
  unfold fAdd at h
  split at h
  · unfold Rep at Rx Ry
    subst Rx Ry
    cases h
    exact .inl ⟨_, _, rfl, rfl, q _ H ρ Grow.refl S (by unfold Rep; rfl)⟩
  · split at h
    · rename_i hl
      unfold Rep at Rx Ry
      subst Rx Ry
      cases h
      exact .inr (.inl ⟨_, _, rfl, rfl, line5 hl, q _ H ρ Grow.refl S (by unfold Rep; rfl)⟩)
    · cases h
  · rename_i a b
    split at h
    · rename_i hl
      unfold Rep at Rx Ry
      obtain ⟨p1, vs1, rfl, t1, r1⟩ := Rx
      obtain ⟨p2, vs2, rfl, t2, r2⟩ := Ry
      cases h
      refine .inr (.inr (.inl ⟨p1, p2, vs1, vs2, rfl, rfl, t1, t2, line5 (by rw [← r1.length, ← r2.length]; exact hl), fun e => ?_, fun _ e => ?_, fun _ _ p hp => ?_⟩))
      · subst e
        have : a = [] := by have := r1.length; cases a; rfl; simp at this
        subst this
        exact q _ H ρ Grow.refl S (by unfold Rep; exact ⟨p2, vs2, rfl, t2, r2⟩)
      · subst e
        have : b = [] := by have := r2.length; cases b; rfl; simp at this
        subst this
        exact q _ H ρ Grow.refl S (by unfold Rep; exact ⟨p1, vs1, rfl, t1, by rw [List.append_nil]; exact r1⟩)
      · exact q _ _ ρ (grow_new hp) (S.new hp) (new_tup S (Reps.append r1 r2) hp)
    · cases h
  · split at h
    · rename_i a b e1 e2
      split at h
      · rename_i hl
        obtain ⟨p1, vs1, rfl, h1, r1⟩ := list_rep S Rx e1
        obtain ⟨p2, vs2, rfl, h2, r2⟩ := list_rep S Ry e2
        refine .inr (.inr (.inr ⟨p1, p2, vs1, vs2, rfl, rfl, h1, h2, line5 (by rw [← r1.length, ← r2.length]; exact hl), fun p hp => ?_⟩))
        obtain ⟨a1, a2, a3⟩ := new_lst S (Reps.append r1 r2) hp
        have e := Option.some.inj h
        rw [e] at a2 a3
        exact q _ _ _ a1 a2 a3
      · cases h
    · cases h
def fInt (C : Int → Int → Bool) (g : Int → Int → Int) : F2 := fun x y st => match x, y with
  | .int a, .int b => if C a b then some (.int (g a b), st) else none
  | _, _ => none
theorem f_int {K : PySem.W.Frag} {C : Int → Int → Prop} {C' : Int → Int → Bool} {g : Int → Int → Int} (hC : ∀ a b, C' a b = true → C a b) : OpI K (rI C fun i j => .int (g i j)) (fInt C' g) := by
  intro H ρ st x y vx vy z st' Q S Rx Ry h q
  unfold fInt at h
  split at h
  · split at h
    · rename_i hc
      unfold Rep at Rx Ry
      subst Rx Ry
      cases h
      exact ⟨_, _, rfl, rfl, hC _ _ hc, q _ H ρ Grow.refl S (by unfold Rep; rfl)⟩
    · cases h
  · cases h
def fSub : F2 := fInt (fun _ _ => true) (· - ·)
theorem op_subI : OpR X (binaryOp .Sub) (rI (fun _ _ => True) fun i j => .int (i - j)) := opI fun _ _ _ _ _ _ _ _ q => sub_int q
theorem f_sub {K : PySem.W.Frag} : OpI K (rI (fun _ _ => True) fun i j => .int (i - j)) fSub := f_int fun _ _ _ => trivial
def cDiv (_ b : Int) : Bool := decide (b ≠ 0) && decide (b.natAbs < 2 ^ 64)
def fDiv : F2 := fInt cDiv Int.fdiv
theorem op_divI : OpR X (binaryOp .FloorDiv) (rI (fun _ j => j ≠ 0 ∧ j.natAbs < 2 ^ 64) fun i j => .int (i.fdiv j)) := opI fun i j _ _ _ _ _ hc q => floordiv_int hc.1 q (.inl (PyProof.noPylong_of_log2 (Nat.lt_of_lt_of_le (PySem.Flt.log2_lt_of (by decide) hc.2) (by decide))))
theorem f_div {K : PySem.W.Frag} : OpI K (rI (fun _ j => j ≠ 0 ∧ j.natAbs < 2 ^ 64) fun i j => .int (i.fdiv j)) fDiv := f_int fun a b h => by
  unfold cDiv at h
  simp only [Bool.and_eq_true, decide_eq_true_eq] at h
  exact h
def fMod : F2 := fInt (fun _ b => decide (b ≠ 0)) Int.fmod
theorem f_mod {K : PySem.W.Frag} : OpI K (rI (fun _ j => j ≠ 0) fun i j => .int (i.fmod j)) fMod := f_int fun a b h => of_decide_eq_true h
def cMul (a b : Int) : Bool := (decide (-(2 ^ 64) < a) && decide (a < 2 ^ 64)) || (decide (-(2 ^ 64) < b) && decide (b < 2 ^ 64))
theorem cMul_of {a b : Int} (h : cMul a b = true) : CMul a b := by
  unfold cMul at h
  simp only [Bool.or_eq_true, Bool.and_eq_true, decide_eq_true_eq] at h
  exact h
/-- * : ints; a text, a list, a tuple and an int from 2 to 1000 -/
def cRep (n : Nat) (k : Int) : Bool := decide (0 < n) && decide (n ≤ 1000) && decide (2 ≤ k) && decide (k ≤ 1000)
theorem cRep_of {n : Nat} {k : Int} (h : cRep n k = true) : 0 < n ∧ n ≤ 1000 ∧ 2 ≤ k ∧ k ≤ 1000 := by
  unfold cRep at h
  simp only [Bool.and_eq_true, decide_eq_true_eq] at h
  omega
def repStr (a : Str) (k : Nat) : Str := ⟨(List.replicate k a.cps.toList).flatten.toArray⟩
theorem rep_fold (c : Array Nat) : ∀ (k : Nat) (acc : Array Nat), (List.replicate k c).foldl (fun x1 x2 => x1 ++ x2) acc = acc ++ (List.replicate k c.toList).flatten.toArray
  | 0, acc => by simp
  | k + 1, acc => by
    rw [List.replicate_succ, List.foldl_cons, rep_fold c k, List.replicate_succ, List.flatten_cons]
    apply Array.ext'
    simp
theorem repStr_eq (a : Str) (k : Nat) : (⟨(List.replicate k a.cps).foldl (fun x1 x2 => x1 ++ x2) #[]⟩ : Str) = repStr a k := by
  rw [rep_fold]
  unfold repStr
  simp
theorem repStr_len (a : Str) (k : Nat) : (repStr a k).length = k * a.length := by
  unfold repStr Str.length
  simp
def fMul : F2 := fun x y st => match x, y with
  | .int a, .int b => if cMul a b then some (.int (a * b), st) else none
  | .str a, .int k => if cRep a.length k then some (.str (repStr a k.toNat), st) else none
  | .tup a, .int k => if cRep a.length k then some (.tup (List.replicate k.toNat a).flatten, st) else none
  | .ref n, .int k => match st[n]? with
    | some (.lst a) => if cRep a.length k then some (alloc (.lst (List.replicate k.toNat a).flatten) st) else none
    | _ => none
  | _, _ => none
def rMulS : R2 := fun x y H Q => ∃ a k, x = .str a ∧ y = .int k ∧ (0 < a.length ∧ a.length ≤ 1000 ∧ 2 ≤ k ∧ k ≤ 1000) ∧ Q (.str (repStr a k.toNat)) H
theorem op_mulS : OpR X (binaryOp .Mult) rMulS := by
  intro pins s σ H x y v u Q I rx ry h
  obtain ⟨a, k, rfl, rfl, ⟨h0, h1, h2, h3⟩, q⟩ := h
  obtain ⟨t, rfl⟩ := rx
  obtain ⟨t', rfl⟩ := ry
  have hs := sizeLine_eq
  have hle : a.length * k.toNat ≤ 1000 * 1000 := Nat.mul_le_mul h1 (by omega)
  have hn : (k == 1 || a.length == 0) = false := by
    rw [Bool.or_eq_false_iff]
    exact ⟨beq_eq_false_iff_ne.mpr (by omega), beq_eq_false_iff_ne.mpr (by omega)⟩
  refine PySem.P.mul_str ?_ (fun _ _ => ?_) (fun _ _ => ?_) ?_
  · rw [decide_eq_false (by omega), decide_eq_false (by omega)]; rfl
  · have h9 : (1000 : Int) ≤ (2 ^ 63 - 1) / k := by
      rw [Int.le_ediv_iff_mul_le (by omega)]
      omega
    omega
  · unfold Builtin.Str.tooLong
    simp only [decide_eq_false_iff_not]
    omega
  · rw [if_neg (by omega), if_neg (by rw [hn]; decide), repStr_eq]
    refine ⟨?_, ⟨.str _, H, I.tok _, ⟨_, rfl⟩, q⟩⟩
    have e := repStr_len a k.toNat
    rw [Nat.mul_comm] at e
    show (repStr a k.toNat).length ≤ sizeLine
    omega
def rMul (K : PySem.W.Frag) : R2 := fun x y H Q => (rI CMul fun i j => .int (i * j)) x y H Q ∨ rMulS x y H Q ∨ rRepT K x y H Q ∨ rRep x y H Q
theorem op_mulI : OpR X (binaryOp .Mult) (rMul X.K) := OpR.or op_mul (OpR.or op_mulS (OpR.or op_repT op_rep))
theorem Reps.rep {K : PySem.W.Frag} {H : Hp} {ρ : Rho} {xs : List PV} {vs : List V} (R : Reps K H ρ xs vs) : ∀ k : Nat, Reps K H ρ (List.replicate k xs).flatten (List.replicate k vs).flatten
  | 0 => by simp [Reps]
  | k + 1 => by
    rw [List.replicate_succ, List.replicate_succ, List.flatten_cons, List.flatten_cons]
    exact Reps.append R (Reps.rep R k)
theorem f_mul {K : PySem.W.Frag} : OpI K (rMul K) fMul := by
  intro H ρ st x y vx vy z st' Q S Rx Ry h q
  unfold fMul at h
  split at h
  · split at h
    · rename_i hc
      unfold Rep at Rx Ry
      subst Rx Ry
      cases h
      exact .inl ⟨_, _, rfl, rfl, cMul_of hc, q _ H ρ Grow.refl S (by unfold Rep; rfl)⟩
    · cases h
  · split at h
    · rename_i hl
      unfold Rep at Rx Ry
      subst Rx Ry
      cases h
      exact .inr (.inl ⟨_, _, rfl, rfl, cRep_of hl, q _ H ρ Grow.refl S (by unfold Rep; rfl)⟩)
    · cases h
  · rename_i a k
    split at h
    · rename_i hl
      obtain ⟨c1, c2, c3, c4⟩ := cRep_of hl
      unfold Rep at Rx Ry
      subst Ry
      obtain ⟨p1, vs1, rfl, t1, r1⟩ := Rx
      cases h
      have e := r1.length
      refine .inr (.inr (.inl ⟨p1, _, vs1, rfl, rfl, t1, (by intro z; rw [z, List.length_nil] at e; omega), c3, c4, by omega, fun p hp => ?_⟩))
      exact q _ _ ρ (grow_new hp) (S.new hp) (new_tup S (r1.rep _) hp)
    · cases h
  · rename_i n k
    split at h
    · rename_i a e1
      split at h
      · rename_i hl
        obtain ⟨c1, c2, c3, c4⟩ := cRep_of hl
        unfold Rep at Rx Ry
        subst Ry
        obtain ⟨p1, rfl, i1⟩ := Rx
        obtain ⟨b1, hb1, vs1, h1, r1⟩ := S.at_ _ _ e1
        rw [i1] at hb1; cases hb1
        have e := r1.length
        have hle : vs1.length * k.toNat ≤ 1000 * 1000 := Nat.mul_le_mul (by omega) (by omega)
        have hs := sizeLine_eq
        refine .inr (.inr (.inr ⟨p1, _, vs1, rfl, rfl, h1, by omega, by omega, by omega, fun p hp => ?_⟩))
        obtain ⟨a1, a2, a3⟩ := new_lst S (r1.rep k.toNat) hp
        have e := Option.some.inj h
        rw [e] at a2 a3
        exact q _ _ _ a1 a2 a3
      · cases h
    · cases h
  · cases h
def fNeg : F1 := fun x st => match x with
  | .int a => some (.int (-a), st)
  | _ => none
theorem f_neg {K : PySem.W.Frag} : UnI K (rU fun i => .int (-i)) fNeg := by
  intro H ρ st x vx z st' Q S Rx h q
  unfold fNeg at h
  split at h
  · unfold Rep at Rx
    subst Rx
    cases h
    exact ⟨_, rfl, q _ H ρ Grow.refl S (by unfold Rep; rfl)⟩
  · cases h

/-! ### order -/
def ltS (a b : Str) : Bool := decide (a.cps.toList < b.cps.toList)
/-- two ints or two texts: are they the same, is the first less -/
def scal2 : PV → PV → Option (Bool × Bool)
  | .int a, .int b => some (a == b, decide (a < b))
  | .str a, .str b => some (a == b, ltS a b)
  | _, _ => none
def fLt : F2 := fun x y st => match x, y with
  | .int a, .int b => some (.bl (decide (a < b)), st)
  | .str a, .str b => some (.bl (ltS a b), st)
  | .tup [a], .tup [b] => match scal2 a b with
    | some (e, l) => some (.bl (if e then false else l), st)
    | none => none
  | _, _ => none
def fLe : F2 := fun x y st => match x, y with
  | .int a, .int b => some (.bl (decide (a ≤ b)), st)
  | .str a, .str b => some (.bl (!ltS b a), st)
  | .tup [a], .tup [b] => match scal2 a b, scal2 b a with
    | some (e, _), some (_, l) => some (.bl (if e then true else !l), st)
    | _, _ => none
  | _, _ => none
def fGt : F2 := fun x y st => match x, y with
  | .int a, .int b => some (.bl (decide (b < a)), st)
  | .str a, .str b => some (.bl (ltS b a), st)
  | _, _ => none
def fGe : F2 := fun x y st => match x, y with
  | .int a, .int b => some (.bl (decide (b ≤ a)), st)
  | _, _ => none
inductive Sc2 : V → V → Bool → Bool → Prop where
  | int (a b : Int) : Sc2 (.int a) (.int b) (a == b) (decide (a < b))
  | str (a b : Str) : Sc2 (.str a) (.str b) (a == b) (ltS a b)
theorem sc2_rep {K : PySem.W.Frag} {H : Hp} {ρ : Rho} {x y : PV} {v w : V} {e l : Bool} (h : scal2 x y = some (e, l)) (Rx : Rep K H ρ x v) (Ry : Rep K H ρ y w) : Sc2 v w e l := by
  unfold scal2 at h
  split at h
  · unfold Rep at Rx Ry
    subst Rx Ry
    cases h
    exact .int _ _
  · unfold Rep at Rx Ry
    subst Rx Ry
    cases h
    exact .str _ _
  · cases h
def rLt1 (K : PySem.W.Frag) : R2 := fun x y H Q => ∃ p q v w e l, x = .ref p ∧ y = .ref q ∧ SqT K H p [v] ∧ SqT K H q [w] ∧ Sc2 v w e l ∧ Q (.bl (if e then false else l)) H
def rLe1 (K : PySem.W.Frag) : R2 := fun x y H Q => ∃ p q v w e l e', x = .ref p ∧ y = .ref q ∧ SqT K H p [v] ∧ SqT K H q [w] ∧ Sc2 v w e e' ∧ (∃ e2, Sc2 w v e2 l) ∧ Q (.bl (if e then true else !l)) H
theorem Sc2.flat {v w : V} {e l : Bool} (h : Sc2 v w e l) : flatV v = true ∧ flatV w = true ∧ eqV v w = e := by
  cases h
  · exact ⟨rfl, rfl, rfl⟩
  · exact ⟨rfl, rfl, rfl⟩
theorem op_lt1 (hu : X.A.units < cLine) : OpR X (compareOp .Lt) (rLt1 X.K) := by
  intro pins s σ H x y v u Q I rx ry h
  obtain ⟨p, q, v1, w1, e, l, rfl, rfl, ha, hb, sc, hq⟩ := h
  cases rx
  cases ry
  obtain ⟨its, r1, p1, _⟩ := I.tuple ha
  obtain ⟨its2, r2, p2, _⟩ := I.tuple hb
  obtain ⟨u1, rfl, ru⟩ := vals1 r1
  obtain ⟨u2, rfl, rw2⟩ := vals1 r2
  obtain ⟨f1, f2, fe⟩ := sc.flat
  have R := Ob.RcOp.tuples_lt (A := X.A) (s := s) (e := fun _ => e) (r := fun _ => l) p1 p2 hu (fun j h1 h2 => by
    have hj : j = 0 := by simp at h1; omega
    subst hj
    show SeqAt.EqAt _ _ u1 u2 e
    rw [← fe]
    exact eqAt_V ru rw2 f1 f2) (fun j h1 h2 _ => by
    have hj : j = 0 := by simp at h1; omega
    subst hj
    show Ob.RcOp .Lt _ _ u1 u2 l
    cases sc with
    | int a b =>
      obtain ⟨t, rfl⟩ := ru
      obtain ⟨t', rfl⟩ := rw2
      exact Ob.RcOp.lt_int a b t t'
    | str a b =>
      obtain ⟨t, rfl⟩ := ru
      obtain ⟨t', rfl⟩ := rw2
      exact fun prog w E Q h => PyProof.Rows.lt_str h)
  refine R X.prog X.w _ _ ?_
  have z : Ob.lexAt (fun _ => e) (fun _ => l) (decide ([u1].toArray.size < [u2].toArray.size)) 0 (min [u1].toArray.size [u2].toArray.size) = (if e then false else l) := by
    show Ob.lexAt (fun _ => e) (fun _ => l) (decide (1 < 1)) 0 1 = _
    rw [Ob.lexAt_succ, Ob.lexAt_zero]
    cases e <;> rfl
  rw [z]
  exact ⟨.bl _, H, I, rfl, hq⟩
theorem op_le1 (hu : X.A.units < cLine) : OpR X (compareOp .LtE) (rLe1 X.K) := by
  intro pins s σ H x y v u Q I rx ry h
  obtain ⟨p, q, v1, w1, e, l, e', rfl, rfl, ha, hb, sc, ⟨e2, sc2⟩, hq⟩ := h
  cases rx
  cases ry
  obtain ⟨its, r1, p1, _⟩ := I.tuple ha
  obtain ⟨its2, r2, p2, _⟩ := I.tuple hb
  obtain ⟨u1, rfl, ru⟩ := vals1 r1
  obtain ⟨u2, rfl, rw2⟩ := vals1 r2
  obtain ⟨f1, f2, fe⟩ := sc.flat
  have R := Ob.RcOp.tuples_le (A := X.A) (s := s) (e := fun _ => e) (r := fun _ => !l) p1 p2 hu (fun j h1 h2 => by
    have hj : j = 0 := by simp at h1; omega
    subst hj
    show SeqAt.EqAt _ _ u1 u2 e
    rw [← fe]
    exact eqAt_V ru rw2 f1 f2) (fun j h1 h2 _ => by
    have hj : j = 0 := by simp at h1; omega
    subst hj
    show Ob.RcOp .LtE _ _ u1 u2 (!l)
    cases sc2 with
    | int a b =>
      obtain ⟨t, rfl⟩ := ru
      obtain ⟨t', rfl⟩ := rw2
      have := Ob.RcOp.le_int (A := X.A.in1) (s := s) b a t t'
      have ez : decide (b ≤ a) = !decide (a < b) := by
        by_cases hz : a < b
        · rw [decide_eq_true hz, decide_eq_false (by omega)]; rfl
        · rw [decide_eq_false hz, decide_eq_true (by omega)]; rfl
      rw [← ez]
      exact this
    | str a b =>
      obtain ⟨t, rfl⟩ := ru
      obtain ⟨t', rfl⟩ := rw2
      exact fun prog w E Q h => PySem.P.le_str h)
  refine R X.prog X.w _ _ ?_
  have z : Ob.lexAt (fun _ => e) (fun _ => !l) (decide ([u1].toArray.size ≤ [u2].toArray.size)) 0 (min [u1].toArray.size [u2].toArray.size) = (if e then true else !l) := by
    show Ob.lexAt (fun _ => e) (fun _ => !l) (decide (1 ≤ 1)) 0 1 = _
    rw [Ob.lexAt_succ, Ob.lexAt_zero]
    cases e <;> rfl
  rw [z]
  exact ⟨.bl _, H, I, rfl, hq⟩
def rSt (g : Str → Str → Bool) : R2 := fun x y H Q => ∃ i j, x = .str i ∧ y = .str j ∧ Q (.bl (g i j)) H
def rLtA (K : PySem.W.Frag) : R2 := fun x y H Q => (rI0 fun i j => .bl (decide (i < j))) x y H Q ∨ rSt ltS x y H Q ∨ rLt1 K x y H Q
def rLeA (K : PySem.W.Frag) : R2 := fun x y H Q => (rI0 fun i j => .bl (decide (i ≤ j))) x y H Q ∨ rSt (fun i j => !ltS j i) x y H Q ∨ rLe1 K x y H Q
def rGtA : R2 := fun x y H Q => (rI0 fun i j => .bl (decide (j < i))) x y H Q ∨ rSt (fun i j => ltS j i) x y H Q
theorem op_ltA (hu : X.A.units < cLine) : OpR X (compareOp .Lt) (rLtA X.K) := OpR.or op_lt (OpR.or op_lt_str (op_lt1 hu))
theorem op_leA (hu : X.A.units < cLine) : OpR X (compareOp .LtE) (rLeA X.K) := OpR.or op_le (OpR.or op_le_str (op_le1 hu))
theorem op_gtA : OpR X (compareOp .Gt) rGtA := OpR.or op_gt op_gt_str
theorem one_rep {K : PySem.W.Frag} {H : Hp} {ρ : Rho} {x : PV} {v : V} (R : Rep K H ρ (.tup [x]) v) : ∃ p w, v = .ref p ∧ SqT K H p [w] ∧ Rep K H ρ x w := by
  unfold Rep at R
  obtain ⟨p, vs, rfl, t, r⟩ := R
  unfold Reps at r
  obtain ⟨w, r, rfl, r1, r2⟩ := r
  unfold Reps at r2
  subst r2
  exact ⟨p, w, rfl, t, r1⟩
theorem f_lt {K : PySem.W.Frag} : OpI K (rLtA K) fLt := by
  intro H ρ st x y vx vy z st' Q S Rx Ry h q
  unfold fLt at h
  split at h
  · unfold Rep at Rx Ry
    subst Rx Ry
    cases h
    exact .inl ⟨_, _, rfl, rfl, q _ H ρ Grow.refl S (by unfold Rep; rfl)⟩
  · unfold Rep at Rx Ry
    subst Rx Ry
    cases h
    exact .inr (.inl ⟨_, _, rfl, rfl, q _ H ρ Grow.refl S (by unfold Rep; rfl)⟩)
  · split at h
    · rename_i e l hs
      cases h
      obtain ⟨p1, w1, rfl, t1, r1⟩ := one_rep Rx
      obtain ⟨p2, w2, rfl, t2, r2⟩ := one_rep Ry
      exact .inr (.inr ⟨p1, p2, w1, w2, e, l, rfl, rfl, t1, t2, sc2_rep hs r1 r2, q _ H ρ Grow.refl S (by unfold Rep; rfl)⟩)
    · cases h
  · cases h
theorem f_le {K : PySem.W.Frag} : OpI K (rLeA K) fLe := by
  intro H ρ st x y vx vy z st' Q S Rx Ry h q
  unfold fLe at h
  split at h
  · unfold Rep at Rx Ry
    subst Rx Ry
    cases h
    exact .inl ⟨_, _, rfl, rfl, q _ H ρ Grow.refl S (by unfold Rep; rfl)⟩
  · unfold Rep at Rx Ry
    subst Rx Ry
    cases h
    exact .inr (.inl ⟨_, _, rfl, rfl, q _ H ρ Grow.refl S (by unfold Rep; rfl)⟩)
  · split at h
    · rename_i e e' e2 l hs hs2
      cases h
      obtain ⟨p1, w1, rfl, t1, r1⟩ := one_rep Rx
      obtain ⟨p2, w2, rfl, t2, r2⟩ := one_rep Ry
      exact .inr (.inr ⟨p1, p2, w1, w2, e, l, e', rfl, rfl, t1, t2, sc2_rep hs r1 r2, ⟨_, sc2_rep hs2 r2 r1⟩, q _ H ρ Grow.refl S (by unfold Rep; rfl)⟩)
    · cases h
  · cases h
theorem f_gt {K : PySem.W.Frag} : OpI K rGtA fGt := by
  intro H ρ st x y vx vy z st' Q S Rx Ry h q
  unfold fGt at h
  split at h
  · unfold Rep at Rx Ry
    subst Rx Ry
    cases h
    exact .inl ⟨_, _, rfl, rfl, q _ H ρ Grow.refl S (by unfold Rep; rfl)⟩
  · unfold Rep at Rx Ry
    subst Rx Ry
    cases h
    exact .inr ⟨_, _, rfl, rfl, q _ H ρ Grow.refl S (by unfold Rep; rfl)⟩
  · cases h
theorem f_ge {K : PySem.W.Frag} : OpI K (rI0 fun i j => .bl (decide (j ≤ i))) fGe := by
  intro H ρ st x y vx vy z st' Q S Rx Ry h q
  unfold fGe at h
  split at h
  · unfold Rep at Rx Ry
    subst Rx Ry
    cases h
    exact ⟨_, _, rfl, rfl, q _ H ρ Grow.refl S (by unfold Rep; rfl)⟩
  · cases h

/-! ### == of data -/
def mapO {α β : Type} (f : α → Option β) : List α → Option (List β)
  | [] => some []
  | x :: xs => match f x, mapO f xs with
    | some y, some ys => some (y :: ys)
    | _, _ => none
def toD (st : Sto) : Nat → PV → Option PyData
  | 0, _ => none
  | f + 1, x => match x with
    | .non => some .none
    | .bl b => some (.bool b)
    | .int i => some (.int i)
    | .str y => some (.str y)
    | .tup xs => (mapO (toD st f) xs).map .tuple
    | .frz xs => (mapO (toD st f) xs).map .list
    | .ref n => match st[n]? with
      | some (.lst xs) => (mapO (toD st f) xs).map .list
      | _ => none
    | .ty _ => none
    | .fdk _ _ => none
theorem mapO_dp {K : PySem.W.Frag} {H : Hp} {ρ : Rho} {f : PV → Option PyData} (hf : ∀ x v d, Rep K H ρ x v → f x = some d → Dp K H v d) : ∀ {xs : List PV} {vs : List V} {ds : List PyData}, Reps K H ρ xs vs → mapO f xs = some ds → DpAll K H vs ds
  | [], vs, ds, R, h => by
    unfold Reps at R
    subst R
    cases h
    exact .nil
  | x :: xs, vs, ds, R, h => by
    unfold Reps at R
    obtain ⟨v, r, rfl, r1, r2⟩ := R
    unfold mapO at h
    split at h
    · rename_i e1 e2
      cases h
      exact .cons (hf _ _ _ r1 e1) (mapO_dp hf r2 e2)
    · cases h
theorem map_some {α β : Type} {o : Option α} {g : α → β} {r : β} (h : o.map g = some r) : ∃ a, o = some a ∧ g a = r := by
  cases o with
  | none => cases h
  | some a => cases h; exact ⟨a, rfl, rfl⟩
theorem toD_dp {K : PySem.W.Frag} {H : Hp} {ρ : Rho} {st : Sto} (S : RepS K H ρ st) : ∀ (f : Nat) (x : PV) (v : V) (d : PyData), Rep K H ρ x v → toD st f x = some d → Dp K H v d
  | 0, _, _, _, _, h => by cases h
  | f + 1, x, v, d, R, h => by
    cases x with
    | non => unfold Rep at R; subst R; cases h; exact .non
    | bl b => unfold Rep at R; subst R; cases h; exact .bl b
    | int i => unfold Rep at R; subst R; cases h; exact .int i
    | str y => unfold Rep at R; subst R; cases h; exact .str y
    | ty n => cases h
    | fdk ks xs => cases h
    | tup xs =>
      unfold Rep at R
      obtain ⟨a, vs, rfl, t, r⟩ := R
      obtain ⟨ds, e, rfl⟩ := map_some (show (mapO (toD st f) xs).map .tuple = some d from h)
      exact .tup t (mapO_dp (toD_dp S f) r e)
    | frz xs =>
      unfold Rep at R
      obtain ⟨a, vs, rfl, t, r⟩ := R
      obtain ⟨ds, e, rfl⟩ := map_some (show (mapO (toD st f) xs).map .list = some d from h)
      exact .lst t.sq (mapO_dp (toD_dp S f) r e)
    | ref n =>
      simp only [toD] at h
      split at h
      · rename_i xs e1
        obtain ⟨a, vs1, rfl, i1, ndd, h1, r1⟩ := S.lst R e1
        obtain ⟨ds, e, rfl⟩ := map_some h
        exact .lst (.of h1) (mapO_dp (toD_dp S f) r1 e)
      · cases h
def eqP (st : Sto) (x y : PV) : Option Bool := match toD st 70 x, toD st 70 y with
  | some d, some e => if SeqAt.shaped d && SeqAt.shaped e then some (PyData.eqv d e) else none
  | _, _ => none
def fEq : F2 := fun x y st => (eqP st x y).map fun b => (.bl b, st)
def fNe : F2 := fun x y st => (eqP st x y).map fun b => (.bl (!b), st)
theorem eqP_dp {K : PySem.W.Frag} {H : Hp} {ρ : Rho} {st : Sto} (S : RepS K H ρ st) {x y : PV} {v w : V} {b : Bool} (Rx : Rep K H ρ x v) (Ry : Rep K H ρ y w) (h : eqP st x y = some b) :
    ∃ d e, Dp K H v d ∧ Dp K H w e ∧ SeqAt.shaped d = true ∧ SeqAt.shaped e = true ∧ PyData.eqv d e = b := by
  unfold eqP at h
  split at h
  · rename_i d e e1 e2
    split at h
    · rename_i hs
      rw [Bool.and_eq_true] at hs
      cases h
      exact ⟨d, e, toD_dp S _ _ _ _ Rx e1, toD_dp S _ _ _ _ Ry e2, hs.1, hs.2, rfl⟩
    · cases h
  · cases h
theorem f_eq {K : PySem.W.Frag} : OpI K (rEqD K) fEq := by
  intro H ρ st x y vx vy z st' Q S Rx Ry h q
  obtain ⟨b, e0, hz⟩ := map_some h
  cases hz
  obtain ⟨d, e, h1, h2, h3, h4, rfl⟩ := eqP_dp S Rx Ry e0
  exact ⟨d, e, h1, h2, h3, h4, q _ H ρ Grow.refl S (by unfold Rep; rfl)⟩
theorem f_ne {K : PySem.W.Frag} : OpI K (rNeD K) fNe := by
  intro H ρ st x y vx vy z st' Q S Rx Ry h q
  obtain ⟨b, e0, hz⟩ := map_some h
  cases hz
  obtain ⟨d, e, h1, h2, h3, h4, rfl⟩ := eqP_dp S Rx Ry e0
  exact ⟨d, e, h1, h2, h3, h4, q _ H ρ Grow.refl S (by unfold Rep; rfl)⟩

/-! ### is -/
def isNone : PV → Bool
  | .non => true
  | _ => false
def isBool (b : Bool) : PV → Bool
  | .bl c => c == b
  | _ => false
def fIs : F2 := fun x y st => match y with
  | .non => some (.bl (isNone x), st)
  | .bl b => some (.bl (isBool b x), st)
  | _ => none
def fIsNot : F2 := fun x y st => match y with
  | .non => some (.bl (!isNone x), st)
  | .bl b => some (.bl (!isBool b x), st)
  | _ => none
theorem isNone_rep {K : PySem.W.Frag} {H : Hp} {ρ : Rho} {x : PV} {v : V} (R : Rep K H ρ x v) : decide (v = .non) = isNone x := by
  cases x <;> unfold Rep at R <;> first | (subst R; simp [isNone]) | (obtain ⟨a, vs, rfl, _⟩ := R; simp [isNone]) | (obtain ⟨a, rfl, _⟩ := R; simp [isNone])
theorem isBool_rep {K : PySem.W.Frag} {H : Hp} {ρ : Rho} {x : PV} {v : V} {b : Bool} (R : Rep K H ρ x v) : decide (v = .bl b) = isBool b x := by
  cases x <;> unfold Rep at R <;> first | (subst R; simp [isBool]; done) | (obtain ⟨a, vs, rfl, _⟩ := R; simp [isBool]; done) | (obtain ⟨a, rfl, _⟩ := R; simp [isBool]; done) | skip
  · subst R
    rename_i c
    cases b <;> cases c <;> rfl
def rIsB1 : R2 := fun x y H Q => ∃ b : Bool, y = .bl b ∧ Q (.bl (decide (x = .bl b))) H
def rIsNotB1 : R2 := fun x y H Q => ∃ b : Bool, y = .bl b ∧ Q (.bl (!decide (x = .bl b))) H
theorem relV_bool {x : V} {v : Value} {b : Bool} (r : RelV x v) : (v == Value.bool b) = decide (x = .bl b) := by
  cases x with
  | bl c => cases r; cases b <;> cases c <;> rfl
  | non => cases r; rfl
  | int _ => obtain ⟨t, rfl⟩ := r; rfl
  | str _ => obtain ⟨t, rfl⟩ := r; rfl
  | byt _ => obtain ⟨t, rfl⟩ := r; rfl
  | flt _ => obtain ⟨t, rfl⟩ := r; rfl
  | ref _ => cases r; rfl
  | ty _ => cases r; rfl
theorem op_isB1 : OpR X (compareOp .Is) rIsB1 := by
  intro pins s σ H x y v u Q I rx ry h
  obtain ⟨b, rfl, q⟩ := h
  cases (show u = Value.bool b from ry)
  have g : EP X pins σ Q (.bool (v == Value.bool b)) s := ⟨.bl _, H, I, by rw [relV_bool rx]; rfl, q⟩
  cases x <;> first | (cases rx; exact wpAny_pure g) | (obtain ⟨t, rfl⟩ := rx; exact wpAny_pure g)
theorem op_isNotB1 : OpR X (compareOp .IsNot) rIsNotB1 := by
  intro pins s σ H x y v u Q I rx ry h
  obtain ⟨b, rfl, q⟩ := h
  cases (show u = Value.bool b from ry)
  have g : EP X pins σ Q (.bool (!(v == Value.bool b))) s := ⟨.bl _, H, I, by rw [relV_bool rx]; rfl, q⟩
  cases x <;> first | (cases rx; exact wpAny_pure g) | (obtain ⟨t, rfl⟩ := rx; exact wpAny_pure g)
def rIsA : R2 := fun x y H Q => (y = .non ∧ Q (.bl (decide (x = .non))) H) ∨ rIsB1 x y H Q
def rIsNotA : R2 := fun x y H Q => (y = .non ∧ Q (.bl (!decide (x = .non))) H) ∨ rIsNotB1 x y H Q
theorem op_isA : OpR X (compareOp .Is) rIsA := OpR.or op_isN op_isB1
theorem op_isNotA : OpR X (compareOp .IsNot) rIsNotA := OpR.or op_notN op_isNotB1
theorem f_is {K : PySem.W.Frag} : OpI K rIsA fIs := by
  intro H ρ st x y vx vy z st' Q S Rx Ry h q
  unfold fIs at h
  split at h
  · unfold Rep at Ry
    subst Ry
    cases h
    exact .inl ⟨rfl, q _ H ρ Grow.refl S (by unfold Rep; rw [isNone_rep Rx])⟩
  · unfold Rep at Ry
    subst Ry
    cases h
    exact .inr ⟨_, rfl, q _ H ρ Grow.refl S (by unfold Rep; rw [isBool_rep Rx])⟩
  · cases h
theorem f_isNot {K : PySem.W.Frag} : OpI K rIsNotA fIsNot := by
  intro H ρ st x y vx vy z st' Q S Rx Ry h q
  unfold fIsNot at h
  split at h
  · unfold Rep at Ry
    subst Ry
    cases h
    exact .inl ⟨rfl, q _ H ρ Grow.refl S (by unfold Rep; rw [isNone_rep Rx])⟩
  · unfold Rep at Ry
    subst Ry
    cases h
    exact .inr ⟨_, rfl, q _ H ρ Grow.refl S (by unfold Rep; rw [isBool_rep Rx])⟩
  · cases h

/-! ### in a list, a tuple of flat things -/
def flatP : PV → Option V
  | .non => some .non
  | .bl b => some (.bl b)
  | .int i => some (.int i)
  | .str x => some (.str x)
  | _ => none
theorem flatP_rep {K : PySem.W.Frag} {H : Hp} {ρ : Rho} {x : PV} {v w : V} (R : Rep K H ρ x v) (h : flatP x = some w) : v = w ∧ flatV w = true := by
  cases x <;> simp only [flatP, Option.some.injEq, reduceCtorEq] at h <;> (unfold Rep at R; subst R; subst h; exact ⟨rfl, rfl⟩)
theorem flatP_reps {K : PySem.W.Frag} {H : Hp} {ρ : Rho} : ∀ {xs : List PV} {vs ws : List V}, Reps K H ρ xs vs → mapO flatP xs = some ws → vs = ws ∧ ws.all flatV = true
  | [], vs, ws, R, h => by
    unfold Reps at R
    subst R
    cases h
    exact ⟨rfl, rfl⟩
  | x :: xs, vs, ws, R, h => by
    unfold Reps at R
    obtain ⟨v, r, rfl, r1, r2⟩ := R
    unfold mapO at h
    split at h
    · rename_i e1 e2
      cases h
      obtain ⟨rfl, f1⟩ := flatP_rep r1 e1
      obtain ⟨rfl, f2⟩ := flatP_reps r2 e2
      exact ⟨rfl, by rw [List.all_cons, f1, f2]; rfl⟩
    · cases h
def itemsOf (st : Sto) : PV → Option (List PV)
  | .tup xs => some xs
  | .frz xs => some xs
  | .ref n => match st[n]? with
    | some (.lst xs) => some xs
    | _ => none
  | _ => none
theorem items_rep {K : PySem.W.Frag} {H : Hp} {ρ : Rho} {st : Sto} (S : RepS K H ρ st) {x : PV} {v : V} {xs : List PV} (R : Rep K H ρ x v) (h : itemsOf st x = some xs) : ∃ a vs, v = .ref a ∧ (SqL K H a vs ∨ SqT K H a vs) ∧ Reps K H ρ xs vs := by
  cases x with
  | tup ys =>
    unfold Rep at R
    obtain ⟨a, vs, rfl, t, r⟩ := R
    cases h
    exact ⟨a, vs, rfl, .inr t, r⟩
  | frz ys =>
    unfold Rep at R
    obtain ⟨a, vs, rfl, t, r⟩ := R
    cases h
    exact ⟨a, vs, rfl, .inl t.sq, r⟩
  | ref n =>
    unfold Rep at R
    obtain ⟨a, rfl, i1⟩ := R
    simp only [itemsOf] at h
    split at h
    · rename_i ys e1
      obtain ⟨b1, hb1, vs1, h1, r1⟩ := S.at_ _ _ e1
      rw [i1] at hb1; cases hb1
      cases h
      exact ⟨a, vs1, rfl, .inl (.of h1), r1⟩
    · cases h
  | _ => cases h
def inP (st : Sto) (x y : PV) : Option Bool := match flatP x, itemsOf st y with
  | some v, some ys => (mapO flatP ys).map fun ws => inV v ws
  | _, _ => none
def fIn : F2 := fun x y st => (inP st x y).map fun b => (.bl b, st)
def fNotIn : F2 := fun x y st => (inP st x y).map fun b => (.bl (!b), st)
theorem inP_rep {K : PySem.W.Frag} {H : Hp} {ρ : Rho} {st : Sto} (S : RepS K H ρ st) {x y : PV} {v w : V} {b : Bool} (Rx : Rep K H ρ x v) (Ry : Rep K H ρ y w) (h : inP st x y = some b) :
    ∃ p xs, w = .ref p ∧ (SqL K H p xs ∨ SqT K H p xs) ∧ flatV v = true ∧ xs.all flatV = true ∧ inV v xs = b := by
  unfold inP at h
  split at h
  · rename_i e1 e2
    obtain ⟨ws, e3, rfl⟩ := map_some h
    obtain ⟨rfl, f1⟩ := flatP_rep Rx e1
    obtain ⟨a, vs, rfl, t, r⟩ := items_rep S Ry e2
    obtain ⟨rfl, f2⟩ := flatP_reps r e3
    exact ⟨a, vs, rfl, t, f1, f2, rfl⟩
  · cases h
theorem f_in {K : PySem.W.Frag} : OpI K (rIn K false) fIn := by
  intro H ρ st x y vx vy z st' Q S Rx Ry h q
  obtain ⟨b, e, hz⟩ := map_some h
  cases hz
  obtain ⟨p, xs, h1, h2, h3, h4, rfl⟩ := inP_rep S Rx Ry e
  exact ⟨p, xs, h1, h2, h3, h4, q _ H ρ Grow.refl S (by unfold Rep; rfl)⟩
theorem f_notIn {K : PySem.W.Frag} : OpI K (rIn K true) fNotIn := by
  intro H ρ st x y vx vy z st' Q S Rx Ry h q
  obtain ⟨b, e, hz⟩ := map_some h
  cases hz
  obtain ⟨p, xs, h1, h2, h3, h4, rfl⟩ := inP_rep S Rx Ry e
  exact ⟨p, xs, h1, h2, h3, h4, q _ H ρ Grow.refl S (by unfold Rep; rfl)⟩

/-! ### subscripts -/
def fIx : F2 := fun x y st => match y with
  | .int i => match x with
    | .str z => if z.length ≤ 9000000 then (atI z.cps.toList i).map fun c => (.str ⟨#[c]⟩, st) else none
    | _ => match itemsOf st x with
      | some xs => (atI xs i).map fun v => (v, st)
      | none => none
  | _ => none
theorem atI_rep {K : PySem.W.Frag} {H : Hp} {ρ : Rho} {xs : List PV} {vs : List V} {i : Int} {x : PV} (R : Reps K H ρ xs vs) (h : atI xs i = some x) : ∃ v, atI vs i = some v ∧ Rep K H ρ x v := by
  unfold atI at h ⊢
  rw [← R.length]
  cases e : ixN xs.length i with
  | none => rw [e] at h; cases h
  | some j =>
    rw [e] at h
    exact R.get h
def rIxA (K : PySem.W.Frag) : R2 := fun x y H Q => rIxL K x y H Q ∨ rIxT K x y H Q ∨ rIxS x y H Q
theorem ix_any : IxR X (rIxA X.K) := ix_list.or (ix_tup.or ix_str)
theorem f_ix {K : PySem.W.Frag} : OpI K (rIxA K) fIx := by
  intro H ρ st x y vx vy z st' Q S Rx Ry h q
  unfold fIx at h
  split at h
  · rename_i i
    unfold Rep at Ry
    subst Ry
    split at h
    · rename_i w
      split at h
      · rename_i hl
        obtain ⟨c, e, hz⟩ := map_some h
        cases hz
        unfold Rep at Rx
        subst Rx
        exact .inr (.inr ⟨_, _, c, rfl, rfl, line5 hl, e, q _ H ρ Grow.refl S (by unfold Rep; rfl)⟩)
      · cases h
    · split at h
      · rename_i xs e1
        obtain ⟨w, e, hz⟩ := map_some h
        cases hz
        obtain ⟨a, vs, rfl, t, r⟩ := items_rep S Rx e1
        obtain ⟨v, hv, rv⟩ := atI_rep r e
        rcases t with t | t
        · exact .inl ⟨a, vs, i, v, rfl, rfl, t, hv, q _ H ρ Grow.refl S rv⟩
        · exact .inr (.inl ⟨a, vs, i, v, rfl, rfl, t, hv, q _ H ρ Grow.refl S rv⟩)
      · cases h
  · cases h
/-! ### slices -/
def cutP (xs : List PV) (lo hi : Option Int) : List PV := (xs.drop (HT.sIx xs.length 0 lo)).take (HT.sIx xs.length xs.length hi - HT.sIx xs.length 0 lo)
def fSl : FSl := fun x lo hi st => match x with
  | .str z => if z.length ≤ 9000000 then some (.str (cutS z lo hi), st) else none
  | .tup xs => some (.tup (cutP xs lo hi), st)
  | _ => match listOf st x with
    | some xs => some (alloc (.lst (cutP xs lo hi)) st)
    | none => none
def rSlAny (K : PySem.W.Frag) : V → Option Int → Option Int → Hp → VK → Prop := fun x lo hi H Q => rSlL K x lo hi H Q ∨ rSlA K x lo hi H Q ∨ rSlS x lo hi H Q
theorem sl_any : SlR X (rSlAny X.K) := SlR.or sl_list (SlR.or sl_tupA sl_str)
theorem cut_rep {K : PySem.W.Frag} {H : Hp} {ρ : Rho} {xs : List PV} {vs : List V} {lo hi : Option Int} (R : Reps K H ρ xs vs) : Reps K H ρ (cutP xs lo hi) (cutV vs lo hi) := by
  unfold cutP cutV
  rw [R.length]
  exact Reps.take _ (Reps.drop _ R)
theorem f_sl {K : PySem.W.Frag} : SlI K (rSlAny K) fSl := by
  intro H ρ st x vx lo hi z st' Q S Rx h q
  unfold fSl at h
  split at h
  · rename_i w
    split at h
    · rename_i hl
      cases h
      unfold Rep at Rx
      subst Rx
      exact .inr (.inr ⟨_, rfl, line5 hl, q _ H ρ Grow.refl S (by unfold Rep; rfl)⟩)
    · cases h
  · rename_i xs
    cases h
    unfold Rep at Rx
    obtain ⟨a, vs, rfl, t, r⟩ := Rx
    refine .inr (.inl ⟨a, vs, rfl, t, fun ⟨e1, e2⟩ => ?_, fun _ p hp => ?_⟩)
    · have e : cutP xs lo hi = xs := by
        unfold cutP
        rw [r.length, e1, e2, List.drop_zero, Nat.sub_zero, ← r.length, List.take_length]
      rw [e] at q
      exact q _ H ρ Grow.refl S (by unfold Rep; exact ⟨a, vs, rfl, t, r⟩)
    · exact q _ _ ρ (grow_new hp) (S.new hp) (new_tup S (cut_rep r) hp)
  · rename_i n1 n2
    split at h
    · rename_i xs e1
      obtain ⟨a, vs, rfl, t, r⟩ := list_rep S Rx e1
      refine .inl ⟨a, vs, rfl, t, fun p hp => ?_⟩
      obtain ⟨a1, a2, a3⟩ := new_lst S (cut_rep (lo := lo) (hi := hi) r) hp
      have e := Option.some.inj h
      rw [e] at a2 a3
      exact q _ _ _ a1 a2 a3
    · cases h
end
end IL

namespace IL
open PySem PySem.Spec PyProof.Rows L2

section
variable {X : Cx}
theorem one_arg {K : PySem.W.Frag} {H : Hp} {ρ : Rho} {x : PV} {vs : List V} (R : Reps K H ρ [x] vs) : ∃ v, vs = [v] ∧ Rep K H ρ x v := by
  unfold Reps at R
  obtain ⟨v, r, rfl, r1, r2⟩ := R
  unfold Reps at r2
  subst r2
  exact ⟨v, rfl, r1⟩
theorem two_args {K : PySem.W.Frag} {H : Hp} {ρ : Rho} {x y : PV} {vs : List V} (R : Reps K H ρ [x, y] vs) : ∃ v w, vs = [v, w] ∧ Rep K H ρ x v ∧ Rep K H ρ y w := by
  unfold Reps at R
  obtain ⟨v, r, rfl, r1, r2⟩ := R
  obtain ⟨w, rfl, r3⟩ := one_arg r2
  exact ⟨v, w, rfl, r1, r3⟩
/-- a function of one value -/
def a1 (f : F1) : FA := fun xs st => match xs with
  | [x] => f x st
  | _ => none
def a2 (f : F2) : FA := fun xs st => match xs with
  | [x, y] => f x y st
  | _ => none
theorem call1 {K : PySem.W.Frag} {r : List V → Hp → VK → Prop} {f : F1} (hf : ∀ H ρ st x vx z st' (Q : VK), RepS K H ρ st → Rep K H ρ x vx → f x st = some (z, st') → (∀ v H' ρ', Grow H ρ H' ρ' → RepS K H' ρ' st' → Rep K H' ρ' z v → Q v H') → r [vx] H Q) : CallI K r (a1 f) := by
  intro H ρ st xs vs z st' Q S R h q
  unfold a1 at h
  split at h
  · obtain ⟨v, rfl, r1⟩ := one_arg R
    exact hf H ρ st _ v z st' Q S r1 h q
  · cases h
theorem call2 {K : PySem.W.Frag} {r : List V → Hp → VK → Prop} {f : F2} (hf : ∀ H ρ st x y vx vy z st' (Q : VK), RepS K H ρ st → Rep K H ρ x vx → Rep K H ρ y vy → f x y st = some (z, st') → (∀ v H' ρ', Grow H ρ H' ρ' → RepS K H' ρ' st' → Rep K H' ρ' z v → Q v H') → r [vx, vy] H Q) : CallI K r (a2 f) := by
  intro H ρ st xs vs z st' Q S R h q
  unfold a2 at h
  split at h
  · obtain ⟨v, w, rfl, r1, r2⟩ := two_args R
    exact hf H ρ st _ _ v w z st' Q S r1 r2 h q
  · cases h
/-- len -/
def lenP (st : Sto) : PV → Option Nat
  | .str x => if x.length ≤ 9000000 then some x.length else none
  | .tup xs => some xs.length
  | .frz xs => some xs.length
  | .ref n => match st[n]? with
    | some (.lst xs) => some xs.length
    | some (.dK kvs) => some kvs.length
    | _ => none
  | _ => none
def fLen : F1 := fun x st => (lenP st x).map fun n : Nat => (.int (n : Int), st)
def rLenA (K : PySem.W.Frag) : List V → Hp → VK → Prop := fun xs H Q => (∃ x n, xs = [x] ∧ LenV K x H n ∧ Q (.int n) H) ∨ ∃ (p : Addr) (kvs : List (Key × V)), xs = [.ref p] ∧ H p = some (.dK kvs) ∧ Q (.int ((kvs.length : Nat) : Int)) H
theorem cr_len : CallR X (.builtin "len") (rLenA X.K) := CallR.or call_len call_lenD
theorem f_len {K : PySem.W.Frag} : CallI K (rLenA K) (a1 fLen) := call1 fun H ρ st x vx z st' Q S R h q => by
  obtain ⟨n, e, hz⟩ := map_some h
  cases hz
  have fin := q (.int n) H ρ Grow.refl S (by unfold Rep; rfl)
  cases x with
  | str y =>
    simp only [lenP] at e
    split at e
    · rename_i hl
      unfold Rep at R
      subst R
      cases e
      exact .inl ⟨_, _, rfl, ⟨line5 hl, rfl⟩, fin⟩
    · cases e
  | tup xs =>
    unfold Rep at R
    obtain ⟨a, vs, rfl, t, r⟩ := R
    cases e
    exact .inl ⟨_, _, rfl, .inr ⟨vs, t, r.length⟩, fin⟩
  | frz xs =>
    unfold Rep at R
    obtain ⟨a, vs, rfl, t, r⟩ := R
    cases e
    exact .inl ⟨_, _, rfl, .inl ⟨vs, t.sq, r.length⟩, fin⟩
  | ref m =>
    unfold Rep at R
    obtain ⟨a, rfl, i1⟩ := R
    simp only [lenP] at e
    split at e
    · rename_i ys e1
      obtain ⟨b1, hb1, vs1, h1, r1⟩ := S.at_ _ _ e1
      rw [i1] at hb1; cases hb1
      have ndd := S.lv _ _ _ e1 (by simp) i1
      cases e
      exact .inl ⟨_, _, rfl, .inl ⟨vs1, .of h1, r1.length⟩, fin⟩
    · rename_i ys e1
      obtain ⟨b1, hb1, vs1, h1, r1⟩ := S.at_ _ _ e1
      rw [i1] at hb1; cases hb1
      have ndd := S.lv _ _ _ e1 (by simp) i1
      cases e
      refine .inr ⟨a, vs1, rfl, h1, ?_⟩
      rw [← r1.length]
      exact fin
    · cases e
  | _ => cases e
/-- tuple(xs), list(xs) -/
def fTuple : F1 := fun x st => (itemsOf st x).map fun xs => (.tup xs, st)
def fList : F1 := fun x st => (itemsOf st x).map fun xs => alloc (.lst xs) st
theorem f_tuple {K : PySem.W.Frag} : CallI K (fun xs H Q => ∃ p ys, xs = [.ref p] ∧ ((SqL K H p ys ∧ ∀ l, H l = none → Q (.ref l) (upd H l (.tup ys))) ∨ (SqT K H p ys ∧ Q (.ref p) H))) (a1 fTuple) := call1 fun H ρ st x vx z st' Q S R h q => by
  obtain ⟨xs, e, hz⟩ := map_some h
  cases hz
  obtain ⟨a, vs, rfl, t, r⟩ := items_rep S R e
  refine ⟨a, vs, rfl, ?_⟩
  rcases t with t | t
  · exact .inl ⟨t, fun p hp => q _ _ ρ (grow_new hp) (S.new hp) (new_tup S r hp)⟩
  · exact .inr ⟨t, q _ H ρ Grow.refl S (by unfold Rep; exact ⟨a, vs, rfl, t, r⟩)⟩
theorem f_list {K : PySem.W.Frag} : CallI K (fun xs H Q => ∃ p ys, xs = [.ref p] ∧ (SqL K H p ys ∨ SqT K H p ys) ∧ ∀ l, H l = none → Q (.ref l) (upd H l (.lst ys))) (a1 fList) := call1 fun H ρ st x vx z st' Q S R h q => by
  obtain ⟨xs, e, hz⟩ := map_some h
  obtain ⟨a, vs, rfl, t, r⟩ := items_rep S R e
  refine ⟨a, vs, rfl, t, fun p hp => ?_⟩
  obtain ⟨b1, b2, b3⟩ := new_lst S r hp
  rw [hz] at b2 b3
  exact q _ _ _ b1 b2 b3
/-- str(n) -/
def fStr : F1 := fun x st => match x with
  | .int i => if i.natAbs < 2 ^ 1000 then some (.str (toString i), st) else none
  | _ => none
theorem f_str {K : PySem.W.Frag} : CallI K (fun xs H Q => ∃ i : Int, xs = [.int i] ∧ i.natAbs.log2 < 1920 ∧ Q (.str (toString i)) H) (a1 fStr) := call1 fun H ρ st x vx z st' Q S R h q => by
  unfold fStr at h
  split at h
  · split at h
    · rename_i hl
      unfold Rep at R
      subst R
      cases h
      exact ⟨_, rfl, Nat.lt_of_lt_of_le (PySem.Flt.log2_lt_of (by decide) hl) (by decide), q _ H ρ Grow.refl S (by unfold Rep; rfl)⟩
    · cases h
  · cases h
/-- int(n), int(b); abs -/
def fInt1 : F1 := fun x st => match x with
  | .int i => some (.int i, st)
  | .bl b => some (.int (if b then 1 else 0), st)
  | _ => none
theorem f_int1 {K : PySem.W.Frag} : CallI K (fun xs H Q => (∃ i, xs = [.int i] ∧ Q (.int i) H) ∨ ∃ k : Bool, xs = [.bl k] ∧ Q (.int (if k then 1 else 0)) H) (a1 fInt1) := call1 fun H ρ st x vx z st' Q S R h q => by
  unfold fInt1 at h
  split at h
  · unfold Rep at R
    subst R
    cases h
    exact .inl ⟨_, rfl, q _ H ρ Grow.refl S (by unfold Rep; rfl)⟩
  · unfold Rep at R
    subst R
    cases h
    exact .inr ⟨_, rfl, q _ H ρ Grow.refl S (by unfold Rep; rfl)⟩
  · cases h
def fAbs : F1 := fun x st => match x with
  | .int i => some (.int (if i < 0 then -i else i), st)
  | _ => none
theorem f_abs {K : PySem.W.Frag} : CallI K (fun xs H Q => ∃ i : Int, xs = [.int i] ∧ Q (.int (if i < 0 then -i else i)) H) (a1 fAbs) := call1 fun H ρ st x vx z st' Q S R h q => by
  unfold fAbs at h
  split at h
  · unfold Rep at R
    subst R
    cases h
    exact ⟨_, rfl, q _ H ρ Grow.refl S (by unfold Rep; rfl)⟩
  · cases h
/-- isinstance -/
def tyName (st : Sto) : PV → Option String
  | .non => some "NoneType"
  | .bl _ => some "bool"
  | .int _ => some "int"
  | .str _ => some "str"
  | .tup _ => some "tuple"
  | .frz _ => some "list"
  | .ref n => match st[n]? with
    | some (.lst _) => some "list"
    | some (.dK _) => some "dict"
    | _ => none
  | .ty _ => none
  | .fdk _ _ => none
theorem tyName_rep {K : PySem.W.Frag} {H : Hp} {ρ : Rho} {st : Sto} (S : RepS K H ρ st) {x : PV} {v : V} {n : String} (R : Rep K H ρ x v) (h : tyName st x = some n) : TyX K H v (.type n) := by
  cases x with
  | non => unfold Rep at R; subst R; cases h; exact .base .non
  | bl b => unfold Rep at R; subst R; cases h; exact .base (.bl b)
  | int b => unfold Rep at R; subst R; cases h; exact .base (.int b)
  | str b => unfold Rep at R; subst R; cases h; exact .base (.str b)
  | tup xs =>
    unfold Rep at R
    obtain ⟨a, vs, rfl, t, r⟩ := R
    cases h
    rcases t with (t | ⟨o, t⟩) | ⟨o, its, m, t, c, _⟩
    · exact .base (.tup t)
    · exact .fTuple t
    · exact .kTuple t c
  | frz xs =>
    unfold Rep at R
    obtain ⟨a, vs, rfl, t, r⟩ := R
    cases h
    rcases t.sq with (t | ⟨o, t⟩) | ⟨o, its, m, t, c, _⟩
    · exact .base (.lst t)
    · exact .base (.frz t)
    · exact .kList t c
  | ref m =>
    unfold Rep at R
    obtain ⟨a, rfl, i1⟩ := R
    simp only [tyName] at h
    split at h
    · rename_i ys e1
      obtain ⟨b1, hb1, vs1, h1, r1⟩ := S.at_ _ _ e1
      rw [i1] at hb1; cases hb1
      have ndd := S.lv _ _ _ e1 (by simp) i1
      cases h
      exact .base (.lst h1)
    · rename_i ys e1
      obtain ⟨b1, hb1, vs1, h1, r1⟩ := S.at_ _ _ e1
      rw [i1] at hb1; cases hb1
      have ndd := S.lv _ _ _ e1 (by simp) i1
      cases h
      exact .base (.dK h1)
    · cases h
  | ty n => cases h
  | fdk ks xs => cases h
def isP (st : Sto) (x y : PV) : Option Bool := match y with
  | .ty m => match tyName st x with
    | some n => kitB n m
    | none => none
  | _ => none
def fIsi : F2 := fun x y st => (isP st x y).map fun b => (.bl b, st)
theorem f_isi {K : PySem.W.Frag} : CallI K (rIsi K) (a2 fIsi) := call2 fun H ρ st x y vx vy z st' Q S Rx Ry h q => by
  obtain ⟨b, e, hz⟩ := map_some h
  cases hz
  unfold isP at e
  split at e
  · split at e
    · rename_i n e1
      unfold Rep at Ry
      subst Ry
      exact ⟨_, _, _, _, b, rfl, .ty _, tyName_rep S Rx e1, kit_ty e, q _ H ρ Grow.refl S (by unfold Rep; rfl)⟩
    · cases e
  · cases e
/-- all, any of a list of truths -/
theorem bls_reps {K : PySem.W.Frag} {H : Hp} {ρ : Rho} : ∀ {xs : List PV} {vs : List V} {bs : List Bool}, Reps K H ρ xs vs → mapO isBl xs = some bs → vs = bs.map V.bl
  | [], vs, bs, R, h => by
    unfold Reps at R
    subst R
    cases h
    rfl
  | x :: xs, vs, bs, R, h => by
    unfold Reps at R
    obtain ⟨v, r, rfl, r1, r2⟩ := R
    unfold mapO at h
    split at h
    · rename_i e1 e2
      cases h
      cases x <;> simp only [isBl, Option.some.injEq, reduceCtorEq] at e1
      subst e1
      unfold Rep at r1
      rw [r1, bls_reps r2 e2]
      rfl
    · cases h
def blsOf (st : Sto) (x : PV) : Option (List Bool) := match listOf st x with
  | some xs => mapO isBl xs
  | none => none
def fAll : F1 := fun x st => (blsOf st x).map fun bs => (.bl (bs.all id), st)
def fAny : F1 := fun x st => (blsOf st x).map fun bs => (.bl (bs.any id), st)
theorem bls_rep {K : PySem.W.Frag} {H : Hp} {ρ : Rho} {st : Sto} (S : RepS K H ρ st) {x : PV} {v : V} {bs : List Bool} (R : Rep K H ρ x v) (h : blsOf st x = some bs) : ∃ a, v = .ref a ∧ SqL K H a (bs.map V.bl) := by
  unfold blsOf at h
  split at h
  · rename_i xs e
    obtain ⟨a, vs, rfl, t, r⟩ := list_rep S R e
    rw [bls_reps r h] at t
    exact ⟨a, rfl, t⟩
  · cases h
theorem f_all {K : PySem.W.Frag} : CallI K (rAll K) (a1 fAll) := call1 fun H ρ st x vx z st' Q S R h q => by
  obtain ⟨bs, e, hz⟩ := map_some h
  cases hz
  obtain ⟨a, rfl, t⟩ := bls_rep S R e
  exact ⟨a, bs, rfl, t, q _ H ρ Grow.refl S (by unfold Rep; rfl)⟩
theorem f_any {K : PySem.W.Frag} : CallI K (rAny K) (a1 fAny) := call1 fun H ρ st x vx z st' Q S R h q => by
  obtain ⟨bs, e, hz⟩ := map_some h
  cases hz
  obtain ⟨a, rfl, t⟩ := bls_rep S R e
  exact ⟨a, bs, rfl, t, q _ H ρ Grow.refl S (by unfold Rep; rfl)⟩
/-- repr of a truth -/
def fRepr : F1 := fun x st => match x with
  | .bl b => some (.str (if b then "True" else "False"), st)
  | _ => none
def rReprB : List V → Hp → VK → Prop := fun xs H Q => ∃ b : Bool, xs = [.bl b] ∧ Q (.str (if b then "True" else "False")) H
theorem cr_reprB : CallR X (.builtin "repr") rReprB := by
  intro pins s σ H xs us Q I r h
  obtain ⟨b, rfl, q⟩ := h
  obtain ⟨u, rfl, e⟩ := vals1 r
  cases (show u = Value.bool b from e)
  exact PySem.P.repr_of_bool ⟨.str _, H, I.tok _, ⟨_, rfl⟩, q⟩
theorem f_repr {K : PySem.W.Frag} : CallI K rReprB (a1 fRepr) := call1 fun H ρ st x vx z st' Q S R h q => by
  unfold fRepr at h
  split at h
  · unfold Rep at R
    subst R
    cases h
    exact ⟨_, rfl, q _ H ρ Grow.refl S (by unfold Rep; rfl)⟩
  · cases h
/-- max(xs, default=d), max(xs) of ints -/
def maxI : List Int → Int → Int
  | [], d => d
  | y :: ys, _ => ys.foldl (fun a z => if a < z then z else a) y
def rMaxDef (K : PySem.W.Frag) : List V → List V → Hp → VK → Prop := fun vs zs H Q => ∃ (a : Addr) (ns : List Int) (d : Int), vs = [.ref a] ∧ zs = [.int d] ∧ SqL K H a (ns.map V.int) ∧ Q (.int (maxI ns d)) H
theorem hold_ints {h : Heap} : ∀ {us : List Value} {ns : List Int}, IntsAre us ns → PySem.W.HoldAll h us ns
  | _, _, .nil => PySem.W.HoldAll.nil
  | _, _, .cons _ _ r => PySem.W.HoldAll.cons (PySem.W.holds_int _ _) (hold_ints r)
theorem maxOf_int (y : Int) (ys : List Int) : PySem.W.maxOf y ys = maxI (y :: ys) 0 := by
  unfold PySem.W.maxOf maxI
  congr 1
  funext a z
  show (if decide (a < z) = true then z else a) = _
  by_cases h : a < z
  · rw [if_pos (decide_eq_true h), if_pos h]
  · rw [if_neg (by simpa using h), if_neg h]
theorem cr_maxDef (hc : X.calm = true) (hu : X.A.units + 64 < cLine) : CallRK X (.builtin "max") [Str.ofString "default"] (rMaxDef X.K) := by
  intro pins s σ H vs zs us ws Q I r rz h
  obtain ⟨a, ns, d, rfl, rfl, hs, q⟩ := h
  obtain rfl := Vals.ref1 r
  obtain ⟨w1, rfl, e1⟩ := vals1 rz
  obtain ⟨its, rv, pl, _⟩ := I.list hs
  refine PySem.W.max_list_datum_default (α := Int) (xs := ns) (I.ok.hd hc) pl.isList (hold_ints (by simpa using rv.ints)) (by show X.A.units + 1 + 0 < cLine; omega) (fun e h' tk hk => ?_) fun y ys i v h' tk e hi hm hk => ?_
  · subst e
    obtain ⟨t, rfl⟩ := e1
    exact ⟨.int d, H, I.kept hk, ⟨t, rfl⟩, q⟩
  · subst e
    obtain ⟨as, hr⟩ := hm
    rw [maxOf_int] at hr
    have : ∃ t, v = .int (maxI (y :: ys) 0) t := by
      cases hr
      exact ⟨_, rfl⟩
    obtain ⟨t, rfl⟩ := this
    exact ⟨.int (maxI (y :: ys) 0), H, I.kept hk, ⟨t, rfl⟩, q⟩
def isInt : PV → Option Int
  | .int i => some i
  | _ => none
theorem ints_reps {K : PySem.W.Frag} {H : Hp} {ρ : Rho} : ∀ {xs : List PV} {vs : List V} {bs : List Int}, Reps K H ρ xs vs → mapO isInt xs = some bs → vs = bs.map V.int
  | [], vs, bs, R, h => by
    unfold Reps at R
    subst R
    cases h
    rfl
  | x :: xs, vs, bs, R, h => by
    unfold Reps at R
    obtain ⟨v, r, rfl, r1, r2⟩ := R
    unfold mapO at h
    split at h
    · rename_i e1 e2
      cases h
      cases x <;> simp only [isInt, Option.some.injEq, reduceCtorEq] at e1
      subst e1
      unfold Rep at r1
      rw [r1, ints_reps r2 e2]
      rfl
    · cases h
def intsOf (st : Sto) (x : PV) : Option (List Int) := match listOf st x with
  | some xs => mapO isInt xs
  | none => none
def iMaxDef (ir ik : IA) : IE := fun env st => ob (ir env st) fun xs s1 => ob (ik env s1) fun zs s2 => match xs, zs with
  | [x], [.int d] => (intsOf s2 x).map fun ns => (.int (maxI ns d), s2)
  | _, _ => none
theorem k_one {e : Expr} {ie : IE} {nm : Option Str} {kpos : Pos} (ha : PE X e (tI X.K ie)) : PK X [⟨nm, e, kpos⟩] (tIA X.K (iCons ie iNil)) := by
  refine ⟨fun pos pins s σ H Q I h => (pk_cons (nm := nm) (kpos := kpos) ha pk_nil).run pos pins s σ H Q I ?_⟩
  obtain ⟨env, st, ρ, z, st', E, S, h, q⟩ := h
  obtain ⟨x, s1, h1, h⟩ := ob_some h
  obtain ⟨xs, s2, h2, h⟩ := ob_some h
  cases h2
  cases h
  exact ⟨env, st, ρ, x, _, E, S, h1, fun v H1 ρ1 G1 S1 R1 => q [v] H1 ρ1 G1 S1 (by unfold Reps; exact ⟨v, [], rfl, R1, by unfold Reps; rfl⟩)⟩
theorem r_maxDef {e : Expr} {es : List Expr} {kws : List Keyword} {p pos : Pos} {ir ik : IA} (hc : X.calm = true) (hu : X.A.units + 64 < cLine) (hg : Gl X "max") (hm : X.mg "max" = none) (hv : bootBuiltins "max" = some (.builtin "max")) (ha : PA X (e :: es) (tIA X.K ir)) (hk : PK X kws (tIA X.K ik))
    (he : backTo pos (starEach (e :: es) X.env) = (false, eval e X.env) :: backTo pos (starEach es X.env) := by rfl) (hpl : (backTo pos (starEach (e :: es) X.env)).any (·.1) = false := by rfl)
    (hall : (backToKw pos (keywordEach kws X.env)).all (·.1.isSome) = true := by rfl) (hnone : (backToKw pos (keywordEach kws X.env)).any (·.1.isNone) = false := by rfl) (hks : (backToKw pos (keywordEach kws X.env)).filterMap (·.1) = [Str.ofString "default"] := by rfl) :
    PE X (.Call (.Name "max" p) (e :: es) kws pos) (tI X.K (iMaxDef ir ik)) :=
  PE.imp (pe_callBK (cr_maxDef hc hu) hg hm hv ha hk (by decide) (by decide) he hpl hall hnone hks) fun σ H Q ⟨env, st, ρ, z, st', E, S, h, q⟩ => by
    obtain ⟨xs, s1, h1, h⟩ := ob_some h
    obtain ⟨zs, s2, h2, h⟩ := ob_some h
    refine ⟨env, st, ρ, xs, s1, E, S, h1, fun vs H1 ρ1 G1 S1 R1 => ⟨env, s1, ρ1, zs, s2, E.grow S G1, S1, h2, fun ws H2 ρ2 G2 S2 R2 => ?_⟩⟩
    split at h
    · rename_i x d hh
      obtain ⟨ns, e, hz⟩ := map_some h
      cases hz
      obtain ⟨v, rfl, r1⟩ := one_arg (Reps.grow S1 G2 _ _ R1)
      obtain ⟨w, rfl, r2⟩ := one_arg R2
      unfold Rep at r2
      subst r2
      unfold intsOf at e
      split at e
      · rename_i ys e1
        obtain ⟨a, us, rfl, t, r⟩ := list_rep S2 r1 e1
        rw [ints_reps r e] at t
        exact ⟨a, ns, d, rfl, rfl, t, q _ H2 ρ2 (G1.trans G2) S2 (by unfold Rep; rfl)⟩
      · cases e
    · cases h
/-- xs[i] = v of a list -/
def fSetL : FSet := fun o i v st => match o, i with
  | .ref n, .int k => match st[n]? with
    | some (.lst xs) => (ixN xs.length k).map fun j => st.set n (.lst (xs.set j v))
    | _ => none
  | _, _ => none
theorem f_setL {K : PySem.W.Frag} : SetI K rSetL fSetL := by
  intro H ρ st o i x vo vi vx st' Q S Ro Ri Rx h q
  unfold fSetL at h
  split at h
  · rename_i n k
    split at h
    · rename_i xs e1
      obtain ⟨j, e, hz⟩ := map_some h
      subst hz
      unfold Rep at Ro Ri
      obtain ⟨a, rfl, i1⟩ := Ro
      subst Ri
      obtain ⟨b1, hb1, vs1, h1, r1⟩ := S.at_ _ _ e1
      rw [i1] at hb1; cases hb1
      have ndd := S.lv _ _ _ e1 (by simp) i1
      have g : Grow H ρ (upd H a (.lst (vs1.set j vx))) ρ := grow_write h1 (List.mem_of_getElem? i1) ndd
      exact ⟨a, vs1, k, j, rfl, rfl, h1, by rw [← r1.length]; exact e, q _ ρ g (S.write (so := .lst (xs.set j x)) i1 ndd h1 ⟨_, upd_same, Reps.grow S g _ _ (Reps.set Rx j r1)⟩)⟩
    · cases h
  · cases h
/-- xs.append(v) -/
def iAppend (io ie : IE) : IE := fun env st => ob (io env st) fun o s1 => match o with
  | .ref n => match s1[n]? with
    | some (.lst _) => ob (ie env s1) fun x s2 => match s2[n]? with
      | some (.lst xs) => if xs.length < 9000000 then some (.non, s2.set n (.lst (xs ++ [x]))) else none
      | _ => none
    | _ => none
  | _ => none
end
end IL

namespace IL
open PySem PySem.Spec PyProof.Rows L2

section
variable {X : Cx}
theorem PE.or {e : Expr} {t t' : TE} (h : PE X e t) (h' : PE X e t') : PE X e (fun σ H Q => t σ H Q ∨ t' σ H Q) := ⟨fun pins s σ H Q I q => q.elim (h.run pins s σ H Q I) (h'.run pins s σ H Q I)⟩
/-! ### dicts whose keys are ints and texts -/
def keyP : PV → Option Key
  | .int i => some (.inl i)
  | .str x => some (.inr x)
  | _ => none
theorem key_rep {K : PySem.W.Frag} {H : Hp} {ρ : Rho} {x : PV} {v : V} {k : Key} (R : Rep K H ρ x v) (h : keyP x = some k) : v = kV k := by
  cases x <;> simp only [keyP, Option.some.injEq, reduceCtorEq] at h <;> (unfold Rep at R; subst R; subst h; rfl)
def findP : List (Key × PV) → Key → Option PV
  | [], _ => none
  | (k', v) :: r, k => if k' = k then some v else findP r k
def putP : List (Key × PV) → Key → PV → List (Key × PV)
  | [], k, v => [(k, v)]
  | (k', w) :: r, k, v => if k' = k then (k', v) :: r else (k', w) :: putP r k v
theorem find_rep {K : PySem.W.Frag} {H : Hp} {ρ : Rho} {k : Key} : ∀ {xs : List (Key × PV)} {vs : List (Key × V)}, RepK K H ρ xs vs → (∀ x, findP xs k = some x → ∃ v, valV vs k = some v ∧ Rep K H ρ x v) ∧ (findP xs k = none → valV vs k = none)
  | [], vs, R => by
    subst R
    exact ⟨fun x h => (by cases h), fun _ => rfl⟩
  | (k', y) :: xs, vs, R => by
    obtain ⟨v, r, rfl, r1, r2⟩ := R
    obtain ⟨i1, i2⟩ := find_rep (k := k) r2
    unfold findP
    by_cases e : k' = k
    · rw [if_pos e, valV_pos (p := (k', v)) e]
      exact ⟨fun x h => (by cases h; exact ⟨v, rfl, r1⟩), fun h => (by cases h)⟩
    · rw [if_neg e, valV_neg (p := (k', v)) e]
      exact ⟨i1, i2⟩
theorem find_some {K : PySem.W.Frag} {H : Hp} {ρ : Rho} {k : Key} {xs : List (Key × PV)} {vs : List (Key × V)} (R : RepK K H ρ xs vs) : (findP xs k).isSome = (valV vs k).isSome := by
  obtain ⟨i1, i2⟩ := find_rep (k := k) R
  cases e : findP xs k with
  | none => rw [i2 e]; rfl
  | some x =>
    obtain ⟨v, e2, _⟩ := i1 x e
    rw [e2]; rfl
theorem putK_cons {k' k : Key} {w v : V} {r : List (Key × V)} (nd : ((k', w) :: r).map (·.1) |>.Nodup) : putK ((k', w) :: r) k v = if k' = k then (k', v) :: r else (k', w) :: putK r k v := by
  by_cases e : k' = k
  · subst e
    rw [if_pos rfl]
    unfold putK
    rw [if_pos (by simp)]
    rw [List.map_cons, if_pos rfl]
    congr 1
    have : ∀ p ∈ r, ¬ p.1 = k' := fun p hp z => by
      rw [List.map_cons, List.nodup_cons] at nd
      exact nd.1 (List.mem_map.mpr ⟨p, hp, z⟩)
    conv => rhs; rw [← List.map_id r]
    exact List.map_congr_left fun p hp => if_neg (this p hp)
  · rw [if_neg e]
    unfold putK
    rw [List.any_cons, decide_eq_false e, Bool.false_or]
    by_cases h : (r.any fun kv => decide (kv.1 = k)) = true
    · rw [if_pos h, if_pos h, List.map_cons, if_neg e]
    · rw [if_neg h, if_neg h]; rfl
theorem keys_rep {K : PySem.W.Frag} {H : Hp} {ρ : Rho} : ∀ {xs : List (Key × PV)} {vs : List (Key × V)}, RepK K H ρ xs vs → vs.map (·.1) = xs.map (·.1)
  | [], vs, R => by subst R; rfl
  | x :: xs, vs, R => by
    obtain ⟨v, r, rfl, _, r2⟩ := R
    rw [List.map_cons, List.map_cons, keys_rep r2]
theorem put_rep {K : PySem.W.Frag} {H : Hp} {ρ : Rho} {k : Key} {y : PV} {w : V} (Ry : Rep K H ρ y w) : ∀ {xs : List (Key × PV)} {vs : List (Key × V)}, (xs.map (·.1)).Nodup → RepK K H ρ xs vs → RepK K H ρ (putP xs k y) (putK vs k w)
  | [], vs, nd, R => by
    subst R
    exact ⟨w, [], rfl, Ry, rfl⟩
  | (k', z) :: xs, vs, nd, R => by
    have kr := keys_rep R
    obtain ⟨v, r, rfl, r1, r2⟩ := R
    rw [putK_cons (by rw [kr]; exact nd)]
    unfold putP
    by_cases e : k' = k
    · rw [if_pos e, if_pos e]
      exact ⟨w, r, rfl, Ry, r2⟩
    · rw [if_neg e, if_neg e]
      rw [List.map_cons, List.nodup_cons] at nd
      exact ⟨v, _, rfl, r1, put_rep Ry nd.2 r2⟩
def dictOf (st : Sto) : PV → Option (List (Key × PV))
  | .ref n => match st[n]? with
    | some (.dK kvs) => some kvs
    | _ => none
  | _ => none
theorem dict_rep {K : PySem.W.Frag} {H : Hp} {ρ : Rho} {st : Sto} (S : RepS K H ρ st) {x : PV} {v : V} {kvs : List (Key × PV)} (R : Rep K H ρ x v) (h : dictOf st x = some kvs) : ∃ a vs, v = .ref a ∧ H a = some (.dK vs) ∧ RepK K H ρ kvs vs := by
  cases x with
  | ref n =>
    unfold Rep at R
    obtain ⟨a, rfl, i1⟩ := R
    simp only [dictOf] at h
    split at h
    · rename_i ys e1
      obtain ⟨b1, hb1, vs1, h1, r1⟩ := S.at_ _ _ e1
      rw [i1] at hb1; cases hb1
      have ndd := S.lv _ _ _ e1 (by simp) i1
      cases h
      exact ⟨a, vs1, rfl, h1, r1⟩
    · cases h
  | _ => cases h
/-- o[i]: a list, a tuple, a text, a dict -/
def fSubA : F2 := fun x y st => match dictOf st x with
  | some kvs => match keyP y with
    | some k => (findP kvs k).map fun v => (v, st)
    | none => none
  | none => fIx x y st
variable {a b e i o : Expr} {es rest : List Expr} {pos : Pos} {ia ib ie : IE}
theorem r_sub (hu : X.A.units + 1 < cLine) (ha : PE X a (tI X.K ia)) (hb : PE X b (tI X.K ib)) (hs : PlainIx b) : PE X (.Subscript a b pos) (tI X.K (iBin fSubA ia ib)) :=
  PE.imp (PE.or (pe_ix ix_any ha hb hs) (pe_dget hu ha hb hs)) fun σ H Q ⟨env, st, ρ, z, st', E, S, h, q⟩ => by
    obtain ⟨x, s1, h1, h⟩ := ob_some h
    obtain ⟨y, s2, h2, h⟩ := ob_some h
    unfold fSubA at h
    cases e : dictOf s2 x with
    | none =>
      rw [e] at h
      exact .inl (bin_to (f := fIx) f_ix ⟨env, st, ρ, z, st', E, S, by unfold iBin; rw [h1]; simp only [ob]; rw [h2]; exact h, q⟩)
    | some kvs =>
      rw [e] at h
      simp only at h
      split at h
      · rename_i k e2
        obtain ⟨v, e3, hz⟩ := map_some h
        cases hz
        refine .inr ⟨env, st, ρ, x, s1, E, S, h1, fun vx H1 ρ1 G1 S1 R1 => ⟨env, s1, ρ1, y, _, E.grow S G1, S1, h2, fun vy H2 ρ2 G2 S2 R2 => ?_⟩⟩
        obtain ⟨p, vs, rfl, hp, r⟩ := dict_rep S2 (Rep.grow S1 G2 _ _ R1) e
        obtain ⟨w, hw, rw'⟩ := (find_rep (k := k) r).1 _ e3
        have hk := key_rep R2 e2
        subst hk
        exact ⟨p, w, rfl, by rw [← hw]; exact DGet.k hp, q w H2 ρ2 (G1.trans G2) S2 rw'⟩
      · cases h
/-- in, not in: a list or a tuple of flat things, a dict, a text -/
def inA (st : Sto) (x y : PV) : Option Bool := match dictOf st y with
  | some kvs => match keyP x with
    | some k => some (findP kvs k).isSome
    | none => none
  | none => match x, y with
    | .str i, .str j => some (!(Builtin.Str.occurrences j i 0 j.length 1).isEmpty)
    | _, _ => inP st x y
def fInA : F2 := fun x y st => (inA st x y).map fun b => (.bl b, st)
def fNotInA : F2 := fun x y st => (inA st x y).map fun b => (.bl (!b), st)
def rInS : R2 := fun x y H Q => ∃ i j, x = .str i ∧ y = .str j ∧ Q (.bl (!(Builtin.Str.occurrences j i 0 j.length 1).isEmpty)) H
def rNotInS : R2 := fun x y H Q => ∃ i j, x = .str i ∧ y = .str j ∧ Q (.bl (!(!(Builtin.Str.occurrences j i 0 j.length 1).isEmpty))) H
def rInD2 : R2 := fun y x H Q => ∃ a o, x = .ref a ∧ DGet H a y o ∧ Q (.bl o.isSome) H
def rNotInD2 : R2 := fun y x H Q => ∃ a o, x = .ref a ∧ DGet H a y o ∧ Q (.bl (!o.isSome)) H
theorem op_inD2 (hu : X.A.units + 1 < cLine) : OpR X (compareOp .In) rInD2 := by
  intro pins s σ H x y v u Q I rx ry h
  obtain ⟨a, o, rfl, g, q⟩ := h
  cases ry
  exact d_in hu I g rx fun s3 I3 => ⟨.bl o.isSome, H, I3, rfl, q⟩
theorem op_notInD2 (hu : X.A.units + 1 < cLine) : OpR X (compareOp .NotIn) rNotInD2 := by
  intro pins s σ H x y v u Q I rx ry h
  obtain ⟨a, o, rfl, g, q⟩ := h
  cases ry
  exact d_notIn hu I g rx fun s3 I3 => ⟨.bl (!o.isSome), H, I3, rfl, q⟩
def rInAll (K : PySem.W.Frag) : R2 := fun x y H Q => rIn K false x y H Q ∨ rInD2 x y H Q ∨ rInS x y H Q
def rNotInAll (K : PySem.W.Frag) : R2 := fun x y H Q => rIn K true x y H Q ∨ rNotInD2 x y H Q ∨ rNotInS x y H Q
theorem op_inAll (hu : X.A.units + 1 < cLine) : OpR X (compareOp .In) (rInAll X.K) := OpR.or op_in_seq (OpR.or (op_inD2 hu) op_in_str)
theorem op_notInAll (hu : X.A.units + 1 < cLine) : OpR X (compareOp .NotIn) (rNotInAll X.K) := OpR.or op_notIn_seq (OpR.or (op_notInD2 hu) op_notIn_str)
theorem inA_rep {K : PySem.W.Frag} {H : Hp} {ρ : Rho} {st : Sto} (S : RepS K H ρ st) {x y : PV} {v w : V} {b : Bool} (Rx : Rep K H ρ x v) (Ry : Rep K H ρ y w) (h : inA st x y = some b) :
    (∃ p xs, w = .ref p ∧ (SqL K H p xs ∨ SqT K H p xs) ∧ flatV v = true ∧ xs.all flatV = true ∧ inV v xs = b) ∨ (∃ a o, w = .ref a ∧ DGet H a v o ∧ o.isSome = b) ∨ ∃ i j, v = .str i ∧ w = .str j ∧ (!(Builtin.Str.occurrences j i 0 j.length 1).isEmpty) = b := by
  unfold inA at h
  split at h
  · rename_i kvs e
    split at h
    · rename_i k e2
      cases h
      obtain ⟨p, vs, rfl, hp, r⟩ := dict_rep S Ry e
      have hk := key_rep Rx e2
      subst hk
      exact .inr (.inl ⟨p, _, rfl, DGet.k hp, (find_some r).symm⟩)
    · cases h
  · split at h
    · cases h
      unfold Rep at Rx Ry
      subst Rx Ry
      exact .inr (.inr ⟨_, _, rfl, rfl, rfl⟩)
    · exact .inl (inP_rep S Rx Ry h)
theorem f_inA {K : PySem.W.Frag} : OpI K (rInAll K) fInA := by
  intro H ρ st x y vx vy z st' Q S Rx Ry h q
  obtain ⟨b, e, hz⟩ := map_some h
  cases hz
  have fin := q (.bl b) H ρ Grow.refl S (by unfold Rep; rfl)
  rcases inA_rep S Rx Ry e with ⟨p, xs, h1, h2, h3, h4, rfl⟩ | ⟨a, o, h1, h2, rfl⟩ | ⟨i, j, h1, h2, rfl⟩
  · exact .inl ⟨p, xs, h1, h2, h3, h4, fin⟩
  · exact .inr (.inl ⟨a, o, h1, h2, fin⟩)
  · exact .inr (.inr ⟨i, j, h1, h2, fin⟩)
theorem f_notInA {K : PySem.W.Frag} : OpI K (rNotInAll K) fNotInA := by
  intro H ρ st x y vx vy z st' Q S Rx Ry h q
  obtain ⟨b, e, hz⟩ := map_some h
  cases hz
  have fin := q (.bl (!b)) H ρ Grow.refl S (by unfold Rep; rfl)
  rcases inA_rep S Rx Ry e with ⟨p, xs, h1, h2, h3, h4, rfl⟩ | ⟨a, o, h1, h2, rfl⟩ | ⟨i, j, h1, h2, rfl⟩
  · exact .inl ⟨p, xs, h1, h2, h3, h4, fin⟩
  · exact .inr (.inl ⟨a, o, h1, h2, fin⟩)
  · exact .inr (.inr ⟨i, j, h1, h2, fin⟩)
/-- o[i] = v: a list, a dict -/
def nodupK (kvs : List (Key × PV)) : Bool := decide (kvs.map (·.1)).Nodup
def fSetA : FSet := fun o i v st => match o with
  | .ref n => match st[n]? with
    | some (.dK kvs) => match keyP i with
      | some k => if nodupK kvs && decide (kvs.length < 9000000) then some (st.set n (.dK (putP kvs k v))) else none
      | none => none
    | _ => fSetL o i v st
  | _ => none
def rSetD : TSet := fun o i v H Q => ∃ a H', o = .ref a ∧ DPut H a i v H' ∧ Q H'
theorem set_dict (hu : X.A.units + 1 < cLine) : PSet X rSetD := by
  intro pins s σ H o i v ov iv u Q I ro ri rv h
  obtain ⟨a, H', rfl, g, q⟩ := h
  cases ro
  exact d_setItem hu I g ri rv fun s4 I4 => ⟨H', I4, q⟩
theorem PSet.or {t t' : TSet} (h : PSet X t) (h' : PSet X t') : PSet X (fun o i v H Q => t o i v H Q ∨ t' o i v H Q) := fun pins s σ H o i v ov iv u Q I ro ri rv q =>
  q.elim (h pins s σ H o i v ov iv u Q I ro ri rv) (h' pins s σ H o i v ov iv u Q I ro ri rv)
def rSetA : TSet := fun o i v H Q => rSetL o i v H Q ∨ rSetD o i v H Q
theorem set_any (hu : X.A.units + 1 < cLine) : PSet X rSetA := PSet.or set_list (set_dict hu)
theorem f_setA {K : PySem.W.Frag} : SetI K rSetA fSetA := by
  intro H ρ st o i x vo vi vx st' Q S Ro Ri Rx h q
  unfold fSetA at h
  split at h
  · rename_i n
    split at h
    · rename_i kvs e1
      split at h
      · rename_i k e2
        split at h
        · rename_i hc
          rw [Bool.and_eq_true] at hc
          have nd : (kvs.map (·.1)).Nodup := of_decide_eq_true hc.1
          have hl : kvs.length < 9000000 := of_decide_eq_true hc.2
          cases h
          obtain ⟨a, vs1, rfl, i1, ndd, h1, r1⟩ := S.dct Ro e1
          have hk := key_rep Ri e2
          subst hk
          have g : Grow H ρ (upd H a (.dK (putK vs1 k vx))) ρ := grow_write h1 (List.mem_of_getElem? i1) ndd
          exact .inr ⟨a, _, rfl, .inl ⟨vs1, k, h1, rfl, line6 (by rw [← r1.length]; exact hl), rfl⟩, q _ ρ g (S.write (so := .dK (putP kvs k x)) i1 ndd h1 ⟨_, upd_same, RepK.grow S g _ _ (put_rep Rx nd r1)⟩)⟩
        · cases h
      · cases h
    · exact .inl (f_setL H ρ st _ i x vo vi vx st' Q S Ro Ri Rx h q)
  · cases h
/-- {k: v, ..} -/
abbrev IP := PEnv → Sto → Option (List (PV × PV) × Sto)
def iPNil : IP := fun _ st => some ([], st)
def iPCons (ik iv : IE) (ip : IP) : IP := fun env st => ob (ik env st) fun k s1 => ob (iv env s1) fun v s2 => ob (ip env s2) fun ps s3 => some ((k, v) :: ps, s3)
def keysP : List (PV × PV) → Option (List (Key × PV))
  | [] => some []
  | (k, v) :: r => match keyP k, keysP r with
    | some k', some r' => some ((k', v) :: r')
    | _, _ => none
def mergeP (kvs more : List (Key × PV)) : List (Key × PV) := more.foldl (fun acc kv => putP acc kv.1 kv.2) kvs
def iDict (ip : IP) : IE := fun env st => ob (ip env (st ++ [.dK []])) fun ps s1 => match keysP ps, s1[st.length]? with
  | some kvs, some (.dK []) => if kvs.length ≤ 15 then some (.ref st.length, s1.set st.length (.dK (mergeP [] kvs))) else none
  | _, _ => none
/-- the pairs' readings -/
inductive TPs (K : PySem.W.Frag) : List (TE × TE) → IP → Prop where
  | nil : TPs K [] iPNil
  | cons {ik iv : IE} {r : List (TE × TE)} {ip : IP} (h : TPs K r ip) : TPs K ((tI K ik, tI K iv) :: r) (iPCons ik iv ip)
def RepPs (K : PySem.W.Frag) (H : Hp) (ρ : Rho) : List (PV × PV) → List (V × V) → Prop
  | [], vs => vs = []
  | x :: xs, vs => ∃ v w r, vs = (v, w) :: r ∧ Rep K H ρ x.1 v ∧ Rep K H ρ x.2 w ∧ RepPs K H ρ xs r
theorem RepPs.grow {K : PySem.W.Frag} {H H' : Hp} {ρ ρ' : Rho} {st : Sto} (S : RepS K H ρ st) (g : Grow H ρ H' ρ') : ∀ {xs : List (PV × PV)} {vs : List (V × V)}, RepPs K H ρ xs vs → RepPs K H' ρ' xs vs
  | [], _, h => h
  | x :: xs, _, h => by
    obtain ⟨v, w, r, e, h1, h2, h3⟩ := h
    exact ⟨v, w, r, e, Rep.grow S g _ _ h1, Rep.grow S g _ _ h2, RepPs.grow S g h3⟩
theorem tps_to {K : PySem.W.Frag} {trs : List (TE × TE)} {ip : IP} (T : TPs K trs ip) : ∀ {σ : L2.St} {H : Hp} {ρ : Rho} {env : PEnv} {st st' : Sto} {ps : List (PV × PV)} {Q : List (V × V) → Hp → Prop}, RepE K H ρ env σ → RepS K H ρ st → ip env st = some (ps, st') →
    (∀ vs H' ρ', Grow H ρ H' ρ' → RepS K H' ρ' st' → RepPs K H' ρ' ps vs → Q vs H') → tPairs trs σ H Q := by
  induction T with
  | nil =>
    intro σ H ρ env st st' ps Q E S h q
    cases h
    exact q [] H ρ Grow.refl S rfl
  | cons T ih =>
    intro σ H ρ env st st' ps Q E S h q
    obtain ⟨k, s1, h1, h⟩ := ob_some h
    obtain ⟨v, s2, h2, h⟩ := ob_some h
    obtain ⟨r, s3, h3, h⟩ := ob_some h
    cases h
    refine ⟨env, st, ρ, k, s1, E, S, h1, fun vk H1 ρ1 G1 S1 R1 => ⟨env, s1, ρ1, v, s2, E.grow S G1, S1, h2, fun vv H2 ρ2 G2 S2 R2 => ?_⟩⟩
    refine ih ((E.grow S G1).grow S1 G2) S2 h3 fun vs H3 ρ3 G3 S3 R3 => q _ H3 ρ3 ((G1.trans G2).trans G3) S3 ⟨vk, vv, vs, rfl, Rep.grow S2 G3 _ _ (Rep.grow S1 G2 _ _ R1), Rep.grow S2 G3 _ _ R2, R3⟩
theorem keysP_rep {K : PySem.W.Frag} {H : Hp} {ρ : Rho} : ∀ {ps : List (PV × PV)} {vs : List (V × V)} {kvs : List (Key × PV)}, RepPs K H ρ ps vs → keysP ps = some kvs → ∃ ws, vs = ws.map (fun kv => (kV kv.1, kv.2)) ∧ RepK K H ρ kvs ws
  | [], vs, kvs, R, h => by
    cases h
    exact ⟨[], R, rfl⟩
  | (k, v) :: ps, vs, kvs, R, h => by
    obtain ⟨vk, w, r, rfl, r1, r2, r3⟩ := R
    unfold keysP at h
    split at h
    · rename_i k' r' e1 e2
      cases h
      obtain ⟨ws, rfl, r4⟩ := keysP_rep r3 e2
      have := key_rep r1 e1
      subst this
      exact ⟨(k', w) :: ws, rfl, w, ws, rfl, r2, r4⟩
    · cases h
theorem putP_keys (k : Key) (v : PV) : ∀ kvs : List (Key × PV), (kvs.map (·.1)).Nodup → ((putP kvs k v).map (·.1)).Nodup ∧ ∀ z, z ∈ (putP kvs k v).map (·.1) → z = k ∨ z ∈ kvs.map (·.1)
  | [], _ => ⟨by simp [putP], fun z h => by simp [putP] at h; exact .inl h⟩
  | (k', w) :: r, nd => by
    unfold putP
    rw [List.map_cons, List.nodup_cons] at nd
    by_cases e : k' = k
    · rw [if_pos e]
      exact ⟨by rw [List.map_cons, List.nodup_cons]; exact nd, fun z h => .inr h⟩
    · rw [if_neg e]
      obtain ⟨i1, i2⟩ := putP_keys k v r nd.2
      refine ⟨?_, fun z h => ?_⟩
      · rw [List.map_cons, List.nodup_cons]
        exact ⟨fun h => by
          rcases i2 _ h with z | z
          · exact e z
          · exact nd.1 z, i1⟩
      · rw [List.map_cons, List.mem_cons] at h
        rcases h with h | h
        · exact .inr (by rw [h]; exact List.mem_cons_self)
        · rcases i2 z h with z1 | z1
          · exact .inl z1
          · exact .inr (List.mem_cons_of_mem _ z1)
theorem merge_rep {K : PySem.W.Frag} {H : Hp} {ρ : Rho} : ∀ {more kvs : List (Key × PV)} {ms ws : List (Key × V)}, (kvs.map (·.1)).Nodup → RepK K H ρ more ms → RepK K H ρ kvs ws → RepK K H ρ (mergeP kvs more) (mergeK ws ms)
  | [], _, _, _, _, Rm, R => by subst Rm; exact R
  | x :: more, kvs, _, ws, nd, Rm, R => by
    obtain ⟨v, r, rfl, r1, r2⟩ := Rm
    show RepK K H ρ (mergeP (putP kvs x.1 x.2) more) (mergeK (putK ws x.1 v) r)
    exact merge_rep (more := more) (ms := r) (putP_keys _ _ _ nd).1 r2 (put_rep r1 nd R)
theorem r_dict {keys : List (Option Expr)} {values : List Expr} {trs : List (TE × TE)} {ip : IP} (T : TPs X.K trs ip) (h : PPs X pos keys values trs) (hall : keys.all (·.isSome) = true) (hl : keys.length = values.length) (h0 : keys ≠ []) (h15 : keys.length ≤ 15) :
    PE X (.Dict keys values pos) (tI X.K (iDict ip)) := PE.imp (pe_disp h hall hl h0 h15) fun σ H Q ⟨env, st, ρ, z, st', E, S, h, q⟩ p hp => by
  obtain ⟨ps, s1, h1, h⟩ := ob_some h
  split at h
  · rename_i kvs e1 e2
    split at h
    · rename_i h15
      cases h
      have g0 : Grow H ρ (upd H p (.dK [])) (ρ.add p) := grow_alloc hp
      have S0 : RepS X.K (upd H p (.dK [])) (ρ.add p) (st ++ [.dK []]) := S.alloc (so := .dK []) hp ⟨[], upd_same, rfl⟩
      refine tps_to T (E.grow S g0) S0 h1 fun vs H2 ρ2 G2 S2 R2 => ?_
      have ix : ρ2.l[st.length]? = some p := G2.ix (by (first | rw [← S.len, List.getElem?_append_right (Nat.le_refl _)] | (show (ρ.l ++ [_])[_]? = _; rw [← S.len, List.getElem?_append_right (Nat.le_refl _)])); simp)
      obtain ⟨b1, hb1, us, h2, r2⟩ := S2.at_ _ _ e2
      rw [ix] at hb1; cases hb1
      have ndd := S2.lv _ _ _ e2 (by simp) ix
      have hus : us = [] := r2
      subst hus
      obtain ⟨ws, rfl, r4⟩ := keysP_rep R2 e1
      have gw : Grow H2 ρ2 (upd H2 p (.dK (mergeK [] ws))) ρ2 := grow_write h2 (List.mem_of_getElem? ix) ndd
      refine ⟨h2, ws, rfl, by rw [← r4.length]; exact h15, q _ _ ρ2 (g0.trans (G2.trans gw)) (S2.write (so := .dK (mergeP [] kvs)) ix ndd h2 ⟨_, upd_same, RepK.grow S2 gw _ _ (merge_rep (by simp) r4 rfl)⟩) ?_⟩
      unfold Rep
      exact ⟨p, rfl, ix⟩
    · cases h
  · cases h
theorem r_dict0 : PE X (.Dict [] [] pos) (tI X.K (fun _ st => some (alloc (.dK []) st))) := PE.imp pe_dnewK fun σ H Q ⟨env, st, ρ, z, st', E, S, h, q⟩ p hp => by
  have e := Option.some.inj h
  have g0 : Grow H ρ (upd H p (.dK [])) (ρ.add p) := grow_alloc hp
  have S0 : RepS X.K (upd H p (.dK [])) (ρ.add p) (st ++ [.dK []]) := S.alloc (so := .dK []) hp ⟨[], upd_same, rfl⟩
  unfold alloc at e
  cases e
  refine q _ _ _ g0 S0 ?_
  unfold Rep
  exact ⟨p, rfl, by (first | rw [← S.len, List.getElem?_append_right (Nat.le_refl _)] | (show (ρ.l ++ [_])[_]? = _; rw [← S.len, List.getElem?_append_right (Nat.le_refl _)])); simp⟩
/-- xs.append(v) -/
theorem r_append {apos cpos : Pos} (ho : PE X o (tI X.K ia)) (he : PE X e (tI X.K ib))
    (hbase : attributeBase o "append" X.env (eval o X.env) = eval o X.env := by rfl)
    (hfew : ((backTo cpos (starEach (e :: []) X.env)).all (fun x => !x.1) && (backToKw cpos (keywordEach [] X.env)).all (fun x => x.1.isSome)
      && decide ((e :: []).length + ([] : List Keyword).length + (if ([] : List Keyword).isEmpty then 0 else 1) < 30)) = true := by rfl)
    (hline : (apos.endLine == cpos.line) = true := by rfl) (hs : starEach (e :: []) X.env = (false, eval e X.env) :: starEach [] X.env := by rfl) (hplain : (backTo cpos (starEach [] X.env)).any (·.1) = false := by rfl) :
    PE X (.Call (.Attribute o "append" apos) [e] [] cpos) (tI X.K (iAppend ia ib)) :=
  PE.imp (pe_bm PySem.F.plainAttrs_list PySem.F.slot_list_append PySem.F.type_list_append mt_append ho (pa_cons he pa_nil hs) hbase hfew hline hs hplain) fun σ H Q ⟨env, st, ρ, z, st', E, S, h, q⟩ => by
    obtain ⟨x, s1, h1, h⟩ := ob_some h
    refine ⟨env, st, ρ, x, s1, E, S, h1, fun vx H1 ρ1 G1 S1 R1 => ?_⟩
    split at h
    · rename_i n
      split at h
      · rename_i ws e0
        obtain ⟨y, s2, h2, h⟩ := ob_some h
        split at h
        · rename_i xs e1
          split at h
          · rename_i hl
            cases h
            unfold Rep at R1
            obtain ⟨a, rfl, i1⟩ := R1
            refine ⟨?_, env, s1, ρ1, y, s2, E.grow S G1, S1, h2, fun vy H2 ρ2 G2 S2 R2 => ?_⟩
            · obtain ⟨b1, hb1, vs1, h3, r1⟩ := S1.at_ _ _ e0
              rw [i1] at hb1; cases hb1
              exact .inl ⟨rfl, vs1, .of h3⟩
            · have i2 := G2.ix i1
              obtain ⟨b1, hb1, vs1, h3, r1⟩ := S2.at_ _ _ e1
              rw [i2] at hb1; cases hb1
              have ndd := S2.lv _ _ _ e1 (by simp) i2
              have g : Grow H2 ρ2 (upd H2 a (.lst (vs1 ++ [vy]))) ρ2 := grow_write h3 (List.mem_of_getElem? i2) ndd
              refine ⟨a, vs1, vy, rfl, rfl, h3, line6 (by rw [← r1.length]; exact hl), q .non _ ρ2 ((G1.trans G2).trans g) (S2.write (so := .lst (xs ++ [y])) i2 ndd h3 ⟨_, upd_same, Reps.grow S2 g _ _ (Reps.append r1 (by unfold Reps; exact ⟨vy, [], rfl, R2, by unfold Reps; rfl⟩))⟩) (by unfold Rep; rfl)⟩
          · cases h
        · cases h
      · cases h
    · cases h
end
end IL

/-! What the plain functions compute, as rules for simp. -/
namespace IL
open PySem PySem.Spec PyProof.Rows L2

section
variable {α β : Type} {a : α} {s s1 s2 st : Sto} {k : α → Sto → Option β} {env : PEnv} {x y z v : PV} {xs ys : List PV} {ia ib ic ie : IE} {ir ir' : IA} {t u : IT} {i j : Nat} {f g : F2} {p q : IS} {m n : Int}
@[simp] theorem ob_s : ob (some (a, s)) k = k a s := rfl
@[simp] theorem ob_n : ob (none : Option (α × Sto)) k = none := rfl
@[simp] theorem iVar_e : iVar i env st = match env[i]? with
  | some (some v) => some (v, st)
  | _ => none := rfl
@[simp] theorem iC_e : iC v env st = some (v, st) := rfl
@[simp] theorem iBin_e : iBin f ia ib env st = ob (ia env st) fun x s1 => ob (ib env s1) fun y s2 => f x y s2 := rfl
@[simp] theorem iUn_e {f : F1} : iUn f ia env st = ob (ia env st) fun x s1 => f x s1 := rfl
@[simp] theorem iChain_e : iChain f g ia ib ic env st = ob (ia env st) fun x s1 => ob (ib env s1) fun y s2 => ob (f x y s2) fun z s3 => match z with
  | .bl true => ob (ic env s3) fun w s4 => g y w s4
  | .bl false => some (.bl false, s3)
  | _ => none := rfl
@[simp] theorem iTest_e : iTest ia env st = ob (ia env st) fun x s1 => (tru s1 x).map fun k => (k, s1) := rfl
@[simp] theorem iTestB_e : iTestB ia env st = ob (ia env st) fun x s1 => (isBl x).map fun k => (k, s1) := rfl
@[simp] theorem isBl_e {b : Bool} : isBl (.bl b) = some b := rfl
@[simp] theorem tru_bl {b : Bool} : tru st (.bl b) = some b := rfl
@[simp] theorem tru_int : tru st (.int m) = some (m != 0) := rfl
@[simp] theorem tru_tup : tru st (.tup xs) = some (!xs.isEmpty) := rfl
@[simp] theorem tru_non : tru st .non = some false := rfl
@[simp] theorem iAnd_e : iAnd t u env st = ob (t env st) fun k s1 => match k with
  | true => u env s1
  | false => some (false, s1) := rfl
@[simp] theorem iOr_e : iOr t u env st = ob (t env st) fun k s1 => match k with
  | true => some (true, s1)
  | false => u env s1 := rfl
@[simp] theorem iNot_e : iNot t env st = ob (t env st) fun k s1 => some (!k, s1) := rfl
@[simp] theorem iAndV_e : iAndV ia ib env st = ob (ia env st) fun x s1 => match tru s1 x with
  | some true => ib env s1
  | some false => some (x, s1)
  | none => none := rfl
@[simp] theorem iOrV_e : iOrV ia ib env st = ob (ia env st) fun x s1 => match tru s1 x with
  | some true => some (x, s1)
  | some false => ib env s1
  | none => none := rfl
@[simp] theorem iNotV_e : iNotV ia env st = ob (ia env st) fun x s1 => (tru s1 x).map fun k => (.bl (!k), s1) := rfl
@[simp] theorem iIf_e : iIf t ia ib env st = ob (t env st) fun k s1 => match k with
  | true => ia env s1
  | false => ib env s1 := rfl
@[simp] theorem iNil_e : iNil env st = some ([], st) := rfl
@[simp] theorem iCons_e : iCons ia ir env st = ob (ia env st) fun x s1 => ob (ir env s1) fun xs s2 => some (x :: xs, s2) := rfl
@[simp] theorem iTup_e : iTup ir env st = ob (ir env st) fun xs s1 => if xs.length ≤ 9000000 then some (.tup xs, s1) else none := rfl
@[simp] theorem iLst_e : iLst ir env st = ob (ir env st) fun xs s1 => if xs.length ≤ 9000000 then some (.ref s1.length, s1 ++ [.lst xs]) else none := rfl
@[simp] theorem iNo_e : iNo env st = some (none, st) := rfl
@[simp] theorem iPart_e : iPart ia env st = ob (ia env st) fun x s1 => match x with
  | .int i => some (some i, s1)
  | _ => none := rfl
@[simp] theorem iSl_e {h : FSl} {lo hi : IO} : iSl h ia lo hi env st = ob (ia env st) fun x s1 => ob (lo env s1) fun l s2 => ob (hi env s2) fun u s3 => h x l u s3 := rfl
@[simp] theorem iCall_e {h : FA} : iCall h ir env st = ob (ir env st) fun xs s1 => h xs s1 := rfl
@[simp] theorem iSkip_e : iSkip env st = some (.nx env st) := rfl
@[simp] theorem iSeq_e : iSeq p q env st = match p env st with
  | some (.nx e s) => q e s
  | o => o := rfl
@[simp] theorem iDrop_e : iDrop ie env st = ob (ie env st) fun _ s => some (.nx env s) := rfl
@[simp] theorem iRet_e : iRet ie env st = ob (ie env st) fun x s => some (.rt x s) := rfl
@[simp] theorem iIfS_e : iIfS t p q env st = ob (t env st) fun k s => match k with
  | true => p env s
  | false => q env s := rfl
@[simp] theorem iAsg_e {h : IG} : iAsg h ie env st = ob (ie env st) fun x s => match h x env s with
  | some env' => some (.nx env' s)
  | none => none := rfl
@[simp] theorem gN_e : gN i x env st = some (env.set i (some x)) := rfl
@[simp] theorem gNs_e : gNs [] env st = some env := rfl
@[simp] theorem gCs_e {h : IG} {hs : IGs} : gCs h hs (x :: xs) env st = match h x env st with
  | some env1 => hs xs env1 st
  | none => none := rfl
@[simp] theorem gT_e {hs : IGs} {n : Nat} : gT n hs (.tup xs) env st = if xs.length = n then hs xs env st else none := rfl
@[simp] theorem iPar_e : iPar i j ir env st = ob (ir env st) fun xs s => match xs with
  | [x, y] => some (.nx ((env.set i (some x)).set j (some y)) s)
  | _ => none := rfl
@[simp] theorem iSetIx_e {h : FSet} : iSetIx h ia ib ie env st = ob (ie env st) fun x s1 => ob (ia env s1) fun o s2 => ob (ib env s2) fun i s3 => (h o i x s3).map fun s4 => .nx env s4 := rfl
@[simp] theorem iWalk_e : iWalk ie env st = ob (ie env st) fun x s => match x with
  | .str y => some (srcS y, s)
  | .tup xs => some (srcT xs, s)
  | .frz xs => some (srcT xs, s)
  | .ref n => match s[n]? with
    | some (.lst xs) => some (srcL n xs.length, s)
    | _ => none
  | _ => none := rfl
@[simp] theorem iFor_e {ii : II} {h : IG} : iFor ii h p env st = ob (ii env st) fun src s => loop src.at_ h p (src.n + 1) 0 env s := rfl
@[simp] theorem iAugAdd_e : iAugAdd i ie env st = match env[i]? with
  | some (some (.int a)) => ob (ie env st) fun y s => match y with
    | .int b => some (.nx (env.set i (some (.int (a + b)))) s)
    | _ => none
  | _ => none := rfl
@[simp] theorem iYes_e : iYes env st = some (true, st) := rfl
@[simp] theorem a1_e {h : F1} : a1 h [x] st = h x st := rfl
@[simp] theorem a2_e {h : F2} : a2 h [x, y] st = h x y st := rfl
/-! ### operations -/
@[simp] theorem fAdd_i : fAdd (.int m) (.int n) st = some (.int (m + n), st) := rfl
@[simp] theorem fAdd_t : fAdd (.tup xs) (.tup ys) st = if xs.length + ys.length ≤ 9000000 then some (.tup (xs ++ ys), st) else none := rfl
@[simp] theorem fAdd_s {a b : Str} : fAdd (.str a) (.str b) st = if a.length + b.length ≤ 9000000 then some (.str (a ++ b), st) else none := rfl
@[simp] theorem fSub_i : fSub (.int m) (.int n) st = some (.int (m - n), st) := rfl
@[simp] theorem fMul_i : fMul (.int m) (.int n) st = if cMul m n then some (.int (m * n), st) else none := rfl
@[simp] theorem fDiv_i : fDiv (.int m) (.int n) st = if cDiv m n then some (.int (m.fdiv n), st) else none := rfl
@[simp] theorem fMod_i : fMod (.int m) (.int n) st = if decide (n ≠ 0) then some (.int (m.fmod n), st) else none := rfl
@[simp] theorem fNeg_i : fNeg (.int m) st = some (.int (-m), st) := rfl
@[simp] theorem fLt_i : fLt (.int m) (.int n) st = some (.bl (decide (m < n)), st) := rfl
@[simp] theorem fLe_i : fLe (.int m) (.int n) st = some (.bl (decide (m ≤ n)), st) := rfl
@[simp] theorem fGt_i : fGt (.int m) (.int n) st = some (.bl (decide (n < m)), st) := rfl
@[simp] theorem fGe_i : fGe (.int m) (.int n) st = some (.bl (decide (n ≤ m)), st) := rfl
@[simp] theorem fLt_s {a b : Str} : fLt (.str a) (.str b) st = some (.bl (ltS a b), st) := rfl
@[simp] theorem fLe_s {a b : Str} : fLe (.str a) (.str b) st = some (.bl (!ltS b a), st) := rfl
@[simp] theorem fEq_e : fEq x y st = (eqP st x y).map fun b => (.bl b, st) := rfl
@[simp] theorem fNe_e : fNe x y st = (eqP st x y).map fun b => (.bl (!b), st) := rfl
@[simp] theorem fIs_n : fIs x .non st = some (.bl (isNone x), st) := rfl
@[simp] theorem fIs_b {b : Bool} : fIs x (.bl b) st = some (.bl (isBool b x), st) := rfl
@[simp] theorem fIsNot_n : fIsNot x .non st = some (.bl (!isNone x), st) := rfl
@[simp] theorem fIsNot_b {b : Bool} : fIsNot x (.bl b) st = some (.bl (!isBool b x), st) := rfl
@[simp] theorem isBool_b {b c : Bool} : isBool b (.bl c) = (c == b) := rfl
@[simp] theorem isBool_t {b : Bool} : isBool b (.tup xs) = false := rfl
@[simp] theorem isBool_s {b : Bool} {a : Str} : isBool b (.str a) = false := rfl
@[simp] theorem isBool_n {b : Bool} : isBool b .non = false := rfl
@[simp] theorem isNone_n : isNone .non = true := rfl
@[simp] theorem isNone_t : isNone (.tup xs) = false := rfl
@[simp] theorem isNone_s {a : Str} : isNone (.str a) = false := rfl
@[simp] theorem isNone_b {b : Bool} : isNone (.bl b) = false := rfl
theorem eqP_s {a b : Str} : eqP st (.str a) (.str b) = if PyData.strOk a && PyData.strOk b then some (a == b) else none := by
  show (if SeqAt.shaped (.str a) && SeqAt.shaped (.str b) then some (PyData.eqv (.str a) (.str b)) else none) = _
  have e : ∀ c : Str, SeqAt.shaped (.str c) = PyData.strOk c := fun c => by
    unfold SeqAt.shaped
    show (PyData.canLay0 (.str c) && decide (PyData.depth (.str c) ≤ 64)) = _
    have h1 : PyData.canLay0 (.str c) = PyData.strOk c := by simp [PyData.canLay0]
    have h2 : PyData.depth (.str c) = 0 := by simp [PyData.depth]
    rw [h1, h2]
    simp
  rw [e, e]
  have h3 : PyData.eqv (.str a) (.str b) = (a == b) := by simp [PyData.eqv]
  rw [h3]
@[simp] theorem eqP_i : eqP st (.int m) (.int n) = some (m == n) := by
  show (if SeqAt.shaped (.int m) && SeqAt.shaped (.int n) then some (PyData.eqv (.int m) (.int n)) else none) = _
  have e : ∀ c : Int, SeqAt.shaped (.int c) = true := fun c => by simp [SeqAt.shaped, PyData.canLay0, PyData.depth]
  have h3 : PyData.eqv (.int m) (.int n) = (m == n) := by simp [PyData.eqv]
  rw [e, e, h3]; rfl
@[simp] theorem eqP_b {a b : Bool} : eqP st (.bl a) (.bl b) = some (a == b) := by
  show (if SeqAt.shaped (.bool a) && SeqAt.shaped (.bool b) then some (PyData.eqv (.bool a) (.bool b)) else none) = _
  have e : ∀ c : Bool, SeqAt.shaped (.bool c) = true := fun c => by simp [SeqAt.shaped, PyData.canLay0, PyData.depth]
  have h3 : PyData.eqv (.bool a) (.bool b) = (a == b) := by simp [PyData.eqv]
  rw [e, e, h3]; rfl
@[simp] theorem fLen_t : fLen (.tup xs) st = some (.int xs.length, st) := rfl
@[simp] theorem fLen_f : fLen (.frz xs) st = some (.int xs.length, st) := rfl
@[simp] theorem fLen_s {a : Str} : fLen (.str a) st = (if a.length ≤ 9000000 then some (.int (a.length : Int), st) else none) := by
  unfold fLen lenP
  by_cases h : a.length ≤ 9000000
  · simp only [if_pos h]; rfl
  · simp only [if_neg h]; rfl
theorem fLen_l {n : Nat} (h : st[n]? = some (.lst xs)) : fLen (.ref n) st = some (.int xs.length, st) := by
  unfold fLen lenP
  simp only [h]
  rfl
theorem fLen_d {n : Nat} {kvs : List (Key × PV)} (h : st[n]? = some (.dK kvs)) : fLen (.ref n) st = some (.int kvs.length, st) := by
  unfold fLen lenP
  simp only [h]
  rfl
@[simp] theorem fTuple_e : fTuple x st = (itemsOf st x).map fun xs => (.tup xs, st) := rfl
@[simp] theorem fList_e : fList x st = (itemsOf st x).map fun xs => (.ref st.length, st ++ [.lst xs]) := rfl
@[simp] theorem itemsOf_t : itemsOf st (.tup xs) = some xs := rfl
@[simp] theorem itemsOf_f : itemsOf st (.frz xs) = some xs := rfl
@[simp] theorem itemsOf_r {n : Nat} : itemsOf st (.ref n) = match st[n]? with
    | some (.lst xs) => some xs
    | _ => none := rfl
@[simp] theorem listOf_r {n : Nat} : listOf st (.ref n) = match st[n]? with
    | some (.lst xs) => some xs
    | _ => none := rfl
@[simp] theorem dictOf_t : dictOf st (.tup xs) = none := rfl
@[simp] theorem dictOf_f : dictOf st (.frz xs) = none := rfl
@[simp] theorem dictOf_s {a : Str} : dictOf st (.str a) = none := rfl
@[simp] theorem dictOf_r {n : Nat} : dictOf st (.ref n) = match st[n]? with
    | some (.dK kvs) => some kvs
    | _ => none := rfl
@[simp] theorem fInt1_i : fInt1 (.int m) st = some (.int m, st) := rfl
@[simp] theorem fInt1_b {b : Bool} : fInt1 (.bl b) st = some (.int (if b then 1 else 0), st) := rfl
@[simp] theorem fAbs_i : fAbs (.int m) st = some (.int (if m < 0 then -m else m), st) := rfl
@[simp] theorem fStr_i : fStr (.int m) st = if m.natAbs < 2 ^ 1000 then some (.str (toString m), st) else none := rfl
@[simp] theorem fRepr_b {b : Bool} : fRepr (.bl b) st = some (.str (if b then "True" else "False"), st) := rfl
@[simp] theorem fSubA_t : fSubA (.tup xs) (.int m) st = (atI xs m).map fun v => (v, st) := rfl
theorem fSubA_l {n : Nat} (h : st[n]? = some (.lst xs)) : fSubA (.ref n) (.int m) st = (atI xs m).map fun v => (v, st) := by
  have e1 : dictOf st (.ref n) = none := by simp only [dictOf_r, h]
  unfold fSubA
  rw [e1]
  show (match itemsOf st (.ref n) with
      | some xs => (atI xs m).map fun v => (v, st)
      | none => none) = _
  rw [itemsOf_r, h]
theorem fSubA_d {n : Nat} {kvs : List (Key × PV)} (h : st[n]? = some (.dK kvs)) {k : Key} (hk : keyP y = some k) : fSubA (.ref n) y st = (findP kvs k).map fun v => (v, st) := by
  have e1 : dictOf st (.ref n) = some kvs := by simp only [dictOf_r, h]
  unfold fSubA
  rw [e1, hk]
theorem at_nat {α : Type} {xs : List α} {i : Nat} {x : α} (h : xs[i]? = some x) : atI xs (i : Int) = some x := atI_nat h
@[simp] theorem atI_0 {α : Type} {x : α} {xs : List α} : atI (x :: xs) 0 = some x := at_nat (i := 0) rfl
@[simp] theorem atI_1 {α : Type} {x y : α} {xs : List α} : atI (x :: y :: xs) 1 = some y := at_nat (i := 1) rfl
@[simp] theorem atI_2 {α : Type} {x y z : α} {xs : List α} : atI (x :: y :: z :: xs) 2 = some z := at_nat (i := 2) rfl
@[simp] theorem atI_3 {α : Type} {x y z w : α} {xs : List α} : atI (x :: y :: z :: w :: xs) 3 = some w := at_nat (i := 3) rfl
theorem atI_in {α : Type} {xs : List α} {i : Int} (h0 : 0 ≤ i) (h1 : i < xs.length) : ∃ x, x ∈ xs ∧ atI xs i = some x := by
  obtain ⟨k, rfl⟩ := Int.eq_ofNat_of_zero_le h0
  have hk : k < xs.length := by omega
  exact ⟨xs[k], List.getElem_mem hk, at_nat (List.getElem?_eq_getElem hk)⟩
theorem atI_out {α : Type} {xs : List α} {i : Int} (h : ¬ (-(xs.length : Int) ≤ i ∧ i < xs.length)) : atI xs i = none := by
  unfold atI ixN
  split
  · rw [if_neg (by omega)]; rfl
  · rw [if_neg (by omega)]; rfl
@[simp] theorem iMaxDef_e : iMaxDef ir ir' env st = ob (ir env st) fun xs s1 => ob (ir' env s1) fun zs s2 => match xs, zs with
  | [x], [.int d] => (intsOf s2 x).map fun ns => (.int (maxI ns d), s2)
  | _, _ => none := rfl
@[simp] theorem fIsi_e : fIsi x y st = (isP st x y).map fun b => (.bl b, st) := rfl
theorem kb_tt : kitB "tuple" "tuple" = some true := by decide +kernel
theorem kb_st : kitB "str" "tuple" = some false := by decide +kernel
theorem kb_nt : kitB "NoneType" "tuple" = some false := by decide +kernel
theorem kb_bt : kitB "bool" "tuple" = some false := by decide +kernel
theorem kb_it : kitB "int" "tuple" = some false := by decide +kernel
@[simp] theorem isP_tt : isP st (.tup xs) (.ty "tuple") = some true := kb_tt
@[simp] theorem isP_st {a : Str} : isP st (.str a) (.ty "tuple") = some false := kb_st
@[simp] theorem isP_nt : isP st .non (.ty "tuple") = some false := kb_nt
@[simp] theorem isP_bt {b : Bool} : isP st (.bl b) (.ty "tuple") = some false := kb_bt
@[simp] theorem isP_it : isP st (.int m) (.ty "tuple") = some false := kb_it
@[simp] theorem fAll_e : fAll x st = (blsOf st x).map fun bs => (.bl (bs.all id), st) := rfl
@[simp] theorem fSl_t {lo hi : Option Int} : fSl (.tup xs) lo hi st = some (.tup (cutP xs lo hi), st) := rfl
@[simp] theorem fSl_f {lo hi : Option Int} : fSl (.frz xs) lo hi st = some (.ref st.length, st ++ [.lst (cutP xs lo hi)]) := rfl
@[simp] theorem fInA_e : fInA x y st = (inA st x y).map fun b => (.bl b, st) := rfl
@[simp] theorem inA_st {a : Str} : inA st (.str a) (.tup ys) = (mapO flatP ys).map fun ws => inV (.str a) ws := by
  unfold inA
  rfl
end
/-! ### the store -/
@[simp] theorem new_at {st : Sto} {o : SO} : (st ++ [o])[st.length]? = some o := by
  rw [List.getElem?_append_right (Nat.le_refl _)]; simp
theorem old_at {st l : Sto} {n : Nat} {o : SO} (h : st[n]? = some o) : (st ++ l)[n]? = some o := by
  rw [List.getElem?_append_left (List.getElem?_eq_some_iff.mp h).1]; exact h
theorem lt_of_at {st : Sto} {n : Nat} {o : SO} (h : st[n]? = some o) : n < st.length := (List.getElem?_eq_some_iff.mp h).1
/-! ### equal data -/
/-- data without a store -/
def pureP : PV → Prop := fun x => ∀ st, ∃ d, toD st 70 x = some d ∧ SeqAt.shaped d = true
theorem eqP_self {st : Sto} {x : PV} (h : pureP x) : eqP st x x = some true := by
  obtain ⟨d, e, hs⟩ := h st
  unfold eqP
  rw [e]
  simp only [hs, Bool.and_self, if_true]
  have hc : d.canLay0 = true := SeqAt.canLay_of_shaped hs
  rw [SeqAt.eqv_refl d hc]
end IL

/-! Data without a store; loops by what holds between turns. -/
namespace IL
open PySem PySem.Spec PyProof.Rows L2

mutual
def datP : PV → PyData
  | .non => .none
  | .bl b => .bool b
  | .int i => .int i
  | .str x => .str x
  | .tup xs => .tuple (datPs xs)
  | .frz xs => .list (datPs xs)
  | .ref _ => .none
  | .ty _ => .none
  | .fdk _ _ => .none
def datPs : List PV → List PyData
  | [] => []
  | x :: xs => datP x :: datPs xs
end
mutual
/-- data, at most so deep -/
def gd : PV → Nat → Bool
  | .non, _ => true
  | .bl _, _ => true
  | .int _, _ => true
  | .str x, _ => PyData.strOk x
  | .tup xs, n => decide (0 < n) && gds xs (n - 1)
  | .frz xs, n => decide (0 < n) && gds xs (n - 1)
  | .ref _, _ => false
  | .ty _, _ => false
  | .fdk _ _, _ => false
def gds : List PV → Nat → Bool
  | [], _ => true
  | x :: xs, n => gd x n && gds xs n
end
mutual
theorem gd_dat {st : Sto} : ∀ (x : PV) (n f : Nat), gd x n = true → n < f → toD st f x = some (datP x) ∧ (datP x).canLay0 = true ∧ (datP x).depth ≤ n
  | .non, n, 0, _, hf => absurd hf (by omega)
  | .bl b, n, 0, _, hf => absurd hf (by omega)
  | .int i, n, 0, _, hf => absurd hf (by omega)
  | .str x, n, 0, _, hf => absurd hf (by omega)
  | .tup xs, n, 0, _, hf => absurd hf (by omega)
  | .frz xs, n, 0, _, hf => absurd hf (by omega)
  | .ref _, n, _, h, _ => by simp [gd] at h
  | .ty _, n, _, h, _ => by simp [gd] at h
  | .fdk _ _, n, _, h, _ => by simp [gd] at h
  | .non, n, f + 1, _, _ => ⟨rfl, by simp [datP, PyData.canLay0], by simp [datP, PyData.depth]⟩
  | .bl b, n, f + 1, _, _ => ⟨rfl, by simp [datP, PyData.canLay0], by simp [datP, PyData.depth]⟩
  | .int i, n, f + 1, _, _ => ⟨rfl, by simp [datP, PyData.canLay0], by simp [datP, PyData.depth]⟩
  | .str x, n, f + 1, h, _ => ⟨rfl, by unfold gd at h; simp only [datP, PyData.canLay0]; exact h, by simp [datP, PyData.depth]⟩
  | .tup xs, n, f + 1, h, hf => by
    unfold gd at h
    rw [Bool.and_eq_true, decide_eq_true_eq] at h
    obtain ⟨h1, h2, h3⟩ := gds_dat (st := st) xs (n - 1) f h.2 (by omega)
    refine ⟨?_, ?_, ?_⟩
    · show (mapO (toD st f) xs).map PyData.tuple = _
      rw [h1]; rfl
    · simp only [datP, PyData.canLay0]; exact h2
    · simp only [datP, PyData.depth]; omega
  | .frz xs, n, f + 1, h, hf => by
    unfold gd at h
    rw [Bool.and_eq_true, decide_eq_true_eq] at h
    obtain ⟨h1, h2, h3⟩ := gds_dat (st := st) xs (n - 1) f h.2 (by omega)
    refine ⟨?_, ?_, ?_⟩
    · show (mapO (toD st f) xs).map PyData.list = _
      rw [h1]; rfl
    · simp only [datP, PyData.canLay0]; exact h2
    · simp only [datP, PyData.depth]; omega
theorem gds_dat {st : Sto} : ∀ (xs : List PV) (n f : Nat), gds xs n = true → n < f → mapO (toD st f) xs = some (datPs xs) ∧ PyData.canLayAll0 (datPs xs) = true ∧ PyData.depthAll (datPs xs) ≤ n
  | [], n, f, _, _ => ⟨rfl, by simp [datPs, PyData.canLayAll0], by simp [datPs, PyData.depthAll]⟩
  | x :: xs, n, f, h, hf => by
    unfold gds at h
    rw [Bool.and_eq_true] at h
    obtain ⟨a1, a2, a3⟩ := gd_dat (st := st) x n f h.1 hf
    obtain ⟨b1, b2, b3⟩ := gds_dat (st := st) xs n f h.2 hf
    refine ⟨?_, ?_, ?_⟩
    · unfold mapO
      rw [a1, b1]; rfl
    · simp only [datPs, PyData.canLayAll0, a2, b2]; rfl
    · simp only [datPs, PyData.depthAll]; omega
end
theorem gd_shaped {x : PV} (h : gd x 60 = true) : SeqAt.shaped (datP x) = true := by
  obtain ⟨_, h2, h3⟩ := gd_dat (st := []) x 60 61 h (by omega)
  unfold SeqAt.shaped
  rw [h2, decide_eq_true (by omega)]; rfl
theorem eqP_gd {st : Sto} {x y : PV} (hx : gd x 60 = true) (hy : gd y 60 = true) : eqP st x y = some (PyData.eqv (datP x) (datP y)) := by
  unfold eqP
  rw [(gd_dat (st := st) x 60 70 hx (by omega)).1, (gd_dat (st := st) y 60 70 hy (by omega)).1]
  simp only [gd_shaped hx, gd_shaped hy, Bool.and_self, if_true]
theorem eqP_gd_self {st : Sto} {x : PV} (hx : gd x 60 = true) : eqP st x x = some true := by
  rw [eqP_gd hx hx, SeqAt.eqv_refl _ (SeqAt.canLay_of_shaped (gd_shaped hx))]
theorem gds_all {xs : List PV} {n : Nat} : (∀ x ∈ xs, gd x n = true) → gds xs n = true := by
  induction xs with
  | nil => intro _; rfl
  | cons x xs ih =>
    intro h
    unfold gds
    rw [h x List.mem_cons_self, ih fun y hy => h y (List.mem_cons_of_mem _ hy)]; rfl

/-! ### a list made item by item, each of its values data, the store grown by what nobody needs -/
theorem set_mid {α : Type} {a l : List α} {o o' : α} : (a ++ [o] ++ l).set a.length o' = a ++ [o'] ++ l := by
  rw [List.append_assoc, List.append_assoc, List.set_append_right _ _ (Nat.le_refl _), Nat.sub_self]; rfl
theorem at_mid {α : Type} {a l : List α} {o : α} : (a ++ [o] ++ l)[a.length]? = some o := by
  rw [List.append_assoc, List.getElem?_append_right (Nat.le_refl _), Nat.sub_self]; rfl
theorem lc_gar {all : List PV} {ig : IG} {t : IT} {e : IE} {st : Sto} {envw : PEnv} (g : PV → PV) (hl : all.length < 9000000)
    (h : ∀ x ∈ all, ∀ s : Sto, ∃ env1 l, ig x envw s = some env1 ∧ t env1 s = some (true, s) ∧ e env1 s = some (g x, s ++ l)) :
    ∀ (ys pre : List PV) (l : Sto), all = pre ++ ys → ∃ l', lcLoop (srcT all).at_ ig t e st.length envw (ys.length + 1) pre.length (st ++ [.lst (pre.map g)] ++ l) = some (st ++ [.lst (all.map g)] ++ l')
  | [], pre, l, he => by
    rw [List.append_nil] at he
    subst he
    refine ⟨l, ?_⟩
    unfold lcLoop
    simp [srcT]
  | y :: ys, pre, l, he => by
    obtain ⟨env1, l1, h1, h2, h3⟩ := h y (by rw [he]; simp) (st ++ [.lst (pre.map g)] ++ l)
    have hat : (srcT all).at_ (st ++ [.lst (pre.map g)] ++ l) pre.length = some (some y) := by
      simp only [srcT]
      rw [he, List.getElem?_append_right (Nat.le_refl _), Nat.sub_self]; rfl
    have hs : (st ++ [.lst (pre.map g)] ++ l ++ l1)[st.length]? = some (.lst (pre.map g)) := by
      rw [List.append_assoc (st ++ [_])]
      exact at_mid
    have hlen : (pre.map g).length < 9000000 := by
      rw [List.length_map]
      have := congrArg List.length he
      rw [List.length_append] at this
      omega
    obtain ⟨l', hr⟩ := lc_gar (t := t) (st := st) g hl h ys (pre ++ [y]) (l ++ l1) (by rw [he]; simp)
    refine ⟨l', ?_⟩
    rw [← hr]
    show lcLoop _ _ _ _ _ _ (ys.length + 1 + 1) _ _ = _
    conv => lhs; unfold lcLoop
    simp only [hat, h1, h2, h3, hs, hlen, if_true]
    have e2 : (st ++ [SO.lst (pre.map g)] ++ l ++ l1).set st.length (.lst (pre.map g ++ [g y])) = st ++ [SO.lst ((pre ++ [y]).map g)] ++ (l ++ l1) := by
      rw [List.append_assoc (st ++ [_]), set_mid]
      simp
    rw [e2, List.length_append]
    rfl
/-- [e for x in a tuple] -/
theorem iLc_tup {ie e : IE} {ig : IG} {t : IT} {vs : List Nat} {env : PEnv} {st s1 : Sto} {xs : List PV} (g : PV → PV) (hi : ie env st = some (.tup xs, s1)) (hl : xs.length < 9000000)
    (h : ∀ x ∈ xs, ∀ s : Sto, ∃ env1 l, ig x (wipeE env vs) s = some env1 ∧ t env1 s = some (true, s) ∧ e env1 s = some (g x, s ++ l)) :
    ∃ l, iLc (iWalk ie) ig t e vs env st = some (.ref s1.length, s1 ++ [.lst (xs.map g)] ++ l) := by
  obtain ⟨l, hr⟩ := lc_gar (t := t) (e := e) (st := s1) g hl h xs [] [] rfl
  refine ⟨l, ?_⟩
  unfold iLc
  simp only [iWalk_e, hi, ob_s]
  have e3 : (srcT xs).n = xs.length := rfl
  rw [e3]
  simp only [List.map_nil, List.append_nil, List.length_nil] at hr
  rw [hr]; rfl
theorem srcS_eq (x : Str) : srcS x = srcT (x.cps.toList.map fun c => .str ⟨#[c]⟩) := by
  unfold srcS srcT
  congr 1
  · simp [Str.length]
  · funext st i
    simp
/-- [e for x in a text] -/
theorem iLc_str {ie e : IE} {ig : IG} {t : IT} {vs : List Nat} {env : PEnv} {st s1 : Sto} {x : Str} (g : PV → PV) (hi : ie env st = some (.str x, s1)) (hl : x.length < 9000000)
    (h : ∀ c ∈ x.cps.toList, ∀ s : Sto, ∃ env1 l, ig (.str ⟨#[c]⟩) (wipeE env vs) s = some env1 ∧ t env1 s = some (true, s) ∧ e env1 s = some (g (.str ⟨#[c]⟩), s ++ l)) :
    ∃ l, iLc (iWalk ie) ig t e vs env st = some (.ref s1.length, s1 ++ [.lst ((x.cps.toList.map fun c => .str ⟨#[c]⟩).map g)] ++ l) := by
  have hn : (x.cps.toList.map fun c => PV.str ⟨#[c]⟩).length = x.length := by simp [Str.length]
  obtain ⟨l, hr⟩ := lc_gar (t := t) (e := e) (ig := ig) (envw := wipeE env vs) (st := s1) (all := x.cps.toList.map fun c => .str ⟨#[c]⟩) g (by rw [hn]; exact hl) (fun y hy s => by
    obtain ⟨c, hc, rfl⟩ := List.mem_map.mp hy
    exact h c hc s) (x.cps.toList.map fun c => .str ⟨#[c]⟩) [] [] rfl
  refine ⟨l, ?_⟩
  unfold iLc
  simp only [iWalk_e, hi, ob_s, srcS_eq]
  have e3 : (srcT (x.cps.toList.map fun c => PV.str ⟨#[c]⟩)).n = (x.cps.toList.map fun c => PV.str ⟨#[c]⟩).length := rfl
  rw [e3]
  simp only [List.map_nil, List.append_nil, List.length_nil] at hr
  rw [hr]; rfl
/-! ### loops by what holds between turns -/
theorem loop_inv {at_ : Sto → Nat → Option (Option PV)} {ig : IG} {body : IS} (I : Nat → PEnv → Sto → Prop) (N : Nat) (hstop : ∀ e s, I N e s → at_ s N = some none)
    (hstep : ∀ i e s, i < N → I i e s → ∃ x e1 e2 s2, at_ s i = some (some x) ∧ ig x e s = some e1 ∧ (body e1 s = some (.nx e2 s2) ∨ body e1 s = some (.ct e2 s2)) ∧ I (i + 1) e2 s2) :
    ∀ (m i : Nat) (e : PEnv) (s : Sto), I i e s → i ≤ N → N - i < m → ∃ e' s', loop at_ ig body m i e s = some (.nx e' s') ∧ I N e' s'
  | 0, i, e, s, _, _, hm => absurd hm (by omega)
  | m + 1, i, e, s, hI, hi, hm => by
    by_cases hN : i = N
    · subst hN
      refine ⟨e, s, ?_, hI⟩
      unfold loop
      rw [hstop e s hI]
    · obtain ⟨x, e1, e2, s2, h1, h2, h3, h4⟩ := hstep i e s (by omega) hI
      obtain ⟨e', s', h5, h6⟩ := loop_inv I N hstop hstep m (i + 1) e2 s2 h4 (by omega) (by omega)
      refine ⟨e', s', ?_, h6⟩
      unfold loop
      simp only [h1, h2]
      rcases h3 with h3 | h3 <;> simp only [h3] <;> exact h5
theorem lc_inv {at_ : Sto → Nat → Option (Option PV)} {ig : IG} {t : IT} {e : IE} {d : Nat} {envw : PEnv} (I : Nat → List PV → Sto → Prop) (N : Nat) (hstop : ∀ acc s, I N acc s → at_ s N = some none)
    (hstep : ∀ i acc s, i < N → I i acc s → ∃ x env1 y s2, at_ s i = some (some x) ∧ ig x envw s = some env1 ∧ t env1 s = some (true, s) ∧ e env1 s = some (y, s2) ∧ s2[d]? = some (.lst acc) ∧ acc.length < 9000000 ∧ I (i + 1) (acc ++ [y]) (s2.set d (.lst (acc ++ [y])))) :
    ∀ (m i : Nat) (acc : List PV) (s : Sto), I i acc s → i ≤ N → N - i < m → ∃ acc' s', lcLoop at_ ig t e d envw m i s = some s' ∧ I N acc' s'
  | 0, i, acc, s, _, _, hm => absurd hm (by omega)
  | m + 1, i, acc, s, hI, hi, hm => by
    by_cases hN : i = N
    · subst hN
      refine ⟨acc, s, ?_, hI⟩
      unfold lcLoop
      rw [hstop acc s hI]
    · obtain ⟨x, env1, y, s2, h1, h2, h3, h4, h5, h6, h7⟩ := hstep i acc s (by omega) hI
      obtain ⟨acc', s', h8, h9⟩ := lc_inv I N hstop hstep m (i + 1) (acc ++ [y]) _ h7 (by omega) (by omega)
      refine ⟨acc', s', ?_, h9⟩
      unfold lcLoop
      simp only [h1, h2, h3, h4, h5, h6, if_true]
      exact h8
/-! ### truth of membership in written tuples -/
@[simp] theorem mapO_nil {α β : Type} {f : α → Option β} : mapO f [] = some [] := rfl
@[simp] theorem mapO_cons {α β : Type} {f : α → Option β} {x : α} {xs : List α} : mapO f (x :: xs) = match f x, mapO f xs with
    | some y, some ys => some (y :: ys)
    | _, _ => none := rfl
@[simp] theorem flatP_s {a : Str} : flatP (.str a) = some (.str a) := rfl
@[simp] theorem flatP_i {a : Int} : flatP (.int a) = some (.int a) := rfl
@[simp] theorem flatP_n : flatP .non = some .non := rfl
@[simp] theorem inV_nil {x : V} : inV x [] = false := rfl
@[simp] theorem inV_cons {x y : V} {ys : List V} : inV x (y :: ys) = (eqV y x || inV x ys) := rfl
@[simp] theorem eqV_ss {a b : Str} : eqV (.str a) (.str b) = (a == b) := rfl
@[simp] theorem eqV_ns {b : Str} : eqV .non (.str b) = false := rfl
@[simp] theorem eqV_sn {b : Str} : eqV (.str b) .non = false := rfl
@[simp] theorem eqV_nn : eqV .non .non = true := rfl
end IL

/-! Powers, greatest of a list, the first item taken out. -/
namespace IL
open PySem PySem.Spec PyProof.Rows L2
section
variable {X : Cx} {o e : Expr} {ia ib ie : IE} {pos : Pos}
def cPow (a b : Int) : Bool := decide (0 ≤ b) && decide (b ≤ 1000000) && decide (a.natAbs < 2 ^ 64)
def fPow : F2 := fInt cPow fun i j => i ^ j.toNat
theorem f_pow {K : PySem.W.Frag} : OpI K (rI CPow fun i j => .int (i ^ j.toNat)) fPow := f_int fun a b h => by
  unfold cPow at h
  simp only [Bool.and_eq_true, decide_eq_true_eq] at h
  exact ⟨h.1.1, h.1.2, h.2⟩
/-- max of a list of ints -/
def fMax : F1 := fun x st => match intsOf st x with
  | some (n :: ns) => some (.int (maxI (n :: ns) 0), st)
  | _ => none
theorem foldl_max : ∀ (ys : List Int) (y : Int), (∀ z ∈ y :: ys, z ≤ ys.foldl (fun a z => if a < z then z else a) y) ∧ ys.foldl (fun a z => if a < z then z else a) y ∈ y :: ys
  | [], y => ⟨by simp, by simp⟩
  | x :: ys, y => by
    obtain ⟨h1, h2⟩ := foldl_max ys (if y < x then x else y)
    rw [List.foldl_cons]
    have h0 := h1 (if y < x then x else y) List.mem_cons_self
    have h3 : y ≤ (if y < x then x else y) ∧ x ≤ (if y < x then x else y) := by split <;> omega
    refine ⟨fun z hz => ?_, ?_⟩
    · rcases List.mem_cons.mp hz with rfl | hz
      · exact Int.le_trans h3.1 h0
      · rcases List.mem_cons.mp hz with rfl | hz
        · exact Int.le_trans h3.2 h0
        · exact h1 z (List.mem_cons_of_mem _ hz)
    · rcases List.mem_cons.mp h2 with h | h
      · rw [h]
        split
        · exact List.mem_cons_of_mem _ List.mem_cons_self
        · exact List.mem_cons_self
      · exact List.mem_cons_of_mem _ (List.mem_cons_of_mem _ h)
theorem f_max {K : PySem.W.Frag} : CallI K (rMax K) (a1 fMax) := call1 fun H ρ st x vx z st' Q S R h q => by
  unfold fMax at h
  split at h
  · rename_i n ns e
    cases h
    unfold intsOf at e
    split at e
    · rename_i xs e1
      obtain ⟨a, vs, rfl, t, r⟩ := list_rep S R e1
      rw [ints_reps r e] at t
      obtain ⟨g1, g2⟩ := foldl_max ns n
      refine ⟨a, n :: ns, rfl, t, by simp, fun m hm hle => ?_⟩
      have hmm : m = maxI (n :: ns) 0 := by
        have k1 := hle _ g2
        have k2 := g1 m hm
        show m = List.foldl _ _ _
        omega
      rw [hmm]
      exact q _ H ρ Grow.refl S (by unfold Rep; rfl)
    · cases e
  · cases h
/-- xs.pop(0) -/
def iPop0 (io ie : IE) : IE := fun env st => ob (io env st) fun o s1 => match o with
  | .ref n => match s1[n]? with
    | some (.lst _) => ob (ie env s1) fun x s2 => match s2[n]?, x with
      | some (.lst (y :: ys)), .int 0 => some (y, s2.set n (.lst ys))
      | _, _ => none
    | _ => none
  | _ => none
theorem r_pop0 {apos cpos : Pos} (ho : PE X o (tI X.K ia)) (he : PE X e (tI X.K ib))
    (hbase : attributeBase o "pop" X.env (eval o X.env) = eval o X.env := by rfl)
    (hfew : ((backTo cpos (starEach (e :: []) X.env)).all (fun x => !x.1) && (backToKw cpos (keywordEach [] X.env)).all (fun x => x.1.isSome)
      && decide ((e :: []).length + ([] : List Keyword).length + (if ([] : List Keyword).isEmpty then 0 else 1) < 30)) = true := by rfl)
    (hline : (apos.endLine == cpos.line) = true := by rfl) (hs : starEach (e :: []) X.env = (false, eval e X.env) :: starEach [] X.env := by rfl) (hplain : (backTo cpos (starEach [] X.env)).any (·.1) = false := by rfl) :
    PE X (.Call (.Attribute o "pop" apos) [e] [] cpos) (tI X.K (iPop0 ia ib)) :=
  PE.imp (pe_bm PySem.F.plainAttrs_list PySem.F.slot_list_pop PySem.F.type_list_pop mt_popAt ho (pa_cons he pa_nil hs) hbase hfew hline hs hplain) fun σ H Q ⟨env, st, ρ, z, st', E, S, h, q⟩ => by
    obtain ⟨x, s1, h1, h⟩ := ob_some h
    refine ⟨env, st, ρ, x, s1, E, S, h1, fun vx H1 ρ1 G1 S1 R1 => ?_⟩
    split at h
    · rename_i n
      split at h
      · rename_i ws e0
        obtain ⟨y, s2, h2, h⟩ := ob_some h
        split at h
        · rename_i w xs e1
          cases h
          unfold Rep at R1
          obtain ⟨a, rfl, i1⟩ := R1
          refine ⟨?_, env, s1, ρ1, .int 0, s2, E.grow S G1, S1, h2, fun vy H2 ρ2 G2 S2 R2 => ?_⟩
          · obtain ⟨b1, hb1, vs1, h3, r1⟩ := S1.at_ _ _ e0
            rw [i1] at hb1; cases hb1
            exact .inl ⟨rfl, vs1, .of h3⟩
          · have i2 := G2.ix i1
            obtain ⟨b1, hb1, vs1, h3, r1⟩ := S2.at_ _ _ e1
            rw [i2] at hb1; cases hb1
            have ndd := S2.lv _ _ _ e1 (by simp) i2
            unfold Rep at R2
            subst R2
            unfold Reps at r1
            obtain ⟨v0, vr, rfl, r2, r3⟩ := r1
            have g : Grow H2 ρ2 (upd H2 a (.lst vr)) ρ2 := grow_write h3 (List.mem_of_getElem? i2) ndd
            exact ⟨a, v0 :: vr, 0, 0, v0, rfl, rfl, h3, by decide, by decide, by simp [seqIndex?], rfl, q v0 _ ρ2 ((G1.trans G2).trans g) (S2.write (so := .lst xs) i2 ndd h3 ⟨_, upd_same, Reps.grow S2 g _ _ r3⟩) (Rep.grow S2 g _ _ r2)⟩
        · cases h
      · cases h
    · cases h
@[simp] theorem fPow_i {m n : Int} {st : Sto} : fPow (.int m) (.int n) st = if cPow m n then some (.int (m ^ n.toNat), st) else none := rfl
@[simp] theorem fGt_s {a b : Str} {st : Sto} : fGt (.str a) (.str b) st = some (.bl (ltS b a), st) := rfl
@[simp] theorem fMax_e {x : PV} {st : Sto} : fMax x st = match intsOf st x with
  | some (n :: ns) => some (.int (maxI (n :: ns) 0), st)
  | _ => none := rfl
@[simp] theorem fNotInA_e {x y : PV} {st : Sto} : fNotInA x y st = (inA st x y).map fun b => (.bl (!b), st) := rfl
end
end IL

/-! What statements and calls lead to, where they only add to the store. -/
namespace IL
open PySem PySem.Spec PyProof.Rows L2
def Ext (a b : Sto) : Prop := ∃ l, b = a ++ l
theorem Ext.refl {a : Sto} : Ext a a := ⟨[], by simp⟩
theorem Ext.trans {a b c : Sto} (h : Ext a b) (k : Ext b c) : Ext a c := by
  obtain ⟨l, rfl⟩ := h
  obtain ⟨m, rfl⟩ := k
  exact ⟨l ++ m, by simp⟩
theorem Ext.app {a b l : Sto} (h : Ext a b) : Ext a (b ++ l) := h.trans ⟨l, rfl⟩
theorem Ext.at {a b : Sto} {n : Nat} {o : SO} (h : Ext a b) (e : a[n]? = some o) : b[n]? = some o := by
  obtain ⟨l, rfl⟩ := h
  exact old_at e
def Pu (F : FA) (as : List PV) (v : PV) : Prop := ∃ g : Sto → Sto, (∀ st, F as st = some (v, g st)) ∧ ∀ st, Ext st (g st)
theorem pu {F : FA} {as : List PV} {v : PV} (h : ∀ st : Sto, ∃ l, F as st = some (v, st ++ l)) : Pu F as v :=
  ⟨fun st => st ++ Classical.choose (h st), fun st => Classical.choose_spec (h st), fun st => ⟨_, rfl⟩⟩
theorem pu0 {F : FA} {as : List PV} {v : PV} (h : ∀ st : Sto, F as st = some (v, st)) : Pu F as v := ⟨id, h, fun _ => Ext.refl⟩
theorem for_go {n : Nat} {ig : IG} {body : IS} (I : PEnv → Prop) (all : List PV) (h : ∀ x ∈ all, ∀ e, I e → ∀ s, ∃ e1 e2 s2, ig x e s = some e1 ∧ body e1 s = some (.nx e2 s2) ∧ Ext s s2 ∧ I e2) :
    ∀ (ys pre : List PV) (e : PEnv) (s : Sto), all = pre ++ ys → s[n]? = some (.lst all) → I e → ∃ e2 s2, loop (srcL n all.length).at_ ig body (ys.length + 1) pre.length e s = some (.nx e2 s2) ∧ Ext s s2 ∧ I e2
  | [], pre, e, s, he, hs, hI => by
    rw [List.append_nil] at he
    subst he
    refine ⟨e, s, ?_, Ext.refl, hI⟩
    unfold loop
    simp [srcL, hs]
  | y :: ys, pre, e, s, he, hs, hI => by
    obtain ⟨e1, e2, s2, h1, h2, h3, h4⟩ := h y (by rw [he]; simp) e hI s
    obtain ⟨e3, s3, h5, h6, h7⟩ := for_go (n := n) I all h ys (pre ++ [y]) e2 s2 (by rw [he]; simp) (h3.at hs) h4
    refine ⟨e3, s3, ?_, h3.trans h6, h7⟩
    have hat : (srcL n all.length).at_ s pre.length = some (some y) := by
      simp only [srcL, hs]
      rw [he, List.getElem?_append_right (Nat.le_refl _), Nat.sub_self]; rfl
    show loop _ _ _ (ys.length + 1 + 1) _ _ _ = _
    conv => lhs; unfold loop
    simp only [hat, h1, h2]
    rw [List.length_append] at h5
    exact h5
/-- for x in [..] -/
theorem for_list {ir : IA} {ig : IG} {body : IS} {env : PEnv} {st : Sto} {xs : List PV} (I : PEnv → Prop) (hir : ir env st = some (xs, st)) (hl : xs.length ≤ 9000000) (hI : I env)
    (h : ∀ x ∈ xs, ∀ e, I e → ∀ s, ∃ e1 e2 s2, ig x e s = some e1 ∧ body e1 s = some (.nx e2 s2) ∧ Ext s s2 ∧ I e2) :
    ∃ e2 s2, iFor (iWalk (iLst ir)) ig body env st = some (.nx e2 s2) ∧ Ext st s2 ∧ I e2 := by
  obtain ⟨e2, s2, h1, h2, h3⟩ := for_go (n := st.length) I xs h xs [] env (st ++ [.lst xs]) rfl new_at hI
  refine ⟨e2, s2, ?_, Ext.trans ⟨_, rfl⟩ h2, h3⟩
  simp only [iFor_e, iWalk_e, iLst_e, hir, ob_s, if_pos hl, new_at]
  exact h1
def Goes (p : IS) (env : PEnv) (st : Sto) (Q : PEnv → Sto → Prop) : Prop := ∃ e s, p env st = some (.nx e s) ∧ Q e s
def Ends (p : IS) (env : PEnv) (st : Sto) (v : PV) (Q : Sto → Prop) : Prop := ∃ s, p env st = some (.rt v s) ∧ Q s
section
variable {p q : IS} {env : PEnv} {st : Sto} {v : PV}
theorem ends_seq {R : Sto → Prop} (Q : PEnv → Sto → Prop) (h : Goes p env st Q) (k : ∀ e s, Q e s → Ends q e s v R) : Ends (iSeq p q) env st v R := by
  obtain ⟨e, s, h1, h2⟩ := h
  obtain ⟨s2, h3, h4⟩ := k e s h2
  exact ⟨s2, by rw [iSeq_e, h1]; exact h3, h4⟩
theorem goes_seq {R : PEnv → Sto → Prop} (Q : PEnv → Sto → Prop) (h : Goes p env st Q) (k : ∀ e s, Q e s → Goes q e s R) : Goes (iSeq p q) env st R := by
  obtain ⟨e, s, h1, h2⟩ := h
  obtain ⟨e2, s2, h3, h4⟩ := k e s h2
  exact ⟨e2, s2, by rw [iSeq_e, h1]; exact h3, h4⟩
theorem goes_list {ir : IA} {ig : IG} {body : IS} {xs : List PV} (I : PEnv → Prop) (hir : ir env st = some (xs, st)) (hl : xs.length ≤ 9000000) (hI : I env)
    (h : ∀ x ∈ xs, ∀ e, I e → ∀ s, ∃ e1, ig x e s = some e1 ∧ Goes body e1 s fun e2 s2 => Ext s s2 ∧ I e2) : Goes (iFor (iWalk (iLst ir)) ig body) env st fun e2 s2 => Ext st s2 ∧ I e2 :=
  for_list I hir hl hI fun x hx e he s => by
    obtain ⟨e1, h1, e2, s2, h2, h3⟩ := h x hx e he s
    exact ⟨e1, e2, s2, h1, h2, h3⟩
end
theorem rT {st : Sto} : eqP st (.str ("True" : Str)) (.str ("True" : Str)) = some true := by
  rw [eqP_s, if_pos (by decide +kernel)]
  simp
theorem rF {st : Sto} : eqP st (.str ("False" : Str)) (.str ("False" : Str)) = some true := by
  rw [eqP_s, if_pos (by decide +kernel)]
  simp
theorem Goes.mono {p : IS} {env : PEnv} {st : Sto} {Q R : PEnv → Sto → Prop} (h : Goes p env st Q) (k : ∀ e s, Q e s → R e s) : Goes p env st R := by
  obtain ⟨e, s, h1, h2⟩ := h
  exact ⟨e, s, h1, k e s h2⟩
def Vl (A : IE) (env : PEnv) (v : PV) : Prop := ∀ st, ∃ s, A env st = some (v, s) ∧ Ext st s
def Tl (t : IT) (env : PEnv) (b : Bool) : Prop := ∀ st, ∃ s, t env st = some (b, s) ∧ Ext st s
section
variable {env : PEnv} {v w : PV} {A B : IE} {t u : IT} {p q : IS} {st : Sto}
theorem vl_pure (h : ∀ st, A env st = some (v, st)) : Vl A env v := fun st => ⟨st, h st, Ext.refl⟩
theorem vl_call {F : FA} {ir : IA} {as : List PV} (hir : ∀ st, ir env st = some (as, st)) (h : Pu F as v) : Vl (iCall F ir) env v := fun st => by
  obtain ⟨g, h1, h2⟩ := h
  exact ⟨g st, by rw [iCall_e, hir]; exact h1 st, h2 st⟩
theorem vl_sh {F : FA} {ir : IA} {k : PV} {as : List PV} (hir : ∀ st, ir env st = some (as, st)) (hl : as.length ≤ 9000000) (h : ∀ (st : Sto) (p : Nat), st[p]? = some (.lst as) → ∃ l, F [k, .ref p] st = some (v, st ++ l)) : Vl (iCall F (iCons (iC k) (iCons (iLst ir) iNil))) env v := fun st => by
  obtain ⟨l, e⟩ := h (st ++ [.lst as]) st.length new_at
  refine ⟨st ++ [.lst as] ++ l, ?_, Ext.app ⟨_, rfl⟩⟩
  simp only [iCall_e, iCons_e, iC_e, iLst_e, iNil_e, hir, ob_s, if_pos hl]
  exact e
theorem tl_ne (h1 : Vl A env v) (h2 : Vl B env v) (hg : gd v 60 = true) : Tl (iTestB (iBin fNe A B)) env false := fun st => by
  obtain ⟨s1, a1, a2⟩ := h1 st
  obtain ⟨s2, b1, b2⟩ := h2 s1
  refine ⟨s2, ?_, a2.trans b2⟩
  simp [a1, b1, eqP_gd_self (st := s2) hg]
theorem tl_or (h1 : Tl t env false) (h2 : Tl u env false) : Tl (iOr t u) env false := fun st => by
  obtain ⟨s1, a1, a2⟩ := h1 st
  obtain ⟨s2, b1, b2⟩ := h2 s1
  exact ⟨s2, by simp [a1, b1], a2.trans b2⟩
theorem tl_not (h : Vl A env (.bl true)) : Tl (iNot (iTest A)) env false := fun st => by
  obtain ⟨s1, a1, a2⟩ := h st
  exact ⟨s1, by simp [a1], a2⟩
theorem goes_if (h : Tl t env false) : Goes (iIfS t p iSkip) env st fun e s => e = env ∧ Ext st s := by
  obtain ⟨s1, a1, a2⟩ := h st
  exact ⟨env, s1, by simp [a1], rfl, a2⟩
end
section
variable {st : Sto}
theorem goes_par {i j : Nat} {ir : IA} {env : PEnv} {x y : PV} {s2 : Sto} (h : ir env st = some ([x, y], s2)) {Q : PEnv → Sto → Prop} (q : Q ((env.set i (some x)).set j (some y)) s2) : Goes (iPar i j ir) env st Q :=
  ⟨_, s2, by simp [h], q⟩
theorem goes_asg {i : Nat} {ie : IE} {env : PEnv} {x : PV} {s2 : Sto} (h : ie env st = some (x, s2)) {Q : PEnv → Sto → Prop} (q : Q (env.set i (some x)) s2) : Goes (iAsg (gN i) ie) env st Q :=
  ⟨_, s2, by simp [h], q⟩
end
/-! ### the frame of the law's state -/
structure Fm (s c : Nat) (st st' : Sto) : Prop where
  len : st.length ≤ st'.length
  old : ∀ i, i < st.length → i ≠ s → i ≠ c → st'[i]? = st[i]?
theorem Fm.refl {s c : Nat} {st : Sto} : Fm s c st st := ⟨Nat.le_refl _, fun _ _ _ _ => rfl⟩
theorem Fm.trans {s c : Nat} {a b d : Sto} (h : Fm s c a b) (k : Fm s c b d) : Fm s c a d :=
  ⟨Nat.le_trans h.len k.len, fun i hi h1 h2 => by rw [k.old i (Nat.lt_of_lt_of_le hi h.len) h1 h2, h.old i hi h1 h2]⟩
theorem Fm.app {s c : Nat} {a l : Sto} : Fm s c a (a ++ l) := ⟨by simp, fun i hi _ _ => List.getElem?_append_left hi⟩
theorem Fm.ext {s c : Nat} {a b : Sto} (h : Ext a b) : Fm s c a b := by
  obtain ⟨l, rfl⟩ := h
  exact Fm.app
theorem Fm.set {s c d : Nat} {st : Sto} {o : SO} (h : d = s ∨ d = c) : Fm s c st (st.set d o) :=
  ⟨by simp, fun i hi h1 h2 => List.getElem?_set_ne (by omega)⟩
theorem fSetA_l {n : Nat} {st : Sto} {xs : List PV} {k : Int} {j : Nat} {v : PV} (h : st[n]? = some (.lst xs)) (hj : ixN xs.length k = some j) : fSetA (.ref n) (.int k) v st = some (st.set n (.lst (xs.set j v))) := by
  unfold fSetA fSetL
  simp only [h, hj]
  rfl
theorem ixN_in {n : Nat} {i : Int} (h0 : 0 ≤ i) (h1 : i < n) : ixN n i = some i.toNat := by
  unfold ixN
  rw [if_pos h0, if_pos h1]
theorem fmod_b {a b : Int} (hb : 0 < b) : 0 ≤ a.fmod b ∧ a.fmod b < b := by
  rw [Int.fmod_eq_emod_of_nonneg a (by omega)]
  exact ⟨Int.emod_nonneg _ (by omega), Int.emod_lt_of_pos _ hb⟩
theorem mapO_bls {α : Type} (f : α → Bool) : ∀ xs : List α, mapO isBl (xs.map fun x => .bl (f x)) = some (xs.map f)
  | [] => rfl
  | x :: xs => by
    rw [List.map_cons, mapO_cons, mapO_bls f xs]
    rfl
theorem mapO_intsf {α : Type} (f : α → Int) : ∀ xs : List α, mapO isInt (xs.map fun x => .int (f x)) = some (xs.map f)
  | [] => rfl
  | x :: xs => by
    rw [List.map_cons, mapO_cons, mapO_intsf f xs]
    rfl
theorem mapO_flatbl {α : Type} (f : α → Bool) : ∀ xs : List α, mapO flatP (xs.map fun x => .bl (f x)) = some (xs.map fun x => V.bl (f x))
  | [] => rfl
  | x :: xs => by
    rw [List.map_cons, mapO_cons, mapO_flatbl f xs]
    rfl
theorem inV_bls {α : Type} (f : α → Bool) : ∀ xs : List α, inV (.bl false) (xs.map fun x => V.bl (f x)) = !xs.all f
  | [] => rfl
  | x :: xs => by
    rw [List.map_cons, inV_cons, inV_bls f xs, List.all_cons]
    cases h : f x <;> rfl
/-! ### loops over tuples -/
def foldT (ig : IG) (body : IS) : List PV → PEnv → Sto → Option Fl
  | [], e, s => some (.nx e s)
  | y :: ys, e, s => match ig y e s with
    | some e1 => match body e1 s with
      | some (.nx e2 s2) => foldT ig body ys e2 s2
      | some (.ct e2 s2) => foldT ig body ys e2 s2
      | some (.bk e2 s2) => some (.nx e2 s2)
      | r => r
    | none => none
theorem loop_foldT {ig : IG} {body : IS} {all : List PV} : ∀ (ys pre : List PV) (e : PEnv) (s : Sto), all = pre ++ ys → loop (srcT all).at_ ig body (ys.length + 1) pre.length e s = foldT ig body ys e s
  | [], pre, e, s, he => by
    rw [List.append_nil] at he
    subst he
    unfold loop
    simp [srcT, foldT]
  | y :: ys, pre, e, s, he => by
    have hat : (srcT all).at_ s pre.length = some (some y) := by
      simp only [srcT]
      rw [he, List.getElem?_append_right (Nat.le_refl _), Nat.sub_self]; rfl
    have ih := loop_foldT (ig := ig) (body := body) (all := all) ys (pre ++ [y])
    show loop _ _ _ (ys.length + 1 + 1) _ _ _ = _
    conv => lhs; unfold loop
    conv => rhs; unfold foldT
    simp only [hat]
    rw [List.length_append] at ih
    cases ig y e s with
    | none => rfl
    | some e1 =>
      simp only
      cases body e1 s with
      | none => rfl
      | some r => cases r <;> first | rfl | exact ih _ _ (by rw [he]; simp)
theorem iFor_tup {ie : IE} {ig : IG} {body : IS} {env : PEnv} {st s1 : Sto} {xs : List PV} (h : ie env st = some (.tup xs, s1)) : iFor (iWalk ie) ig body env st = foldT ig body xs env s1 := by
  simp only [iFor_e, iWalk_e, h, ob_s]
  exact loop_foldT xs [] env s1 rfl
theorem iWhile_at (m : Nat) (h : m ≤ 1000000) : ∃ k : Nat, ∀ (t : IT) (body : IS) (env : PEnv) (st : Sto), iWhile t body env st = wloop t body (k + m) env st := ⟨1000000 - m, fun t body env st => by
  unfold iWhile bigN
  congr 1
  omega⟩
/-! ### comprehensions over mapped items, with a filter -/
theorem lc_garm {α : Type} {all : List α} {f g : α → PV} {p : α → Bool} {ig : IG} {t : IT} {e : IE} {st : Sto} {envw : PEnv} (hl : all.length < 9000000)
    (h : ∀ x ∈ all, ∀ s : Sto, ∃ env1, ig (f x) envw s = some env1 ∧ t env1 s = some (p x, s) ∧ (p x = true → ∃ l, e env1 s = some (g x, s ++ l))) :
    ∀ (ys pre : List α) (l : Sto), all = pre ++ ys → ∃ l', lcLoop (srcT (all.map f)).at_ ig t e st.length envw (ys.length + 1) pre.length (st ++ [.lst ((pre.filter p).map g)] ++ l) = some (st ++ [.lst ((all.filter p).map g)] ++ l')
  | [], pre, l, he => by
    rw [List.append_nil] at he
    subst he
    refine ⟨l, ?_⟩
    unfold lcLoop
    simp [srcT]
  | y :: ys, pre, l, he => by
    obtain ⟨env1, h1, h2, h3⟩ := h y (by rw [he]; simp) (st ++ [.lst ((pre.filter p).map g)] ++ l)
    have hat : (srcT (all.map f)).at_ (st ++ [.lst ((pre.filter p).map g)] ++ l) pre.length = some (some (f y)) := by
      simp only [srcT]
      rw [he, List.map_append, List.getElem?_append_right (by simp)]
      simp
    cases hp : p y with
    | false =>
      rw [hp] at h2
      obtain ⟨l', hr⟩ := lc_garm (t := t) (st := st) hl h ys (pre ++ [y]) l (by rw [he]; simp)
      refine ⟨l', ?_⟩
      rw [← hr]
      show lcLoop _ _ _ _ _ _ (ys.length + 1 + 1) _ _ = _
      conv => lhs; unfold lcLoop
      simp only [hat, h1, h2]
      rw [List.filter_append, List.length_append]
      simp [hp]
    | true =>
      rw [hp] at h2
      obtain ⟨l1, h3⟩ := h3 hp
      have hs : (st ++ [.lst ((pre.filter p).map g)] ++ l ++ l1)[st.length]? = some (.lst ((pre.filter p).map g)) := by
        rw [List.append_assoc (st ++ [_])]
        exact at_mid
      have hlen : ((pre.filter p).map g).length < 9000000 := by
        rw [List.length_map]
        have := congrArg List.length he
        have h9 := List.length_filter_le p pre
        rw [List.length_append] at this
        omega
      obtain ⟨l', hr⟩ := lc_garm (t := t) (st := st) hl h ys (pre ++ [y]) (l ++ l1) (by rw [he]; simp)
      refine ⟨l', ?_⟩
      rw [← hr]
      show lcLoop _ _ _ _ _ _ (ys.length + 1 + 1) _ _ = _
      conv => lhs; unfold lcLoop
      simp only [hat, h1, h2, h3, hs, hlen, if_true]
      have e2 : (st ++ [SO.lst ((pre.filter p).map g)] ++ l ++ l1).set st.length (.lst ((pre.filter p).map g ++ [g y])) = st ++ [SO.lst (((pre ++ [y]).filter p).map g)] ++ (l ++ l1) := by
        rw [List.append_assoc (st ++ [_]), set_mid, List.filter_append]
        simp [hp]
      rw [e2, List.length_append]
      rfl
theorem iLc_tupm {α : Type} {xs : List α} {f g : α → PV} {p : α → Bool} {ie e : IE} {ig : IG} {t : IT} {vs : List Nat} {env : PEnv} {st s1 : Sto} (hi : ie env st = some (.tup (xs.map f), s1)) (hl : xs.length < 9000000)
    (h : ∀ x ∈ xs, ∀ s : Sto, ∃ env1, ig (f x) (wipeE env vs) s = some env1 ∧ t env1 s = some (p x, s) ∧ (p x = true → ∃ l, e env1 s = some (g x, s ++ l))) :
    ∃ l, iLc (iWalk ie) ig t e vs env st = some (.ref s1.length, s1 ++ [.lst ((xs.filter p).map g)] ++ l) := by
  obtain ⟨l, hr⟩ := lc_garm (t := t) (e := e) (st := s1) hl h xs [] [] rfl
  refine ⟨l, ?_⟩
  unfold iLc
  simp only [iWalk_e, hi, ob_s]
  have e3 : (srcT (xs.map f)).n = xs.length := by simp [srcT]
  rw [e3]
  simp only [List.filter_nil, List.map_nil, List.append_nil, List.length_nil] at hr
  rw [hr]; rfl
theorem iLc_strm {x : Str} {g : Nat → PV} {p : Nat → Bool} {ie e : IE} {ig : IG} {t : IT} {vs : List Nat} {env : PEnv} {st s1 : Sto} (hi : ie env st = some (.str x, s1)) (hl : x.length < 9000000)
    (h : ∀ c ∈ x.cps.toList, ∀ s : Sto, ∃ env1, ig (.str ⟨#[c]⟩) (wipeE env vs) s = some env1 ∧ t env1 s = some (p c, s) ∧ (p c = true → ∃ l, e env1 s = some (g c, s ++ l))) :
    ∃ l, iLc (iWalk ie) ig t e vs env st = some (.ref s1.length, s1 ++ [.lst ((x.cps.toList.filter p).map g)] ++ l) := by
  have hn : x.cps.toList.length = x.length := by simp [Str.length]
  obtain ⟨l, hr⟩ := lc_garm (t := t) (e := e) (ig := ig) (envw := wipeE env vs) (st := s1) (f := fun c => PV.str ⟨#[c]⟩) (by rw [hn]; exact hl) h x.cps.toList [] [] rfl
  refine ⟨l, ?_⟩
  unfold iLc
  simp only [iWalk_e, hi, ob_s, srcS_eq]
  have e3 : (srcT (x.cps.toList.map fun c => PV.str ⟨#[c]⟩)).n = x.cps.toList.length := by simp [srcT]
  rw [e3]
  simp only [List.filter_nil, List.map_nil, List.append_nil, List.length_nil] at hr
  rw [hr]; rfl
theorem filter_yes {α : Type} (xs : List α) : xs.filter (fun _ => true) = xs := List.filter_eq_self.mpr fun _ _ => rfl
theorem inA_bls {α : Type} {xs : List α} {f : α → Bool} {st : Sto} {r : Nat} (h : st[r]? = some (.lst (xs.map fun x => PV.bl (f x)))) : inA st (.bl false) (.ref r) = some (!xs.all f) := by
  unfold inA
  simp only [dictOf_r, h]
  unfold inP
  simp only [itemsOf_r, h]
  show (mapO flatP _).map (fun ws => inV (.bl false) ws) = _
  rw [mapO_flatbl, Option.map_some, inV_bls]
theorem blsOf_r {α : Type} {xs : List α} {f : α → Bool} {st : Sto} {r : Nat} (h : st[r]? = some (.lst (xs.map fun x => PV.bl (f x)))) : blsOf st (.ref r) = some (xs.map f) := by
  unfold blsOf
  rw [listOf_r, h]
  exact mapO_bls f xs
theorem ltS_lo (k a : Nat) : ltS ⟨#[k]⟩ ⟨#[a]⟩ = decide (k < a) := by
  unfold ltS
  simp [List.cons_lt_cons_iff]
theorem lc_garA {α : Type} {all : List α} {f g : α → PV} {p : α → Bool} {at_ : Sto → Nat → Option (Option PV)} {ig : IG} {t : IT} {e : IE} {st : Sto} {envw : PEnv} (hat_ : ∀ (l : Sto) (i : Nat), at_ (st ++ l) i = some ((all.map f)[i]?)) (hl : all.length < 9000000)
    (h : ∀ x ∈ all, ∀ s : Sto, ∃ env1, ig (f x) envw s = some env1 ∧ t env1 s = some (p x, s) ∧ (p x = true → ∃ l, e env1 s = some (g x, s ++ l))) :
    ∀ (ys pre : List α) (l : Sto), all = pre ++ ys → ∃ l', lcLoop at_ ig t e st.length envw (ys.length + 1) pre.length (st ++ [.lst ((pre.filter p).map g)] ++ l) = some (st ++ [.lst ((all.filter p).map g)] ++ l')
  | [], pre, l, he => by
    rw [List.append_nil] at he
    subst he
    refine ⟨l, ?_⟩
    have hat := hat_ ([.lst ((all.filter p).map g)] ++ l) all.length
    rw [← List.append_assoc] at hat
    unfold lcLoop
    rw [hat]
    simp
  | y :: ys, pre, l, he => by
    obtain ⟨env1, h1, h2, h3⟩ := h y (by rw [he]; simp) (st ++ [.lst ((pre.filter p).map g)] ++ l)
    have hat : at_ (st ++ [.lst ((pre.filter p).map g)] ++ l) pre.length = some (some (f y)) := by
      rw [List.append_assoc, hat_]
      rw [he, List.map_append, List.getElem?_append_right (by simp)]
      simp
    cases hp : p y with
    | false =>
      rw [hp] at h2
      obtain ⟨l', hr⟩ := lc_garA (t := t) (st := st) hat_ hl h ys (pre ++ [y]) l (by rw [he]; simp)
      refine ⟨l', ?_⟩
      rw [← hr]
      show lcLoop _ _ _ _ _ _ (ys.length + 1 + 1) _ _ = _
      conv => lhs; unfold lcLoop
      simp only [hat, h1, h2]
      rw [List.filter_append, List.length_append]
      simp [hp]
    | true =>
      rw [hp] at h2
      obtain ⟨l1, h3⟩ := h3 hp
      have hs : (st ++ [.lst ((pre.filter p).map g)] ++ l ++ l1)[st.length]? = some (.lst ((pre.filter p).map g)) := by
        rw [List.append_assoc (st ++ [_])]
        exact at_mid
      have hlen : ((pre.filter p).map g).length < 9000000 := by
        rw [List.length_map]
        have := congrArg List.length he
        have h9 := List.length_filter_le p pre
        rw [List.length_append] at this
        omega
      obtain ⟨l', hr⟩ := lc_garA (t := t) (st := st) hat_ hl h ys (pre ++ [y]) (l ++ l1) (by rw [he]; simp)
      refine ⟨l', ?_⟩
      rw [← hr]
      show lcLoop _ _ _ _ _ _ (ys.length + 1 + 1) _ _ = _
      conv => lhs; unfold lcLoop
      simp only [hat, h1, h2, h3, hs, hlen, if_true]
      have e2 : (st ++ [SO.lst ((pre.filter p).map g)] ++ l ++ l1).set st.length (.lst ((pre.filter p).map g ++ [g y])) = st ++ [SO.lst (((pre ++ [y]).filter p).map g)] ++ (l ++ l1) := by
        rw [List.append_assoc (st ++ [_]), set_mid, List.filter_append]
        simp [hp]
      rw [e2, List.length_append]
      rfl
theorem iLc_srcm {α : Type} {xs : List α} {f g : α → PV} {p : α → Bool} {ii : II} {src : Src} {e : IE} {ig : IG} {t : IT} {vs : List Nat} {env : PEnv} {st s1 : Sto} (hi : ii env st = some (src, s1)) (hn : src.n = xs.length) (hat_ : ∀ (l : Sto) (i : Nat), src.at_ (s1 ++ l) i = some ((xs.map f)[i]?)) (hl : xs.length < 9000000)
    (h : ∀ x ∈ xs, ∀ s : Sto, ∃ env1, ig (f x) (wipeE env vs) s = some env1 ∧ t env1 s = some (p x, s) ∧ (p x = true → ∃ l, e env1 s = some (g x, s ++ l))) :
    ∃ l, iLc ii ig t e vs env st = some (.ref s1.length, s1 ++ [.lst ((xs.filter p).map g)] ++ l) := by
  obtain ⟨l, hr⟩ := lc_garA (t := t) (e := e) (st := s1) hat_ hl h xs [] [] rfl
  refine ⟨l, ?_⟩
  unfold iLc
  rw [hi, ob_s, hn]
  simp only [List.filter_nil, List.map_nil, List.append_nil, List.length_nil] at hr
  rw [hr]; rfl
theorem iLc_refm {α : Type} {xs : List α} {f g : α → PV} {p : α → Bool} {r : Nat} {ie : IE} {e : IE} {ig : IG} {t : IT} {vs : List Nat} {env : PEnv} {st s1 : Sto} (hi : ie env st = some (.ref r, s1)) (hr : s1[r]? = some (.lst (xs.map f))) (hl : xs.length < 9000000)
    (h : ∀ x ∈ xs, ∀ s : Sto, ∃ env1, ig (f x) (wipeE env vs) s = some env1 ∧ t env1 s = some (p x, s) ∧ (p x = true → ∃ l, e env1 s = some (g x, s ++ l))) :
    ∃ l, iLc (iWalk ie) ig t e vs env st = some (.ref s1.length, s1 ++ [.lst ((xs.filter p).map g)] ++ l) :=
  iLc_srcm (src := srcL r (xs.map f).length) (by simp only [iWalk_e, hi, ob_s, hr]) (by simp [srcL]) (fun l i => by simp only [srcL, old_at hr]) hl h
theorem iLc_frzm {α : Type} {xs : List α} {f g : α → PV} {p : α → Bool} {ie : IE} {e : IE} {ig : IG} {t : IT} {vs : List Nat} {env : PEnv} {st s1 : Sto} (hi : ie env st = some (.frz (xs.map f), s1)) (hl : xs.length < 9000000)
    (h : ∀ x ∈ xs, ∀ s : Sto, ∃ env1, ig (f x) (wipeE env vs) s = some env1 ∧ t env1 s = some (p x, s) ∧ (p x = true → ∃ l, e env1 s = some (g x, s ++ l))) :
    ∃ l, iLc (iWalk ie) ig t e vs env st = some (.ref s1.length, s1 ++ [.lst ((xs.filter p).map g)] ++ l) :=
  iLc_srcm (src := srcT (xs.map f)) (by simp only [iWalk_e, hi, ob_s]) (by simp [srcT]) (fun l i => by simp only [srcT]) hl h
theorem iFor_frz {ie : IE} {ig : IG} {body : IS} {env : PEnv} {st s1 : Sto} {xs : List PV} (h : ie env st = some (.frz xs, s1)) : iFor (iWalk ie) ig body env st = foldT ig body xs env s1 := by
  simp only [iFor_e, iWalk_e, h, ob_s]
  exact loop_foldT xs [] env s1 rfl
theorem goes_ref {ie : IE} {ig : IG} {body : IS} {env : PEnv} {st s1 : Sto} {r : Nat} {xs : List PV} (I : PEnv → Prop) (hi : ie env st = some (.ref r, s1)) (hx : Ext st s1) (hr : s1[r]? = some (.lst xs)) (hI : I env)
    (h : ∀ x ∈ xs, ∀ e, I e → ∀ s, ∃ e1, ig x e s = some e1 ∧ Goes body e1 s fun e2 s2 => Ext s s2 ∧ I e2) : Goes (iFor (iWalk ie) ig body) env st fun e2 s2 => Ext st s2 ∧ I e2 := by
  obtain ⟨e2, s2, h1, h2, h3⟩ := for_go (n := r) (ig := ig) (body := body) I xs (fun x hx e he s => by
    obtain ⟨e1, g1, e2, s2, g2, g3⟩ := h x hx e he s
    exact ⟨e1, e2, s2, g1, g2, g3⟩) xs [] env s1 rfl hr hI
  refine ⟨e2, s2, ?_, hx.trans h2, h3⟩
  simp only [iFor_e, iWalk_e, hi, ob_s, hr]
  exact h1
theorem goes_asgV {i : Nat} {A : IE} {env : PEnv} {st : Sto} {v : PV} (h : Vl A env v) : Goes (iAsg (gN i) A) env st fun e s => e = env.set i (some v) ∧ Ext st s := by
  obtain ⟨s, h1, h2⟩ := h st
  exact ⟨_, s, by simp [h1], rfl, h2⟩
end IL

/-! Texts joined; the items of a list with their numbers. -/
namespace IL
open PySem PySem.Spec PyProof.Rows L2
section
variable {X : Cx} {o e : Expr} {ia ib ie : IE} {pos : Pos}
def isStr : PV → Option Str
  | .str a => some a
  | _ => none
theorem strs_reps {K : PySem.W.Frag} {H : Hp} {ρ : Rho} : ∀ {xs : List PV} {vs : List V} {bs : List Str}, Reps K H ρ xs vs → mapO isStr xs = some bs → vs = bs.map V.str
  | [], vs, bs, R, h => by
    unfold Reps at R
    subst R
    cases h
    rfl
  | x :: xs, vs, bs, R, h => by
    unfold Reps at R
    obtain ⟨v, r, rfl, r1, r2⟩ := R
    unfold mapO at h
    split at h
    · rename_i e1 e2
      cases h
      cases x <;> simp only [isStr, Option.some.injEq, reduceCtorEq] at e1
      subst e1
      unfold Rep at r1
      rw [r1, strs_reps r2 e2]
      rfl
    · cases h
def strsOf (st : Sto) (x : PV) : Option (List Str) := match itemsOf st x with
  | some xs => mapO isStr xs
  | none => none
/-- a.join(xs) -/
def iJoin (ia ib : IE) : IE := fun env st => ob (ia env st) fun x s1 => match x with
  | .str a => ob (ib env s1) fun y s2 => match strsOf s2 y with
    | some ys => if (ys.map (·.length)).sum + ys.length * a.length ≤ 9000000 then some (.str (Txt.join a ys), s2) else none
    | none => none
  | _ => none
theorem r_join {apos cpos : Pos} (ho : PE X o (tI X.K ia)) (he : PE X e (tI X.K ib)) (hs : starEach [e] X.env = [(false, eval e X.env)] := by rfl) (hbase : attributeBase o "join" X.env (eval o X.env) = eval o X.env := by rfl) (hline : (apos.endLine == cpos.line) = true := by rfl) :
    PE X (.Call (.Attribute o "join" apos) [e] [] cpos) (tI X.K (iJoin ia ib)) :=
  PE.imp (pe_join ho he hs hbase hline) fun σ H Q ⟨env, st, ρ, z, st', E, S, h, q⟩ => by
    obtain ⟨x, s1, h1, h⟩ := ob_some h
    refine ⟨env, st, ρ, x, s1, E, S, h1, fun vx H1 ρ1 G1 S1 R1 => ?_⟩
    split at h
    · rename_i a
      obtain ⟨y, s2, h2, h⟩ := ob_some h
      unfold Rep at R1
      subst R1
      refine ⟨⟨a, rfl⟩, env, s1, ρ1, y, s2, E.grow S G1, S1, h2, fun vy H2 ρ2 G2 S2 R2 => ?_⟩
      split at h
      · rename_i ys e1
        split at h
        · rename_i hl
          cases h
          unfold strsOf at e1
          split at e1
          · rename_i xs e2
            obtain ⟨p, vs, rfl, t, r⟩ := items_rep S2 R2 e2
            have hv := strs_reps r e1
            rw [hv] at t
            exact ⟨a, p, ys, rfl, rfl, t, by omega, q _ H2 ρ2 (G1.trans G2) S2 (by unfold Rep; rfl)⟩
          · cases e1
        · cases h
      · cases h
    · cases h
/-- enumerate(xs) of a list -/
def srcE (n k : Nat) : Src := ⟨k, fun st i => match st[n]? with
  | some (.lst xs) => some ((xs[i]?).map fun x => .tup [.int (i : Nat), x])
  | _ => none⟩
def srcEF (xs : List PV) : Src := ⟨xs.length, fun _ i => some ((xs[i]?).map fun x => .tup [.int (i : Nat), x])⟩
theorem pair_new {K : PySem.W.Frag} {H : Hp} {ρ : Rho} {st : Sto} (S : RepS K H ρ st) {x : PV} {v : V} {i : Nat} (R : Rep K H ρ x v) {T : Addr} (hT : H T = none) :
    Grow H ρ (upd H T (.tup [.int (i : Nat), v])) ρ ∧ RepS K (upd H T (.tup [.int (i : Nat), v])) ρ st ∧ Rep K (upd H T (.tup [.int (i : Nat), v])) ρ (.tup [.int (i : Nat), x]) (.ref T) :=
  ⟨grow_new hT, S.new hT, new_tup S (by unfold Reps; exact ⟨_, _, rfl, by unfold Rep; rfl, by unfold Reps; exact ⟨_, _, rfl, R, by unfold Reps; rfl⟩⟩) hT⟩
theorem srcE_ok {K : PySem.W.Frag} {H0 : Hp} {ρ0 : Rho} {n k : Nat} {a : Addr} (h : ρ0.l[n]? = some a) : SrcOk K (srcE n k) (Ite K a) H0 ρ0 := fun H ρ st G S i => by
  have ha := G.ix h
  refine ⟨fun hs => ?_, fun x hs => ?_⟩
  · simp only [srcE] at hs
    split at hs
    · rename_i xs e
      obtain ⟨b, hb, vs, h1, h2⟩ := S.at_ _ _ e
      rw [ha] at hb; cases hb
      have ndd := S.lv _ _ _ e (by simp) ha
      exact ⟨vs, .of h1, by rw [← h2.length]; simpa using hs⟩
    · cases hs
  · simp only [srcE] at hs
    split at hs
    · rename_i xs e
      obtain ⟨b, hb, vs, h1, h2⟩ := S.at_ _ _ e
      rw [ha] at hb; cases hb
      have ndd := S.lv _ _ _ e (by simp) ha
      cases hx : xs[i]? with
      | none => rw [hx] at hs; cases hs
      | some y =>
        rw [hx] at hs
        cases hs
        obtain ⟨v, hv, r⟩ := h2.get hx
        refine ⟨⟨vs, v, .of h1, hv⟩, fun w H' yl => ?_⟩
        obtain ⟨T, u, rfl, hT, rfl, yl⟩ := yl
        have := yl vs (.of h1)
        rw [hv] at this; cases this
        obtain ⟨g1, g2, g3⟩ := pair_new (i := i) S r hT
        exact ⟨ρ, g1, g2, g3⟩
    · cases hs
theorem srcEF_ok {K : PySem.W.Frag} {H0 : Hp} {ρ0 : Rho} {st0 : Sto} {xs : List PV} {vs : List V} {a : Addr} (S0 : RepS K H0 ρ0 st0) (h : FrzAt K H0 ρ0 a vs) (r : Reps K H0 ρ0 xs vs) : SrcOk K (srcEF xs) (Ite K a) H0 ρ0 := fun H ρ st G S i => by
  have h1 := (h.grow G).sq
  have r1 := Reps.grow S0 G _ _ r
  refine ⟨fun hs => ?_, fun x hs => ?_⟩
  · simp only [srcEF] at hs
    exact ⟨vs, h1, by rw [← r1.length]; simpa using hs⟩
  · simp only [srcEF] at hs
    cases hx : xs[i]? with
    | none => rw [hx] at hs; cases hs
    | some y =>
      rw [hx] at hs
      cases hs
      obtain ⟨v, hv, r⟩ := r1.get hx
      refine ⟨⟨vs, v, h1, hv⟩, fun w H' yl => ?_⟩
      obtain ⟨T, u, rfl, hT, rfl, yl⟩ := yl
      have := yl vs h1
      rw [hv] at this; cases this
      obtain ⟨g1, g2, g3⟩ := pair_new (i := i) S r hT
      exact ⟨ρ, g1, g2, g3⟩
def enumSrc (s : Sto) : PV → Option Src
  | .frz xs => some (srcEF xs)
  | .ref n => match s[n]? with
    | some (.lst xs) => some (srcE n xs.length)
    | _ => none
  | _ => none
def iEnumL (ir : IA) : II := fun env st => ob (ir env st) fun xs s => match xs with
  | [x] => (enumSrc s x).map fun src => (src, s)
  | _ => none
theorem i_enum {e : Expr} {ir : IA} {p tpos pos : Pos} {elts : List Expr} {kk : Nat} (hg : Gl X "enumerate") (hm : X.mg "enumerate" = none) (ha : PA X [e] (tIA X.K ir)) (hs : starEach [e] X.env = [(false, eval e X.env)] := by rfl) :
    PI X (.Tuple elts kk tpos) (.Call (.Name "enumerate" p) [e] [] pos) (tII X.K (iEnumL ir)) := PI.imp (pi_enum hg hm ha hs) fun σ H R ⟨env, s, ρ, src, st', E, S, h, q⟩ => by
  obtain ⟨xs, s1, h1, h⟩ := ob_some h
  split at h
  · rename_i x
    obtain ⟨src', e2, e3⟩ := map_some h
    cases e3
    refine ⟨env, s, ρ, _, _, E, S, h1, fun v H1 ρ1 G1 S1 R1 => ?_⟩
    unfold Reps at R1
    obtain ⟨w, r, rfl, R1, R2⟩ := R1
    unfold Reps at R2
    subst R2
    cases x with
    | frz xs =>
      cases e2
      unfold Rep at R1
      obtain ⟨a, vs, rfl, t1, t2⟩ := R1
      exact ⟨a, vs, rfl, t1.sq, q _ H1 ρ1 G1 S1 (srcEF_ok S1 t1 t2)⟩
    | ref n =>
      simp only [enumSrc] at e2
      split at e2
      · rename_i xs e1
        cases e2
        obtain ⟨a, vs, rfl, t1, ndd, h3, h4⟩ := S1.lst R1 e1
        exact ⟨a, vs, rfl, .of h3, q _ H1 ρ1 G1 S1 (srcE_ok t1)⟩
      · cases e2
    | _ => cases e2
  · cases h
end
end IL

namespace IL
open PySem PySem.Spec PyProof.Rows L2
section
variable {X : Cx} {ik ie : IE} {it : IT} {pos : Pos}
/-! ### dict comprehensions -/
def dcLoop (at_ : Sto → Nat → Option (Option PV)) (ig : IG) (t : IT) (ek e : IE) (d : Nat) (env : PEnv) : Nat → Nat → Sto → Option Sto
  | 0, _, _ => none
  | m + 1, i, st => match at_ st i with
    | none => none
    | some none => some st
    | some (some x) => match ig x env st with
      | none => none
      | some env1 => match t env1 st with
        | none => none
        | some (false, s1) => dcLoop at_ ig t ek e d env m (i + 1) s1
        | some (true, s1) => match ek env1 s1 with
          | none => none
          | some (k, s2) => match e env1 s2 with
            | none => none
            | some (y, s3) => match keyP k, s3[d]? with
              | some kk, some (.dK acc) => if nodupK acc && decide (acc.length < 9000000) then dcLoop at_ ig t ek e d env m (i + 1) (s3.set d (.dK (putP acc kk y))) else none
              | _, _ => none
def iDc (ii : II) (ig : IG) (t : IT) (ek e : IE) (vs : List Nat) : IE := fun env st => ob (ii env st) fun src s =>
  (dcLoop src.at_ ig t ek e s.length (wipeE env vs) (src.n + 1) 0 (s ++ [.dK []])).map fun s' => (.ref s.length, s')
theorem dc_to {K : PySem.W.Frag} {ii : II} {ig : IG} {T vs : List Nat} {σ : L2.St} {H : Hp} {Q : VK} (hT : ∀ i ∈ T, i ∈ vs) (h : tI K (iDc ii ig it ik ie vs) σ H Q) : tDc (tII K ii) (tIG K T ig) (tIT K it) (tI K ik) (tI K ie) vs σ H Q := by
  obtain ⟨env, s, ρ, z, st', E, S, h, q⟩ := h
  obtain ⟨src, s1, h1, h⟩ := ob_some h
  obtain ⟨hl, hz⟩ : dcLoop src.at_ ig it ik ie s1.length (wipeE env vs) (src.n + 1) 0 (s1 ++ [.dK []]) = some st' ∧ z = .ref s1.length := by
    cases e : dcLoop src.at_ ig it ik ie s1.length (wipeE env vs) (src.n + 1) 0 (s1 ++ [.dK []]) with
    | none => rw [e] at h; cases h
    | some s' => rw [e] at h; cases h; exact ⟨rfl, rfl⟩
  subst hz
  refine ⟨env, s, ρ, src, s1, E, S, h1, fun J H1 ρ1 G1 S1 O Dl hD => ?_⟩
  have g0 : Grow H1 ρ1 (upd H1 Dl (.dK [])) (ρ1.add Dl) := grow_alloc hD
  have E1 : RepE K H1 ρ1 env σ := E.grow S G1
  refine ⟨fun i m H' => ∃ st2 ρ', Grow (upd H1 Dl (.dK [])) (ρ1.add Dl) H' ρ' ∧ RepS K H' ρ' st2 ∧ dcLoop src.at_ ig it ik ie s1.length (wipeE env vs) m i st2 = some st',
    ⟨src.n + 1, _, _, Grow.refl, S1.alloc (so := .dK []) hD ⟨[], upd_same, rfl⟩, hl⟩, ?_⟩
  rintro i m H' ⟨st2, ρ', G', S', hl⟩
  have ix : ρ'.l[s1.length]? = some Dl := G'.ix (by show (ρ1.l ++ [Dl])[s1.length]? = some Dl; rw [← S1.len, List.getElem?_append_right (Nat.le_refl _)]; simp)
  cases m with
  | zero => cases hl
  | succ m =>
    unfold dcLoop at hl
    obtain ⟨o1, o2⟩ := O H' ρ' st2 (g0.trans G') S' i
    split at hl
    · cases hl
    · rename_i e1
      cases hl
      refine .inl ⟨o1 e1, q _ H' ρ' (G1.trans (g0.trans G')) S' ?_⟩
      unfold Rep
      exact ⟨Dl, rfl, ix⟩
    · rename_i x e1
      obtain ⟨go, yl⟩ := o2 x e1
      split at hl
      · cases hl
      · rename_i env1 e2
        refine .inr ⟨go, fun H2 => ∃ m', m' < m + 1 ∧ ∃ st2 ρ', Grow (upd H1 Dl (.dK [])) (ρ1.add Dl) H2 ρ' ∧ RepS K H2 ρ' st2 ∧ dcLoop src.at_ ig it ik ie s1.length (wipeE env vs) m' (i + 1) st2 = some st', fun H2 n => n, fun v H2 y => ?_⟩
        obtain ⟨ρ2, G2, S2, R2⟩ := yl v H2 y
        have Ew : RepE K H2 ρ2 (wipeE env vs) (L2.wipe σ vs) := (E1.wipe vs).grow S1 ((g0.trans G').trans G2)
        refine ⟨wipeE env vs, st2, ρ2, x, env1, Ew, S2, R2, e2, fun σ3 E3 l3 a3 => ⟨?_, ?_⟩⟩
        · rw [L2.wipe_length] at l3
          exact wipe_same l3 fun j hj => a3 j fun z => hj (hT j z)
        · cases e3 : it env1 st2 with
          | none => rw [e3] at hl; cases hl
          | some r =>
            obtain ⟨b, s3⟩ := r
            rw [e3] at hl
            refine ⟨env1, st2, ρ2, b, s3, E3, S2, e3, fun H3 ρ3 G3 S3 => ?_⟩
            cases b with
            | false =>
              rw [if_neg Bool.false_ne_true]
              exact ⟨m, Nat.lt_succ_self m, s3, ρ3, (G'.trans G2).trans G3, S3, hl⟩
            | true =>
              rw [if_pos rfl]
              simp only at hl
              cases e4 : ik env1 s3 with
              | none => rw [e4] at hl; cases hl
              | some r =>
                obtain ⟨kx, s4⟩ := r
                rw [e4] at hl
                refine ⟨env1, s3, ρ3, kx, s4, E3.grow S2 G3, S3, e4, fun u H4 ρ4 G4 S4 R4 => ?_⟩
                simp only at hl
                cases e6 : ie env1 s4 with
                | none => rw [e6] at hl; cases hl
                | some r =>
                  obtain ⟨y, s5⟩ := r
                  rw [e6] at hl
                  refine ⟨env1, s4, ρ4, y, s5, (E3.grow S2 G3).grow S3 G4, S4, e6, fun w H5 ρ5 G5 S5 R5 => ?_⟩
                  simp only at hl
                  split at hl
                  · rename_i kk acc ek e5
                    split at hl
                    · rename_i hlen
                      rw [Bool.and_eq_true, decide_eq_true_eq] at hlen
                      have ix4 : ρ5.l[s1.length]? = some Dl := (G2.trans (G3.trans (G4.trans G5))).ix ix
                      obtain ⟨b, hb, ws, h2, h3⟩ := S5.at_ _ _ e5
                      rw [ix4] at hb; cases hb
                      have ndd := S5.lv _ _ _ e5 (by simp) ix4
                      have gw : Grow H5 ρ5 (upd H5 Dl (.dK (putK ws kk w))) ρ5 := grow_write h2 (List.mem_of_getElem? ix4) ndd
                      refine ⟨ws, kk, key_rep R4 ek, h2, line6 (by rw [← h3.length]; exact hlen.2), m, Nat.lt_succ_self m, _, ρ5, (((G'.trans G2).trans G3).trans G4).trans (G5.trans gw), S5.write (so := .dK (putP acc kk y)) ix4 ndd h2 ⟨_, upd_same, ?_⟩, hl⟩
                      exact RepK.grow S5 gw _ _ (put_rep R5 (of_decide_eq_true hlen.1) h3)
                    · cases hl
                  · cases hl
theorem r_dc {kx elt tg iter : Expr} {ifs : List Expr} {scope : Scope} {own : List (Str × Nat)} {ii : II} {T : List Nat} {ig : IG} (hc : X.calm = true) (hN : X.N.Nodup) (hi : PI X tg iter (tII X.K ii)) (ok : BlkOk X.N X.env.scope scope own)
    (hT : ∀ i ∈ T, i ∈ own.map (·.2))
    (hg : ∀ (s : Shared) (H : Hp) (C : Addr) (cl : List (Str × Addr)) (fp : List Addr), PG (X.blk s H scope (compEnvC scope cl C X.env) fp) tg (tIG X.K T ig)) (ht : ∀ (s : Shared) (H : Hp) (C : Addr) (cl : List (Str × Addr)) (fp : List Addr), PTs (X.blk s H scope (compEnvC scope cl C X.env) fp) ifs (tIT X.K it))
    (hk : ∀ (s : Shared) (H : Hp) (C : Addr) (cl : List (Str × Addr)) (fp : List Addr), PE (X.blk s H scope (compEnvC scope cl C X.env) fp) kx (tI X.K ik))
    (he : ∀ (s : Shared) (H : Hp) (C : Addr) (cl : List (Str × Addr)) (fp : List Addr), PE (X.blk s H scope (compEnvC scope cl C X.env) fp) elt (tI X.K ie)) (hs : ∀ x, foldedSetIterable iter X.env x = pure x := by intro _; rfl) :
    PE X (.DictComp kx elt [⟨tg, iter, ifs, 0⟩] scope pos) (tI X.K (iDc ii ig it ik ie (own.map (·.2)))) :=
  PE.imp (pe_dc hc hN hi ok hg ht hk he hs) fun _ _ _ h => dc_to hT h
end
end IL

namespace IL
open PySem PySem.Spec PyProof.Rows L2

section
variable {X : Cx} {a b c e i o : Expr} {es rest : List Expr} {pos : Pos} {ia ib ic ie io : IE} {ir : IA}
/-! ### what nobody writes any more; what an expression made for itself is let go -/
/-- the list or the dict is not written from now on -/
def frzV (s : Sto) : PV → PV × Sto
  | .ref n => match s[n]? with
    | some (.lst xs) => (.frz xs, s.set n .gone)
    | some (.dK kvs) => (.fdk (kvs.map (·.1)) (kvs.map (·.2)), s.set n .gone)
    | _ => (.ref n, s)
  | x => (x, s)
theorem frz_to {K : PySem.W.Frag} {H : Hp} {ρ : Rho} {st : Sto} (S : RepS K H ρ st) {x : PV} {v : V} (R : Rep K H ρ x v) : ∃ ρ', Grow H ρ H ρ' ∧ RepS K H ρ' (frzV st x).2 ∧ Rep K H ρ' (frzV st x).1 v := by
  unfold frzV
  split
  · rename_i n
    split
    · rename_i xs e
      obtain ⟨a, vs, rfl, h1, h2, h3, h4⟩ := S.lst R e
      exact ⟨_, grow_die, S.die h1 e (.inl ⟨vs, .of h3⟩), S.dead h1 e⟩
    · rename_i xs e
      obtain ⟨a, vs, rfl, h1, h2, h3, h4⟩ := S.dct R e
      exact ⟨_, grow_die, S.die h1 e (.inr ⟨vs, .of h3⟩), S.deadK h1 e⟩
    · exact ⟨ρ, Grow.refl, S, R⟩
  · exact ⟨ρ, Grow.refl, S, R⟩
def iFrz (ia : IE) : IE := fun env st => ob (ia env st) fun x s => some (frzV s x)
theorem r_frz (ha : PE X e (tI X.K ia)) : PE X e (tI X.K (iFrz ia)) := PE.imp ha fun σ H Q ⟨env, st, ρ, z, st', E, S, h, q⟩ => by
  obtain ⟨x, s1, h1, h⟩ := ob_some h
  have e := Option.some.inj h
  refine ⟨env, st, ρ, x, s1, E, S, h1, fun v H1 ρ1 G1 S1 R1 => ?_⟩
  obtain ⟨ρ2, G2, S2, R2⟩ := frz_to S1 R1
  rw [e] at S2 R2
  exact q v H1 ρ2 (G1.trans G2) S2 R2
noncomputable def iGc (ia : IE) : IE := fun env st => (ia env st).map fun r => (r.1, gcS st r.2 r.1)
theorem r_gc (ha : PE X e (tI X.K ia)) : PE X e (tI X.K (iGc ia)) := PE.imp ha fun σ H Q ⟨env, st, ρ, z, st', E, S, h, q⟩ => by
  obtain ⟨r, h1, h2⟩ := map_some h
  obtain ⟨x, s1⟩ := r
  have e1 : x = z := congrArg Prod.fst h2
  have e2 : gcS st s1 x = st' := congrArg Prod.snd h2
  subst e1
  subst e2
  refine ⟨env, st, ρ, x, s1, E, S, h1, fun v H1 ρ1 G1 S1 R1 => ?_⟩
  obtain ⟨ρ2, G2, S2, R2⟩ := gc_to S G1 S1 R1
  exact q v H1 ρ2 G2 S2 R2
/-- a new thing that is not written: its value alone -/
noncomputable def iNew (ia : IE) : IE := iGc (iFrz ia)
theorem r_new (ha : PE X e (tI X.K ia)) : PE X e (tI X.K (iNew ia)) := r_gc (r_frz ha)

/-! ### attributes -/
/-- what is known of the class of that name -/
structure KCls (K : PySem.W.Frag) (c : Str) : Prop where
  ex : ∃ C, ClsAt K c C ∧ Cls K C
/-- .. the class has no attribute of that name -/
def KFld (K : PySem.W.Frag) (c f : Str) : Prop := ∃ C, ClsAt K c C ∧ Cls K C ∧ NoAttr K C f
theorem KFld.at_ {K : PySem.W.Frag} {c f : Str} {C : Addr} (h : KFld K c f) (hc : ClsAt K c C) : Cls K C ∧ NoAttr K C f := by
  obtain ⟨C', h1, h2, h3⟩ := h
  rw [hc.uniq h1]
  exact ⟨h2, h3⟩
theorem lookF {K : PySem.W.Frag} {H : Hp} {ρ : Rho} {f : Str} : ∀ {fs : List (Str × PV)} {vs : List (Str × V)} , RepF K H ρ fs vs → (∀ x, fs.lookup f = some x → ∃ v, vs.lookup f = some v ∧ Rep K H ρ x v) ∧ (fs.lookup f = none → vs.lookup f = none) ∧ fs.length = vs.length
  | [], vs, h => by
    subst h
    exact ⟨fun x h => by simp at h, fun _ => rfl, rfl⟩
  | (g, y) :: fs, vs, h => by
    obtain ⟨v, r, rfl, h1, h2⟩ := h
    obtain ⟨a1, a2, a3⟩ := lookF (f := f) h2
    refine ⟨fun x hx => ?_, fun hx => ?_, by simp [a3]⟩
    · rw [List.lookup_cons] at hx
      rw [List.lookup_cons]
      cases e : f == g with
      | true =>
        rw [e] at hx
        simp only [Option.some.injEq] at hx
        subst hx
        exact ⟨v, rfl, h1⟩
      | false =>
        rw [e] at hx
        exact a1 x hx
    · rw [List.lookup_cons] at hx
      rw [List.lookup_cons]
      cases e : f == g with
      | true => rw [e] at hx; simp at hx
      | false => rw [e] at hx; exact a2 hx
def putP1 (f : Str) (v : PV) : List (Str × PV) → List (Str × PV)
  | [] => [(f, v)]
  | (g, x) :: r => if g = f then (g, v) :: r else (g, x) :: putP1 f v r
theorem put_F {K : PySem.W.Frag} {H : Hp} {ρ : Rho} {f : Str} {x : PV} {v : V} (R : Rep K H ρ x v) : ∀ {fs : List (Str × PV)} {vs : List (Str × V)}, RepF K H ρ fs vs → RepF K H ρ (putP1 f x fs) (putF f v vs)
  | [], vs, h => by
    subst h
    exact ⟨v, [], rfl, R, rfl⟩
  | (g, y) :: fs, vs, h => by
    obtain ⟨w, r, rfl, h1, h2⟩ := h
    unfold putP1 putF
    split
    · exact ⟨v, r, rfl, R, h2⟩
    · exact ⟨w, _, rfl, h1, put_F R h2⟩
/-- o.f, for instances of these classes -/
def fFld (cs : List Str) (f : Str) : F1 := fun x s => match x with
  | .ref n => match s[n]? with
    | some (.ins c fs) => if cs.contains c then (fs.lookup f).map fun v => (v, s) else none
    | _ => none
  | _ => none
def iFld (cs : List Str) (f : Str) (ia : IE) : IE := iUn (fFld cs f) ia
theorem r_fld {cs : List Str} {f : Str} (hk : ∀ c ∈ cs, KFld X.K c f) (ha : PE X a (tI X.K ia)) (hb : attributeBase a f X.env (eval a X.env) = eval a X.env := by rfl) : PE X (.Attribute a f pos) (tI X.K (iFld cs f ia)) :=
  PE.imp (pe_fld ha hb) fun σ H Q ⟨env, st, ρ, z, st', E, S, h, q⟩ => by
    obtain ⟨x, s1, h1, h⟩ := ob_some h
    refine ⟨env, st, ρ, x, s1, E, S, h1, fun vx H1 ρ1 G1 S1 R1 => ?_⟩
    unfold fFld at h
    split at h
    · rename_i n
      split at h
      · rename_i c fs e
        split at h
        · rename_i hc
          obtain ⟨v, e2, hz⟩ := map_some h
          cases hz
          obtain ⟨p, C, dx, vs, rfl, i1, ndd, hC, h2, h3⟩ := S1.inst R1 e
          obtain ⟨k1, k2⟩ := (hk c (by simpa using hc)).at_ hC
          obtain ⟨w, hw, R2⟩ := (lookF h3).1 _ e2
          exact ⟨p, C, dx, vs, w, rfl, h2, k1, k2, hw, q w H1 ρ1 G1 S1 R2⟩
        · cases h
      · cases h
    · cases h
/-- o.f = v -/
def setFld (cs : List Str) (f : Str) (x y : PV) (s : Sto) : Option Sto := match x with
  | .ref n => match s[n]? with
    | some (.ins c fs) => if cs.contains c && decide (fs.length < 900) then some (s.set n (.ins c (putP1 f y fs))) else none
    | _ => none
  | _ => none
theorem setFld_to {K : PySem.W.Frag} {H : Hp} {ρ : Rho} {st st' : Sto} {cs : List Str} {f : Str} {x y : PV} {vx vy : V} (hk : ∀ c ∈ cs, KFld K c f) (S : RepS K H ρ st) (Rx : Rep K H ρ x vx) (Ry : Rep K H ρ y vy) (h : setFld cs f x y st = some st') :
    ∃ a C dx fs, vx = .ref a ∧ H a = some (.ins C dx fs) ∧ Cls K C ∧ NoAttr K C f ∧ fs.length < 1000 ∧ Grow H ρ (upd H a (.ins C dx (putF f vy fs))) ρ ∧ RepS K (upd H a (.ins C dx (putF f vy fs))) ρ st' := by
  unfold setFld at h
  split at h
  · rename_i n
    split at h
    · rename_i c fs e
      split at h
      · rename_i hc
        cases h
        rw [Bool.and_eq_true, decide_eq_true_eq] at hc
        obtain ⟨p, C, dx, vs, rfl, i1, ndd, hC, h2, h3⟩ := S.inst Rx e
        obtain ⟨k1, k2⟩ := (hk c (by simpa using hc.1)).at_ hC
        have g : Grow H ρ (upd H p (.ins C dx (putF f vy vs))) ρ := grow_write h2 (List.mem_of_getElem? i1) ndd
        refine ⟨p, C, dx, vs, rfl, h2, k1, k2, by rw [← (lookF (f := f) h3).2.2]; omega, g, S.write (so := .ins c (putP1 f y fs)) i1 ndd h2 ⟨C, dx, _, hC, upd_same, RepF.grow S g _ _ (put_F Ry h3)⟩⟩
      · cases h
    · cases h
  · cases h
variable {W : WX}
def iSetFld (cs : List Str) (f : Str) (io ie : IE) : IS := fun env st => ob (ie env st) fun y s1 => ob (io env s1) fun x s2 => (setFld cs f x y s2).map fun s3 => .nx env s3
theorem s_setFld {cs : List Str} {f : Str} {pos' : Pos} (hk : ∀ c ∈ cs, KFld X.K c f) (ho : PE X o (tI X.K io)) (he : PE X e (tI X.K ie)) (hs : swapsWith e (some (.Attribute o f pos')) pos.line X.env = pure false := by rfl) :
    PS X (.Assign [.Attribute o f pos'] e pos) (tIS X.K W (iSetFld cs f io ie)) := PS.imp (ps_fld ho he hs) fun D σ H ⟨env, s, ρ, fl, E, S, h, q⟩ => by
  obtain ⟨y, s1, h1, h⟩ := ob_some h
  obtain ⟨x, s2, h2, h⟩ := ob_some h
  obtain ⟨s3, h3, hz⟩ := map_some h
  subst hz
  refine ⟨env, s, ρ, y, s1, E, S, h1, fun vy H1 ρ1 G1 S1 R1 => ⟨env, s1, ρ1, x, s2, E.grow S G1, S1, h2, fun vx H2 ρ2 G2 S2 R2 => ?_⟩⟩
  obtain ⟨p, C, dx, fs, ex, e1, e2, e3, e4, G3, S3⟩ := setFld_to hk S2 R2 (Rep.grow S1 G2 _ _ R1) h3
  exact ⟨p, C, dx, fs, ex, e1, e2, e3, e4, q σ _ ρ2 ((G1.trans G2).trans G3) S3 (((E.grow S G1).grow S1 G2).grow S2 G3)⟩
/-- o.f += v, o.f -= v: integers -/
def augTo (f : Str) (g : Int → Int → Int) (n : Nat) (c : Str) (m : Int) (y : PV) (s2 : Sto) : Option Sto := match y with
  | .int k => match s2[n]? with
    | some (.ins c' fs') => if c' = c ∧ fs'.length < 900 then some (s2.set n (.ins c' (putP1 f (.int (g m k)) fs'))) else none
    | _ => none
  | _ => none
theorem augTo_some {f : Str} {g : Int → Int → Int} {n : Nat} {c : Str} {m : Int} {y : PV} {s2 s3 : Sto} (h : augTo f g n c m y s2 = some s3) : ∃ k fs', y = .int k ∧ s2[n]? = some (.ins c fs') ∧ fs'.length < 900 ∧ s3 = s2.set n (.ins c (putP1 f (.int (g m k)) fs')) := by
  unfold augTo at h
  split at h
  · split at h
    · rename_i k c' fs' e
      split at h
      · rename_i hl
        obtain ⟨rfl, hl⟩ := hl
        cases h
        exact ⟨_, fs', rfl, e, hl, rfl⟩
      · cases h
    · cases h
  · cases h
def intFld (cs : List Str) (f : Str) (x : PV) (s : Sto) : Option (Nat × Str × Int) := match x with
  | .ref n => match s[n]? with
    | some (.ins c fs) => if cs.contains c then (match fs.lookup f with
      | some (.int m) => some (n, c, m)
      | _ => none) else none
    | _ => none
  | _ => none
theorem intFld_some {cs : List Str} {f : Str} {x : PV} {s : Sto} {r : Nat × Str × Int} (h : intFld cs f x s = some r) : ∃ fs, x = .ref r.1 ∧ s[r.1]? = some (.ins r.2.1 fs) ∧ cs.contains r.2.1 = true ∧ fs.lookup f = some (.int r.2.2) := by
  unfold intFld at h
  split at h
  · split at h
    · rename_i c fs e
      split at h
      · rename_i hc
        split at h
        · rename_i m e2
          cases h
          exact ⟨fs, rfl, e, hc, e2⟩
        · cases h
      · cases h
    · cases h
  · cases h
def iAugFld (cs : List Str) (f : Str) (g : Int → Int → Int) (io ie : IE) : IS := fun env st => ob (io env st) fun x s1 => match intFld cs f x s1 with
  | some (n, c, m) => ob (ie env s1) fun y s2 => (augTo f g n c m y s2).map fun s3 => .nx env s3
  | none => none
theorem s_augFld {op : Operator} {cs : List Str} {f : Str} {g : Int → Int → Int} {tpos : Pos} {rd : V → V → Hp → VK → Prop} (hop : InOp X op rd) (hrd : ∀ m n H Q, Q (.int (g m n)) H → rd (.int m) (.int n) H Q) (hk : ∀ c ∈ cs, KFld X.K c f) (ho : PE X o (tI X.K io)) (he : PE X e (tI X.K ie)) :
    PS X (.AugAssign (.Attribute o f tpos) op e pos) (tIS X.K W (iAugFld cs f g io ie)) := PS.imp (ps_fldaug ho he hop) fun D σ H ⟨env, s, ρ, fl, E, S, h, q⟩ => by
  obtain ⟨x, s1, h1, h⟩ := ob_some h
  cases e0 : intFld cs f x s1 with
  | none => rw [e0] at h; cases h
  | some r =>
    obtain ⟨n, c, m⟩ := r
    rw [e0] at h
    obtain ⟨fs, ex, e, hc, e2⟩ := intFld_some e0
    simp only at ex e hc e2
    subst ex
    obtain ⟨y, s2, h3, h⟩ := ob_some h
    obtain ⟨s3, h4, hz⟩ := map_some h
    subst hz
    obtain ⟨k, fs', rfl, e3, hl, rfl⟩ := augTo_some h4
    refine ⟨env, s, ρ, _, s1, E, S, h1, fun vx H1 ρ1 G1 S1 R1 => ?_⟩
    obtain ⟨p, C, dx, vs, rfl, i1, ndd, hC, h2', h3'⟩ := S1.inst R1 e
    obtain ⟨k1, k2⟩ := (hk c (by simpa using hc)).at_ hC
    obtain ⟨w, hw, R2⟩ := (lookF h3').1 _ e2
    unfold Rep at R2
    subst R2
    refine ⟨p, C, dx, vs, .int m, rfl, h2', k1, k2, hw, env, _, ρ1, _, s2, E.grow S G1, S1, h3, fun vy H2 ρ2 G2 S2 R2 => ?_⟩
    unfold Rep at R2
    subst R2
    refine hrd m k H2 _ ?_
    obtain ⟨p', C', dx', vs', ep, i2, ndd2, hC', h4, h5⟩ := S2.inst (Rep.grow S1 G2 _ _ R1) e3
    cases ep
    have hCC := hC'.uniq hC
    subst hCC
    have gw : Grow H2 ρ2 (upd H2 p (.ins C' dx' (putF f (.int (g m k)) vs'))) ρ2 := grow_write h4 (List.mem_of_getElem? i2) ndd2
    exact ⟨dx', vs', h4, by rw [← (lookF (f := f) h5).2.2]; omega, q σ _ ρ2 ((G1.trans G2).trans gw) (S2.write (so := .ins c (putP1 f (.int (g m k)) fs')) i2 ndd2 h4 ⟨C', dx', _, hC', upd_same, RepF.grow S2 gw _ _ (put_F (by unfold Rep; rfl) h5)⟩) (((E.grow S G1).grow S1 G2).grow S2 gw)⟩
end
end IL

namespace IL
open PySem PySem.Spec PyProof.Rows L2

/-! ### what may be called -/
abbrev CalJ (P : Program) (w : World) (K : PySem.W.Frag) (mg : Str → Option Value) (base : Heap) (k : Nat) (x : Str) (n : Nat) (f : FA) : Prop := C8.Cal P w K mg base k x (spI K n f) []
/-- a method of the class of that name -/
structure MetJ (P : Program) (w : World) (K : PySem.W.Frag) (mg : Str → Option Value) (base : Heap) (k : Nat) (c m : Str) (n : Nat) (f : FA) : Prop where
  ex : ∃ C : Addr, ClsAt K c C ∧ C8.Met P w K mg base k C m (spI K n f) []
/-- a class that may be made by its name -/
structure MakJ (P : Program) (w : World) (K : PySem.W.Frag) (mg : Str → Option Value) (base : Heap) (k : Nat) (c : Str) (n : Nat) (f : FA) : Prop where
  ex : ∃ C : Addr, ClsAt K c C ∧ C8.Mak P w K mg base k c C (spI K n f) []
section
variable {X : Cx} {k j n : Nat} {F : FA} {x m : Str} {p pos apos : Pos} {e o : Expr} {es : List Expr} {io : IE} {ir : IA}
theorem j_call (c : CalJ X.prog X.w X.K X.mg X.base k x n F) (hn : Ar n F) (hr : Room j X.A) (hk : k ≤ j) (hg : Gl X x) (ha : PA X (e :: es) (tIA X.K ir))
    (hdb : (x == ("__debug__" : Str)) = false := by decide) (he : starEach (e :: es) X.env = (false, eval e X.env) :: starEach es X.env := by rfl) (hpl : (backTo pos (starEach es X.env)).any (·.1) = false := by rfl) :
    PE X (.Call (.Name x p) (e :: es) [] pos) (tI X.K (iCall F ir)) := r_call c hn hr hk hg ha hdb he hpl
theorem nil_to {K : PySem.W.Frag} {σ : L2.St} {H : Hp} {Q : List V → Hp → Prop} (h : tIA K iNil σ H Q) : tNil σ H Q := by
  obtain ⟨env, st, ρ, x, st', E, S, h1, q⟩ := h
  cases h1
  exact q [] H ρ Grow.refl S (by unfold Reps; rfl)
theorem j_call0 (c : CalJ X.prog X.w X.K X.mg X.base k x 0 F) (hn : Ar 0 F) (hr : Room j X.A) (hk : k ≤ j) (hg : Gl X x)
    (hdb : (x == ("__debug__" : Str)) = false := by decide) : PE X (.Call (.Name x p) [] [] pos) (tI X.K (iCall F iNil)) := by
  obtain ⟨f, fd, ps, ds, hF, hm, kp, b, d⟩ := c.ex
  exact PE.imp (pe_call0 (E := C8.E0) hF (hr.mono hk) hg hm kp b d C8.pass0 hdb) fun _ _ _ h => nil_to (call_to hn h)
/-- o.m(..): the def of o's class -/
def iMeth (m : Str) (tbl : List (Str × FA)) (io : IE) (ir : IA) : IE := fun env st => ob (io env st) fun x s1 => match x with
  | .ref n => match s1[n]? with
    | some (.ins c fs) => match tbl.lookup c, fs.lookup m with
      | some F, none => ob (ir env s1) fun xs s2 => F (x :: xs) s2
      | _, _ => none
    | _ => none
  | _ => none
theorem iMeth_some {tbl : List (Str × FA)} {env : PEnv} {st : Sto} {r : PV × Sto} (h : iMeth m tbl io ir env st = some r) : ∃ n s1 c fs F xs s2, io env st = some (.ref n, s1) ∧ s1[n]? = some (.ins c fs) ∧ tbl.lookup c = some F ∧ fs.lookup m = none ∧ ir env s1 = some (xs, s2) ∧ F (.ref n :: xs) s2 = some r := by
  obtain ⟨x, s1, h1, h⟩ := ob_some h
  split at h
  · rename_i n
    split at h
    · rename_i c fs e
      split at h
      · rename_i F e1 e2
        obtain ⟨xs, s2, h2, h⟩ := ob_some h
        exact ⟨n, s1, c, fs, F, xs, s2, h1, e, e1, e2, h2, h⟩
      · cases h
    · cases h
  · cases h
theorem lookup_mem {α : Type} {c : Str} {x : α} : ∀ {l : List (Str × α)}, l.lookup c = some x → (c, x) ∈ l
  | [], h => by simp at h
  | (d, y) :: l, h => by
    rw [List.lookup_cons] at h
    cases e : c == d with
    | true =>
      rw [e] at h
      have := eq_of_beq e
      subst this
      cases h
      exact List.mem_cons_self ..
    | false => rw [e] at h; exact List.mem_cons_of_mem _ (lookup_mem h)
theorem j_meth {tbl : List (Str × FA)} {pl : Sem Bool} (c : ∀ cf ∈ tbl, MetJ X.prog X.w X.K X.mg X.base k cf.1 m (n + 1) cf.2 ∧ Ar (n + 1) cf.2) (hr : Room j X.A) (hk : k ≤ j) (ho : PE X o (tI X.K io)) (ha : PA X (e :: es) (tIA X.K ir))
    (hst : starEach (e :: es) X.env = (false, eval e X.env) :: starEach es X.env := by rfl) (hpl : (backTo pos (starEach es X.env)).any (·.1) = false := by rfl)
    (ht : eval (.Call (.Attribute o m apos) (e :: es) [] pos) X.env = (do
      let ov ← eval o X.env
      standAt apos.atName
      let (f, first) ← holding [ov] (getMethod ov m pl)
      callWith pos f first (backTo pos (starEach (e :: es) X.env)) (backToKw pos (keywordEach [] X.env))) := by rfl) :
    PE X (.Call (.Attribute o m apos) (e :: es) [] pos) (tI X.K (iMeth m tbl io ir)) := by
  refine ⟨fun pins s σ H Q I h => ?_⟩
  obtain ⟨env, st, ρ, z, st', E, S, h, q⟩ := h
  obtain ⟨nn, s1, cl, fs, F, xs, s2, h1, h2, h3, h4, h5, h6⟩ := iMeth_some h
  obtain ⟨mj, hn⟩ := c (cl, F) (lookup_mem h3)
  obtain ⟨C, hC, mm⟩ := mj.ex
  refine (C8.pe_mt (pl := pl) mm hr hk ho ha hst hpl ht).run pins s σ H Q I ?_
  refine ⟨env, st, ρ, _, s1, E, S, h1, fun vx H1 ρ1 G1 S1 R1 => ?_⟩
  obtain ⟨a, C', dx, vs, rfl, i1, ndd, hC', h7, h8⟩ := S1.inst R1 h2
  rw [hC'.uniq hC] at h7
  refine ⟨a, dx, vs, rfl, h7, (lookF (f := m) h8).2.1 h4, env, s1, ρ1, xs, s2, E.grow S G1, S1, h5, fun us H2 ρ2 G2 S2 R2 => ?_⟩
  show spI X.K (n + 1) F (.ref a :: (us ++ [])) H2 Q C8.E0
  rw [List.append_nil]
  refine ⟨by have := R2.length; have := hn _ _ _ h6; simp at this ⊢; omega, s2, ρ2, .ref nn :: xs, z, st', S2, ?_, h6, fun v H3 ρ3 G3 S3 R3 => q v H3 ρ3 ((G1.trans G2).trans G3) S3 R3⟩
  unfold Reps
  exact ⟨.ref a, us, rfl, Rep.grow S1 G2 _ _ R1, R2⟩
theorem j_meth0 {tbl : List (Str × FA)} {pl : Sem Bool} (c : ∀ cf ∈ tbl, MetJ X.prog X.w X.K X.mg X.base k cf.1 m 1 cf.2 ∧ Ar 1 cf.2) (hr : Room j X.A) (hk : k ≤ j) (ho : PE X o (tI X.K io))
    (ht : eval (.Call (.Attribute o m apos) [] [] pos) X.env = (do
      let ov ← eval o X.env
      standAt apos.atName
      let (f, first) ← holding [ov] (getMethod ov m pl)
      callWith pos f first (backTo pos (starEach [] X.env)) (backToKw pos (keywordEach [] X.env))) := by rfl) :
    PE X (.Call (.Attribute o m apos) [] [] pos) (tI X.K (iMeth m tbl io iNil)) := by
  refine ⟨fun pins s σ H Q I h => ?_⟩
  obtain ⟨env, st, ρ, z, st', E, S, h, q⟩ := h
  obtain ⟨nn, s1, cl, fs, F, xs, s2, h1, h2, h3, h4, h5, h6⟩ := iMeth_some h
  cases h5
  obtain ⟨mj, hn⟩ := c (cl, F) (lookup_mem h3)
  obtain ⟨C, hC, mm⟩ := mj.ex
  refine (C8.pe_mt0 (pl := pl) mm hr hk ho ht).run pins s σ H Q I ?_
  refine ⟨env, st, ρ, _, _, E, S, h1, fun vx H1 ρ1 G1 S1 R1 => ?_⟩
  obtain ⟨a, C', dx, vs, rfl, i1, ndd, hC', h7, h8⟩ := S1.inst R1 h2
  rw [hC'.uniq hC] at h7
  refine ⟨a, dx, vs, rfl, h7, (lookF (f := m) h8).2.1 h4, ?_⟩
  refine ⟨by have := hn _ _ _ h6; simp at this ⊢, _, ρ1, [.ref nn], z, st', S1, ?_, h6, fun v H3 ρ3 G3 S3 R3 => q v H3 ρ3 (G1.trans G3) S3 R3⟩
  unfold Reps
  exact ⟨.ref a, [], rfl, R1, by unfold Reps; rfl⟩
/-- C(..): a new instance -/
def iMake (c : Str) (F : FA) (ir : IA) : IE := fun env st => ob (ir env st) fun xs s1 => ob (F (.ref s1.length :: xs) (s1 ++ [.ins c []])) fun v s2 => match v with
  | .non => some (.ref s1.length, s2)
  | _ => none
theorem make_to {K : PySem.W.Frag} {c : Str} {C : Addr} (hC : ClsAt K c C) {n : Nat} {f : FA} (hn : Ar (n + 1) f) {σ : L2.St} {H : Hp} {Q : VK} (h : tI K (iMake c f ir) σ H Q) : tMake C (spI K (n + 1) f) [] C8.E0 (tIA K ir) σ H Q := by
  obtain ⟨env, st, ρ, z, st', E, S, h, q⟩ := h
  obtain ⟨xs, s1, h1, h⟩ := ob_some h
  obtain ⟨v, s2, h2, h⟩ := ob_some h
  refine ⟨env, st, ρ, xs, s1, E, S, h1, fun vs H1 ρ1 G1 S1 R1 x dx hx hdx hne => ?_⟩
  split at h
  · cases h
    show spI K (n + 1) f (.ref x :: (vs ++ [])) _ _ C8.E0
    rw [List.append_nil]
    have gd : Grow H1 ρ1 (upd H1 dx (.own x)) ρ1 := grow_new hdx
    have hx' : upd H1 dx (.own x) x = none := by rw [upd_ne (fun z => hne z.symm)]; exact hx
    have Sd : RepS K (upd H1 dx (.own x)) ρ1 s1 := S1.new hdx
    have ga : Grow (upd H1 dx (.own x)) ρ1 (upd (upd H1 dx (.own x)) x (.ins C dx [])) (ρ1.add x) := grow_alloc hx'
    have Sa : RepS K (upd (upd H1 dx (.own x)) x (.ins C dx [])) (ρ1.add x) (s1 ++ [.ins c []]) := Sd.alloc hx' ⟨C, dx, [], hC, upd_same, rfl⟩
    have Rx : Rep K (upd (upd H1 dx (.own x)) x (.ins C dx [])) (ρ1.add x) (.ref s1.length) (.ref x) := by
      unfold Rep
      refine ⟨x, rfl, ?_⟩
      show (ρ1.l ++ [x])[s1.length]? = some x
      rw [← S1.len, List.getElem?_append_right (Nat.le_refl _)]
      simp
    refine ⟨by have := R1.length; have := hn _ _ _ h2; simp at this ⊢; omega, _, _, .ref s1.length :: xs, .non, _, Sa, ?_, h2, fun v H3 ρ3 G3 S3 R3 => ?_⟩
    · unfold Reps
      exact ⟨.ref x, vs, rfl, Rx, Reps.grow S1 (gd.trans ga) _ _ R1⟩
    · unfold Rep at R3
      subst R3
      exact ⟨rfl, q (.ref x) H3 ρ3 ((G1.trans (gd.trans ga)).trans G3) S3 (Rep.grow Sa G3 _ _ Rx)⟩
  · cases h
theorem j_make (c : MakJ X.prog X.w X.K X.mg X.base k x (n + 1) F) (hn : Ar (n + 1) F) (hr : Room j X.A) (hk : k + 1 ≤ j) (hg : Gl X x) (ha : PA X (e :: es) (tIA X.K ir))
    (hdb : (x == ("__debug__" : Str)) = false := by decide) (he : starEach (e :: es) X.env = (false, eval e X.env) :: starEach es X.env := by rfl) (hpl : (backTo pos (starEach es X.env)).any (·.1) = false := by rfl) :
    PE X (.Call (.Name x p) (e :: es) [] pos) (tI X.K (iMake x F ir)) := by
  obtain ⟨C, hC, mm⟩ := c.ex
  exact PE.imp (C8.pe_mk mm hr hk hg ha hdb he hpl) fun _ _ _ h => make_to hC hn h
theorem j_make0 (c : MakJ X.prog X.w X.K X.mg X.base k x 1 F) (hn : Ar 1 F) (hr : Room j X.A) (hk : k + 1 ≤ j) (hg : Gl X x)
    (hdb : (x == ("__debug__" : Str)) = false := by decide) : PE X (.Call (.Name x p) [] [] pos) (tI X.K (iMake x F iNil)) := by
  obtain ⟨C, hC, mm⟩ := c.ex
  obtain ⟨f, fd, ps, ds, M, hF, hm, b, d⟩ := mm.ex
  exact PE.imp (pe_make0 (E := C8.E0) M hF (hr.mono hk) hg hm b d C8.pass0 hdb) fun _ _ _ h => nil_to (make_to hC hn h)
end
/-- what a body has done, for its promise -/
theorem body_to {K : PySem.W.Frag} {N ps : List Str} {ib : IS} {W : WX} {H : Hp} {vs : List V} {Q : VK} {E : XK} (hsp : spI K ps.length (iDef ps.length N.length ib) vs H Q E) : tIS K W ib { nx := fun _ H' => Q .non H', rt := Q } (L2.start N vs) H := by
  obtain ⟨hl, s1, ρ, xs, z, st', S1, R1, h, q⟩ := hsp
  unfold iDef at h
  split at h
  · have E1 := repE_start R1 N
    rw [hl] at E1
    split at h
    · rename_i e1 s2 e
      cases h
      refine ⟨_, s1, ρ, _, E1, S1, e, fun σ' H' ρ' G S' E' => ?_⟩
      obtain ⟨ρ2, G2, S2, R2⟩ := gc_to (v := .non) (u := .non) S1 G S' (by unfold Rep; rfl)
      exact q .non H' ρ2 G2 S2 R2
    · rename_i v s2 e
      cases h
      refine ⟨_, s1, ρ, _, E1, S1, e, fun v H' ρ' G S' R' => ?_⟩
      obtain ⟨ρ2, G2, S2, R2⟩ := gc_to S1 G S' R'
      exact q v H' ρ2 G2 S2 R2
    · cases h
  · cases h
abbrev W0 : WX := fun _ _ _ _ => False
/-- a def of the module, by its body -/
theorem cal_J {P : Program} {w : World} {K : PySem.W.Frag} {mg : Str → Option Value} {base : Heap} {x : Str} {st : Stmt} {f : Addr} {fd : FuncData} {N ps : List Str} {k : Nat} {ib : IS} (F : C8.Def K mg x st f fd) (b : Binds K fd ps []) (S : FnScope N ps (C8.fnScope st))
    (hb : ∀ (cdv : Value) (A : Around) (outer : List PySem.Env) (s : Shared) (H : Hp) (E : XK), Room k (A.deeper (envOfC x (C8.fnScope st) s.heap.objs.size f cdv)) →
      PSs (cxOf CX0 P w K mg base N x (C8.fnScope st) f cdv A outer s H E).nox (C8.fnBody st) (tIS K W0 ib)) : CalJ P w K mg base (k + 1) x ps.length (iDef ps.length N.length ib) :=
  C8.cal0 F b .nil S (fun vs H Q E h => h.1) fun cdv A outer s H vs Q E hr hsp => ⟨_, hb cdv A outer s H E hr, body_to hsp⟩
/-- a method -/
theorem met_J {P : Program} {w : World} {K : PySem.W.Frag} {mg : Str → Option Value} {base : Heap} {c m qual : Str} {C : Addr} {st : Stmt} {f : Addr} {fd : FuncData} {N ps : List Str} {k : Nat} {ib : IS} (hC : ClsAt K c C) (hc : Cls K C) (me : Meth K C m f) (F : C8.Fun K m qual st f fd) (b : Binds K fd ps []) (S : FnScope N ps (C8.fnScope st))
    (hb : ∀ (cdv : Value) (A : Around) (outer : List PySem.Env) (s : Shared) (H : Hp) (E : XK), Room k (A.deeper (envOfC qual (C8.fnScope st) s.heap.objs.size f cdv)) →
      PSs (cxOf CX0 P w K mg base N qual (C8.fnScope st) f cdv A outer s H E).nox (C8.fnBody st) (tIS K W0 ib)) : MetJ P w K mg base (k + 1) c m ps.length (iDef ps.length N.length ib) :=
  ⟨C, hC, C8.met0 hc me F b S (fun vs H Q E h => h.1) fun cdv A outer s H vs Q E hr hsp => ⟨_, hb cdv A outer s H E hr, body_to hsp⟩⟩
/-- a class by its __init__ -/
theorem mak_J {P : Program} {w : World} {K : PySem.W.Frag} {mg : Str → Option Value} {base : Heap} {c qual : Str} {C : Addr} {st : Stmt} {f : Addr} {fd : FuncData} {N ps : List Str} {k : Nat} {ib : IS} (hC : ClsAt K c C) (M : Mk K C f) (hm : mg c = some (.ref C)) (F : C8.Fun K "__init__" qual st f fd) (b : Binds K fd ps []) (S : FnScope N ps (C8.fnScope st))
    (hb : ∀ (cdv : Value) (A : Around) (outer : List PySem.Env) (s : Shared) (H : Hp) (E : XK), Room k (A.deeper (envOfC qual (C8.fnScope st) s.heap.objs.size f cdv)) →
      PSs (cxOf CX0 P w K mg base N qual (C8.fnScope st) f cdv A outer s H E).nox (C8.fnBody st) (tIS K W0 ib)) : MakJ P w K mg base (k + 1) c ps.length (iDef ps.length N.length ib) :=
  ⟨C, hC, C8.mak0 M hm F b .nil S (fun vs H Q E h => h.1) fun cdv A outer s H vs Q E hr hsp => ⟨_, hb cdv A outer s H E hr, body_to hsp⟩⟩
end IL

namespace IL
open PySem PySem.Spec PyProof.Rows L2

section
variable {X : Cx} {a b c e i o : Expr} {es rest : List Expr} {pos : Pos} {ia ib ic ie io : IE} {ir : IA}
/-! ### repr of data -/
/-- lists, tuples, integers, truths, None, texts, not too deep, written in less than a line -/
def reprOk (d : PyData) : Bool := d.showable && !d.hasDict && decide (d.depth ≤ 60) && decide (d.shown.length ≤ 16000000)
def rReprD (K : PySem.W.Frag) : List V → Hp → VK → Prop := fun xs H Q => ∃ (p : Addr) (d : PyData), xs = [.ref p] ∧ Dp K H (.ref p) d ∧ reprOk d = true ∧ Q (.str d.shown) H
theorem cr_reprD (hG : X.A.guards = some []) (hu : X.A.units + 64 < cLine) : CallR X (.builtin "repr") (rReprD X.K) := by
  intro pins s σ H xs us Q I r h
  obtain ⟨p, d, rfl, hd, hk, q⟩ := h
  unfold reprOk at hk
  simp only [Bool.and_eq_true, Bool.not_eq_true', decide_eq_true_eq] at hk
  obtain ⟨⟨⟨k1, k2⟩, k3⟩, k4⟩ := hk
  cases r with
  | @cons _ u0 _ ur ra rb =>
    cases rb
    obtain rfl : u0 = Value.ref p := ra
    obtain ⟨as, r1⟩ := Dp.reads I d (.ref p) (.ref p) hd rfl
    refine PySem.repr_of_reads' r1 k1 (fun z => by rw [k2] at z; cases z) hG (by omega) (fun _ _ z => z) (fun h' u tk hk => ?_) (Nat.le_trans k4 (by decide))
    exact ⟨.str d.shown, H, I.un (h' := h') (t' := tk) (Un.kept hk) (I.hok.kept hk), ⟨_, rfl⟩, q⟩
def fReprD : F1 := fun x st => match x with
  | .bl b => some (.str (if b then "True" else "False"), st)
  | .tup _ => match toD st 70 x with
    | some d => if reprOk d then some (.str d.shown, st) else none
    | none => none
  | .frz _ => match toD st 70 x with
    | some d => if reprOk d then some (.str d.shown, st) else none
    | none => none
  | .ref _ => match toD st 70 x with
    | some d => if reprOk d then some (.str d.shown, st) else none
    | none => none
  | _ => none
theorem CallI.orL {K : PySem.W.Frag} {r r' : List V → Hp → VK → Prop} {f : FA} (h : CallI K r f) : CallI K (fun x H Q => r x H Q ∨ r' x H Q) f := fun H ρ st xs vs z st' Q S R h1 q => .inl (h H ρ st xs vs z st' Q S R h1 q)
theorem f_reprD {K : PySem.W.Frag} : CallI K (fun xs H Q => rReprB xs H Q ∨ rReprD K xs H Q) (a1 fReprD) := call1 fun H ρ st x vx z st' Q S R h q => by
  have main : ∀ (p : Addr), vx = .ref p → (match toD st 70 x with
    | some d => if reprOk d then some (PV.str d.shown, st) else none
    | none => none) = some (z, st') → rReprD K [vx] H Q := fun p hp h => by
    split at h
    · rename_i d e
      split at h
      · rename_i hk
        cases h
        subst hp
        exact ⟨p, d, rfl, toD_dp S _ _ _ _ R e, hk, q _ H ρ Grow.refl S (by unfold Rep; rfl)⟩
      · cases h
    · cases h
  cases x with
  | bl b =>
    cases h
    unfold Rep at R
    subst R
    exact .inl ⟨b, rfl, q _ H ρ Grow.refl S (by unfold Rep; rfl)⟩
  | tup xs =>
    have R0 := R
    unfold Rep at R0
    obtain ⟨p, vs, hp, _⟩ := R0
    exact .inr (main p hp h)
  | frz xs =>
    have R0 := R
    unfold Rep at R0
    obtain ⟨p, vs, hp, _⟩ := R0
    exact .inr (main p hp h)
  | ref n =>
    have R0 := R
    unfold Rep at R0
    obtain ⟨p, hp, _⟩ := R0
    exact .inr (main p hp h)
  | _ => cases h
theorem cr_repr2 (hG : X.A.guards = some []) (hu : X.A.units + 64 < cLine) : CallR X (.builtin "repr") (fun xs H Q => rReprB xs H Q ∨ rReprD X.K xs H Q) := CallR.or cr_reprB (cr_reprD hG hu)

/-! ### == of dicts -/
def rEqK (K : PySem.W.Frag) (neg : Bool) : R2 := fun x y H Q => ∃ a b ks ls, x = .ref a ∧ y = .ref b ∧ Rd H a (.dK ks) ∧ Rd H b (.dK ls) ∧ ks.length = ls.length ∧
  (∀ p ∈ ks, ∃ v d d', valV ls p.1 = some v ∧ Dp K H p.2 d ∧ Dp K H v d' ∧ SeqAt.shaped d = true ∧ SeqAt.shaped d' = true ∧ PyData.eqv d d' = true) ∧ Q (.bl (!neg)) H
theorem hits_data {A : Around} {pins : List (Addr × Obj)} {σ : L2.St} {H : Hp} {s : Shared} (I : L2.Inv X pins σ H s) (hu : A.units + 64 < cLine) {kvs : List (Key × V)} {vb : List (Key × Value)} (rb : KV kvs vb) {ks : List (Key × V)} {va : List (Key × Value)} (ra : KV ks va) :
    (∀ p ∈ ks, ∃ v d d', valV kvs p.1 = some v ∧ Dp X.K H p.2 d ∧ Dp X.K H v d' ∧ SeqAt.shaped d = true ∧ SeqAt.shaped d' = true ∧ PyData.eqv d d' = true) → PySem.W.KeqHits A s vb va true := by
  unfold KV at ra
  induction ra with
  | nil => intro _; exact .nil
  | @cons p q ps qs h t ih =>
    intro hp
    obtain ⟨h1, h2⟩ := h
    obtain ⟨v, d, d', e, f1, f2, f3, f4, f5⟩ := hp p List.mem_cons_self
    have rr : RelO (some v) (valueAt vb p.1) := by rw [← e]; exact rb.val p.1
    obtain ⟨y, hy, ry⟩ := rr.some_of
    obtain ⟨k, w⟩ := q
    have h1' : p.1 = k := h1
    rw [h1'] at hy
    obtain ⟨as, r1⟩ := Dp.reads I d p.2 w f1 h2
    obtain ⟨bs, r2⟩ := Dp.reads I d' v y f2 ry
    have he := SeqAt.eqAt_reads d d' A s w y as bs r1 r2 (SeqAt.canLay_of_shaped f3) (SeqAt.canLay_of_shaped f4) (SeqAt.room_of_shaped f3 hu)
    rw [f5] at he
    show PySem.W.KeqHits A s vb ((k, w) :: qs) (true && true)
    exact .hit hy he (ih fun p' hm => hp p' (List.mem_cons_of_mem _ hm))
theorem objd {pins : List (Addr × Obj)} {σ : L2.St} {H : Hp} {s : Shared} {a : Addr} {ks : List (Key × V)} (I : L2.Inv X pins σ H s) (h : Rd H a (.dK ks)) : ObjOk X.prog X.w H s.heap a (.dK ks) := by
  rcases h with h | ⟨o, h⟩
  · exact I.hok a _ h
  · exact (I.hok a _ h).2
theorem op_eqK (hu : X.A.units + 65 < cLine) : OpR X (compareOp .Eq) (rEqK X.K false) := by
  intro pins s σ H x y v u Q I rx ry h
  obtain ⟨a, b, ks, ls, rfl, rfl, ea, eb, hlen, hp, q⟩ := h
  obtain rfl : v = Value.ref a := rx
  obtain rfl : u = Value.ref b := ry
  obtain ⟨_, ya, va, ra, da⟩ := (objd I ea)
  obtain ⟨_, yb, vb, rb, db⟩ := (objd I eb)
  have hl : va.length = vb.length := by rw [← ra.length, ← rb.length]; exact hlen
  exact PySem.W.keq_eq (knd := mixKind X.prog X.w) (r := true) ya yb da db (by omega) (fun _ => hits_data I (by show X.A.units + 1 + 64 < cLine; omega) rb ra hp) ⟨.bl true, H, I, by simp [hl]; rfl, q⟩
theorem op_neK (hu : X.A.units + 65 < cLine) : OpR X (compareOp .NotEq) (rEqK X.K true) := by
  intro pins s σ H x y v u Q I rx ry h
  obtain ⟨a, b, ks, ls, rfl, rfl, ea, eb, hlen, hp, q⟩ := h
  obtain rfl : v = Value.ref a := rx
  obtain rfl : u = Value.ref b := ry
  obtain ⟨_, ya, va, ra, da⟩ := (objd I ea)
  obtain ⟨_, yb, vb, rb, db⟩ := (objd I eb)
  have hl : va.length = vb.length := by rw [← ra.length, ← rb.length]; exact hlen
  exact PySem.W.keq_ne (knd := mixKind X.prog X.w) (r := true) ya yb da db (by omega) (fun _ => hits_data I (by show X.A.units + 1 + 64 < cLine; omega) rb ra hp) ⟨.bl false, H, I, by simp [hl]; rfl, q⟩
/-- the pairs of a dict, be it written any more or not -/
def pairsOf (st : Sto) : PV → Option (List (Key × PV))
  | .ref n => match st[n]? with
    | some (.dK kvs) => some kvs
    | _ => none
  | .fdk ks xs => if ks.length = xs.length then some (ks.zip xs) else none
  | _ => none
theorem repK_zip {K : PySem.W.Frag} {H : Hp} {ρ : Rho} : ∀ {ks : List Key} {xs : List PV} {vs : List (Key × V)}, ks.length = xs.length → vs.map (·.1) = ks → Reps K H ρ xs (vs.map (·.2)) → RepK K H ρ (ks.zip xs) vs
  | [], [], [], _, _, _ => rfl
  | [], [], v :: vs, _, h, _ => by simp at h
  | [], x :: xs, _, h, _, _ => by simp at h
  | k :: ks, [], _, h, _, _ => by simp at h
  | k :: ks, x :: xs, [], _, h, _ => by simp at h
  | k :: ks, x :: xs, v :: vs, h, h2, h3 => by
    simp only [List.map_cons, List.cons.injEq] at h2
    rw [List.map_cons] at h3
    unfold Reps at h3
    obtain ⟨w, r, e, h4, h5⟩ := h3
    cases e
    obtain ⟨v1, v2⟩ := v
    simp only at h2 h4
    obtain ⟨rfl, h2⟩ := h2
    exact ⟨v2, vs, rfl, h4, repK_zip (by simpa using h) h2 h5⟩
theorem pairs_rep {K : PySem.W.Frag} {H : Hp} {ρ : Rho} {st : Sto} (S : RepS K H ρ st) {x : PV} {v : V} {kvs : List (Key × PV)} (R : Rep K H ρ x v) (h : pairsOf st x = some kvs) : ∃ a vs, v = .ref a ∧ Rd H a (.dK vs) ∧ RepK K H ρ kvs vs := by
  unfold pairsOf at h
  split at h
  · split at h
    · rename_i kvs' e
      cases h
      obtain ⟨a, vs, rfl, _, _, h1, h2⟩ := S.dct R e
      exact ⟨a, vs, rfl, .of h1, h2⟩
    · cases h
  · rename_i ks xs
    split at h
    · rename_i hl
      cases h
      unfold Rep at R
      obtain ⟨a, vs, rfl, ⟨ws, h1, _, h2, h3⟩, h4⟩ := R
      subst h3
      exact ⟨a, ws, rfl, h1, repK_zip hl h2 h4⟩
    · cases h
  · cases h
/-- every value of one is that of the other one -/
def sameK (st : Sto) (kvs ls : List (Key × PV)) : Bool := decide (kvs.length = ls.length) && kvs.all fun p => match findP ls p.1 with
  | some y => eqP st p.2 y == some true
  | none => false
def eqB (st : Sto) (x y : PV) : Option Bool := match pairsOf st x, pairsOf st y with
  | some ks, some ls => if sameK st ks ls then some true else none
  | _, _ => eqP st x y
def fEqB : F2 := fun x y st => (eqB st x y).map fun b => (.bl b, st)
def fNeB : F2 := fun x y st => (eqB st x y).map fun b => (.bl (!b), st)
theorem mem_repK {K : PySem.W.Frag} {H : Hp} {ρ : Rho} : ∀ {xs : List (Key × PV)} {vs : List (Key × V)}, RepK K H ρ xs vs → ∀ p ∈ vs, ∃ x, (p.1, x) ∈ xs ∧ Rep K H ρ x p.2
  | [], vs, h, p, hp => by subst h; simp at hp
  | x :: xs, vs, h, p, hp => by
    obtain ⟨v, r, rfl, h1, h2⟩ := h
    rcases List.mem_cons.mp hp with e | hp
    · subst e
      exact ⟨x.2, List.mem_cons_self .., h1⟩
    · obtain ⟨y, h3, h4⟩ := mem_repK h2 p hp
      exact ⟨y, List.mem_cons_of_mem _ h3, h4⟩
theorem eqB_rep {K : PySem.W.Frag} {H : Hp} {ρ : Rho} {st : Sto} (S : RepS K H ρ st) {x y : PV} {v w : V} {b : Bool} (Rx : Rep K H ρ x v) (Ry : Rep K H ρ y w) (h : eqB st x y = some b) :
    (∃ d e, Dp K H v d ∧ Dp K H w e ∧ SeqAt.shaped d = true ∧ SeqAt.shaped e = true ∧ PyData.eqv d e = b) ∨
    (b = true ∧ ∃ a c ks ls, v = .ref a ∧ w = .ref c ∧ Rd H a (.dK ks) ∧ Rd H c (.dK ls) ∧ ks.length = ls.length ∧
      (∀ p ∈ ks, ∃ v d d', valV ls p.1 = some v ∧ Dp K H p.2 d ∧ Dp K H v d' ∧ SeqAt.shaped d = true ∧ SeqAt.shaped d' = true ∧ PyData.eqv d d' = true)) := by
  unfold eqB at h
  split at h
  · rename_i ks ls e1 e2
    split at h
    · rename_i hs
      cases h
      refine .inr ⟨rfl, ?_⟩
      obtain ⟨a, vs, rfl, h1, r1⟩ := pairs_rep S Rx e1
      obtain ⟨c, ws, rfl, h2, r2⟩ := pairs_rep S Ry e2
      unfold sameK at hs
      rw [Bool.and_eq_true, decide_eq_true_eq, List.all_eq_true] at hs
      refine ⟨a, c, vs, ws, rfl, rfl, h1, h2, by rw [← r1.length, ← r2.length]; exact hs.1, fun p hp => ?_⟩
      obtain ⟨z, hz, Rz⟩ := mem_repK r1 p hp
      have h3 := hs.2 _ hz
      simp only at h3
      split at h3
      · rename_i y' e3
        obtain ⟨u, hu, Ru⟩ := (find_rep (k := p.1) r2).1 _ e3
        have h4 : eqP st z y' = some true := by simpa using h3
        obtain ⟨d, e', f1, f2, f3, f4, f5⟩ := eqP_dp S Rz Ru h4
        exact ⟨u, d, e', hu, f1, f2, f3, f4, f5⟩
      · cases h3
    · cases h
  · exact .inl (eqP_dp S Rx Ry h)
theorem f_eqB {K : PySem.W.Frag} : OpI K (fun x y H Q => rEqD K x y H Q ∨ rEqK K false x y H Q) fEqB := by
  intro H ρ st x y vx vy z st' Q S Rx Ry h q
  obtain ⟨b, e0, hz⟩ := map_some h
  cases hz
  have fin := q (.bl b) H ρ Grow.refl S (by unfold Rep; rfl)
  rcases eqB_rep S Rx Ry e0 with ⟨d, e, h1, h2, h3, h4, rfl⟩ | ⟨rfl, a, c, ks, ls, h1, h2, h3, h4, h5, h6⟩
  · exact .inl ⟨d, e, h1, h2, h3, h4, fin⟩
  · exact .inr ⟨a, c, ks, ls, h1, h2, h3, h4, h5, h6, fin⟩
theorem f_neB {K : PySem.W.Frag} : OpI K (fun x y H Q => rNeD K x y H Q ∨ rEqK K true x y H Q) fNeB := by
  intro H ρ st x y vx vy z st' Q S Rx Ry h q
  obtain ⟨b, e0, hz⟩ := map_some h
  cases hz
  have fin := q (.bl (!b)) H ρ Grow.refl S (by unfold Rep; rfl)
  rcases eqB_rep S Rx Ry e0 with ⟨d, e, h1, h2, h3, h4, rfl⟩ | ⟨rfl, a, c, ks, ls, h1, h2, h3, h4, h5, h6⟩
  · exact .inl ⟨d, e, h1, h2, h3, h4, fin⟩
  · exact .inr ⟨a, c, ks, ls, h1, h2, h3, h4, h5, h6, fin⟩
theorem op_eqB (hu : X.A.units + 65 < cLine) : OpR X (compareOp .Eq) (fun x y H Q => rEqD X.K x y H Q ∨ rEqK X.K false x y H Q) := OpR.or (op_eqD (by omega)) (op_eqK hu)
theorem op_neB (hu : X.A.units + 65 < cLine) : OpR X (compareOp .NotEq) (fun x y H Q => rNeD X.K x y H Q ∨ rEqK X.K true x y H Q) := OpR.or (op_neD (by omega)) (op_neK hu)

/-! ### subscripts and membership, of dicts that are not written any more, too -/
def fSubB : F2 := fun x y st => match pairsOf st x with
  | some kvs => match keyP y with
    | some k => (findP kvs k).map fun v => (v, st)
    | none => none
  | none => fIx x y st
theorem r_subB (hu : X.A.units + 1 < cLine) (ha : PE X a (tI X.K ia)) (hb : PE X b (tI X.K ib)) (hs : PlainIx b) : PE X (.Subscript a b pos) (tI X.K (iBin fSubB ia ib)) :=
  PE.imp (PE.or (pe_ix ix_any ha hb hs) (pe_dget hu ha hb hs)) fun σ H Q ⟨env, st, ρ, z, st', E, S, h, q⟩ => by
    obtain ⟨x, s1, h1, h⟩ := ob_some h
    obtain ⟨y, s2, h2, h⟩ := ob_some h
    unfold fSubB at h
    cases e : pairsOf s2 x with
    | none =>
      rw [e] at h
      exact .inl (bin_to (f := fIx) f_ix ⟨env, st, ρ, z, st', E, S, by unfold iBin; rw [h1]; simp only [ob]; rw [h2]; exact h, q⟩)
    | some kvs =>
      rw [e] at h
      simp only at h
      split at h
      · rename_i k e2
        obtain ⟨v, e3, hz⟩ := map_some h
        cases hz
        refine .inr ⟨env, st, ρ, x, s1, E, S, h1, fun vx H1 ρ1 G1 S1 R1 => ⟨env, s1, ρ1, y, _, E.grow S G1, S1, h2, fun vy H2 ρ2 G2 S2 R2 => ?_⟩⟩
        obtain ⟨p, vs, rfl, hp, r⟩ := pairs_rep S2 (Rep.grow S1 G2 _ _ R1) e
        obtain ⟨w, hw, rw'⟩ := (find_rep (k := k) r).1 _ e3
        have hk := key_rep R2 e2
        subst hk
        exact ⟨p, w, rfl, by rw [← hw]; exact .inl ⟨_, _, hp, rfl, rfl⟩, q w H2 ρ2 (G1.trans G2) S2 rw'⟩
      · cases h
def inB (st : Sto) (x y : PV) : Option Bool := match pairsOf st y with
  | some kvs => match keyP x with
    | some k => some (findP kvs k).isSome
    | none => none
  | none => match x, y with
    | .str i, .str j => some (!(Builtin.Str.occurrences j i 0 j.length 1).isEmpty)
    | _, _ => inP st x y
def fInB : F2 := fun x y st => (inB st x y).map fun b => (.bl b, st)
def fNotInB : F2 := fun x y st => (inB st x y).map fun b => (.bl (!b), st)
theorem inB_rep {K : PySem.W.Frag} {H : Hp} {ρ : Rho} {st : Sto} (S : RepS K H ρ st) {x y : PV} {v w : V} {b : Bool} (Rx : Rep K H ρ x v) (Ry : Rep K H ρ y w) (h : inB st x y = some b) :
    (∃ p xs, w = .ref p ∧ (SqL K H p xs ∨ SqT K H p xs) ∧ flatV v = true ∧ xs.all flatV = true ∧ inV v xs = b) ∨ (∃ a o, w = .ref a ∧ DGet H a v o ∧ o.isSome = b) ∨ ∃ i j, v = .str i ∧ w = .str j ∧ (!(Builtin.Str.occurrences j i 0 j.length 1).isEmpty) = b := by
  unfold inB at h
  split at h
  · rename_i kvs e
    split at h
    · rename_i k e2
      cases h
      obtain ⟨p, vs, rfl, hp, r⟩ := pairs_rep S Ry e
      have hk := key_rep Rx e2
      subst hk
      exact .inr (.inl ⟨p, _, rfl, .inl ⟨_, _, hp, rfl, rfl⟩, (find_some r).symm⟩)
    · cases h
  · split at h
    · cases h
      unfold Rep at Rx Ry
      subst Rx Ry
      exact .inr (.inr ⟨_, _, rfl, rfl, rfl⟩)
    · exact .inl (inP_rep S Rx Ry h)
theorem f_inB {K : PySem.W.Frag} : OpI K (rInAll K) fInB := by
  intro H ρ st x y vx vy z st' Q S Rx Ry h q
  obtain ⟨b, e, hz⟩ := map_some h
  cases hz
  have fin := q (.bl b) H ρ Grow.refl S (by unfold Rep; rfl)
  rcases inB_rep S Rx Ry e with ⟨p, xs, h1, h2, h3, h4, rfl⟩ | ⟨a, o, h1, h2, rfl⟩ | ⟨i, j, h1, h2, rfl⟩
  · exact .inl ⟨p, xs, h1, h2, h3, h4, fin⟩
  · exact .inr (.inl ⟨a, o, h1, h2, fin⟩)
  · exact .inr (.inr ⟨i, j, h1, h2, fin⟩)
theorem f_notInB {K : PySem.W.Frag} : OpI K (rNotInAll K) fNotInB := by
  intro H ρ st x y vx vy z st' Q S Rx Ry h q
  obtain ⟨b, e, hz⟩ := map_some h
  cases hz
  have fin := q (.bl (!b)) H ρ Grow.refl S (by unfold Rep; rfl)
  rcases inB_rep S Rx Ry e with ⟨p, xs, h1, h2, h3, h4, rfl⟩ | ⟨a, o, h1, h2, rfl⟩ | ⟨i, j, h1, h2, rfl⟩
  · exact .inl ⟨p, xs, h1, h2, h3, h4, fin⟩
  · exact .inr (.inl ⟨a, o, h1, h2, fin⟩)
  · exact .inr (.inr ⟨i, j, h1, h2, fin⟩)
/-- len, of these dicts, too -/
def ownPairs (st : Sto) : PV → Option (List (Key × PV))
  | .ref n => match st[n]? with
    | some (.dK kvs) => some kvs
    | _ => none
  | _ => none
def fLenB : F1 := fun x st => match ownPairs st x with
  | some kvs => some (.int (kvs.length : Int), st)
  | none => fLen x st
theorem f_lenB {K : PySem.W.Frag} : CallI K (rLenA K) (a1 fLenB) := by
  intro H ρ st xs vs z st' Q S R h q
  cases xs with
  | nil => cases h
  | cons x xs =>
    cases xs with
    | cons => cases h
    | nil =>
      have h' : fLenB x st = some (z, st') := h
      unfold fLenB at h'
      split at h'
      · rename_i kvs e
        cases h'
        obtain ⟨vx, rfl, Rx⟩ := one_arg R
        obtain ⟨a, vs, rfl, h1, r⟩ : ∃ a vs, vx = .ref a ∧ H a = some (.dK vs) ∧ RepK K H ρ kvs vs := by
          unfold ownPairs at e
          split at e
          · split at e
            · rename_i kvs' e2
              cases e
              obtain ⟨a, vs, rfl, _, _, h1, h2⟩ := S.dct Rx e2
              exact ⟨a, vs, rfl, h1, h2⟩
            · cases e
          · cases e
        exact .inr ⟨a, vs, rfl, h1, by rw [← r.length]; exact q _ H ρ Grow.refl S (by unfold Rep; rfl)⟩
      · exact f_len H ρ st [x] vs z st' Q S R h' q
/-! ### a dict of the module, with texts as keys -/
structure KTab (K : PySem.W.Frag) (w : World) (mg : Str → Option Value) (x : Str) (tab : List (Str × PV)) : Prop where
  ex : ∃ (d : Addr) (es : Array DictEntry) (n : Nat), mg x = some (.ref d) ∧ KDict K w d es n ∧ (∀ z : Str, (PySem.W.nsIn K d z = some none ∧ tab.lookup z = none) ∨ ∃ (u : Value) (v : V) (y : PV), PySem.W.nsIn K d z = some (some u) ∧ tab.lookup z = some y ∧ RelV v u ∧ ∀ H ρ, Rep K H ρ y v)
def fTab (tab : List (Str × PV)) : F1 := fun x st => match x with
  | .str z => (tab.lookup z).map fun v => (v, st)
  | _ => none
def fInTab (tab : List (Str × PV)) (neg : Bool) : F1 := fun x st => match x with
  | .str z => some (.bl (xor neg (tab.lookup z).isSome), st)
  | _ => none
variable {x : Str} {p1 p2 : Pos} {tab : List (Str × PV)}
/-- NAME[e] -/
theorem j_tab (T : KTab X.K X.w X.mg x tab) (hg : Gl X x) (hb : PE X b (tI X.K ib)) (hs : PlainIx b) (hd : (x == ("__debug__" : Str)) = false := by decide) : PE X (.Subscript (.Name x p1) b pos) (tI X.K (iUn (fTab tab) ib)) := by
  obtain ⟨d, es, n, hm, D, h⟩ := T.ex
  refine PE.imp (pe_ix ix_kdict (pe_glob (v := .ref d) hg hm rfl hd) hb hs) fun σ H Q ⟨env, st, ρ, z, st', E, S, h1, q⟩ => ?_
  obtain ⟨y, s1, h2, h3⟩ := ob_some h1
  refine ⟨env, st, ρ, y, s1, E, S, h2, fun vy H1 ρ1 G1 S1 R1 => ?_⟩
  unfold fTab at h3
  split at h3
  · rename_i t
    obtain ⟨v, e, hz⟩ := map_some h3
    cases hz
    unfold Rep at R1
    subst R1
    rcases h t with ⟨_, h5⟩ | ⟨u, v', y', h4, h5, h6, h7⟩
    · rw [h5] at e; cases e
    · rw [h5] at e; cases e
      exact ⟨d, t, v', rfl, rfl, ⟨es, n, u, D.at_, D.lit, h4, h6⟩, q v' H1 ρ1 G1 S1 (h7 _ _)⟩
  · cases h3
/-- e in NAME, e not in NAME -/
theorem j_inTab (T : KTab X.K X.w X.mg x tab) (hg : Gl X x) (ha : PE X a (tI X.K ia)) (hm2 : behindInMarks .In (.Name x p1) = false := by rfl) (hd : (x == ("__debug__" : Str)) = false := by decide) : PE X (.Compare a [.In] [.Name x p1] pos) (tI X.K (iUn (fInTab tab false) ia)) := by
  obtain ⟨d, es, n, hm, D, h⟩ := T.ex
  refine PE.imp (pe_cmpR (op_in_kd D) ha (pe_glob (v := .ref d) hg hm rfl hd) hm2) fun σ H Q ⟨env, st, ρ, z, st', E, S, h1, q⟩ => ?_
  obtain ⟨y, s1, h2, h3⟩ := ob_some h1
  refine ⟨env, st, ρ, y, s1, E, S, h2, fun vy H1 ρ1 G1 S1 R1 => ?_⟩
  unfold fInTab at h3
  split at h3
  · rename_i t
    cases h3
    unfold Rep at R1
    subst R1
    rcases h t with ⟨h4, h5⟩ | ⟨u, v', y', h4, h5, h6, h7⟩
    · exact ⟨t, none, rfl, rfl, h4, q _ H1 ρ1 G1 S1 (by unfold Rep; simp [h5])⟩
    · exact ⟨t, some u, rfl, rfl, h4, q _ H1 ρ1 G1 S1 (by unfold Rep; simp [h5])⟩
  · cases h3
theorem j_notInTab (T : KTab X.K X.w X.mg x tab) (hg : Gl X x) (ha : PE X a (tI X.K ia)) (hm2 : behindInMarks .NotIn (.Name x p1) = false := by rfl) (hd : (x == ("__debug__" : Str)) = false := by decide) : PE X (.Compare a [.NotIn] [.Name x p1] pos) (tI X.K (iUn (fInTab tab true) ia)) := by
  obtain ⟨d, es, n, hm, D, h⟩ := T.ex
  refine PE.imp (pe_cmpR (op_notIn_kd D) ha (pe_glob (v := .ref d) hg hm rfl hd) hm2) fun σ H Q ⟨env, st, ρ, z, st', E, S, h1, q⟩ => ?_
  obtain ⟨y, s1, h2, h3⟩ := ob_some h1
  refine ⟨env, st, ρ, y, s1, E, S, h2, fun vy H1 ρ1 G1 S1 R1 => ?_⟩
  unfold fInTab at h3
  split at h3
  · rename_i t
    cases h3
    unfold Rep at R1
    subst R1
    rcases h t with ⟨h4, h5⟩ | ⟨u, v', y', h4, h5, h6, h7⟩
    · exact ⟨t, none, rfl, rfl, h4, q _ H1 ρ1 G1 S1 (by unfold Rep; simp [h5])⟩
    · exact ⟨t, some u, rfl, rfl, h4, q _ H1 ρ1 G1 S1 (by unfold Rep; simp [h5])⟩
  · cases h3
end
/-! ### the end of a law: called where no repr is under way -/
/-- the law's def keeps its promise at the call -/
def LawOk (P : Program) (w : World) (K : PySem.W.Frag) (mg : Str → Option Value) (base : Heap) (fa : Addr) (fd : FuncData) (x : Str) (sp : Sp) : Prop :=
  ∀ (s : Shared) (H : Hp) (u : Value) (v : V) (Q : VK), Env0 P w K mg base callerA [] s H → BindsTo s fd ⟨[u], []⟩ [(x, u)] → RelV v u → sp [v] H Q C8.E0 →
    codeAny (model P w) callerA (.call (.ref fa) ⟨[u], []⟩) (CR CX0 [] P w H s Q C8.E0) s
theorem deeper_guards {env : PySem.Env} : (callerA.deeper env).guards = some [] := rfl
/-- .. by its body, that may know that no repr is under way -/
theorem lawOk_of {P : Program} {w : World} {K : PySem.W.Frag} {mg : Str → Option Value} {base : Heap} {k : Nat} {x : Str} {st : Stmt} {f : Addr} {fd : FuncData} {N : List Str} {y : Str} {ib : IS} (hroom : Room (k + 1) callerA) (F : C8.Fun K x x st f fd) (S : FnScope N [y] (C8.fnScope st))
    (hb : ∀ (cdv : Value) (A : Around) (outer : List PySem.Env) (s : Shared) (H : Hp) (E : XK), Room k (A.deeper (envOfC x (C8.fnScope st) s.heap.objs.size f cdv)) → (A.deeper (envOfC x (C8.fnScope st) s.heap.objs.size f cdv)).guards = some [] →
      PSs (cxOf CX0 P w K mg base N x (C8.fnScope st) f cdv A outer s H E).nox (C8.fnBody st) (tIS K W0 ib)) : LawOk P w K mg base f fd y (spI K 1 (iDef 1 N.length ib)) := by
  obtain ⟨oc, od, dV, kV, doc, pm, an, cdv, ct, osl, rfl, lk, hcd⟩ := F.ex
  intro s H u v Q e0 hbind hv hsp
  have kin : K.In s.heap := e0.mod.kin.keeps fun b o e => (e0.bs b o e).1
  have lim : s.heap.NoLimit := e0.mod.nolimit.keeps fun b o e => (e0.bs b o e).1
  have kinds : ∀ z ∈ [y].zip [u], (C8.fnScope st).names.lookup z.1 = some .local ∨ ((C8.fnScope st).names.lookup z.1 = some .cell ∧ ((cellsFrom (s.heap.objs.size + 1) (C8.fnScope st).names []).lookup z.1).isSome = true) := by
    rintro ⟨n, z⟩ hz
    exact (S.par n (List.of_mem_zip hz).1).imp_right fun q => ⟨q, PySem.W.cellsFrom_some _ _ _ (.inl q)⟩
  apply codeAny_call_function hroom.depth (kin _ _ lk) rfl S.co S.gen rfl (PySem.W.codeRec_of kin hcd)
  apply hbind
  apply wpAny_newFunctionEnv_cells S.kind kinds
  intro env henv s1 inC
  subst henv
  refine ⟨lim.keeps inC.toInCall.keep, codeAny_func ?_⟩
  have body := (hb cdv callerA [] s H C8.E0 (hroom.deeper _) deeper_guards).nox
  have start := inv_start (CX := CX0) (E := C8.E0) (vs := [v]) (us := [u]) S hroom.hd e0 rfl (.cons hv .nil) inC
  refine wpAny_mono (body.run [] s1 _ H _ start (body_to (ps := [y]) hsp)) ?_ fun _ _ z => z
  rintro (_ | _ | _ | r) s' hs
  · obtain ⟨σ', H', J, q⟩ := hs
    exact ⟨.non, H', J.os, J.bare, J.base, J.hok, rfl, q⟩
  · exact False.elim hs.choose_spec.choose_spec.2
  · exact False.elim hs.choose_spec.choose_spec.2
  · obtain ⟨v', σ', H', J, rv, q⟩ := hs
    exact ⟨v', H', J.os, J.bare, J.base, J.hok, rv, q⟩
/-- the heap that the law's def sees: the script alone is tracked, unless it is the module's own -/
theorem script_heap {P : Program} {w : World} {K : PySem.W.Frag} {h : Heap} {a : Addr} {vs : List Value} {ns : List Int} (KX : K.In h) (ha : h.get? a = some { cls := .type "list", data := .seq vs.toArray }) (hi : IntsAre vs ns) (hl : ns.length ≤ sizeLine) :
    ∃ H : Hp, (∀ b u, H b = some u → b = a ∧ u = .frz { cls := .type "list", data := .seq vs.toArray } (.lst (ns.map V.int)) ∧ K.lookup a = none) ∧ SqL K H a (ns.map V.int) ∧ HOk P w H h := by
  have rv := vals_ints hi
  cases hk : K.lookup a with
  | some o =>
    have e := KX a o hk
    rw [ha] at e
    cases e
    refine ⟨fun _ => none, fun b u z => (nomatch z), .inr ⟨_, vs.toArray, _, hk, rfl, rfl, rfl, ?_, by simpa using rv⟩, fun b u z => (nomatch z)⟩
    rw [List.size_toArray, hi.length]
    exact hl
  | none =>
    refine ⟨fun b => if b = a then some (.frz { cls := .type "list", data := .seq vs.toArray } (.lst (ns.map V.int))) else none, fun b u z => ?_, .inl (.inr ⟨_, if_pos rfl⟩), fun b u z => ?_⟩
    · by_cases hb : b = a
      · refine ⟨hb, ?_, rfl⟩
        simp only [if_pos hb] at z
        exact (Option.some.inj z).symm
      · simp only [if_neg hb] at z
        cases z
    · by_cases hb : b = a
      · simp only [if_pos hb] at z
        cases z
        subst hb
        exact ⟨ha, by simpa using hl, vs, _, rv, ha⟩
      · simp only [if_neg hb] at z
        cases z
theorem law_runs {P : Program} {w : World} {K : PySem.W.Frag} {mg mb : Str → Option Value} {fa a : Addr} {fd : FuncData} {x : Str} {sp : Sp} {s : Shared} {vs : List Value} {ns : List Int} (KX : K.In s.heap) (hns : s.heap.Ns mainGlobals mg) (hb : s.heap.Ns builtinsNs mb) (hbb : ∀ x : Str, x ≠ "__name__" → mb x = bootBuiltins x)
    (hlim : s.heap.NoLimit) (hg : s.gens = #[]) (ha : s.heap.get? a = some { cls := .type "list", data := .seq vs.toArray }) (hi : IntsAre vs ns) (hl : ns.length ≤ sizeLine)
    (F : ∀ base : Heap, K.In base → base.Ns mainGlobals mg → LawOk P w K mg base fa fd x sp) (hbind : ∀ (s : Shared) (u : Value), BindsTo s fd ⟨[u], []⟩ [(x, u)])
    (hsp : ∀ H : Hp, SqL K H a (ns.map V.int) → sp [.ref a] H (fun v _ => v = .bl true) C8.E0) :
    codeAny (model P w) callerA (.call (.ref fa) ⟨[.ref a], []⟩) (fun r s' => r = .ok (.ret (.bool true)) ∧ OldK s.heap s'.heap ∧ s'.os = s.os ∧ AllBare s'.gens) s := by
  obtain ⟨H, hH, hS, hok⟩ := script_heap (P := P) (w := w) KX ha hi hl
  have out : ∀ {b : Addr} {o : Obj}, s.heap.get? b = some o → (b = a → False) → (hidT s.heap H).get? b = some o := fun {b o} e n => hidT_get e (by
    cases q : H b with
    | none => rfl
    | some u => exact (n (hH b u q).1).elim)
  have ns_ : ∀ {b : Addr} {m : Str → Option Value}, s.heap.Ns b m → (hidT s.heap H).Ns b m := by
    rintro b m ⟨o, es, ep, e, d, r⟩
    refine ⟨o, es, ep, out e fun z => ?_, d, r⟩
    subst z
    rw [ha] at e
    cases e
    exact nomatch (show Data.seq vs.toArray _ = Data.dict es ep from d)
  have kin : K.In (hidT s.heap H) := fun b o e => hidT_get (KX b o e) (by
    cases q : H b with
    | none => rfl
    | some u =>
      obtain ⟨e1, _, e3⟩ := hH b u q
      subst e1
      rw [e3] at e
      cases e)
  obtain ⟨mc, l1, l2⟩ := hlim
  have e0 : Env0 P w K mg (hidT s.heap H) callerA [] s H := {
    frames := rfl
    mod := ⟨kin, ns_ hns, ⟨mb, ns_ hb, hbb⟩, mc, ns_ l1, l2⟩
    bs := fun b o e => of_hidT e
    bsz := Nat.le_of_eq (hidT_size _ _)
    funs := trivial
    frf := fun b z => nomatch (show b ∈ ([] : List Addr) from z)
    hok := hok
    bare := .of_eq hg }
  refine codeAny_mono (F _ kin (ns_ hns) s H _ (.ref a) _ e0 (hbind s (.ref a)) rfl (hsp H hS)) ?_
  rintro (er | fl) s' h
  · exact h.elim
  · cases fl with
    | ret u =>
      obtain ⟨v, H', os, bare, un, hok', r, q⟩ := h
      cases (show v = .bl true from q)
      cases (show u = Value.bool true from r)
      refine ⟨rfl, OldK.of_keep fun b o e => ?_, os, bare⟩
      cases q : H b with
      | none => exact un.keep b o e q (fun z => nomatch (show b ∈ ([] : List Addr) from z)) (fun z => nomatch z)
      | some u =>
        obtain ⟨_, e2, _⟩ := hH b u q
        subst e2
        obtain ⟨f1, _⟩ := hok b _ q
        obtain ⟨f2, _⟩ := hok' b _ (un.frzs b _ _ q)
        rw [e] at f1
        cases f1
        exact f2
    | next => exact False.elim h
    | brk => exact False.elim h
    | cont => exact False.elim h
theorem walk_J {l : PySem.W.OpenLaw} {n : Nat} {q : Program} {loose : List Str} {XP : (Str → Option Value) → Heap → Prop} {YP : World → Heap → Prop} {d : DefRec} {K : Params → PySem.W.Frag} {sp : World → Sp} {x : Str} (hn : l.most = some n) (hn2 : n ≤ sizeLine) (hdf : d.params.defaults = [])
    (hY : ∀ (w : World) (h : Heap), YP w h → (K w.params).In h)
    (F : ∀ (w : World) (mg : Str → Option Value) (fa : Addr) (h : Heap), (K w.params).In h → h.Ns mainGlobals mg → mg d.name = some (.ref fa) →
      ∃ fd : FuncData, (∀ (s : Shared) (u : Value), BindsTo s fd ⟨[u], []⟩ [(x, u)]) ∧ ∀ base : Heap, (K w.params).In base → base.Ns mainGlobals mg → LawOk l.prog w (K w.params) mg base fa fd x (sp w))
    (hsp : ∀ (w : World) (H : Hp) (a : Addr) (ns : List Int), ns.length ≤ n → SqL (K w.params) H a (ns.map V.int) → sp w [.ref a] H (fun v _ => v = .bl true) C8.E0) :
    PySem.W.WalkO q loose XP YP l.row.toRowW d [] (fun f vs => PySem.call f vs) :=
  Att.attach_call hn hdf fun w s₀ s₁ mg mb fa o pm cd doc a vs ns G Y ho hd hcd hmg hobj hints hlen hg => by
    obtain ⟨fd, hb, hF⟩ := F w mg fa _ (hY w _ Y) G.T.g hmg
    exact law_runs (hY w _ Y) G.T.g G.T.b G.T.builtins G.T.nolimit hg hobj hints (Nat.le_trans hlen hn2) hF hb fun H hS => hsp w H a ns hlen hS
end IL
namespace IL
open PySem PySem.Spec PyProof.Rows L2
section
variable {X : Cx} {W : WX} {pos : Pos} {it : IT} {ie : IE}
theorem new_split {i : IE} {env : PEnv} {st st' : Sto} {z : PV} (h : iNew i env st = some (z, st')) : ∃ x s1, i env st = some (x, s1) ∧ ∀ {K : PySem.W.Frag} {H H1 : Hp} {ρ ρ1 : Rho} {v : V}, RepS K H ρ st → Grow H ρ H1 ρ1 → RepS K H1 ρ1 s1 → Rep K H1 ρ1 x v →
    ∃ ρ2, Grow H ρ H1 ρ2 ∧ RepS K H1 ρ2 st' ∧ Rep K H1 ρ2 z v := by
  unfold iNew iGc at h
  obtain ⟨r, h1, h2⟩ := map_some h
  obtain ⟨x, s1, h3, h4⟩ := ob_some h1
  refine ⟨x, s1, h3, fun {K H H1 ρ ρ1 v} S G S1 R => ?_⟩
  obtain ⟨ρ2, G2, S2, R2⟩ := frz_to S1 R
  rw [Option.some.inj h4] at S2 R2
  obtain ⟨ρ3, G3, S3, R3⟩ := gc_to S (G.trans G2) S2 R2
  obtain ⟨rfl, rfl⟩ := Prod.mk.inj h2
  exact ⟨ρ3, G3, S3, R3⟩
theorem s_setLcN {i : Nat} {y : Str} {py : Pos} {elt tg iter : Expr} {ifs : List Expr} {scope : Scope} {own : List (Str × Nat)} {spos : Pos} {ii : II} {T : List Nat} {ig : IG} (hy : X.N[i]? = some y) (hyl : X.env.scope.names.lookup y = some .local)
    (hsw : swapsWith (.ListComp elt [⟨tg, iter, ifs, 0⟩] scope pos) (some (.Name y py)) spos.line X.env = pure true) (hc : X.calm = true) (hN : X.N.Nodup) (hi : PI X tg iter (tII X.K ii)) (ok : BlkOk X.N X.env.scope scope own)
    (hT : ∀ i ∈ T, i ∈ own.map (·.2))
    (hg : ∀ (s : Shared) (H : Hp) (C : Addr) (cl : List (Str × Addr)) (fp : List Addr), PG (X.blk s H scope (compEnvC scope cl C X.env) fp) tg (tIG X.K T ig)) (ht : ∀ (s : Shared) (H : Hp) (C : Addr) (cl : List (Str × Addr)) (fp : List Addr), PTs (X.blk s H scope (compEnvC scope cl C X.env) fp) ifs (tIT X.K it))
    (he : ∀ (s : Shared) (H : Hp) (C : Addr) (cl : List (Str × Addr)) (fp : List Addr), PE (X.blk s H scope (compEnvC scope cl C X.env) fp) elt (tI X.K ie)) (hs : ∀ x, foldedSetIterable iter X.env x = pure x := by intro _; rfl) :
    PS X (.Assign [.Name y py] (.ListComp elt [⟨tg, iter, ifs, 0⟩] scope pos) spos) (tIS X.K W (iAsg (gN i) (iNew (iLc ii ig it ie (own.map (·.2)))))) :=
  PS.imp (ps_setLc hc hN hy hyl hsw hi ok hg ht he hs) fun D σ H ⟨env, s, ρ, f, E, S, h, q⟩ => by
    obtain ⟨x, s1, h1, h⟩ := ob_some h
    cases h
    obtain ⟨x0, s0, h2, h3⟩ := new_split h1
    refine lc_to hT ⟨env, s, ρ, x0, s0, E, S, h2, fun v H1 ρ1 G1 S1 R1 => ?_⟩
    obtain ⟨ρ2, G2, S2, R2⟩ := h3 S G1 S1 R1
    exact q _ H1 ρ2 G2 S2 ((E.grow S G2).set R2 i)
end
end IL

namespace IL
open PySem PySem.Spec PyProof.Rows L2
theorem fld_nil {K : PySem.W.Frag} {f : Str} : ∀ c ∈ ([] : List Str), KFld K c f := fun _ h => nomatch h
theorem fld_cons {K : PySem.W.Frag} {f c : Str} {cs : List Str} (h : KFld K c f) (hs : ∀ c ∈ cs, KFld K c f) : ∀ d ∈ c :: cs, KFld K d f := fun d hd => (List.mem_cons.mp hd).elim (fun e => by rw [e]; exact h) (hs d)
section
variable {P : Program} {w : World} {K : PySem.W.Frag} {mg : Str → Option Value} {base : Heap} {k n : Nat} {m : Str}
theorem tbl_nil : ∀ cf ∈ ([] : List (Str × FA)), MetJ P w K mg base k cf.1 m n cf.2 ∧ Ar n cf.2 := fun _ h => nomatch h
theorem tbl_cons {c : Str} {F : FA} {tbl : List (Str × FA)} (h : MetJ P w K mg base k c m n F) (a : Ar n F) (hs : ∀ cf ∈ tbl, MetJ P w K mg base k cf.1 m n cf.2 ∧ Ar n cf.2) : ∀ cf ∈ (c, F) :: tbl, MetJ P w K mg base k cf.1 m n cf.2 ∧ Ar n cf.2 := fun d hd => (List.mem_cons.mp hd).elim (fun e => by rw [e]; exact ⟨h, a⟩) (hs d)
end
section
variable {X : Cx} {a : Expr} {pos p1 : Pos} {ia : IE} {x : Str} {tab : List (Str × PV)}
theorem j_inTabT (T : KTab X.K X.w X.mg x tab) (hg : Gl X x) (ha : PE X a (tI X.K ia)) (hm2 : behindInMarks .In (.Name x p1) = false := by rfl) (hd : (x == ("__debug__" : Str)) = false := by decide) : PT X (.Compare a [.In] [.Name x p1] pos) (tIT X.K (iTestB (iUn (fInTab tab false) ia))) := by
  obtain ⟨d, es, n, hm, D, h⟩ := T.ex
  refine PT.imp (pt_cmpR (op_in_kd D) ha (pe_glob (v := .ref d) hg hm rfl hd) hm2) fun σ H Q hq => ?_
  obtain ⟨env, st, ρ, z, st', E, S, h1, q⟩ := testB_to hq
  obtain ⟨y, s1, h2, h3⟩ := ob_some h1
  refine ⟨env, st, ρ, y, s1, E, S, h2, fun vy H1 ρ1 G1 S1 R1 => ?_⟩
  unfold fInTab at h3
  split at h3
  · rename_i t
    cases h3
    unfold Rep at R1
    subst R1
    rcases h t with ⟨h4, h5⟩ | ⟨u, v', y', h4, h5, h6, h7⟩
    · exact ⟨t, none, rfl, rfl, h4, q _ H1 ρ1 G1 S1 (by unfold Rep; simp [h5])⟩
    · exact ⟨t, some u, rfl, rfl, h4, q _ H1 ρ1 G1 S1 (by unfold Rep; simp [h5])⟩
  · cases h3
theorem j_notInTabT (T : KTab X.K X.w X.mg x tab) (hg : Gl X x) (ha : PE X a (tI X.K ia)) (hm2 : behindInMarks .NotIn (.Name x p1) = false := by rfl) (hd : (x == ("__debug__" : Str)) = false := by decide) : PT X (.Compare a [.NotIn] [.Name x p1] pos) (tIT X.K (iTestB (iUn (fInTab tab true) ia))) := by
  obtain ⟨d, es, n, hm, D, h⟩ := T.ex
  refine PT.imp (pt_cmpR (op_notIn_kd D) ha (pe_glob (v := .ref d) hg hm rfl hd) hm2) fun σ H Q hq => ?_
  obtain ⟨env, st, ρ, z, st', E, S, h1, q⟩ := testB_to hq
  obtain ⟨y, s1, h2, h3⟩ := ob_some h1
  refine ⟨env, st, ρ, y, s1, E, S, h2, fun vy H1 ρ1 G1 S1 R1 => ?_⟩
  unfold fInTab at h3
  split at h3
  · rename_i t
    cases h3
    unfold Rep at R1
    subst R1
    rcases h t with ⟨h4, h5⟩ | ⟨u, v', y', h4, h5, h6, h7⟩
    · exact ⟨t, none, rfl, rfl, h4, q _ H1 ρ1 G1 S1 (by unfold Rep; simp [h5])⟩
    · exact ⟨t, some u, rfl, rfl, h4, q _ H1 ρ1 G1 S1 (by unfold Rep; simp [h5])⟩
  · cases h3
end
end IL

namespace IL
open PySem PySem.Spec PyProof.Rows L2
/-! ### constants of the top -/
def KVal (K : PySem.W.Frag) (u : Value) (x : PV) : Prop := ∃ v, RelV v u ∧ ∀ H ρ, Rep K H ρ x v
inductive KVals (K : PySem.W.Frag) : List Value → List PV → Prop
  | nil : KVals K [] []
  | cons {u : Value} {x : PV} {us : List Value} {xs : List PV} : KVal K u x → KVals K us xs → KVals K (u :: us) (x :: xs)
section
variable {K : PySem.W.Frag}
theorem kv_int {i : Int} {t : Tok} : KVal K (.int i t) (.int i) := ⟨.int i, ⟨t, rfl⟩, fun _ _ => by unfold Rep; rfl⟩
theorem kv_str {x y : Str} {t : Tok} (h : x = y) : KVal K (.str x t) (.str y) := ⟨.str y, ⟨t, by rw [h]⟩, fun _ _ => by unfold Rep; rfl⟩
theorem kv_bl {b : Bool} : KVal K (.bool b) (.bl b) := ⟨.bl b, rfl, fun _ _ => by unfold Rep; rfl⟩
theorem kv_non : KVal K .none .non := ⟨.non, rfl, fun _ _ => by unfold Rep; rfl⟩
theorem KVals.to : ∀ {us : List Value} {xs : List PV}, KVals K us xs → ∃ vs, Vals vs us ∧ vs.length = xs.length ∧ ∀ H ρ, Reps K H ρ xs vs
  | _, _, .nil => ⟨[], .nil, rfl, fun _ _ => by unfold Reps; rfl⟩
  | _, _, .cons h t => by
    obtain ⟨v, h1, h2⟩ := h
    obtain ⟨vs, h3, h4, h5⟩ := t.to
    exact ⟨v :: vs, .cons h1 h3, by simp [h4], fun H ρ => by unfold Reps; exact ⟨v, vs, rfl, h2 H ρ, h5 H ρ⟩⟩
theorem kv_tup {f : Addr} {od : Option Addr} {its : Array Value} {nn : Nat} {sl : Array (Option Value)} {xs : List PV} (l : K.lookup f = some ⟨.type "tuple", od, .seq its nn, sl⟩) (h : KVals K its.toList xs) (hs : xs.length ≤ sizeLine := by decide) : KVal K (.ref f) (.tup xs) := by
  obtain ⟨vs, h1, h2, h3⟩ := h.to
  refine ⟨.ref f, rfl, fun H ρ => ?_⟩
  unfold Rep
  refine ⟨f, vs, rfl, .inr ⟨_, _, _, l, rfl, rfl, ?_, h1⟩, h3 H ρ⟩
  rw [← Array.length_toList, ← h1.length, h2]
  exact hs
theorem gc_of {h : Heap} {mg : Str → Option Value} (X : K.In h) (G : h.Ns mainGlobals mg) {x : Str} {u : Value} {y : PV} (n : PySem.W.nsIn K mainGlobals x = some (some u)) (k : KVal K u y) : GC K mg x y := by
  obtain ⟨v, h1, h2⟩ := k
  exact ⟨u, v, PySem.W.mg_of X G n, h1, h2⟩
/-- the entries of a dict of the top: its keys are these texts, its values are these -/
inductive KEnts (K : PySem.W.Frag) (P : Params) : List DictEntry → List (Str × PV) → Prop
  | nil : KEnts K P [] []
  | cons {e : DictEntry} {x : Str} {y : PV} {t : Tok} {es : List DictEntry} {xs : List (Str × PV)} : e.key = .str x t → e.hash = PyData.keyHash P x → KVal K e.val y → KEnts K P es xs → KEnts K P (e :: es) ((x, y) :: xs)
theorem KEnts.lit {P : Params} : ∀ {es : List DictEntry} {xs : List (Str × PV)}, KEnts K P es xs → PySem.W.KeysLit P es
  | _, _, .nil => trivial
  | _, _, .cons a b _ t => ⟨⟨_, _, a, b⟩, t.lit⟩
theorem KEnts.find {P : Params} (z : Str) : ∀ {es : List DictEntry} {xs : List (Str × PV)}, KEnts K P es xs → es.any (·.refKey) = false ∧
    ((es.find? (·.key.isStr z) = none ∧ xs.lookup z = none) ∨ ∃ e y, es.find? (·.key.isStr z) = some e ∧ xs.lookup z = some y ∧ KVal K e.val y)
  | _, _, .nil => ⟨rfl, .inl ⟨rfl, rfl⟩⟩
  | _, _, .cons (e := e) (x := x) (y := y) (t := t) a b c r => by
    obtain ⟨h1, h2⟩ := r.find z
    refine ⟨?_, ?_⟩
    · rw [List.any_cons, h1, Bool.or_false]
      unfold DictEntry.refKey
      rw [a]
    · have hk : e.key.isStr z = (z == x) := by
        rw [a, PySem.W.isStr_of]
        unfold Value.isStrOf
        by_cases hz : z = x
        · subst hz; simp
        · have e1 : (z == x) = false := beq_eq_false_iff_ne.mpr hz
          have e2 : (x == z) = false := beq_eq_false_iff_ne.mpr fun q => hz q.symm
          rw [e1]
          exact e2
      rw [List.find?_cons, List.lookup_cons, hk]
      cases z == x with
      | true => exact .inr ⟨e, y, rfl, rfl, c⟩
      | false => exact h2
theorem ktab_of {w : World} {h : Heap} {mg : Str → Option Value} (X : K.In h) (G : h.Ns mainGlobals mg) {x : Str} {d : Addr} {es : Array DictEntry} {n : Nat} {tab : List (Str × PV)} (hn : PySem.W.nsIn K mainGlobals x = some (some (.ref d))) (l : K.lookup d = some ⟨.type "dict", none, .dict es n, #[]⟩)
    (low : (d == sysModules) = false) (k : KEnts K w.params es.toList tab) : KTab K w mg x tab := by
  refine ⟨d, es, n, PySem.W.mg_of X G hn, ⟨l, k.lit, low⟩, fun z => ?_⟩
  obtain ⟨h1, h2⟩ := k.find z
  have e : PySem.W.nsIn K d z = match es.toList.find? (·.key.isStr z) with
      | some e => some (some e.val)
      | none => if es.toList.any (·.refKey) then none else some none := by
    unfold PySem.W.nsIn
    rw [l]
    rfl
  rw [e]
  rcases h2 with ⟨h3, h4⟩ | ⟨e', y, h3, h4, v, h5, h6⟩
  · left
    rw [h3, h1]
    exact ⟨rfl, h4⟩
  · right
    rw [h3]
    exact ⟨e'.val, v, y, rfl, h4, h5, h6⟩
end
/-- the promise of a law -/
def spLaw (K : PySem.W.Frag) : Sp := fun vs H Q _ => ∃ (a : Addr) (ns : List Int), vs = [.ref a] ∧ SqL K H a (ns.map V.int) ∧ ns.length ≤ 63 ∧ ∀ H', Q (.bl true) H'
theorem reps_ints {K : PySem.W.Frag} {H : Hp} {ρ : Rho} : ∀ ns : List Int, Reps K H ρ (ns.map PV.int) (ns.map V.int)
  | [] => by simp [Reps]
  | n :: ns => by
    show Reps K H ρ (PV.int n :: ns.map PV.int) (V.int n :: ns.map V.int)
    unfold Reps
    exact ⟨_, _, rfl, by unfold Rep; rfl, reps_ints ns⟩
theorem law_sp {K : PySem.W.Frag} {F : FA} (hF : ∀ ns : List Int, ns.length ≤ 63 → ∃ s', F [.frz (ns.map .int)] [] = some (.bl true, s')) {vs : List V} {H : Hp} {Q : VK} {E : XK} (h : spLaw K vs H Q E) : spI K 1 F vs H Q E := by
  obtain ⟨a, ns, rfl, hS, hlen, q⟩ := h
  obtain ⟨s', hl⟩ := hF ns hlen
  refine ⟨rfl, [], ⟨[], []⟩, [.frz (ns.map .int)], .bl true, s', ⟨rfl, List.nodup_nil, fun n so h => by simp at h, fun n so a h => by simp at h, fun a h => by simp at h⟩, ?_, hl, fun v H' ρ' _ _ h => ?_⟩
  · unfold Reps
    refine ⟨.ref a, [], rfl, ?_, by unfold Reps; rfl⟩
    unfold Rep
    refine ⟨a, ns.map V.int, rfl, ?_, reps_ints ns⟩
    rcases hS with h | h
    · exact .inl ⟨h, .inl (by simp)⟩
    · exact .inr h
  · unfold Rep at h
    subst h
    exact q _
theorem LawOk.imp {P : Program} {w : World} {K : PySem.W.Frag} {mg : Str → Option Value} {base : Heap} {fa : Addr} {fd : FuncData} {x : Str} {sp sp' : Sp} (L : LawOk P w K mg base fa fd x sp) (h : ∀ vs H Q E, sp' vs H Q E → sp vs H Q E) : LawOk P w K mg base fa fd x sp' :=
  fun s H u v Q e b r q => L s H u v Q e b r (h _ _ _ _ q)
/-- defs, classes, by the facts of the top -/
theorem def_mk {K : PySem.W.Frag} {h : Heap} {mg : Str → Option Value} {x : Str} {st : Stmt} {f : Addr} {oc kV dc pm cd ct : Value} {od an : Option Addr} {sl : Array (Option Value)} (X : K.In h) (G : h.Ns mainGlobals mg) (a : PySem.W.nsIn K mainGlobals x = some (some (.ref f)))
    (l : K.lookup f = some ⟨oc, od, .func (PySem.W.fnOf x x (C8.fnArgs st) (C8.fnBody st) (C8.fnScope st) .none kV dc pm an cd ct), sl⟩) (c : PySem.W.codeIn K cd x = true) (k : PySem.W.keepIn K (.ref f) = true) :
    C8.Def K mg x st f (PySem.W.fnOf x x (C8.fnArgs st) (C8.fnBody st) (C8.fnScope st) .none kV dc pm an cd ct) := ⟨⟨_, _, _, _, _, _, _, _, _, _, rfl, l, c⟩, PySem.W.mg_of X G a, k⟩
theorem fun_mk0 {K : PySem.W.Frag} {x q : Str} {st : Stmt} {f : Addr} {oc kV dc pm cd ct : Value} {od an : Option Addr} {sl : Array (Option Value)}
    (l : K.lookup f = some ⟨oc, od, .func (PySem.W.fnOf x q (C8.fnArgs st) (C8.fnBody st) (C8.fnScope st) .none kV dc pm an cd ct), sl⟩) (c : PySem.W.codeIn K cd q = true) :
    C8.Fun K x q st f (PySem.W.fnOf x q (C8.fnArgs st) (C8.fnBody st) (C8.fnScope st) .none kV dc pm an cd ct) := ⟨_, _, _, _, _, _, _, _, _, _, rfl, l, c⟩
section
variable {P : Program} {w : World} {K : PySem.W.Frag} {mg : Str → Option Value} {base : Heap} {k : Nat}
theorem no_fn {n : Nat} {f : Addr} {fd : FuncData} {ps : List Str} : FnOk P w K mg base CX0 k f fd ps (spI K ps.length (fun _ _ => none)) :=
  ⟨fun vs H Q E h => h.1, fun A outer s H args us vs Q E hr e0 hb r h => by obtain ⟨_, _, _, _, _, _, _, _, q, _⟩ := h; cases q⟩
theorem cal_zero {x : Str} {st : Stmt} {f : Addr} {fd : FuncData} {ps : List Str} (F : C8.Def K mg x st f fd) (b : Binds K fd ps []) : CalJ P w K mg base k x ps.length (fun _ _ => none) :=
  ⟨f, fd, ps, [], no_fn (n := 0), F.mgf, F.kp, b, .nil⟩
theorem met_zero {c m : Str} {C f : Addr} {fd : FuncData} {ps : List Str} (hC : ClsAt K c C) (hc : Cls K C) (me : Meth K C m f) (b : Binds K fd ps []) : MetJ P w K mg base k c m ps.length (fun _ _ => none) :=
  ⟨C, hC, f, fd, ps, [], hc, me, no_fn (n := 0), b, .nil⟩
theorem mak_zero {c : Str} {C f : Addr} {fd : FuncData} {ps : List Str} (hC : ClsAt K c C) (M : Mk K C f) (hm : mg c = some (.ref C)) (b : Binds K fd ps []) : MakJ P w K mg base k c ps.length (fun _ _ => none) :=
  ⟨C, hC, f, fd, ps, [], M, no_fn (n := 0), hm, b, .nil⟩
end
end IL

/-! rules for simp, of what layer J adds; what is let go at the end of a def -/
namespace IL
open PySem PySem.Spec PyProof.Rows L2
mutual
/-- no number stands in it -/
def nr : PV → Bool
  | .tup xs => nrs xs
  | .frz xs => nrs xs
  | .fdk _ xs => nrs xs
  | .ref _ => false
  | _ => true
def nrs : List PV → Bool
  | [] => true
  | x :: xs => nr x && nrs xs
end
section
variable {st s s1 s2 : Sto} {env : PEnv} {x y z v : PV} {xs ys : List PV} {ia ib ic ie io : IE} {ir : IA} {m k n : Nat} {c f : Str}
mutual
theorem rlt_nr : ∀ (x : PV), nr x = true → rlt m x
  | .tup xs, h => by unfold nr at h; unfold rlt; exact rlts_nr xs h
  | .frz xs, h => by unfold nr at h; unfold rlt; exact rlts_nr xs h
  | .fdk _ xs, h => by unfold nr at h; unfold rlt; exact rlts_nr xs h
  | .ref _, h => by simp [nr] at h
  | .non, _ => by unfold rlt; trivial
  | .bl _, _ => by unfold rlt; trivial
  | .int _, _ => by unfold rlt; trivial
  | .str _, _ => by unfold rlt; trivial
  | .ty _, _ => by unfold rlt; trivial
theorem rlts_nr : ∀ (xs : List PV), nrs xs = true → rlts m xs
  | [], _ => by unfold rlts; trivial
  | x :: xs, h => by
    unfold nrs at h
    rw [Bool.and_eq_true] at h
    unfold rlts
    exact ⟨rlt_nr x h.1, rlts_nr xs h.2⟩
end
theorem nrs_all {xs : List PV} : (∀ x ∈ xs, nr x = true) → nrs xs = true := by
  induction xs with
  | nil => intro _; simp [nrs]
  | cons x xs ih =>
    intro h
    unfold nrs
    rw [Bool.and_eq_true]
    exact ⟨h x (List.mem_cons_self ..), ih fun y hy => h y (List.mem_cons_of_mem _ hy)⟩
theorem nrs_append {xs ys : List PV} : nrs (xs ++ ys) = (nrs xs && nrs ys) := by
  induction xs with
  | nil => simp [nrs]
  | cons x xs ih => simp [nrs, ih, Bool.and_assoc]
/-! ### what is let go -/
theorem gc_app {l : Sto} (h : rlt st.length v) : gcS st (st ++ l) v = st := by
  unfold gcS
  rw [if_pos]
  · simp
  · refine ⟨h, fun i so hi e => .inl ?_⟩
    rwa [List.getElem?_append_left hi] at e
theorem gc_id (h : rlt st.length v) : gcS st st v = st := by
  have := gc_app (l := []) h
  simpa using this
/-- what stood before is there, or was changed to what has no numbers from there on -/
theorem gc_take (h : rlt st.length v) (h2 : ∀ i so, i < st.length → s[i]? = some so → st[i]? = some so ∨ rltO st.length so) : gcS st s v = s.take st.length := by
  unfold gcS
  rw [if_pos ⟨h, h2⟩]
theorem def_rt {nN : Nat} {b : IS} (hl : xs.length = n) (h : b (xs.map some ++ List.replicate (nN - n) none) st = some (.rt v s)) : iDef n nN b xs st = some (v, gcS st s v) := by
  unfold iDef
  rw [if_pos hl, h]
theorem def_nx {nN : Nat} {b : IS} {e : PEnv} (hl : xs.length = n) (h : b (xs.map some ++ List.replicate (nN - n) none) st = some (.nx e s)) : iDef n nN b xs st = some (.non, gcS st s .non) := by
  unfold iDef
  rw [if_pos hl, h]
/-- a def that gives what has no number, and leaves the store but for what is new -/
theorem def_pure {nN : Nat} {b : IS} {l : Sto} (hl : xs.length = n) (h : b (xs.map some ++ List.replicate (nN - n) none) st = some (.rt v (st ++ l))) (hv : nr v = true) : iDef n nN b xs st = some (v, st) := by
  rw [def_rt hl h, gc_app (rlt_nr _ hv)]
theorem def_pure0 {nN : Nat} {b : IS} (hl : xs.length = n) (h : b (xs.map some ++ List.replicate (nN - n) none) st = some (.rt v st)) (hv : nr v = true) : iDef n nN b xs st = some (v, st) := by
  rw [def_rt hl h, gc_id (rlt_nr _ hv)]
@[simp] theorem frzV_tup : frzV s (.tup xs) = (.tup xs, s) := rfl
@[simp] theorem frzV_frz : frzV s (.frz xs) = (.frz xs, s) := rfl
@[simp] theorem frzV_str {a : Str} : frzV s (.str a) = (.str a, s) := rfl
@[simp] theorem frzV_int {a : Int} : frzV s (.int a) = (.int a, s) := rfl
@[simp] theorem frzV_bl {a : Bool} : frzV s (.bl a) = (.bl a, s) := rfl
@[simp] theorem frzV_non : frzV s .non = (.non, s) := rfl
theorem frzV_lst (h : s[n]? = some (.lst xs)) : frzV s (.ref n) = (.frz xs, s.set n .gone) := by simp only [frzV, h]
theorem frzV_dct {kvs : List (Key × PV)} (h : s[n]? = some (.dK kvs)) : frzV s (.ref n) = (.fdk (kvs.map (·.1)) (kvs.map (·.2)), s.set n .gone) := by simp only [frzV, h]
theorem frzV_nr (h : nr x = true) : frzV s x = (x, s) := by
  cases x with
  | ref n => simp [nr] at h
  | _ => rfl
@[simp] theorem iFrz_e : iFrz ia env st = ob (ia env st) fun x s => some (frzV s x) := rfl
theorem new_val (h : ia env st = some (x, st)) (hx : nr x = true) : iNew ia env st = some (x, st) := by
  unfold iNew iGc
  rw [iFrz_e, h, ob_s, frzV_nr hx]
  simp only [Option.map_some, gc_id (rlt_nr _ hx)]
/-- a new list -/
theorem new_at_ {l : Sto} (h : ia env st = some (.ref k, s)) (hk : s[k]? = some (.lst xs)) (hle : st.length ≤ k) (hs : s = st ++ l) (hx : rlts st.length xs) : iNew ia env st = some (.frz xs, st) := by
  unfold iNew iGc
  rw [iFrz_e, h, ob_s, frzV_lst hk]
  subst hs
  have e : (st ++ l).set k .gone = st ++ l.set (k - st.length) .gone := List.set_append_right k .gone hle
  simp only [Option.map_some, e]
  rw [gc_app (by unfold rlt; exact hx)]
theorem new_l (h : ia env st = some (.ref st.length, st ++ [.lst xs])) (hx : nrs xs = true) : iNew ia env st = some (.frz xs, st) :=
  new_at_ h new_at (Nat.le_refl _) rfl (rlts_nr _ hx)
theorem new_d {kvs : List (Key × PV)} (h : ia env st = some (.ref st.length, st ++ [.dK kvs])) (hx : nrs (kvs.map (·.2)) = true) : iNew ia env st = some (.fdk (kvs.map (·.1)) (kvs.map (·.2)), st) := by
  unfold iNew iGc
  rw [iFrz_e, h, ob_s, frzV_dct new_at]
  have e : (st ++ [SO.dK kvs]).set st.length SO.gone = st ++ [SO.dK kvs].set (st.length - st.length) SO.gone := List.set_append_right _ SO.gone (Nat.le_refl _)
  simp only [Option.map_some, e]
  rw [gc_app (by unfold rlt; exact rlts_nr _ hx)]
/-- .. where the store has changed, too -/
theorem new_ch (h : ia env st = some (.ref k, s)) (hk : s[k]? = some (.lst xs)) (hle : st.length ≤ k) (hx : nrs xs = true) (h2 : ∀ i so, i < st.length → s[i]? = some so → st[i]? = some so ∨ rltO st.length so) : iNew ia env st = some (.frz xs, s.take st.length) := by
  unfold iNew iGc
  rw [iFrz_e, h, ob_s, frzV_lst hk]
  simp only [Option.map_some]
  rw [gc_take (by unfold rlt; exact rlts_nr _ hx)]
  · congr 2
    apply List.ext_getElem?
    intro i
    rw [List.getElem?_take, List.getElem?_take]
    split
    · rw [List.getElem?_set_ne (by omega)]
    · rfl
  · intro i so hi e
    rw [List.getElem?_set_ne (by omega)] at e
    exact h2 i so hi e
/-! ### a list as it is written down -/
theorem iLst_new (h : ir env st = some (xs, st)) (hx : nrs xs = true) (hl : xs.length ≤ 9000000 := by decide) : iNew (iLst ir) env st = some (.frz xs, st) :=
  new_l (by simp [h, hl]) hx
/-! ### comparisons, items, membership, lengths -/
@[simp] theorem pairsOf_tup : pairsOf st (.tup xs) = none := rfl
@[simp] theorem pairsOf_frz : pairsOf st (.frz xs) = none := rfl
@[simp] theorem pairsOf_str {a : Str} : pairsOf st (.str a) = none := rfl
@[simp] theorem pairsOf_int {a : Int} : pairsOf st (.int a) = none := rfl
@[simp] theorem pairsOf_bl {a : Bool} : pairsOf st (.bl a) = none := rfl
@[simp] theorem pairsOf_non : pairsOf st .non = none := rfl
theorem pairsOf_lst (h : st[n]? = some (.lst xs)) : pairsOf st (.ref n) = none := by simp only [pairsOf, h]
theorem pairsOf_dct {kvs : List (Key × PV)} (h : st[n]? = some (.dK kvs)) : pairsOf st (.ref n) = some kvs := by simp only [pairsOf, h]
@[simp] theorem fEqB_e : fEqB x y st = (eqB st x y).map fun b => (.bl b, st) := rfl
@[simp] theorem fNeB_e : fNeB x y st = (eqB st x y).map fun b => (.bl (!b), st) := rfl
theorem eqB_l (h : pairsOf st x = none) : eqB st x y = eqP st x y := by
  unfold eqB
  rw [h]
theorem eqB_r (h : pairsOf st y = none) : eqB st x y = eqP st x y := by
  unfold eqB
  rw [h]
  cases pairsOf st x <;> rfl
@[simp] theorem eqB_str {a : Str} : eqB st x (.str a) = eqP st x (.str a) := eqB_r rfl
@[simp] theorem eqB_int {a : Int} : eqB st x (.int a) = eqP st x (.int a) := eqB_r rfl
@[simp] theorem eqB_bl {a : Bool} : eqB st x (.bl a) = eqP st x (.bl a) := eqB_r rfl
@[simp] theorem eqB_tup : eqB st x (.tup ys) = eqP st x (.tup ys) := eqB_r rfl
@[simp] theorem eqB_frz : eqB st x (.frz ys) = eqP st x (.frz ys) := eqB_r rfl
@[simp] theorem fSubB_t {i : Int} : fSubB (.tup xs) (.int i) st = (atI xs i).map fun v => (v, st) := rfl
@[simp] theorem fSubB_f {i : Int} : fSubB (.frz xs) (.int i) st = (atI xs i).map fun v => (v, st) := rfl
theorem fSubB_l {i : Int} (h : st[n]? = some (.lst xs)) : fSubB (.ref n) (.int i) st = (atI xs i).map fun v => (v, st) := by
  unfold fSubB
  rw [pairsOf_lst h]
  show (match itemsOf st (.ref n) with
      | some xs => (atI xs i).map fun v => (v, st)
      | none => none) = _
  rw [itemsOf_r, h]
theorem fSubB_d {kvs : List (Key × PV)} {q : Key} (h : st[n]? = some (.dK kvs)) (hk : keyP y = some q) : fSubB (.ref n) y st = (findP kvs q).map fun v => (v, st) := by
  unfold fSubB
  rw [pairsOf_dct h, hk]
@[simp] theorem keyP_s {a : Str} : keyP (.str a) = some (.inr a) := rfl
@[simp] theorem keyP_i {a : Int} : keyP (.int a) = some (.inl a) := rfl
@[simp] theorem fInB_e : fInB x y st = (inB st x y).map fun b => (.bl b, st) := rfl
@[simp] theorem fNotInB_e : fNotInB x y st = (inB st x y).map fun b => (.bl (!b), st) := rfl
@[simp] theorem inB_st {a : Str} : inB st (.str a) (.tup ys) = (mapO flatP ys).map fun ws => inV (.str a) ws := rfl
@[simp] theorem inB_sf {a : Str} : inB st (.str a) (.frz ys) = (mapO flatP ys).map fun ws => inV (.str a) ws := rfl
theorem inB_d {kvs : List (Key × PV)} {q : Key} (h : st[n]? = some (.dK kvs)) (hk : keyP x = some q) : inB st x (.ref n) = some (findP kvs q).isSome := by
  unfold inB
  rw [pairsOf_dct h, hk]
@[simp] theorem fLenB_t : fLenB (.tup xs) st = some (.int xs.length, st) := rfl
@[simp] theorem fLenB_f : fLenB (.frz xs) st = some (.int xs.length, st) := rfl
@[simp] theorem fLenB_s {a : Str} : fLenB (.str a) st = if a.length ≤ 9000000 then some (.int (a.length : Int), st) else none := by
  have e : fLenB (.str a) st = fLen (.str a) st := rfl
  rw [e, fLen_s]
theorem fLenB_l (h : st[n]? = some (.lst xs)) : fLenB (.ref n) st = some (.int xs.length, st) := by
  have e : ownPairs st (.ref n) = none := by simp only [ownPairs, h]
  unfold fLenB
  rw [e]
  exact fLen_l h
theorem fLenB_d {kvs : List (Key × PV)} (h : st[n]? = some (.dK kvs)) : fLenB (.ref n) st = some (.int kvs.length, st) := by
  have e : ownPairs st (.ref n) = some kvs := by simp only [ownPairs, h]
  unfold fLenB
  rw [e]
/-! ### attributes, methods, classes, tables -/
@[simp] theorem iFld_e {cs : List Str} : iFld cs f ia env st = ob (ia env st) fun x s1 => fFld cs f x s1 := rfl
theorem fFld_e {cs : List Str} {fs : List (Str × PV)} (h : s[n]? = some (.ins c fs)) (hc : cs.contains c = true) (hf : fs.lookup f = some v) : fFld cs f (.ref n) s = some (v, s) := by
  simp only [fFld, h, hc, hf, if_true, Option.map_some]
theorem setFld_e {cs : List Str} {fs : List (Str × PV)} (h : s[n]? = some (.ins c fs)) (hc : cs.contains c = true) (hl : fs.length < 900) : setFld cs f (.ref n) y s = some (s.set n (.ins c (putP1 f y fs))) := by
  have hl' : decide (fs.length < 900) = true := decide_eq_true hl
  simp only [setFld, h, hc, hl', Bool.and_self, if_true]
@[simp] theorem iSetFld_e {cs : List Str} : iSetFld cs f io ie env st = ob (ie env st) fun y s1 => ob (io env s1) fun x s2 => (setFld cs f x y s2).map fun s3 => .nx env s3 := rfl
theorem meth_e {tbl : List (Str × FA)} {fs : List (Str × PV)} {F : FA} {q : Str} (h1 : io env st = some (.ref n, s1)) (h2 : s1[n]? = some (.ins c fs)) (h3 : tbl.lookup c = some F) (h4 : fs.lookup q = none) : iMeth q tbl io ir env st = ob (ir env s1) fun xs s2 => F (.ref n :: xs) s2 := by
  simp only [iMeth, h1, ob_s, h2, h3, h4]
theorem make_e {F : FA} (h : ir env st = some (xs, s1)) (hF : F (.ref s1.length :: xs) (s1 ++ [.ins c []]) = some (.non, s2)) : iMake c F ir env st = some (.ref s1.length, s2) := by
  simp only [iMake, h, ob_s, hF]
@[simp] theorem fTab_s {tab : List (Str × PV)} {a : Str} : fTab tab (.str a) st = (tab.lookup a).map fun v => (v, st) := rfl
@[simp] theorem fInTab_s {tab : List (Str × PV)} {a : Str} {b : Bool} : fInTab tab b (.str a) st = some (.bl (xor b (tab.lookup a).isSome), st) := rfl
@[simp] theorem iDict0_e : (fun (_ : PEnv) (st : Sto) => some (alloc (.dK []) st)) env st = some (.ref st.length, st ++ [.dK []]) := rfl
theorem append_e (h1 : io env st = some (.ref n, s1)) (h2 : s1[n]? = some (.lst ys)) (h3 : ie env s1 = some (x, s2)) (h4 : s2[n]? = some (.lst xs)) (hl : xs.length < 9000000) : iAppend io ie env st = some (.non, s2.set n (.lst (xs ++ [x]))) := by
  simp only [iAppend, h1, ob_s, h2, h3, h4, hl, if_true]
theorem fSetA_d {kvs : List (Key × PV)} {q : Key} (h : st[n]? = some (.dK kvs)) (hk : keyP y = some q) (hn : nodupK kvs = true) (hl : kvs.length < 9000000) : fSetA (.ref n) y v st = some (st.set n (.dK (putP kvs q v))) := by
  have hl' : decide (kvs.length < 9000000) = true := decide_eq_true hl
  simp only [fSetA, h, hk, hn, hl', Bool.and_self, if_true]
end
end IL

/-! how long data are when they are written; data that are good for ==, repr and to be let go -/
namespace IL
open PySem PySem.Spec PyProof.Rows L2
mutual
/-- at most so many signs -/
def wt : PV → Nat
  | .str x => 10 * x.length + 2
  | .int i => if i.natAbs < 10 ^ 30 then 31 else 10 ^ 9
  | .tup xs => 4 + wts xs
  | .frz xs => 4 + wts xs
  | _ => 5
def wts : List PV → Nat
  | [] => 0
  | x :: xs => wt x + 2 + wts xs
end
theorem textFrom_le : ∀ (ts : List Str) (k : Nat) (acc : Str), (textFrom k acc ts).length ≤ acc.length + piled ts
  | [], _, acc => Nat.le_refl _
  | t :: r, k, acc => by
    have ih := textFrom_le r (k + 1) (acc ++ (if k > 0 then ", " else "" : String) ++ t)
    have e : (acc ++ (if k > 0 then ", " else "" : String) ++ t).length ≤ acc.length + 2 + t.length := by
      rw [strLen_append, strLen_append]
      split
      · exact Nat.le_refl _
      · show acc.length + 0 + t.length ≤ _
        omega
    rw [piled_cons]
    show (textFrom (k + 1) _ r).length ≤ _
    omega
theorem listText_le (ts : List Str) : (listText ts).length ≤ piled ts + 2 := by
  unfold listText
  rw [strLen_append]
  have h := textFrom_le ts 0 "["
  have e1 : ((("[" : String) : Str)).length = 1 := rfl
  have e2 : ((("]" : String) : Str)).length = 1 := rfl
  omega
theorem tupleText_le (ts : List Str) : (tupleText ts).length ≤ piled ts + 4 := by
  unfold tupleText
  rw [strLen_append, strLen_append]
  have e1 : ((("(" : String) : Str)).length = 1 := rfl
  have e3 : (((if ts.length == 1 then ",)" else ")" : String) : Str)).length ≤ 2 := by split <;> decide
  by_cases h : ts = []
  · subst h
    have : (Str.join ", " ([] : List Str)).length = 0 := rfl
    omega
  · have := join_length_add ts h
    omega
mutual
theorem shown_le : ∀ (x : PV) (n : Nat), gd x n = true → wt x < 10 ^ 9 → (datP x).shown.length ≤ wt x
  | .non, _, _, _ => by show (("None" : Str)).length ≤ wt .non; simp only [wt]; decide
  | .bl true, _, _, _ => by show (("True" : Str)).length ≤ wt (.bl true); simp only [wt]; decide
  | .bl false, _, _, _ => by show (("False" : Str)).length ≤ wt (.bl false); simp only [wt]; decide
  | .int i, _, _, hw => by
    show ((toString i : String) : Str).length ≤ wt (.int i)
    unfold wt at hw ⊢
    split
    · rename_i h
      rw [PySem.ofString_length]
      exact int_text_length_le10 (k := 30) (by decide) h
    · rename_i h
      rw [if_neg h] at hw
      omega
  | .str x, n, h, _ => by
    unfold gd at h
    show (reprText x).length ≤ wt (.str x)
    unfold wt
    refine StrLaws.reprText_len x fun c hc => ?_
    unfold PyData.strOk at h
    rw [Array.all_eq_true_iff_forall_mem] at h
    have := of_decide_eq_true (h c (by simpa using hc))
    omega
  | .tup xs, n, h, hw => by
    unfold gd at h
    rw [Bool.and_eq_true] at h
    show (tupleText (PyData.shownAll (datPs xs))).length ≤ wt (.tup xs)
    have h1 := tupleText_le (PyData.shownAll (datPs xs))
    unfold wt at hw ⊢
    have h2 := showns_le xs _ h.2 (by omega)
    omega
  | .frz xs, n, h, hw => by
    unfold gd at h
    rw [Bool.and_eq_true] at h
    show (listText (PyData.shownAll (datPs xs))).length ≤ wt (.frz xs)
    have h1 := listText_le (PyData.shownAll (datPs xs))
    unfold wt at hw ⊢
    have h2 := showns_le xs _ h.2 (by omega)
    omega
  | .ref _, _, h, _ => by simp [gd] at h
  | .ty _, _, h, _ => by simp [gd] at h
  | .fdk _ _, _, h, _ => by simp [gd] at h
theorem showns_le : ∀ (xs : List PV) (n : Nat), gds xs n = true → wts xs < 10 ^ 9 → piled (PyData.shownAll (datPs xs)) ≤ wts xs
  | [], _, _, _ => by show piled [] ≤ _; rw [piled_nil]; exact Nat.zero_le _
  | x :: xs, n, h, hw => by
    unfold gds at h
    rw [Bool.and_eq_true] at h
    show piled ((datP x).shown :: PyData.shownAll (datPs xs)) ≤ wts (x :: xs)
    rw [piled_cons]
    unfold wts at hw ⊢
    have h1 := shown_le x n h.1 (by omega)
    have h2 := showns_le xs n h.2 (by omega)
    omega
end
mutual
theorem dat_ok : ∀ (x : PV) (n : Nat), gd x n = true → wt x < 10 ^ 9 → (datP x).showable = true ∧ (datP x).hasDict = false
  | .non, _, _, _ => ⟨by simp [datP, PyData.showable], by simp [datP, PyData.hasDict]⟩
  | .bl b, _, _, _ => ⟨by simp [datP, PyData.showable], by simp [datP, PyData.hasDict]⟩
  | .str b, _, _, _ => ⟨by simp [datP, PyData.showable], by simp [datP, PyData.hasDict]⟩
  | .int i, _, _, hw => by
    refine ⟨?_, by simp [datP, PyData.hasDict]⟩
    unfold wt at hw
    have h : i.natAbs < 10 ^ 30 := by
      by_cases h : i.natAbs < 10 ^ 30
      · exact h
      · rw [if_neg h] at hw; omega
    show decide (i.natAbs.log2 < 1920) = true
    exact decide_eq_true (Nat.lt_of_lt_of_le (PySem.Flt.log2_lt_of (by decide) (Nat.lt_of_lt_of_le h (by decide : 10 ^ 30 ≤ 2 ^ 100))) (by decide))
  | .tup xs, n, h, hw => by
    unfold gd at h
    rw [Bool.and_eq_true] at h
    unfold wt at hw
    obtain ⟨a, b⟩ := dats_ok xs _ h.2 (by omega)
    exact ⟨by simp only [datP, PyData.showable]; exact a, by simp only [datP, PyData.hasDict]; exact b⟩
  | .frz xs, n, h, hw => by
    unfold gd at h
    rw [Bool.and_eq_true] at h
    unfold wt at hw
    obtain ⟨a, b⟩ := dats_ok xs _ h.2 (by omega)
    exact ⟨by simp only [datP, PyData.showable]; exact a, by simp only [datP, PyData.hasDict]; exact b⟩
  | .ref _, _, h, _ => by simp [gd] at h
  | .ty _, _, h, _ => by simp [gd] at h
  | .fdk _ _, _, h, _ => by simp [gd] at h
theorem dats_ok : ∀ (xs : List PV) (n : Nat), gds xs n = true → wts xs < 10 ^ 9 → PyData.showableAll (datPs xs) = true ∧ PyData.hasDictAll (datPs xs) = false
  | [], _, _, _ => ⟨by simp [datPs, PyData.showableAll], by simp [datPs, PyData.hasDictAll]⟩
  | x :: xs, n, h, hw => by
    unfold gds at h
    rw [Bool.and_eq_true] at h
    unfold wts at hw
    obtain ⟨a, b⟩ := dat_ok x n h.1 (by omega)
    obtain ⟨c, d⟩ := dats_ok xs n h.2 (by omega)
    exact ⟨by simp only [datPs, PyData.showableAll, a, c, Bool.and_self], by simp only [datPs, PyData.hasDictAll, b, d, Bool.or_self]⟩
end
/-- data: no deeper than n, no longer than w when they are written -/
structure Gd (n w : Nat) (x : PV) : Prop where
  g : gd x n = true
  r : nr x = true
  w : wt x ≤ w
structure Gds (n w : Nat) (xs : List PV) : Prop where
  g : gds xs n = true
  r : nrs xs = true
  w : wts xs ≤ w
mutual
theorem gd_mono : ∀ (x : PV) {n m : Nat}, gd x n = true → n ≤ m → gd x m = true
  | .non, _, _, _, _ => by simp [gd]
  | .bl b, _, _, _, _ => by simp [gd]
  | .int b, _, _, _, _ => by simp [gd]
  | .str b, _, _, h, _ => by simpa [gd] using h
  | .tup xs, n, m, h, hm => by
    unfold gd at h ⊢
    rw [Bool.and_eq_true, decide_eq_true_eq] at h ⊢
    exact ⟨by omega, gds_mono xs h.2 (by omega)⟩
  | .frz xs, n, m, h, hm => by
    unfold gd at h ⊢
    rw [Bool.and_eq_true, decide_eq_true_eq] at h ⊢
    exact ⟨by omega, gds_mono xs h.2 (by omega)⟩
  | .ref _, _, _, h, _ => by simp [gd] at h
  | .ty _, _, _, h, _ => by simp [gd] at h
  | .fdk _ _, _, _, h, _ => by simp [gd] at h
theorem gds_mono : ∀ (xs : List PV) {n m : Nat}, gds xs n = true → n ≤ m → gds xs m = true
  | [], _, _, _, _ => by simp [gds]
  | x :: xs, n, m, h, hm => by
    unfold gds at h ⊢
    rw [Bool.and_eq_true] at h ⊢
    exact ⟨gd_mono x h.1 hm, gds_mono xs h.2 hm⟩
end
theorem Gd.mono {n m w v : Nat} {x : PV} (h : Gd n w x) (hn : n ≤ m) (hw : w ≤ v) : Gd m v x := ⟨gd_mono x h.g hn, h.r, Nat.le_trans h.w hw⟩
theorem Gds.mono {n m w v : Nat} {xs : List PV} (h : Gds n w xs) (hn : n ≤ m) (hw : w ≤ v) : Gds m v xs := ⟨gds_mono xs h.g hn, h.r, Nat.le_trans h.w hw⟩
theorem Gds.nil {n w : Nat} : Gds n w [] := ⟨by simp [gds], by simp [nrs], by simp [wts]⟩
theorem Gds.cons {n w v : Nat} {x : PV} {xs : List PV} (h : Gd n w x) (t : Gds n v xs) : Gds n (w + 2 + v) (x :: xs) := by
  refine ⟨?_, ?_, ?_⟩
  · unfold gds; rw [h.g, t.g]; rfl
  · unfold nrs; rw [h.r, t.r]; rfl
  · unfold wts; have := h.w; have := t.w; omega
theorem Gds.append {n w v : Nat} {xs ys : List PV} (h : Gds n w xs) (t : Gds n v ys) : Gds n (w + v) (xs ++ ys) := by
  induction xs generalizing w with
  | nil => exact t.mono (Nat.le_refl _) (by omega)
  | cons x xs ih =>
    obtain ⟨g, r, hw⟩ := h
    unfold gds at g
    unfold nrs at r
    unfold wts at hw
    rw [Bool.and_eq_true] at g r
    have i := ih (w := wts xs) ⟨g.2, r.2, Nat.le_refl _⟩
    exact (Gds.cons (w := wt x) ⟨g.1, r.1, Nat.le_refl _⟩ i).mono (Nat.le_refl _) (by omega)
theorem Gd.tup {n w : Nat} {xs : List PV} (h : Gds n w xs) : Gd (n + 1) (w + 4) (.tup xs) := by
  refine ⟨?_, ?_, ?_⟩
  · unfold gd; rw [Nat.add_sub_cancel, h.g]; simp
  · unfold nr; exact h.r
  · unfold wt; have := h.w; omega
theorem Gd.frz {n w : Nat} {xs : List PV} (h : Gds n w xs) : Gd (n + 1) (w + 4) (.frz xs) := by
  refine ⟨?_, ?_, ?_⟩
  · unfold gd; rw [Nat.add_sub_cancel, h.g]; simp
  · unfold nr; exact h.r
  · unfold wt; have := h.w; omega
theorem Gd.str {n w : Nat} {x : Str} (h : PyData.strOk x = true) (hw : 10 * x.length + 2 ≤ w) : Gd n w (.str x) := ⟨by simpa [gd] using h, by simp [nr], by simpa [wt] using hw⟩
theorem Gd.int {n w : Nat} {i : Int} (h : i.natAbs < 10 ^ 30) (hw : 31 ≤ w) : Gd n w (.int i) := ⟨by simp [gd], by simp [nr], by unfold wt; rw [if_pos h]; exact hw⟩
theorem Gd.bl {n w : Nat} {b : Bool} (hw : 5 ≤ w) : Gd n w (.bl b) := ⟨by simp [gd], by simp [nr], by simpa [wt] using hw⟩
theorem Gds.all {n w : Nat} : ∀ {xs : List PV}, (∀ x ∈ xs, Gd n w x) → Gds n (xs.length * (w + 2)) xs
  | [], _ => Gds.nil
  | x :: xs, h => by
    have := Gds.cons (h x (List.mem_cons_self ..)) (Gds.all fun y hy => h y (List.mem_cons_of_mem _ hy))
    refine this.mono (Nat.le_refl _) ?_
    rw [List.length_cons, Nat.succ_mul]
    omega
theorem Gds.mem {n w : Nat} : ∀ {xs : List PV}, Gds n w xs → ∀ x ∈ xs, Gd n w x
  | x :: xs, h, y, hy => by
    obtain ⟨g, r, hw⟩ := h
    unfold gds at g
    unfold nrs at r
    unfold wts at hw
    rw [Bool.and_eq_true] at g r
    rcases List.mem_cons.mp hy with e | hy
    · subst e
      exact ⟨g.1, r.1, by omega⟩
    · exact Gds.mem ⟨g.2, r.2, by omega⟩ y hy
theorem repr_gd {n w : Nat} {x : PV} {st : Sto} (h : Gd n w x) (hn : n ≤ 60) (hw : w ≤ 16000000) : reprOk (datP x) = true ∧ toD st 70 x = some (datP x) := by
  obtain ⟨h1, h2, h3⟩ := gd_dat (st := st) x n 70 h.g (by omega)
  have hw' : wt x < 10 ^ 9 := Nat.lt_of_le_of_lt (Nat.le_trans h.w hw) (by decide)
  obtain ⟨h4, h5⟩ := dat_ok x n h.g hw'
  have h6 := shown_le x n h.g hw'
  have := h.w
  refine ⟨?_, h1⟩
  unfold reprOk
  simp only [Bool.and_eq_true, Bool.not_eq_true', decide_eq_true_eq]
  exact ⟨⟨⟨h4, h5⟩, by omega⟩, by omega⟩
theorem repr_frz {n w : Nat} {xs : List PV} {st : Sto} (h : Gd n w (.frz xs)) (hn : n ≤ 60) (hw : w ≤ 16000000) : fReprD (.frz xs) st = some (.str (datP (.frz xs)).shown, st) := by
  obtain ⟨h1, h2⟩ := repr_gd (st := st) h hn hw
  simp only [fReprD, h2, h1, if_true]
theorem repr_tup {n w : Nat} {xs : List PV} {st : Sto} (h : Gd n w (.tup xs)) (hn : n ≤ 60) (hw : w ≤ 16000000) : fReprD (.tup xs) st = some (.str (datP (.tup xs)).shown, st) := by
  obtain ⟨h1, h2⟩ := repr_gd (st := st) h hn hw
  simp only [fReprD, h2, h1, if_true]
end IL

/-! rules for simp, of values that are new and not written -/
namespace IL
open PySem PySem.Spec PyProof.Rows L2
section
variable {st s s1 s2 : Sto} {env : PEnv} {x y z v : PV} {xs ys : List PV} {ia ib ic ie io : IE} {ir : IA} {m k n : Nat} {c f : Str}
theorem iNew_e : iNew ia env st = (ob (ia env st) fun x s => some (frzV s x)).map fun r => (r.1, gcS st r.2 r.1) := rfl
@[simp] theorem frzV_newl : frzV (s ++ [.lst xs]) (.ref s.length) = (.frz xs, s ++ [.gone]) := by
  rw [frzV_lst new_at]
  congr 1
  have := List.set_append_right (s := s) (t := [SO.lst xs]) s.length SO.gone (Nat.le_refl _)
  rw [this]
  simp
@[simp] theorem frzV_newd {kvs : List (Key × PV)} : frzV (s ++ [.dK kvs]) (.ref s.length) = (.fdk (kvs.map (·.1)) (kvs.map (·.2)), s ++ [.gone]) := by
  rw [frzV_dct new_at]
  congr 1
  have := List.set_append_right (s := s) (t := [SO.dK kvs]) s.length SO.gone (Nat.le_refl _)
  rw [this]
  simp
theorem gcS_nr {l : Sto} (h : nr v = true) : gcS st (st ++ l) v = st := gc_app (rlt_nr _ h)
theorem gcS_nr0 (h : nr v = true) : gcS st st v = st := gc_id (rlt_nr _ h)
theorem gcS_same (h : s.length = st.length) : gcS st s v = s := by
  unfold gcS
  split
  · rw [← h, List.take_length]
  · rfl
theorem def_same {nN : Nat} {b : IS} (hl : xs.length = n) (h : b (xs.map some ++ List.replicate (nN - n) none) st = some (.rt v s)) (he : s.length = st.length) : iDef n nN b xs st = some (v, s) := by
  rw [def_rt hl h, gcS_same he]
theorem def_same0 {nN : Nat} {b : IS} {e : PEnv} (hl : xs.length = n) (h : b (xs.map some ++ List.replicate (nN - n) none) st = some (.nx e s)) (he : s.length = st.length) : iDef n nN b xs st = some (.non, s) := by
  rw [def_nx hl h, gcS_same he]
@[simp] theorem fAdd_f : fAdd (.frz xs) (.frz ys) st = if xs.length + ys.length ≤ 9000000 then some (.ref st.length, st ++ [.lst (xs ++ ys)]) else none := rfl
theorem fAdd_l (h : st[n]? = some (.lst xs)) : fAdd (.ref n) (.frz ys) st = if xs.length + ys.length ≤ 9000000 then some (.ref st.length, st ++ [.lst (xs ++ ys)]) else none := by
  show (match listOf st (.ref n), listOf st (.frz ys) with
    | some a, some b => if a.length + b.length ≤ 9000000 then some (alloc (.lst (a ++ b)) st) else none
    | _, _ => none) = _
  simp only [listOf, h]
  rfl
theorem findP_put {v : PV} {k : Key} : ∀ {kvs : List (Key × PV)} {j : Key}, findP (putP kvs k v) j = if j = k then some v else findP kvs j
  | [], j => by
    by_cases h : j = k
    · simp [putP, findP, h]
    · simp [putP, findP, h, Ne.symm h]
  | p :: r, j => by
    have ih := findP_put (v := v) (k := k) (kvs := r) (j := j)
    by_cases h : j = k <;> by_cases h2 : p.1 = k <;> by_cases h3 : p.1 = j <;> simp_all [putP, findP]
@[simp] theorem findP_put_self {v : PV} {k : Key} {kvs : List (Key × PV)} : findP (putP kvs k v) k = some v := by rw [findP_put, if_pos rfl]
end
end IL

/-! a dict that nobody writes is walked -/
namespace IL
open PySem PySem.Spec PyProof.Rows L2
def kPV : Key → PV
  | .inl i => .int i
  | .inr x => .str x
section
variable {X : Cx} {W : WX} {pos : Pos} {ia : IS}
/-- a walk over src, however it is read -/
theorem for_core {K : PySem.W.Frag} {src : Src} {J : It} {H1 : Hp} {ρ1 : Rho} {D : L2.Ends} {ig : IG} {T : List Nat} {env : PEnv} {σ : L2.St} {s1 : Sto} {f : Fl} (O : SrcOk K src J H1 ρ1) (E : RepE K H1 ρ1 env σ) (S1 : RepS K H1 ρ1 s1) (h : loop src.at_ ig ia (src.n + 1) 0 env s1 = some f) (q : PostF K W D H1 ρ1 f) :
    ∃ W2 : Nat → Nat → L2.St → Hp → Prop, (∃ m, W2 0 m σ H1) ∧ ∀ (i m : Nat) (σ : L2.St) (H : Hp), W2 i m σ H → J.stop i H ∧ D.nx σ H ∨ J.go i H ∧ ∃ N : L2.St → Hp → Prop, (∀ (σ' : L2.St) (H' : Hp), N σ' H' → ∃ m', m' < m ∧ W2 (i + 1) m' σ' H') ∧
      ∀ (x : V) (H' : Hp), J.yld i H x H' → tIG K T ig x σ H' fun σ2 H2 => tIS K W ia { nx := N, rt := D.rt, bk := D.nx, ct := N } σ2 H2 := by
    refine ⟨fun i m σ' H' => ∃ env' st' ρ' f', Grow H1 ρ1 H' ρ' ∧ RepE K H' ρ' env' σ' ∧ RepS K H' ρ' st' ∧ loop src.at_ ig ia m i env' st' = some f' ∧ PostF K W D H' ρ' f', ⟨src.n + 1, env, s1, ρ1, f, Grow.refl, E, S1, h, q⟩, ?_⟩
    rintro i m σ' H' ⟨env', st', ρ', f', G', E', S', hl, q'⟩
    cases m with
    | zero => cases hl
    | succ m =>
      unfold loop at hl
      obtain ⟨o1, o2⟩ := O H' ρ' st' G' S' i
      split at hl
      · cases hl
      · rename_i e1
        cases hl
        exact .inl ⟨o1 e1, q' σ' H' ρ' Grow.refl S' E'⟩
      · rename_i x e1
        obtain ⟨go, yl⟩ := o2 x e1
        split at hl
        · cases hl
        · rename_i env1 e2
          refine .inr ⟨go, fun σ2 H2 => ∃ m', m' < m + 1 ∧ ∃ env' st' ρ' f', Grow H1 ρ1 H2 ρ' ∧ RepE K H2 ρ' env' σ2 ∧ RepS K H2 ρ' st' ∧ loop src.at_ ig ia m' (i + 1) env' st' = some f' ∧ PostF K W D H2 ρ' f', fun σ2 H2 n => n, fun v H2 y => ?_⟩
          obtain ⟨ρ2, G2, S2, R2⟩ := yl v H2 y
          refine ⟨env', st', ρ2, x, env1, E'.grow S' G2, S2, R2, e2, fun σ3 E3 _ _ => ?_⟩
          cases e3 : ia env1 st' with
          | none => rw [e3] at hl; cases hl
          | some fl =>
            rw [e3] at hl
            refine ⟨env1, st', ρ2, fl, E3, S2, e3, ?_⟩
            cases fl with
            | nx e s => exact fun σ4 H4 ρ4 G4 S4 E4 => ⟨m, Nat.lt_succ_self m, e, s, ρ4, f', (G'.trans G2).trans G4, E4, S4, hl, q'.grow (G2.trans G4)⟩
            | ct e s => exact fun σ4 H4 ρ4 G4 S4 E4 => ⟨m, Nat.lt_succ_self m, e, s, ρ4, f', (G'.trans G2).trans G4, E4, S4, hl, q'.grow (G2.trans G4)⟩
            | bk e s => cases hl; exact fun σ4 H4 ρ4 G4 S4 E4 => q' σ4 H4 ρ4 (G2.trans G4) S4 E4
            | rt v s => cases hl; exact fun v H4 ρ4 G4 S4 R4 => q' v H4 ρ4 (G2.trans G4) S4 R4
            | er e c fs s => cases hl; exact fun C d σ4 H4 ρ4 vs hc G4 => q' C d σ4 H4 ρ4 vs hc (G2.trans G4)
theorem srcK_ok {K : PySem.W.Frag} {H0 : Hp} {ρ0 : Rho} {d : Addr} {od : Obj} {kvs : List (Key × V)} (h : H0 d = some (.frz od (.dK kvs))) (sd : ρ0.Safe d) : SrcOk K (srcT ((kvs.map (·.1)).map kPV)) (Itk d od kvs) H0 ρ0 := fun H ρ st G S i => by
  have h1 := G.lck d od _ sd h
  refine ⟨fun hs => ?_, fun x hs => ?_⟩
  · simp only [srcT, Option.some.injEq, List.getElem?_eq_none_iff, List.length_map] at hs
    exact ⟨h1, hs⟩
  · simp only [srcT, Option.some.injEq, List.getElem?_map, Option.map_eq_some_iff] at hs
    obtain ⟨k, ⟨p, hp, rfl⟩, rfl⟩ := hs
    refine ⟨⟨h1, (List.getElem?_eq_some_iff.mp hp).1⟩, fun w H' y => ?_⟩
    obtain ⟨rfl, k, v, e, rfl⟩ := y
    rw [hp] at e; cases e
    refine ⟨ρ, Grow.refl, S, ?_⟩
    cases k <;> (unfold kPV Rep; rfl)
def iForK (i : Nat) (ig : IG) (body : IS) : IS := fun env st => match env[i]? with
  | some (some (.fdk ks _)) => loop (srcT (ks.map kPV)).at_ ig body (ks.length + 1) 0 env st
  | _ => none
theorem PS.or {st : Stmt} {t t' : TS} (h : PS X st t) (h' : PS X st t') : PS X st (fun D σ H => t D σ H ∨ t' D σ H) := ⟨fun pins s σ H D I q => q.elim (h.run pins s σ H D I) (h'.run pins s σ H D I)⟩
theorem rd_lock {H : Hp} {d : Addr} {od : Obj} {u : HO} (h : H d = some u) (hu : NF u) : ∀ a w, NF w → Rd H a w → Rd (upd H d (.frz od u)) a w := fun a w hw r => by
  by_cases e : a = d
  · subst e
    rcases r with r | ⟨o, r⟩
    · rw [h] at r; cases r
      exact .inr ⟨od, upd_same⟩
    · rw [h] at r; cases r
      exact absurd hu (by simp [NF])
  · unfold Rd at r ⊢
    rw [upd_ne e]; exact r
theorem rd_unlock {H : Hp} {d : Addr} {od : Obj} {u : HO} (h : H d = some (.frz od u)) : ∀ a w, NF w → Rd H a w → Rd (upd H d u) a w := fun a w hw r => by
  by_cases e : a = d
  · subst e
    rcases r with r | ⟨o, r⟩
    · rw [h] at r; cases r
      exact absurd hw (by simp [NF])
    · rw [h] at r; cases r
      exact .inl upd_same
  · unfold Rd at r ⊢
    rw [upd_ne e]; exact r
theorem grow_lock {H : Hp} {ρ : Rho} {d : Addr} {od : Obj} {u : HO} (h : H d = some u) (hu : NF u) : Grow H ρ (upd H d (.frz od u)) ρ :=
  ⟨⟨[], by simp, fun _ h => by simp at h⟩, fun _ h => h, fun b w hw _ r => rd_lock h hu b w hw r, fun b e => by
    by_cases hb : b = d
    · subst hb; rw [upd_same] at e; cases e
    · rw [upd_ne hb] at e; exact e, fun b o w _ e => by
    have hb : b ≠ d := fun z => by
      rw [z, h] at e; cases e
      exact hu
    rw [upd_ne hb]; exact e⟩
/-- locked, walked, unlocked -/
theorem grow_locked {H H2 : Hp} {ρ ρ2 : Rho} {d : Addr} {od : Obj} {u : HO} (h : H d = some u) (hu : NF u) (g : Grow (upd H d (.frz od u)) ρ H2 ρ2) (h2 : H2 d = some (.frz od u)) : Grow H ρ (upd H2 d u) ρ2 := by
  have G := (grow_lock (ρ := ρ) (od := od) h hu).trans g
  refine ⟨G.ext, G.ded, fun b w hw sb r => rd_unlock h2 b w hw (G.keep b w hw sb r), fun b e => ?_, fun b o w sb e => ?_⟩
  · by_cases hb : b = d
    · subst hb; rw [upd_same] at e; cases e
    · rw [upd_ne hb] at e; exact G.dom b e
  · have hb : b ≠ d := fun z => by
      rw [z, h] at e; cases e
      exact hu
    rw [upd_ne hb]; exact G.lck b o w sb e
theorem s_forK {iter tg : Expr} {body : List Stmt} {i : Nat} {T : List Nat} {ig : IG} (hp : PassesOwn (model X.prog X.w) X.A X.env X.xe) (hc : X.calm = true) (he : PE X iter (tVar i)) (hg : PG X tg (tIG X.K T ig)) (hb : PSs X body (tIS X.K W ia))
    (hs : ∀ x, foldedSetIterable iter X.env x = pure x := by intro _; rfl) : PS X (.For tg iter body [] pos) (tIS X.K W (iForK i ig ia)) :=
  PS.imp (PS.or (ps_lock (ps_for hp hc (pi_keys he) hg hb hs)) (ps_for hp hc (pi_keys he) hg hb hs)) fun D σ H ⟨env, s, ρ, f, E, S, h, q⟩ => by
    unfold iForK at h
    split at h
    · rename_i ks xs e
      obtain ⟨v, hv, R⟩ := E.at_ i _ e
      unfold Rep at R
      obtain ⟨d, vs, rfl, ⟨kvs, rd, sd, hk, hvs⟩, _⟩ := R
      subst hk
      have hn : (srcT ((kvs.map (·.1)).map kPV)).n = (kvs.map (·.1)).length := by simp [srcT]
      rcases rd with rd | ⟨od, rd⟩
      · refine .inl ⟨d, .dK kvs, rd, trivial, fun od => ?_⟩
        have r1 := rd_lock (od := od) rd trivial
        have E1 := E.rdk r1
        have S1 := S.rdk r1 sd (fun a ha => upd_ne ha)
        refine ⟨.ref d, hv, d, od, rfl, .inl ⟨kvs, upd_same, ?_⟩⟩
        refine for_core (srcK_ok upd_same sd) E1 S1 (by rw [hn]; exact h) ?_
        have fin : ∀ {H2 : Hp} {ρ2 : Rho}, Grow (upd H d (.frz od (.dK kvs))) ρ H2 ρ2 → H2 d = some (.frz od (.dK kvs)) ∧ Grow H ρ (upd H2 d (.dK kvs)) ρ2 ∧ ρ2.Safe d ∧ (∀ a w, NF w → Rd H2 a w → Rd (upd H2 d (.dK kvs)) a w) := fun g => by
          have h2 := g.lck d od _ sd upd_same
          exact ⟨h2, grow_locked rd trivial g h2, g.safe (by rw [upd_same]; simp) sd, rd_unlock h2⟩
        cases f with
        | nx e s => exact fun σ' H2 ρ2 g S2 E2 => ⟨(fin g).1, q σ' _ ρ2 (fin g).2.1 (S2.rdk (fin g).2.2.2 (fin g).2.2.1 (fun a ha => upd_ne ha)) (E2.rdk (fin g).2.2.2)⟩
        | ct e s => exact fun σ' H2 ρ2 g S2 E2 => ⟨(fin g).1, q σ' _ ρ2 (fin g).2.1 (S2.rdk (fin g).2.2.2 (fin g).2.2.1 (fun a ha => upd_ne ha)) (E2.rdk (fin g).2.2.2)⟩
        | bk e s => exact fun σ' H2 ρ2 g S2 E2 => ⟨(fin g).1, q σ' _ ρ2 (fin g).2.1 (S2.rdk (fin g).2.2.2 (fin g).2.2.1 (fun a ha => upd_ne ha)) (E2.rdk (fin g).2.2.2)⟩
        | rt v s => exact fun w H2 ρ2 g S2 R2 => ⟨(fin g).1, q w _ ρ2 (fin g).2.1 (S2.rdk (fin g).2.2.2 (fin g).2.2.1 (fun a ha => upd_ne ha)) (Rep.rdk (fin g).2.2.2 _ _ R2)⟩
        | er e c fs s => exact fun C d2 σ' H2 ρ2 vs hc g => q C d2 σ' H2 ρ2 vs hc ((grow_lock rd trivial).trans g)
      · exact .inr ⟨.ref d, hv, d, od, rfl, .inl ⟨kvs, rd, for_core (srcK_ok rd sd) E S (by rw [hn]; exact h) q⟩⟩
    · cases h
theorem loop_srcT {ig : IG} {body : IS} {all : List PV} {env : PEnv} {st : Sto} : loop (srcT all).at_ ig body (all.length + 1) 0 env st = foldT ig body all env st := loop_foldT all [] env st rfl
theorem iForK_e {i : Nat} {ig : IG} {body : IS} {env : PEnv} {st : Sto} {ks : List Key} {xs : List PV} (h : env[i]? = some (some (.fdk ks xs))) : iForK i ig body env st = foldT ig body (ks.map kPV) env st := by
  unfold iForK
  rw [h]
  have := loop_srcT (ig := ig) (body := body) (all := ks.map kPV) (env := env) (st := st)
  rw [List.length_map] at this
  exact this
end
end IL

/-! a dict comprehension over a list, of what leaves the store -/
namespace IL
open PySem PySem.Spec PyProof.Rows L2
def putAllP {α : Type} (key : α → Key) (val : α → PV) : List (Key × PV) → List α → List (Key × PV)
  | acc, [] => acc
  | acc, x :: xs => putAllP key val (putP acc (key x) (val x)) xs
section
variable {α : Type} {key : α → Key} {val f : α → PV} {ig : IG} {t : IT} {ek e : IE} {w : PEnv} {st : Sto}
theorem putP_some' {σ : List (Key × PV)} {k : Key} {v : PV} : findP σ k ≠ none → (putP σ k v).map (·.1) = σ.map (·.1) := by
  induction σ with
  | nil => intro h; exact absurd rfl h
  | cons p r ih =>
    obtain ⟨k', x⟩ := p
    intro h
    unfold findP at h
    unfold putP
    by_cases e : k' = k
    · rw [if_pos e]; rfl
    · rw [if_neg e] at h ⊢
      simp [ih h]
theorem putP_none' {σ : List (Key × PV)} {k : Key} {v : PV} (h : findP σ k = none) : putP σ k v = σ ++ [(k, v)] ∧ k ∉ σ.map (·.1) := by
  induction σ with
  | nil => exact ⟨rfl, by simp⟩
  | cons p r ih =>
    obtain ⟨k', x⟩ := p
    unfold findP at h
    unfold putP
    by_cases e : k' = k
    · rw [if_pos e] at h; cases h
    · rw [if_neg e] at h ⊢
      rw [(ih h).1]
      refine ⟨rfl, ?_⟩
      simp only [List.map_cons, List.mem_cons, not_or]
      exact ⟨fun z => e z.symm, (ih h).2⟩
theorem nodupK_put' {σ : List (Key × PV)} {k : Key} {v : PV} (h : nodupK σ = true) : nodupK (putP σ k v) = true ∧ (putP σ k v).length ≤ σ.length + 1 := by
  have h1 : (σ.map (·.1)).Nodup := of_decide_eq_true h
  unfold nodupK
  cases e : findP σ k with
  | some v' =>
    have q := putP_some' (v := v) (show findP σ k ≠ none by rw [e]; simp)
    refine ⟨decide_eq_true (by rw [q]; exact h1), ?_⟩
    have := congrArg List.length q
    simp only [List.length_map] at this
    omega
  | none =>
    obtain ⟨q1, q2⟩ := putP_none' (v := v) e
    refine ⟨decide_eq_true ?_, by rw [q1, List.length_append]; simp⟩
    rw [q1, List.map_append, List.nodup_append]
    refine ⟨h1, by simp, fun a ha b hb hab => ?_⟩
    simp only [List.map_cons, List.map_nil, List.mem_singleton] at hb
    subst hb; subst hab
    exact q2 ha
theorem dc_loop {all : List PV} (M : α → Prop) (h : ∀ x, M x → ∀ s, ∃ env1 kx, ig (f x) w s = some env1 ∧ t env1 s = some (true, s) ∧ ek env1 s = some (kx, s) ∧ e env1 s = some (val x, s) ∧ keyP kx = some (key x)) :
    ∀ (ys : List α) (pre : List PV) (acc : List (Key × PV)), all = pre ++ ys.map f → (∀ y ∈ ys, M y) → nodupK acc = true → acc.length + ys.length < 9000000 →
      dcLoop (srcT all).at_ ig t ek e st.length w (ys.length + 1) pre.length (st ++ [.dK acc]) = some (st ++ [.dK (putAllP key val acc ys)])
  | [], pre, acc, he, _, _, _ => by
    rw [List.map_nil, List.append_nil] at he
    subst he
    show dcLoop (srcT all).at_ ig t ek e st.length w 1 all.length (st ++ [.dK acc]) = _
    unfold dcLoop
    simp [srcT, putAllP]
  | y :: ys, pre, acc, he, hM, hn, hl => by
    obtain ⟨env1, kx, h1, h2, h3, h4, h5⟩ := h y (hM y (List.mem_cons_self ..)) (st ++ [.dK acc])
    have hat : (srcT all).at_ (st ++ [.dK acc]) pre.length = some (some (f y)) := by
      simp only [srcT, he, List.map_cons]
      rw [List.getElem?_append_right (Nat.le_refl _)]; simp
    have ih := dc_loop (all := all) M h ys (pre ++ [f y]) (putP acc (key y) (val y)) (by rw [he]; simp) (fun z hz => hM z (List.mem_cons_of_mem _ hz)) (nodupK_put' hn).1 (by have := (nodupK_put' (k := key y) (v := val y) hn).2; simp only [List.length_cons] at hl; omega)
    rw [List.length_append, List.length_singleton] at ih
    have hs : (st ++ [SO.dK acc]).set st.length (.dK (putP acc (key y) (val y))) = st ++ [.dK (putP acc (key y) (val y))] := by
      rw [List.set_append_right _ _ (Nat.le_refl _)]; simp
    have hc : (nodupK acc && decide (acc.length < 9000000)) = true := by
      rw [hn, Bool.true_and]; exact decide_eq_true (by simp only [List.length_cons] at hl; omega)
    rw [List.length_cons]
    unfold dcLoop
    rw [hat]
    simp only [h1, h2, h3, h4, h5, new_at, hc, if_true, hs]
    exact ih
theorem dc_new {xs : List α} {ie : IE} {vs : List Nat} {env : PEnv} (hi : ie env st = some (.frz (xs.map f), st)) (hl : xs.length < 9000000)
    (h : ∀ x, x ∈ xs → ∀ s, ∃ env1 kx, ig (f x) (wipeE env vs) s = some env1 ∧ t env1 s = some (true, s) ∧ ek env1 s = some (kx, s) ∧ e env1 s = some (val x, s) ∧ keyP kx = some (key x)) (hv : nrs ((putAllP key val [] xs).map (·.2)) = true) :
    iNew (iDc (iWalk ie) ig t ek e vs) env st = some (.fdk ((putAllP key val [] xs).map (·.1)) ((putAllP key val [] xs).map (·.2)), st) := by
  refine new_d ?_ hv
  have hd := dc_loop (st := st) (t := t) (ek := ek) (e := e) (all := xs.map f) (fun x => x ∈ xs) h xs [] [] rfl (fun _ h => h) rfl (by simpa using hl)
  have hn : (srcT (xs.map f)).n = xs.length := by simp [srcT]
  unfold iDc
  rw [iWalk_e, hi]
  simp only [ob_s, hn]
  rw [List.length_nil] at hd
  rw [hd]
  rfl
end
end IL

/-! a text that repr gives has signs as texts have -/
namespace IL
open PySem PySem.Spec PyProof.Rows L2
theorem ok_iff {s : Str} : PyData.strOk s = true ↔ ∀ c ∈ s.cps.toList, c < 1114112 := by
  unfold PyData.strOk
  rw [Array.all_eq_true_iff_forall_mem]
  simp
theorem ok_of (s : String) : PyData.strOk (Str.ofString s) = true := by
  rw [ok_iff, PyProof.Rows.signs_ofString]
  intro c hc
  obtain ⟨ch, _, rfl⟩ := List.mem_map.mp hc
  have := ch.valid
  unfold Char.toNat
  unfold UInt32.isValidChar Nat.isValidChar at this
  omega
theorem ok_app {a b : Str} (ha : PyData.strOk a = true) (hb : PyData.strOk b = true) : PyData.strOk (a ++ b) = true := by
  rw [ok_iff] at *
  intro c hc
  have e : (a ++ b).cps.toList = a.cps.toList ++ b.cps.toList := by
    show (a.cps ++ b.cps).toList = _
    simp
  rw [e] at hc
  rcases List.mem_append.mp hc with h | h
  · exact ha c h
  · exact hb c h
theorem ok_hex {c w : Nat} : ∀ x ∈ (List.replicate (w - (List.map Char.toNat (Nat.toDigits 16 c)).length) 48 ++ List.map Char.toNat (Nat.toDigits 16 c)), x < 1114112 := by
  intro x hx
  rcases List.mem_append.mp hx with h | h
  · have := (List.mem_replicate.mp h).2
    omega
  · obtain ⟨ch, _, rfl⟩ := List.mem_map.mp h
    have := ch.valid
    unfold Char.toNat
    unfold UInt32.isValidChar Nat.isValidChar at this
    omega
theorem ok_char {q c : Nat} (hc : c < 1114112) : ∀ x ∈ Builtin.Str.reprChar q c, x < 1114112 := by
  intro x hx
  unfold Builtin.Str.reprChar at hx
  simp only at hx
  split at hx
  · simp at hx; omega
  · split at hx
    · simp at hx; omega
    · split at hx
      · simp at hx; omega
      · split at hx
        · simp at hx; omega
        · split at hx
          · simp at hx; omega
          · split at hx
            · rcases List.mem_append.mp hx with h | h
              · simp at h; omega
              · exact ok_hex x h
            · split at hx
              · rcases List.mem_append.mp hx with h | h
                · simp at h; omega
                · exact ok_hex x h
              · rcases List.mem_append.mp hx with h | h
                · simp at h; omega
                · exact ok_hex x h
theorem ok_fold {q : Nat} : ∀ (cs : List Nat) (out : Array Nat), (∀ c ∈ cs, c < 1114112) → (∀ c ∈ out.toList, c < 1114112) → ∀ c ∈ (cs.foldl (fun out c => out ++ (Builtin.Str.reprChar q c).toArray) out).toList, c < 1114112
  | [], out, _, h => h
  | x :: cs, out, hc, h => by
    rw [List.foldl_cons]
    refine ok_fold cs _ (fun c hm => hc c (List.mem_cons_of_mem _ hm)) fun c hm => ?_
    rw [Array.toList_append] at hm
    rcases List.mem_append.mp hm with hm | hm
    · exact h c hm
    · exact ok_char (hc x (List.mem_cons_self ..)) c hm
theorem ok_repr {x : Str} (h : PyData.strOk x = true) : PyData.strOk (reprText x) = true := by
  rw [ok_iff] at *
  have hq : reprQuote x < 1114112 := by unfold reprQuote; split <;> omega
  intro c hc
  unfold reprText at hc
  rw [Array.toList_push] at hc
  rcases List.mem_append.mp hc with hc | hc
  · rw [← Array.foldl_toList] at hc
    exact ok_fold x.cps.toList _ h (by simp; omega) c hc
  · simp at hc; omega
theorem ok_from : ∀ (ts : List Str) (k : Nat) (acc : Str), (∀ t ∈ ts, PyData.strOk t = true) → PyData.strOk acc = true → PyData.strOk (textFrom k acc ts) = true
  | [], k, acc, _, h => h
  | t :: r, k, acc, ht, h => by
    show PyData.strOk (textFrom (k + 1) (acc ++ (if k > 0 then ", " else "" : String) ++ t) r) = true
    exact ok_from r (k + 1) _ (fun u hu => ht u (List.mem_cons_of_mem _ hu)) (ok_app (ok_app h (ok_of _)) (ht t (List.mem_cons_self ..)))
theorem ok_join {s : Str} (hs : PyData.strOk s = true) : ∀ (ts : List Str), (∀ t ∈ ts, PyData.strOk t = true) → PyData.strOk (Str.join s ts) = true
  | [], _ => ok_of ""
  | [t], h => h t (List.mem_cons_self ..)
  | t :: u :: r, h => by
    have ih := ok_join hs (u :: r) fun x hx => h x (List.mem_cons_of_mem _ hx)
    show PyData.strOk (t ++ s ++ Str.join s (u :: r)) = true
    exact ok_app (ok_app (h t (List.mem_cons_self ..)) hs) ih
mutual
theorem shown_ok : ∀ (x : PV) (n : Nat), gd x n = true → PyData.strOk (datP x).shown = true
  | .non, _, _ => ok_of "None"
  | .bl true, _, _ => ok_of "True"
  | .bl false, _, _ => ok_of "False"
  | .int i, _, _ => ok_of (toString i)
  | .str x, n, h => by
    unfold gd at h
    exact ok_repr h
  | .tup xs, n, h => by
    unfold gd at h
    rw [Bool.and_eq_true] at h
    show PyData.strOk (tupleText (PyData.shownAll (datPs xs))) = true
    unfold tupleText
    exact ok_app (ok_app (ok_of _) (ok_join (ok_of _) _ (showns_ok xs _ h.2))) (ok_of _)
  | .frz xs, n, h => by
    unfold gd at h
    rw [Bool.and_eq_true] at h
    show PyData.strOk (listText (PyData.shownAll (datPs xs))) = true
    unfold listText
    exact ok_app (ok_from _ _ _ (showns_ok xs _ h.2) (ok_of _)) (ok_of _)
  | .ref _, _, h => by simp [gd] at h
  | .ty _, _, h => by simp [gd] at h
  | .fdk _ _, _, h => by simp [gd] at h
theorem showns_ok : ∀ (xs : List PV) (n : Nat), gds xs n = true → ∀ t ∈ PyData.shownAll (datPs xs), PyData.strOk t = true
  | [], _, _ => fun t ht => by
    have e : PyData.shownAll (datPs []) = [] := rfl
    rw [e] at ht; cases ht
  | x :: xs, n, h => fun t ht => by
    unfold gds at h
    rw [Bool.and_eq_true] at h
    have e : PyData.shownAll (datPs (x :: xs)) = (datP x).shown :: PyData.shownAll (datPs xs) := rfl
    rw [e] at ht
    rcases List.mem_cons.mp ht with z | ht
    · rw [z]; exact shown_ok x n h.1
    · exact showns_ok xs n h.2 t ht
end
theorem eq_repr {st : Sto} {x : PV} {n : Nat} (h : gd x n = true) : fEqB (.str (datP x).shown) (.str (datP x).shown) st = some (.bl true, st) := by
  rw [fEqB_e, eqB_str, eqP_s, shown_ok x n h]
  simp
end IL

/-! expressions and defs that may raise -/
namespace IL
open PySem PySem.Spec PyProof.Rows L2

inductive RX where
  | ok (v : PV) | er (c : Str) (fs : List (Str × PV))
inductive RL where
  | ok (xs : List PV) | er (c : Str) (fs : List (Str × PV))
abbrev IX := PEnv → Sto → Option (RX × Sto)
abbrev IXA := PEnv → Sto → Option (RL × Sto)
abbrev FX := List PV → Sto → Option (RX × Sto)
section
variable (K : PySem.W.Frag) (W : WX)
/-- an exception behind H, at the slots σ -/
def PostE (H : Hp) (ρ : Rho) (σ : L2.St) (c : Str) (fs : List (Str × PV)) (s : Sto) : Prop := ∀ C d H' ρ' vs, ClsAt K c C → Grow H ρ H' ρ' → RepS K H' ρ' s → RepF K H' ρ' fs vs → H' d = some (.xd vs) → W (.ref C) (some d) σ H'
def PostX (H : Hp) (ρ : Rho) (σ : L2.St) (Q : VK) : RX × Sto → Prop
  | (.ok z, s) => ∀ v H' ρ', Grow H ρ H' ρ' → RepS K H' ρ' s → Rep K H' ρ' z v → Q v H'
  | (.er c fs, s) => PostE K W H ρ σ c fs s
def PostL (H : Hp) (ρ : Rho) (σ : L2.St) (Q : List V → Hp → Prop) : RL × Sto → Prop
  | (.ok z, s) => ∀ v H' ρ', Grow H ρ H' ρ' → RepS K H' ρ' s → Reps K H' ρ' z v → Q v H'
  | (.er c fs, s) => PostE K W H ρ σ c fs s
def tIX (i : IX) : TE := fun σ H Q => ∃ env st ρ r, RepE K H ρ env σ ∧ RepS K H ρ st ∧ i env st = some r ∧ PostX K W H ρ σ Q r
def tIXA (i : IXA) : TA := fun σ H Q => ∃ env st ρ r, RepE K H ρ env σ ∧ RepS K H ρ st ∧ i env st = some r ∧ PostL K W H ρ σ Q r
end
section
variable {K : PySem.W.Frag} {W : WX} {H H' : Hp} {ρ ρ' : Rho} {σ : L2.St}
theorem PostE.grow {c : Str} {fs : List (Str × PV)} {s : Sto} (h : PostE K W H ρ σ c fs s) (g : Grow H ρ H' ρ') : PostE K W H' ρ' σ c fs s := fun C d H2 ρ2 vs hc G => h C d H2 ρ2 vs hc (g.trans G)
theorem PostX.grow {Q : VK} {r : RX × Sto} (h : PostX K W H ρ σ Q r) (g : Grow H ρ H' ρ') : PostX K W H' ρ' σ Q r := by
  obtain ⟨r, s⟩ := r
  cases r with
  | ok z => exact fun v H2 ρ2 G => h v H2 ρ2 (g.trans G)
  | er c fs => exact PostE.grow h g
theorem PostL.grow {Q : List V → Hp → Prop} {r : RL × Sto} (h : PostL K W H ρ σ Q r) (g : Grow H ρ H' ρ') : PostL K W H' ρ' σ Q r := by
  obtain ⟨r, s⟩ := r
  cases r with
  | ok z => exact fun v H2 ρ2 G => h v H2 ρ2 (g.trans G)
  | er c fs => exact PostE.grow h g
end
/-- what does not raise -/
def iOk (ie : IE) : IX := fun env st => ob (ie env st) fun x s => some (.ok x, s)
def iOks (ir : IA) : IXA := fun env st => ob (ir env st) fun x s => some (.ok x, s)
/-- f(..), f may raise -/
def iCallX (f : FX) (ir : IA) : IX := fun env st => ob (ir env st) fun xs s => f xs s
/-- .. and so may what it is given -/
def iCallXX (f : FX) (ir : IXA) : IX := fun env st => ob (ir env st) fun r s => match r with
  | .ok xs => f xs s
  | .er c fs => some (.er c fs, s)
def iConsX (ix : IX) (ir : IXA) : IXA := fun env st => ob (ix env st) fun r s => match r with
  | .ok x => ob (ir env s) fun r2 s2 => match r2 with
    | .ok xs => some (.ok (x :: xs), s2)
    | .er c fs => some (.er c fs, s2)
  | .er c fs => some (.er c fs, s)
/-- the values where nothing was raised -/
def pureF (f : FX) : FA := fun xs st => match f xs st with
  | some (.ok v, s) => some (v, s)
  | _ => none
/-- a tuple, a list -/
def iTupX (ir : IXA) : IX := fun env st => ob (ir env st) fun r s => match r with
  | .ok xs => if xs.length ≤ 9000000 then some (.ok (.tup xs), s) else none
  | .er c fs => some (.er c fs, s)
def iLstX (ir : IXA) : IX := fun env st => ob (ir env st) fun r s => match r with
  | .ok xs => if xs.length ≤ 9000000 then some (.ok (.ref s.length), s ++ [.lst xs]) else none
  | .er c fs => some (.er c fs, s)
end IL

/-! rules of what may raise -/
namespace IL
open PySem PySem.Spec PyProof.Rows L2
section
variable {X : Cx} {W : WX} {e : Expr} {es : List Expr} {pos : Pos} {ie : IE} {ix : IX} {ir : IA} {iy : IXA}
theorem x_ok (h : PE X e (tI X.K ie)) : PE X e (tIX X.K W (iOk ie)) := PE.imp h fun σ H Q ⟨env, st, ρ, r, E, S, h, q⟩ => by
  obtain ⟨x, s1, h1, h⟩ := ob_some h
  cases h
  exact ⟨env, st, ρ, x, s1, E, S, h1, q⟩
theorem x_oks (h : PA X es (tIA X.K ir)) : PA X es (tIXA X.K W (iOks ir)) := PA.imp h fun σ H Q ⟨env, st, ρ, r, E, S, h, q⟩ => by
  obtain ⟨x, s1, h1, h⟩ := ob_some h
  cases h
  exact ⟨env, st, ρ, x, s1, E, S, h1, q⟩
theorem x_cons (ha : PE X e (tIX X.K W ix)) (hr : PA X es (tIXA X.K W iy)) (hs : starEach (e :: es) X.env = (false, eval e X.env) :: starEach es X.env := by rfl) : PA X (e :: es) (tIXA X.K W (iConsX ix iy)) :=
  PA.imp (pa_cons ha hr hs) fun σ H Q ⟨env, st, ρ, r, E, S, h, q⟩ => by
    obtain ⟨r1, s1, h1, h⟩ := ob_some h
    refine ⟨env, st, ρ, (r1, s1), E, S, h1, ?_⟩
    cases r1 with
    | er c fs => cases h; exact q
    | ok x =>
      intro v H1 ρ1 G1 S1 R1
      obtain ⟨r2, s2, h2, h⟩ := ob_some h
      refine ⟨env, s1, ρ1, (r2, s2), E.grow S G1, S1, h2, ?_⟩
      cases r2 with
      | er c fs => cases h; exact PostE.grow q G1
      | ok xs =>
        cases h
        intro vs H2 ρ2 G2 S2 R2
        exact q (v :: vs) H2 ρ2 (G1.trans G2) S2 (by unfold Reps; exact ⟨v, vs, rfl, Rep.grow S1 G2 _ _ R1, R2⟩)
theorem x_tup {x1} (h : PA X es (tIXA X.K W iy)) : PE X (.Tuple es x1 pos) (tIX X.K W (iTupX iy)) :=
  PE.imp (pe_tup h) fun σ H Q ⟨env, st, ρ, r, E, S, h, q⟩ => by
    obtain ⟨r1, s1, h1, h⟩ := ob_some h
    refine ⟨env, st, ρ, (r1, s1), E, S, h1, ?_⟩
    cases r1 with
    | er c fs => cases h; exact q
    | ok xs =>
      simp only at h
      split at h
      · rename_i hl
        cases h
        exact fun vs H1 ρ1 G1 S1 R1 => ⟨line5 (by rw [← R1.length]; exact hl), fun p hp => q _ _ ρ1 (G1.trans (grow_new hp)) (S1.new hp) (new_tup S1 R1 hp)⟩
      · cases h
theorem x_lst (h : PA X es (tIXA X.K W iy)) : PE X (.List es pos) (tIX X.K W (iLstX iy)) :=
  PE.imp (pe_lst h) fun σ H Q ⟨env, st, ρ, r, E, S, h, q⟩ => by
    obtain ⟨r1, s1, h1, h⟩ := ob_some h
    refine ⟨env, st, ρ, (r1, s1), E, S, h1, ?_⟩
    cases r1 with
    | er c fs => cases h; exact q
    | ok xs =>
      simp only at h
      split at h
      · rename_i hl
        cases h
        refine fun vs H1 ρ1 G1 S1 R1 => ⟨line5 (by rw [← R1.length]; exact hl), fun p hp => ?_⟩
        obtain ⟨a1, a2, a3⟩ := new_lst S1 R1 hp
        exact q _ _ _ (G1.trans a1) a2 a3
      · cases h
end
/-! ### defs that may raise -/
abbrev WC (E : XK) : WX := fun c d _ H => E c d H
def spX (K : PySem.W.Frag) (n : Nat) (f : FX) : Sp := fun vs H Q E => vs.length = n ∧ ∃ st ρ xs r, RepS K H ρ st ∧ Reps K H ρ xs vs ∧ f xs st = some r ∧ PostX K (WC E) H ρ [] Q r
def ArX (n : Nat) (f : FX) : Prop := ∀ xs st r, f xs st = some r → xs.length = n
structure CalX (P : Program) (w : World) (K : PySem.W.Frag) (mg : Str → Option Value) (base : Heap) (k : Nat) (x : Str) (n : Nat) (f : FX) : Prop where
  ex : ∃ (fa : Addr) (fd : FuncData) (ps : List Str), FnOk P w K mg base (L2N.CX P w) k fa fd ps (spX K n f) ∧ mg x = some (.ref fa) ∧ PySem.W.keepIn K (.ref fa) = true ∧ Binds K fd ps []
theorem PostX.at {K : PySem.W.Frag} {W : WX} {H : Hp} {ρ : Rho} {σ : L2.St} {Q : VK} {r : RX × Sto} (h : PostX K W H ρ σ Q r) : PostX K (WC (WE W σ)) H ρ [] Q r := by
  obtain ⟨r, s⟩ := r
  cases r with
  | ok z => exact h
  | er c fs => exact h
section
variable {X : Cx} {W : WX} {x : Str} {p pos : Pos} {e : Expr} {es : List Expr} {ir : IA} {iy : IXA} {k j n : Nat} {f : FX}
theorem x_call (c : CalX X.prog X.w X.K X.mg X.base k x n f) (hn : ArX n f) (hr : Room j X.A) (hk : k ≤ j) (hg : Gl X x) (tk : L2N.Takes X W) (ha : PA X (e :: es) (tIA X.K ir))
    (hdb : (x == ("__debug__" : Str)) = false := by decide) (he : starEach (e :: es) X.env = (false, eval e X.env) :: starEach es X.env := by rfl) (hpl : (backTo pos (starEach es X.env)).any (·.1) = false := by rfl) :
    PE X (.Call (.Name x p) (e :: es) [] pos) (tIX X.K W (iCallX f ir)) := by
  obtain ⟨fa, fd, ps, F, hm, kp, b⟩ := c.ex
  refine PE.imp (pe_callS (E := WE W) F (hr.mono hk) hg hm kp b (fun σ => L2N.passAt tk σ) ha hdb he hpl) fun σ H Q ⟨env, st, ρ, r, E, S, h, q⟩ => ?_
  obtain ⟨xs, s1, h1, h⟩ := ob_some h
  exact ⟨env, st, ρ, xs, s1, E, S, h1, fun vs H1 ρ1 G1 S1 R1 => ⟨by rw [← R1.length]; exact hn _ _ _ h, s1, ρ1, xs, r, S1, R1, h, (q.grow G1).at⟩⟩
theorem x_callX (c : CalX X.prog X.w X.K X.mg X.base k x n f) (hn : ArX n f) (hr : Room j X.A) (hk : k ≤ j) (hg : Gl X x) (tk : L2N.Takes X W) (ha : PA X (e :: es) (tIXA X.K W iy))
    (hdb : (x == ("__debug__" : Str)) = false := by decide) (he : starEach (e :: es) X.env = (false, eval e X.env) :: starEach es X.env := by rfl) (hpl : (backTo pos (starEach es X.env)).any (·.1) = false := by rfl) :
    PE X (.Call (.Name x p) (e :: es) [] pos) (tIX X.K W (iCallXX f iy)) := by
  obtain ⟨fa, fd, ps, F, hm, kp, b⟩ := c.ex
  refine PE.imp (pe_callS (E := WE W) F (hr.mono hk) hg hm kp b (fun σ => L2N.passAt tk σ) ha hdb he hpl) fun σ H Q ⟨env, st, ρ, r, E, S, h, q⟩ => ?_
  obtain ⟨r1, s1, h1, h⟩ := ob_some h
  refine ⟨env, st, ρ, (r1, s1), E, S, h1, ?_⟩
  cases r1 with
  | er c fs => cases h; exact q
  | ok xs => exact fun vs H1 ρ1 G1 S1 R1 => ⟨by rw [← R1.length]; exact hn _ _ _ h, s1, ρ1, xs, r, S1, R1, h, (q.grow G1).at⟩
theorem passF {P : Program} {w : World} : ∀ (X : Cx) (pins : List (Addr × Obj)) (σ : L2.St) (H : Hp) (s : Shared) (e : Value) (s' : Shared), Inv X pins σ H s → L2N.CX P w X.stack H s (fun _ _ _ => False) e s' → X.xe e s' :=
  fun X pins σ H s e s' _ ⟨_, _, _, _, _, _, _, _, _, _, _, _, h⟩ => h.elim
/-- .. where it does not raise -/
theorem x_callP (c : CalX X.prog X.w X.K X.mg X.base k x n f) (hn : ArX n f) (hr : Room j X.A) (hk : k ≤ j) (hg : Gl X x) (ha : PA X (e :: es) (tIA X.K ir))
    (hdb : (x == ("__debug__" : Str)) = false := by decide) (he : starEach (e :: es) X.env = (false, eval e X.env) :: starEach es X.env := by rfl) (hpl : (backTo pos (starEach es X.env)).any (·.1) = false := by rfl) :
    PE X (.Call (.Name x p) (e :: es) [] pos) (tI X.K (iCall (pureF f) ir)) := by
  obtain ⟨fa, fd, ps, F, hm, kp, b⟩ := c.ex
  refine PE.imp (pe_call (dvs := []) (E := fun _ _ _ => False) F (hr.mono hk) hg hm kp b .nil (passF X) ha hdb he hpl) fun σ H Q ⟨env, st, ρ, z, st', E, S, h, q⟩ => ?_
  obtain ⟨xs, s1, h1, h⟩ := ob_some h
  have hf : f xs s1 = some (.ok z, st') := by
    unfold pureF at h
    split at h
    · rename_i v s e1
      cases h; exact e1
    · cases h
  refine ⟨env, st, ρ, xs, s1, E, S, h1, fun vs H1 ρ1 G1 S1 R1 => ?_⟩
  show spX X.K n f (vs ++ []) H1 Q _
  rw [List.append_nil]
  exact ⟨by rw [← R1.length]; exact hn _ _ _ hf, s1, ρ1, xs, _, S1, R1, hf, fun v H2 ρ2 G2 S2 R2 => q v H2 ρ2 (G1.trans G2) S2 R2⟩
end
/-! ### statements -/
def iAsgX (ig : IG) (ix : IX) : IS := fun env st => ob (ix env st) fun r s => match r with
  | .ok x => (match ig x env s with
    | some env' => some (.nx env' s)
    | none => none)
  | .er c fs => some (.er env c fs s)
def iRetX (ix : IX) : IS := fun env st => ob (ix env st) fun r s => match r with
  | .ok x => some (.rt x s)
  | .er c fs => some (.er env c fs s)
def iDropX (ix : IX) : IS := fun env st => ob (ix env st) fun r s => match r with
  | .ok _ => some (.nx env s)
  | .er c fs => some (.er env c fs s)
section
variable {X : Cx} {W : WX} {pos : Pos} {e : Expr} {ix : IX}
theorem er_to {K : PySem.W.Frag} {W : WX} {D : L2.Ends} {H : Hp} {ρ : Rho} {σ : L2.St} {env : PEnv} {st s : Sto} {c : Str} {fs : List (Str × PV)} (E : RepE K H ρ env σ) (S : RepS K H ρ st) (q : PostF K W D H ρ (.er env c fs s)) : PostE K W H ρ σ c fs s :=
  fun C d H' ρ' vs hc G S' R' hd => q C d σ H' ρ' vs hc G S' (E.grow S G) R' hd
theorem s_asgX {tg : Expr} {T : List Nat} {ig : IG} (he : PE X e (tIX X.K W ix)) (hg : PG X tg (tIG X.K T ig)) (hs : swapsWithSole [tg] e pos.line X.env = pure false := by rfl) (hw : swappedStores [tg] e X.env = pure none := by rfl)
    (h1 : (assignEach [tg] X.env).map (·.2) = [assign tg X.env] := by rfl) : PS X (.Assign [tg] e pos) (tIS X.K W (iAsgX ig ix)) := PS.imp (ps_asg he hg hs hw h1) fun D σ H ⟨env, s, ρ, f, E, S, h, q⟩ => by
  obtain ⟨r, s1, h1, h⟩ := ob_some h
  refine ⟨env, s, ρ, (r, s1), E, S, h1, ?_⟩
  cases r with
  | er c fs => cases h; exact er_to E S q
  | ok x =>
    intro v H1 ρ1 G1 S1 R1
    simp only at h
    split at h
    · rename_i env' hg
      cases h
      exact ⟨env, _, ρ1, x, env', E.grow S G1, S1, R1, hg, fun σ' E' _ _ => q σ' H1 ρ1 G1 S1 E'⟩
    · cases h
theorem s_setX {i : Nat} {x : Str} {pos' : Pos} (hN : X.N.Nodup) (hi : X.N[i]? = some x) (hx : Loc X.env.scope x) (he : PE X e (tIX X.K W ix)) (hs : swapsWith e (some (.Name x pos')) pos.line X.env = pure false := by rfl)
    (hf : X.fn x = true ∨ X.env.scope.names.lookup x = some .local := by first | exact .inl rfl | exact .inr rfl | assumption) : PS X (.Assign [.Name x pos'] e pos) (tIS X.K W (iAsgX (gN i) ix)) :=
  PS.imp (ps_set hN hi hx he hs hf) fun D σ H ⟨env, s, ρ, f, E, S, h, q⟩ => by
    obtain ⟨r, s1, h1, h⟩ := ob_some h
    refine ⟨env, s, ρ, (r, s1), E, S, h1, ?_⟩
    cases r with
    | er c fs => cases h; exact er_to E S q
    | ok x =>
      cases h
      exact fun v H1 ρ1 G1 S1 R1 => q _ H1 ρ1 G1 S1 ((E.grow S G1).set R1 i)
theorem s_retX (he : PE X e (tIX X.K W ix)) : PS X (.Return (some e) pos) (tIS X.K W (iRetX ix)) := PS.imp (ps_ret he) fun D σ H ⟨env, s, ρ, f, E, S, h, q⟩ => by
  obtain ⟨r, s1, h1, h⟩ := ob_some h
  refine ⟨env, s, ρ, (r, s1), E, S, h1, ?_⟩
  cases r with
  | er c fs => cases h; exact er_to E S q
  | ok x =>
    cases h
    exact fun v H1 ρ1 G1 S1 R1 => q v H1 ρ1 G1 S1 R1
theorem s_exprX (he : PE X e (tIX X.K W ix)) (hs : swapsWith e none pos.line X.env = pure false := by rfl) : PS X (.Expr e pos) (tIS X.K W (iDropX ix)) := PS.imp (ps_expr he hs) fun D σ H ⟨env, s, ρ, f, E, S, h, q⟩ => by
  obtain ⟨r, s1, h1, h⟩ := ob_some h
  refine ⟨env, s, ρ, (r, s1), E, S, h1, ?_⟩
  cases r with
  | er c fs => cases h; exact er_to E S q
  | ok x =>
    cases h
    exact fun v H1 ρ1 G1 S1 R1 => q σ H1 ρ1 G1 S1 (E.grow S G1)
end
/-! ### a def that may raise -/
noncomputable def iDefX (n nN : Nat) (b : IS) : FX := fun xs st => if xs.length = n then (match b (xs.map some ++ List.replicate (nN - n) none) st with
  | some (.nx _ s) => some (.ok .non, gcS st s .non)
  | some (.rt v s) => some (.ok v, gcS st s v)
  | some (.er _ c fs s) => some (.er c fs, s)
  | _ => none) else none
theorem ar_defX {n nN : Nat} {b : IS} : ArX n (iDefX n nN b) := fun xs st r h => by
  unfold iDefX at h
  split at h
  · assumption
  · cases h
theorem body_toX {K : PySem.W.Frag} {N ps : List Str} {ib : IS} {vs : List V} {H : Hp} {Q : VK} {E : XK} (h : spX K ps.length (iDefX ps.length N.length ib) vs H Q E) : tIS K (WC E) ib { nx := fun _ H' => Q .non H', rt := Q } (L2.start N vs) H := by
  obtain ⟨hl, s1, ρ, xs, r, S1, R1, h, q⟩ := h
  unfold iDefX at h
  split at h
  · have E1 := repE_start R1 N
    rw [hl] at E1
    split at h
    · rename_i e1 s2 e
      cases h
      refine ⟨_, s1, ρ, _, E1, S1, e, fun σ' H' ρ' G S' E' => ?_⟩
      obtain ⟨ρ2, G2, S2, R2⟩ := gc_to (v := .non) (u := .non) S1 G S' (by unfold Rep; rfl)
      exact q .non H' ρ2 G2 S2 R2
    · rename_i v s2 e
      cases h
      refine ⟨_, s1, ρ, _, E1, S1, e, fun v H' ρ' G S' R' => ?_⟩
      obtain ⟨ρ2, G2, S2, R2⟩ := gc_to S1 G S' R'
      exact q v H' ρ2 G2 S2 R2
    · rename_i e1 c fs s2 e
      cases h
      exact ⟨_, s1, ρ, _, E1, S1, e, fun C d σ' H' ρ' ws hc G S' E' R' hd => q C d H' ρ' ws hc G S' R' hd⟩
    · cases h
  · cases h
theorem cal_X {P : Program} {w : World} {K : PySem.W.Frag} {mg : Str → Option Value} {base : Heap} {x : Str} {st : Stmt} {f : Addr} {fd : FuncData} {N ps : List Str} {k : Nat} {ib : IS} (F : C8.Def K mg x st f fd) (b : Binds K fd ps []) (S : FnScope N ps (C8.fnScope st))
    (hb : ∀ (cdv : Value) (A : Around) (outer : List PySem.Env) (s : Shared) (H : Hp) (E : XK), Room k (A.deeper (envOfC x (C8.fnScope st) s.heap.objs.size f cdv)) →
      L2N.Takes (cxOf (L2N.CX P w) P w K mg base N x (C8.fnScope st) f cdv A outer s H E) (WC E) →
      PSs (cxOf (L2N.CX P w) P w K mg base N x (C8.fnScope st) f cdv A outer s H E) (C8.fnBody st) (tIS K (WC E) ib)) : CalX P w K mg base (k + 1) x ps.length (iDefX ps.length N.length ib) := by
  obtain ⟨oc, od, dV, kV, doc, pm, an, cdv, ct, osl, rfl, lk, hcd⟩ := F.fn.ex
  refine ⟨f, _, ps, fn_of lk hcd S (fun vs H Q E h => h.1) fun A outer s H vs Q E hr hsp => ?_, F.mgf, F.kp, b⟩
  exact ⟨_, hb cdv A outer s H E hr (L2N.takes_of rfl rfl rfl rfl), body_toX hsp⟩
end IL

/-! a program's exception that is made where nothing is handled: its context is None (what layer JX raises with, said with L2N's promise) -/
namespace IL
open PySem PySem.Spec PyProof.Rows L2
/-- what stands in the heap as the exception is new: the tuple of its values, and it itself -/
def hNew (h : Heap) (us : List Value) (C : Addr) : Heap := (h.push (W.kdv_tup us)).push (HandSPX.excO C h.objs.size)
theorem hNew_keeps {h : Heap} {us : List Value} {C b : Addr} {o : Obj} (q : h.get? b = some o) : (hNew h us C).get? b = some o := by
  unfold hNew
  exact Heap.get?_push_of_some _ (Heap.get?_push_of_some _ q)
theorem hNew_at {h : Heap} {us : List Value} {C : Addr} : (hNew h us C).get? (h.objs.size + 1) = some (HandSPX.excO C h.objs.size) := by
  unfold hNew
  heap_get
/-- with it there is one more in hand -/
theorem inv_hNew {X : Cx} {pins : List (Addr × Obj)} {σ : L2.St} {H : Hp} {h : Heap} {g : Array GenState} {d : Drawn} {t : Nat} {os : OsState} {C : Addr} (us : List Value) (I : Inv X pins σ H ⟨h, g, d, t, os⟩) :
    Inv X pins σ (upd H (h.objs.size + 1) (exo (h.objs.size + 1) C none)) ⟨hNew h us C, g, d, t, os⟩ :=
  I.laid (t' := t) (h' := hNew h us C) (fun _ _ => hNew_keeps) (Nat.le_succ _) (exo_ok hNew_at)
variable {X : Cx} {e : Expr} {es : List Expr} {ta : TA} {p pos : Pos}
theorem pmk_oexN {CX : CXT} {x : Str} {C fI : Addr} {k : Nat} {fd : FuncData} {ps : List Str} {sp : Sp} {ds : List Value} {dvs : List V} (T : OexC X.K C)
    (iC : W.findIn X.K (.ref C) "__init__" = some (some (.ref fI)))
    (tI : W.typeIn X.K (.ref fI) = some (.type "function"))
    (F1 : FnOk X.prog X.w X.K X.mg X.base CX k fI fd ps sp) (hr : Room (k + 1) X.A)
    (hb : Binds X.K fd ps ds) (hd : Vals dvs ds) (hx : Passes CX X (fun _ _ _ => False))
    (hg : Gl X x) (hm : X.mg x = some (.ref C)) (ha : PA X (e :: es) ta)
    (hdb : (x == ("__debug__" : Str)) = false := by decide)
    (he : starEach (e :: es) X.env = (false, eval e X.env) :: starEach es X.env := by rfl)
    (hpl : (backTo pos (starEach es X.env)).any (·.1) = false := by rfl) :
    L2N.PMk X (.Call (.Name x p) (e :: es) [] pos) (tMkO C sp dvs ta) := by
  intro pins s σ H Q I h
  obtain ⟨nm, qn, N, bs, bm, sn, sub, ab, col, dd, k0, k1, k2, k3, k5, hC, hbm⟩ := T.cls
  refine wpAny_Call_Name_kw (ld_glob I hg hm ?_ hdb)
  have args := ha.run pos pins s σ H _ I h
  refine W.callWith_K (h₀ := X.base) I.ok.mod.kin T.kC (thn args ?_) he hpl
  rintro us ⟨hp, g, dr, tk, os⟩ ⟨vs, H1, I1, r1, hz, q1⟩
  refine ⟨I1.kIn, ?_⟩
  show wpAny _ _ (call (.ref C) us) _ _ _
  have free : H1 (hp.objs.size + 1) = none := I1.hok.fresh (Nat.le_succ _)
  have start := q1 _ free
  have I2 := inv_hNew (C := C) us I1
  have rv2 : Vals (V.ref (hp.objs.size + 1) :: (vs ++ dvs)) (Value.ref (hp.objs.size + 1) :: (us ++ ds)) := .cons rfl (r1.append hd)
  have long : (Value.ref (hp.objs.size + 1) :: us ++ ds).length = ps.length := (rv2.length.symm.trans (F1.len _ _ _ _ start) |> fun z => by first | exact z | exact z.symm)
  have few : us.length ≤ sizeLine := by
    have z := Paired.length r1
    rw [sizeLine_eq]
    omega
  have body := F1.run _ X.stack _ _ ⟨Value.ref (hp.objs.size + 1) :: us, []⟩ (Value.ref (hp.objs.size + 1) :: (us ++ ds)) _ _ (fun _ _ _ => False)
    (hr.make C us []) (I2.env0.make C us [])
    (hb _ (Value.ref (hp.objs.size + 1) :: us) I2.kIn long) rv2 start
  refine wpAny_call (HandSPX.call_own F.excBase_ValueError (fun Y => HandSPX.refsVE_contains Y bm hbm) (I1.kIn _ _ hC)
    (W.looks_findIn I1.kIn iC) (fun self => W.bind_fn I1.kIn self tI) few (codeAny_mono body ?_))
  intro r s2 done
  cases r with
  | error er => exact hx pins σ _ _ er s2 I2 done
  | ok fl =>
    cases fl with
    | next => exact done.elim
    | brk => exact done.elim
    | cont => exact done.elim
    | ret u =>
      obtain ⟨v, H2, os2, bare2, un2, hok2, rv, ev, d, fs, ea, ed, hd1, q2⟩ := done
      subst ev
      obtain ⟨h2, g2, d2, t2, o2⟩ := s2
      obtain ⟨t0, G, J, kG, ge, hoe, na⟩ := mk_end0 (d2 := d2) (t2 := t2) I1 (Nat.le_succ _) (fun _ _ => hNew_keeps) un2 hok2 os2 bare2 ea ed hd1
      have zn : L2N.Zn (.ref C) (some d) ({ cls := .ref C, dict := some d, data := .fields #[.ref t0, .none, .none, .none, .bool false, .none] } : Obj) := ⟨rfl, rfl, fun vs e => by cases e; rfl⟩
      exact ⟨rv, hp.objs.size + 1, _, _, ⟨G, g2, d2, t2, o2⟩, _, .ref C, some d, rfl, J, kG, ge, hoe, zn, rfl, rfl, na, rfl, bare2, raises_own T.exC T.tyC, q2⟩
end IL

/-! the program's exceptions: made, raised -/
namespace IL
open PySem PySem.Spec PyProof.Rows L2
section
variable {X : Cx} {e : Expr} {es : List Expr} {ta : TA} {p1 p2 pos : Pos}
/-- B.__init__(self, ..), B the own base class -/
theorem pe_basei {B : Str} {CF : Addr} {mc : Value} {pl : Sem Bool} (hg : Gl X B) (hm : X.mg B = some (.ref CF)) (sp : PySem.W.specialIn X.K (.ref CF) "__getattribute__" = some (some (.builtin "type.__getattribute__"))) (rd : PySem.W.readsIn X.K CF mc = true)
    (vV : PySem.W.findCls X.K (.ref CF) mc "__init__" = some (.val (.builtin "ValueError.__init__"))) (ha : PA X (e :: es) ta) (hdb : (B == ("__debug__" : Str)) = false := by decide)
    (hc : eval (.Call (.Attribute (.Name B p1) "__init__" p2) (e :: es) [] pos) X.env = (do
      let ov ← eval (.Name B p1) X.env
      standAt p2.atName
      let (f, first) ← holding [ov] (getMethod ov "__init__" pl)
      callWith pos f first (backTo pos (starEach (e :: es) X.env)) (backToKw pos (keywordEach [] X.env))) := by rfl)
    (he : starEach (e :: es) X.env = (false, eval e X.env) :: starEach es X.env := by rfl) (hpl : (backTo pos (starEach es X.env)).any (·.1) = false := by rfl) :
    PE X (.Call (.Attribute (.Name B p1) "__init__" p2) (e :: es) [] pos) (tVeI X.K ta) := by
  refine ⟨fun pins s σ H Q I h => PySem.W.methodCall_KW (ld_glob I hg hm ?_ hdb) hc⟩
  refine PySem.W.method_cls (Inv.tok I _).kIn sp (PySem.W.cls_value (Inv.tok I _).kIn rd vV (by decide +kernel) ?_)
  refine PyProof.Rows.callWith_method1 (thn (ha.run pos pins _ σ H _ ((I.tok _).tok _) h) ?_) he hpl
  rintro us s1 ⟨vs, H1, I1, r1, a, C, ws, rfl, hl, T, ea, q⟩
  cases r1 with
  | @cons _ u0 _ ur ra rw' =>
    obtain rfl : u0 = Value.ref a := ra
    exact oinit_ok T I1 ea (by rw [← Paired.length rw', sizeLine_eq]; omega) fun s' J => ⟨.non, H1, J, rfl, q⟩
end
/-- what an __init__ of one field does -/
def spInit (K : PySem.W.Frag) (C : Addr) (n : Str) (ok : V → Prop) : Sp := fun vs H Q _ => ∃ (a : Addr) (v : V), vs = [.ref a, v] ∧ H a = some (exo a C none) ∧ ok v ∧ ∀ d, H d = none → d ≠ a → Q .non (upd (upd H d (exd d [(n, v)])) a (exo a C (some d)))
/-- a small int -/
def okInt (v : V) : Prop := ∃ i : Int, v = .int i ∧ i.natAbs.log2 < 1920
section
variable {X : Cx} {n B : Str} {ej : Expr} {tj : TE} {p1 p2 p3 p4 p5 p6 p7 p8 p9 : Pos} {C : Addr} {ok : V → Prop}
/-- the text of an __init__ of one field -/
theorem init_b {mc : Value} {CF : Addr} {pl : Sem Bool} (hN0 : X.N[0]? = some ("self" : Str)) (hN1 : X.N[1]? = some n) (v0 : Vis X.env.scope "self") (v1 : Vis X.env.scope n) (hd : (n == ("__debug__" : Str)) = false) (hcd : (n == ("__classdict__" : Str)) = false)
    (hg : Gl X B) (hm : X.mg B = some (.ref CF)) (sp : PySem.W.specialIn X.K (.ref CF) "__getattribute__" = some (some (.builtin "type.__getattribute__"))) (rd : PySem.W.readsIn X.K CF mc = true)
    (vV : PySem.W.findCls X.K (.ref CF) mc "__init__" = some (.val (.builtin "ValueError.__init__"))) (T : OexC X.K C) (hno : PySem.W.findIn X.K (.ref C) n = some none)
    (hj : PE X ej tj) (hjt : ∀ (σ : L2.St) (H : Hp) (Q : VK) (v : V), σ[1]? = some (some v) → ok v → (∀ s : Str, Q (.str s) H) → tj σ H Q) (hdb : (B == ("__debug__" : Str)) = false := by decide)
    (hs1 : swapsWith (.Call (.Attribute (.Name B p1) "__init__" p2) [.Name "self" p3, ej] [] p4) none p5.line X.env = pure false := by rfl)
    (hs2 : swapsWith (.Name n p8) (some (.Attribute (.Name "self" p6) n p7)) p9.line X.env = pure false := by rfl)
    (hc : eval (.Call (.Attribute (.Name B p1) "__init__" p2) [.Name "self" p3, ej] [] p4) X.env = (do
      let ov ← eval (.Name B p1) X.env
      standAt p2.atName
      let (f, first) ← holding [ov] (getMethod ov "__init__" pl)
      callWith p4 f first (backTo p4 (starEach [.Name "self" p3, ej] X.env)) (backToKw p4 (keywordEach [] X.env))) := by rfl)
    (he : starEach [.Name "self" p3, ej] X.env = (false, eval (.Name "self" p3) X.env) :: starEach [ej] X.env := by rfl) (he2 : starEach [ej] X.env = (false, eval ej X.env) :: starEach [] X.env := by rfl) (hpl : (backTo p4 (starEach [ej] X.env)).any (·.1) = false := by rfl) :
    PSs X [.Expr (.Call (.Attribute (.Name B p1) "__init__" p2) [.Name "self" p3, ej] [] p4) p5, .Assign [.Attribute (.Name "self" p6) n p7] (.Name n p8) p9]
      (fun D σ H => ∃ (a : Addr) (v : V), σ[0]? = some (some (.ref a)) ∧ σ[1]? = some (some v) ∧ H a = some (exo a C none) ∧ ok v ∧ ∀ d, H d = none → d ≠ a → D.nx σ (upd (upd H d (exd d [(n, v)])) a (exo a C (some d)))) := by
  have h1 := ps_expr (pe_basei (pl := pl) hg hm sp rd vV (pa_cons (pe_var (pos := p3) hN0 v0) (pa_cons hj pa_nil he2) he) hdb hc he hpl) hs1
  have h2 := ps_ost (f := n) (p' := p7) (pe_var (pos := p6) hN0 v0) (pe_var (pos := p8) hN1 v1 hd hcd) hs2
  refine PSs.imp (pss_cons h1 (pss_one h2)) fun D σ H ⟨a, v, s0, s1, ea, hv, q⟩ => ?_
  refine ⟨.ref a, s0, hjt σ H _ v s1 hv fun s => ⟨a, C, [.str s], rfl, by simp, T, ea, ?_⟩⟩
  exact ⟨v, s1, .ref a, s0, a, C, rfl, T, hno, .inl ⟨ea, fun dx h1 h2 => q dx h1 h2⟩⟩
end
/-- a class that may be raised by its name, with one field -/
structure RaiJ (P : Program) (w : World) (K : PySem.W.Frag) (mg : Str → Option Value) (base : Heap) (k : Nat) (c n : Str) (ok : V → Prop) : Prop where
  ex : ∃ (C fI : Addr) (fd : FuncData), ClsAt K c C ∧ mg c = some (.ref C) ∧ OexC K C ∧ PySem.W.findIn K (.ref C) "__init__" = some (some (.ref fI)) ∧ PySem.W.typeIn K (.ref fI) = some (.type "function") ∧
    FnOk P w K mg base C8.CX0 k fI fd ["self", n] (spInit K C n ok) ∧ Binds K fd ["self", n] []
/-- raise c(x) -/
def iRaise (c n : Str) (okP : PV → Bool) (ie : IE) : IS := fun env st => ob (ie env st) fun x s => if okP x then some (.er env c [(n, x)] s) else none
def okPI : PV → Bool
  | .int i => decide (i.natAbs < 10 ^ 30)
  | _ => false
theorem okPI_ok {K : PySem.W.Frag} {H : Hp} {ρ : Rho} {x : PV} {v : V} (h : okPI x = true) (r : Rep K H ρ x v) : okInt v := by
  unfold okPI at h
  split at h
  · rename_i i
    unfold Rep at r
    rw [decide_eq_true_eq] at h
    refine ⟨i, r, ?_⟩
    by_cases h0 : i.natAbs = 0
    · rw [h0]; decide
    · have h2 : i.natAbs < 2 ^ 1920 := Nat.lt_of_lt_of_le h (Nat.le_trans (by decide : (10 : Nat) ^ 30 ≤ 2 ^ 100) (Nat.pow_le_pow_right (by decide) (by decide)))
      exact (Nat.log2_lt h0).mpr h2
  · cases h
theorem s_raise {X : Cx} {W : WX} {c n : Str} {ok : V → Prop} {okP : PV → Bool} {ie : IE} {e : Expr} {p pos pos2 : Pos} {k j : Nat} (r : RaiJ X.prog X.w X.K X.mg X.base k c n ok) (hok : ∀ (H : Hp) (ρ : Rho) (x : PV) (v : V), okP x = true → Rep X.K H ρ x v → ok v) (hr : Room j X.A) (hk : k + 1 ≤ j) (hg : Gl X c) (hc : X.calm = true) (tk : L2N.Takes X W)
    (ha : PE X e (tI X.K ie)) (hdb : (c == ("__debug__" : Str)) = false := by decide) (he : starEach [e] X.env = (false, eval e X.env) :: starEach [] X.env := by rfl) (hpl : (backTo pos (starEach [] X.env)).any (·.1) = false := by rfl) :
    PS X (.Raise (some (.Call (.Name c p) [e] [] pos)) none pos2) (tIS X.K W (iRaise c n okP ie)) := by
  obtain ⟨C, fI, fd, hC, hm, T, iC, tI, F, b⟩ := r.ex
  refine PS.imp (L2N.ps_raise hc tk (pmk_oexN (dvs := []) T iC tI F (hr.mono hk) b .nil C8.pass0 hg hm (pa_cons ha pa_nil he) hdb he hpl)) fun D σ H ⟨env, st, ρ, f, E, S, h, q⟩ => ?_
  obtain ⟨x, s1, h1, h⟩ := ob_some h
  split at h
  · rename_i hx
    cases h
    refine ⟨env, st, ρ, x, s1, E, S, h1, fun v H1 ρ1 G1 S1 R1 => ⟨by simp, fun a ha => ?_⟩⟩
    refine ⟨a, v, by simp, upd_same, hok H1 ρ1 x v hx R1, fun d hd hda => ⟨rfl, d, [(n, v)], upd_same, by rw [upd_ne hda]; exact upd_same, by rw [← upd_ne (H := H1) (o := exo a C none) hda]; exact hd, ?_⟩⟩
    have hd1 : H1 d = none := by rw [← upd_ne (H := H1) (o := exo a C none) hda]; exact hd
    have eH : upd (del (upd (upd (upd H1 a (exo a C none)) d (exd d [(n, v)])) a (exo a C (some d))) a) d (.xd [(n, v)]) = upd H1 d (.xd [(n, v)]) := by
      funext b
      by_cases hb : b = d
      · subst hb; rw [upd_same, upd_same]
      · rw [upd_ne hb, upd_ne hb]
        by_cases hba : b = a
        · subst hba; rw [del_same, ha]
        · rw [del_ne hba, upd_ne hba, upd_ne hb, upd_ne hba]
    rw [eH]
    have G2 : Grow H1 ρ1 (upd H1 d (.xd [(n, v)])) ρ1 := grow_new hd1
    exact q C d σ _ ρ1 [(n, v)] hC (G1.trans G2) (S1.new hd1) ((E.grow S G1).grow S1 G2) ⟨v, [], rfl, Rep.grow S1 G2 _ _ R1, rfl⟩ upd_same
  · cases h
end IL

/-! try .. except C as n .. else: an exception that is caught -/
namespace IL
open PySem PySem.Spec PyProof.Rows L2
/-- the wish of a clause 'except c as n' that catches: slot i is n's -/
def wCatch (K : PySem.W.Frag) (c : Value) (i : Nat) (ts : Addr → Value → Option Addr → TS) (D : L2.Ends) : WX := fun cls d sl G =>
  PySem.W.exmOne K cls c = some true ∧ ∀ x, G x = none → ts x cls d ⟨fun τ G' => D.nx (τ.set i none) G', D.rt, fun τ G' => D.bk (τ.set i none) G', fun τ G' => D.ct (τ.set i none) G'⟩ (sl.set i (some (.ref x))) G
section
variable {X : Cx} {x n : Str} {c : Value} {i : Nat} {body suite orelse : List Stmt} {b₀ : Stmt} {np pos pos' : Pos} {tb : WX → TS} {ts : Addr → Value → Option Addr → TS} {u : TS}
theorem ps_catch (stk : X.stack = X.env :: X.outer) (frm : X.env.frame = some X.env.locals) (ndN : X.N.Nodup) (slot : X.N[i]? = some n) (loc : X.env.kindOf n = some .local) (nms : Names X x c)
    (inner : ∀ (V : WX) (pl : List (Addr × Obj)) (out : Value → Shared → Prop), L2N.Takes (X.tr pl out) V → PassesOwn (model X.prog X.w) X.A X.env out → PSs (X.tr pl out) body (tb V))
    (hand : ∀ (x : Addr) (ox : Obj) (cls : Value) (d : Option Addr) (pl : List (Addr × Obj)), L2N.Zn cls d ox → (∃ us, ox.data = .fields us) → PSs (X.suite x ((x, ox) :: pl)) (b₀ :: suite) (ts x cls d)) (last : PSs X orelse u) :
    PS X (.Try body [.ExceptHandler (some (.Name x np)) (some n) (b₀ :: suite) pos'] orelse [] pos) (fun D sl G => tb (wCatch X.K c i ts D) { D with nx := u D } sl G) := by
  constructor
  intro pl s0 sl G D Iv hyp
  have good := Iv.ok
  have frames : X.A.frames = some (X.env :: X.outer) := by rw [good.frames, stk]
  apply wpAny_Try_except
  have main := (inner (wCatch X.K c i ts D) (X.pn ++ pl) (fun ev t1 => wpAny (model X.prog X.w) X.A (noteFrame ev X.env) (fun _ t2 => wpAny (model X.prog X.w) X.A (setFlight ev none)
    (fun _ t3 => wpAny (model X.prog X.w) X.A (handleBy ev X.env [.ExceptHandler (some (.Name x np)) (some n) (b₀ :: suite) pos']) (SP X pl D) X.xe t3) X.xe t2) X.xe t1) ?caught PassesOwn.looking).run [] s0 sl G { D with nx := u D } (Iv.toTry _) hyp
  case caught =>
    intro ev t ⟨ad, Bs, sB, pl', sl', G', cls, d, eqv, Jt, nBs, upT, skT, nAd, osT, agT, yes, act⟩
    subst eqv
    have J := Jt.ofTry good
    rw [show (X.tr (X.pn ++ pl) _).stack = X.env :: X.outer from stk] at skT
    show wpAny (model X.prog X.w) X.A (noteFrame (.ref ad) X.env) _ _ _
    refine L2N.Sky.land L2N.Zn.steady frames frm skT ?_
    intro g3 fly3 up3
    have J3 := J.landed (s' := { t with heap := g3 }) nBs fly3.1 (upT.trans up3) osT agT
    obtain ⟨ob3, us3, at3, z3, dat3⟩ := fly3.there
    have noFrame : ad ∉ frs (X.env :: X.outer) := fun mm => by
      obtain ⟨_, ob, at0, nf⟩ := fly3.2.2.1.mem mm
      rw [at3] at at0
      cases at0
      exact nf _ dat3
    have noLoc : ad ≠ X.env.locals := fun q => noFrame (List.mem_filterMap.mpr ⟨X.env, by simp, by rw [frm, q]⟩)
    have noFs : ad ∉ X.fs := fun mm => by
      obtain ⟨en, hen, q⟩ := List.mem_filterMap.mp mm
      exact noFrame (List.mem_filterMap.mpr ⟨en, List.mem_cons_of_mem _ hen, q⟩)
    have Su := J3.suite at3 dat3 nAd noLoc noFs
    refine wpAny_handleBy_cons (codeAny_handlers_test ?_) (fun q => by cases q)
    have lk : PySem.W.Looks (model X.prog X.w) g3 (typeOf (.ref ad)) cls := fun A' Q' E' s' kk q => wpAny_typeOf_ref (kk _ _ at3) (by rw [z3.1]; exact q)
    have matches_ := PySem.W.exm_one (M := model X.prog X.w) J3.kIn lk yes
    suffices goal : ∀ {Q' : Value → Shared → Prop} {E' : Value → Shared → Prop}, Q' c { t with heap := g3 } → wpAny (model X.prog X.w) (X.A.mark (some (.ref ad))) (eval (.Name x np) X.env) Q' E' { t with heap := g3 } by
      refine goal (matches_.here (codeAny_handlers_suite_as (HandSPX.lands_againZ fly3 ?_)))
      intro g4 fly4 up4
      have J4 := J.landed (s' := { t with heap := g4 }) nBs fly4.1 ((upT.trans up3).trans up4) osT agT
      obtain ⟨ob4, us4, at4, z4, dat4⟩ := fly4.there
      have Su4 := J4.suite at4 dat4 nAd noLoc noFs
      refine store_ok (X := X.suite ad ((ad, ob4) :: (X.pn ++ pl))) (v := .ref ad) Su4 ndN slot (.inl loc) rfl ?_ (.inr loc)
      intro t5 Su5
      refine wpAny_mono ((hand ad ob4 cls d (X.pn ++ pl) z4 ⟨_, dat4⟩).run [] t5 _ G' _ Su5 (act ad nAd)) ?_ (fun _ _ q => q.elim)
      intro fl t6 done
      have away : ∀ {τ : L2.St} {G6 : Hp} {R : Shared → Prop}, Inv (X.suite ad ((ad, ob4) :: (X.pn ++ pl))) [] τ G6 t6 → (∀ t7, Inv X pl (τ.set i none) G6 t7 → R t7) →
          wpAny (model X.prog X.w) X.A (do bindName X.env n .none; unbindBehindTheSuite X.env n pos') (fun _ t7 => R t7) X.xe t6 := fun {τ G6 R} J6 hR => gone_ok (J6.unsuite good) ndN slot loc hR
      cases fl with
      | ret val =>
        obtain ⟨v6, τ, G6, J6, rel, w6⟩ := done
        exact away J6 fun t7 J7 => ⟨_, _, _, J7, rel, w6⟩
      | next | brk | cont =>
        obtain ⟨τ, G6, J6, w6⟩ := done
        exact away J6 fun t7 J7 => ⟨_, _, J7, w6⟩
    intro Q' E' q
    obtain ⟨gl, dbg, mine | ⟨noG, blt, nn⟩⟩ := nms
    · exact ld_glob (X := X.suite ad ((ad, ob3) :: (X.pn ++ pl))) Su gl mine q dbg
    · exact ld_blt (X := X.suite ad ((ad, ob3) :: (X.pn ++ pl))) Su gl noG blt q nn dbg
  refine wpAny_mono main ?_ (fun _ _ q => q)
  intro fl t1 done
  cases fl with
  | next =>
    obtain ⟨τ, G1, J1, w1⟩ := done
    exact last.run pl t1 τ G1 D (J1.ofTry good) w1
  | brk | cont =>
    obtain ⟨τ, G1, J1, w1⟩ := done
    exact ⟨τ, G1, J1.ofTry good, w1⟩
  | ret val =>
    obtain ⟨v1, τ, G1, J1, rel, w1⟩ := done
    exact ⟨v1, τ, G1, J1.ofTry good, rel, w1⟩
end
end IL

/-! in an except suite: the exception that is in hand -/
namespace IL
open PySem PySem.Spec PyProof.Rows L2
abbrev JP := L2.St → Hp → Rho → Prop
/-- kept as heaps grow -/
def Keeps (K : PySem.W.Frag) (J : JP) : Prop := ∀ {σ : L2.St} {H H' : Hp} {ρ ρ' : Rho} {st : Sto}, RepS K H ρ st → Grow H ρ H' ρ' → J σ H ρ → J σ H' ρ'
section
variable (K : PySem.W.Frag) (J : JP)
def tJ (i : IE) : TE := fun σ H Q => ∃ env st ρ x st', RepE K H ρ env σ ∧ RepS K H ρ st ∧ J σ H ρ ∧ i env st = some (x, st') ∧ ∀ v H' ρ', Grow H ρ H' ρ' → RepS K H' ρ' st' → Rep K H' ρ' x v → Q v H'
def tJA (i : IA) : TA := fun σ H Q => ∃ env st ρ x st', RepE K H ρ env σ ∧ RepS K H ρ st ∧ J σ H ρ ∧ i env st = some (x, st') ∧ ∀ v H' ρ', Grow H ρ H' ρ' → RepS K H' ρ' st' → Reps K H' ρ' x v → Q v H'
def tJT (i : IT) : TT := fun σ H Q => ∃ env st ρ x st', RepE K H ρ env σ ∧ RepS K H ρ st ∧ J σ H ρ ∧ i env st = some (x, st') ∧ ∀ H' ρ', Grow H ρ H' ρ' → RepS K H' ρ' st' → Q x H'
def tJS (W : WX) (i : IS) : TS := fun D σ H => ∃ env st ρ f, RepE K H ρ env σ ∧ RepS K H ρ st ∧ J σ H ρ ∧ i env st = some f ∧ PostF K W D H ρ f
end
section
variable {X : Cx} {J : JP} {W : WX} {a b c e : Expr} {es rest : List Expr} {p q : List Stmt} {pos : Pos} {ia ib ic : IE} {ir : IA} {ta tb : IT} {sa sb : IS}
theorem j_e (h : PE X e (tI X.K ia)) : PE X e (tJ X.K J ia) := PE.imp h fun σ H Q ⟨env, st, ρ, x, st', E, S, _, h, q⟩ => ⟨env, st, ρ, x, st', E, S, h, q⟩
theorem j_a (h : PA X es (tIA X.K ir)) : PA X es (tJA X.K J ir) := PA.imp h fun σ H Q ⟨env, st, ρ, x, st', E, S, _, h, q⟩ => ⟨env, st, ρ, x, st', E, S, h, q⟩
theorem j_t (h : PT X e (tIT X.K ta)) : PT X e (tJT X.K J ta) := PT.imp h fun σ H Q ⟨env, st, ρ, x, st', E, S, _, h, q⟩ => ⟨env, st, ρ, x, st', E, S, h, q⟩
theorem j_cons (hJ : Keeps X.K J) (ha : PE X e (tJ X.K J ia)) (hr : PA X es (tJA X.K J ir)) (hs : starEach (e :: es) X.env = (false, eval e X.env) :: starEach es X.env := by rfl) : PA X (e :: es) (tJA X.K J (iCons ia ir)) :=
  PA.imp (pa_cons ha hr hs) fun σ H Q ⟨env, st, ρ, z, st', E, S, hj, h, q⟩ => by
    obtain ⟨x, s1, h1, h⟩ := ob_some h
    obtain ⟨xs, s2, h2, h⟩ := ob_some h
    cases h
    refine ⟨env, st, ρ, x, s1, E, S, hj, h1, fun v H1 ρ1 G1 S1 R1 => ⟨env, s1, ρ1, xs, _, E.grow S G1, S1, hJ S G1 hj, h2, fun vs H2 ρ2 G2 S2 R2 => ?_⟩⟩
    exact q (v :: vs) H2 ρ2 (G1.trans G2) S2 (by unfold Reps; exact ⟨v, vs, rfl, Rep.grow S1 G2 _ _ R1, R2⟩)
theorem j_tup {x1} (h : PA X es (tJA X.K J ir)) : PE X (.Tuple es x1 pos) (tJ X.K J (iTup ir)) :=
  PE.imp (pe_tup h) fun σ H Q ⟨env, st, ρ, z, st', E, S, hj, h, q⟩ => by
    obtain ⟨xs, s1, h1, h⟩ := ob_some h
    split at h
    · rename_i hl
      cases h
      exact ⟨env, st, ρ, xs, _, E, S, hj, h1, fun vs H1 ρ1 G1 S1 R1 => ⟨line5 (by rw [← R1.length]; exact hl), fun p hp => q _ _ ρ1 (G1.trans (grow_new hp)) (S1.new hp) (new_tup S1 R1 hp)⟩⟩
    · cases h
theorem j_truth (ha : PE X a (tJ X.K J ia)) (he : ∀ whole, isTrue a X.env whole = (do let v ← whole; standAt a.pos; holding [v] (truthy v))) : PT X a (tJT X.K J (iTest ia)) :=
  PT.imp (pt_truth ha he) fun σ H Q ⟨env, st, ρ, z, st', E, S, hj, h, q⟩ => by
    obtain ⟨x, s1, h1, h⟩ := ob_some h
    obtain ⟨h2, h3⟩ := map_pair h
    simp only at h2 h3
    subst h3
    exact ⟨env, st, ρ, x, _, E, S, hj, h1, fun v H1 ρ1 G1 S1 R1 => ⟨z, tru_rep S1 R1 h2, q H1 ρ1 G1 S1⟩⟩
theorem j_not (ha : PT X a (tJT X.K J ta)) : PT X (.UnaryOp .Not a pos) (tJT X.K J (iNot ta)) :=
  PT.imp (pt_not ha) fun σ H Q ⟨env, st, ρ, z, st', E, S, hj, h, q⟩ => by
    obtain ⟨k, s1, h1, h⟩ := ob_some h
    cases h
    exact ⟨env, st, ρ, k, _, E, S, hj, h1, fun H1 ρ1 G1 S1 => q H1 ρ1 G1 S1⟩
theorem j_or1 (ha : PT X a (tJT X.K J ta)) : PW X (.BoolOp .Or [a] pos) (tJT X.K J ta) := pw_or1 ha
theorem j_or (hJ : Keeps X.K J) (ha : PT X a (tJT X.K J ta)) (hb : PW X (.BoolOp .Or (b :: rest) pos) (tJT X.K J tb)) : PW X (.BoolOp .Or (a :: b :: rest) pos) (tJT X.K J (iOr ta tb)) :=
  PW.imp (pw_or ha hb) fun σ H Q ⟨env, st, ρ, z, st', E, S, hj, h, q⟩ => by
    obtain ⟨k, s1, h1, h⟩ := ob_some h
    refine ⟨env, st, ρ, k, s1, E, S, hj, h1, fun H1 ρ1 G1 S1 => ?_⟩
    cases k with
    | true =>
      rw [if_pos rfl]
      cases h
      exact q H1 ρ1 G1 S1
    | false =>
      rw [if_neg Bool.false_ne_true]
      exact ⟨env, s1, ρ1, z, st', E.grow S G1, S1, hJ S G1 hj, h, fun H2 ρ2 G2 S2 => q H2 ρ2 (G1.trans G2) S2⟩
theorem j_chainT (hJ : Keeps X.K J) {op op' : CmpOp} {r r' : R2} {f g : F2} (ho : OpR X (compareOp op) r) (hf : OpI X.K r f) (ho' : OpR X (compareOp op') r') (hg : OpI X.K r' g) (ha : PE X a (tJ X.K J ia)) (hb : PE X b (tJ X.K J ib)) (hc : PE X c (tJ X.K J ic))
    (hm : lastMarks [op, op'] [b, c] = false := by with_unfolding_all rfl) : PT X (.Compare a [op, op'] [b, c] pos) (tJT X.K J (iTestB (iChain f g ia ib ic))) :=
  PT.imp (pt_chain ho ho' ha hb hc hm) fun σ H Q ⟨env, st, ρ, z, st', E, S, hj, h, q⟩ => by
    obtain ⟨x0, s0, h0, h⟩ := ob_some h
    obtain ⟨h2, h3⟩ := map_pair h
    simp only at h2 h3
    subst h3
    obtain ⟨x, s1, h1, h⟩ := ob_some h0
    obtain ⟨y, s2, hy, h⟩ := ob_some h
    obtain ⟨w, s3, hw, h⟩ := ob_some h
    refine ⟨env, st, ρ, x, s1, E, S, hj, h1, fun vx H1 ρ1 G1 S1 R1 => ⟨env, s1, ρ1, y, s2, E.grow S G1, S1, hJ S G1 hj, hy, fun vy H2 ρ2 G2 S2 R2 => ?_⟩⟩
    refine hf H2 ρ2 s2 x y vx vy w s3 _ S2 (Rep.grow S1 G2 _ _ R1) R2 hw fun v H3 ρ3 G3 S3 R3 => ?_
    have fin : ∀ {v : V} {H5 : Hp} {ρ5 : Rho}, Grow H ρ H5 ρ5 → RepS X.K H5 ρ5 st' → Rep X.K H5 ρ5 x0 v → ∃ k, v = .bl k ∧ Q k H5 := fun {v H5 ρ5} G5 S5 R5 => by
      cases x0 <;> simp only [isBl, Option.some.injEq, reduceCtorEq] at h2
      subst h2
      unfold Rep at R5
      exact ⟨_, R5, q H5 ρ5 G5 S5⟩
    split at h
    · unfold Rep at R3
      subst R3
      obtain ⟨w, s4, h4, h⟩ := ob_some h
      refine ⟨true, rfl, ?_⟩
      rw [if_pos rfl]
      refine ⟨env, s3, ρ3, w, s4, ((E.grow S G1).grow S1 G2).grow S2 G3, S3, hJ S2 G3 (hJ S1 G2 (hJ S G1 hj)), h4, fun vw H4 ρ4 G4 S4 R4 => ?_⟩
      exact hg H4 ρ4 s4 y w vy vw x0 st' _ S4 (Rep.grow S3 G4 _ _ (Rep.grow S2 G3 _ _ R2)) R4 h fun v H5 ρ5 G5 S5 R5 => fin ((((G1.trans G2).trans G3).trans G4).trans G5) S5 R5
    · unfold Rep at R3
      subst R3
      cases h
      refine ⟨false, rfl, ?_⟩
      rw [if_neg Bool.false_ne_true]
      exact fin ((G1.trans G2).trans G3) S3 (by unfold Rep; rfl)
    · cases h
theorem j_if (hc : PT X c (tJT X.K J ta)) (ha : PSs X p (tIS X.K W sa)) (hb : PSs X q (tIS X.K W sb)) : PS X (.If c p q pos) (tJS X.K J W (iIfS ta sa sb)) :=
  PS.imp (ps_if hc ha hb) fun D σ H ⟨env, s, ρ, f, E, S, hj, h, q⟩ => by
    obtain ⟨k, s1, h1, h⟩ := ob_some h
    refine ⟨env, s, ρ, k, s1, E, S, hj, h1, fun H1 ρ1 G1 S1 => ?_⟩
    cases k with
    | true =>
      rw [if_pos rfl]
      exact ⟨env, s1, ρ1, f, E.grow S G1, S1, h, q.grow G1⟩
    | false =>
      rw [if_neg Bool.false_ne_true]
      exact ⟨env, s1, ρ1, f, E.grow S G1, S1, h, q.grow G1⟩
theorem j_ret (he : PE X e (tJ X.K J ia)) : PS X (.Return (some e) pos) (tJS X.K J W (iRet ia)) := PS.imp (ps_ret he) fun D σ H ⟨env, s, ρ, f, E, S, hj, h, q⟩ => by
  obtain ⟨x, s1, h1, h⟩ := ob_some h
  cases h
  exact ⟨env, s, ρ, x, _, E, S, hj, h1, fun v H1 ρ1 G1 S1 R1 => q v H1 ρ1 G1 S1 R1⟩
theorem j_one {st : Stmt} (h1 : PS X st (tJS X.K J W sa)) : PSs X [st] (tJS X.K J W sa) := pss_one h1
end
/-! ### the exception -/
/-- slot i holds the exception at a, whose dict d has these fields -/
def XJ (K : PySem.W.Frag) (a : Addr) (d : Option Addr) (i : Nat) (fs : List (Str × PV)) : JP := fun σ H ρ => σ[i]? = some (some (.ref a)) ∧ ∃ dd vs, d = some dd ∧ Rd H dd (.xd vs) ∧ ρ.Safe dd ∧ RepF K H ρ fs vs
theorem xj_keeps {K : PySem.W.Frag} {a : Addr} {d : Option Addr} {i : Nat} {fs : List (Str × PV)} : Keeps K (XJ K a d i fs) := fun S g ⟨h, dd, vs, e, r, s, f⟩ => ⟨h, dd, vs, e, g.rd s r, g.safe (Rd.ne_none r) s, RepF.grow S g _ _ f⟩
def iExF (fs : List (Str × PV)) (n : Str) : IE := fun _ st => (fs.lookup n).map fun x => (x, st)
theorem repF_lookup {K : PySem.W.Frag} {H : Hp} {ρ : Rho} {n : Str} {x : PV} : ∀ {fs : List (Str × PV)} {vs : List (Str × V)}, RepF K H ρ fs vs → fs.lookup n = some x → ∃ v, vs.lookup n = some v ∧ Rep K H ρ x v
  | [], _, _, h => by cases h
  | (m, y) :: fs, vs, r, h => by
    obtain ⟨v, rr, rfl, r1, r2⟩ := r
    rw [List.lookup_cons] at h ⊢
    cases hb : (n == m) with
    | true =>
      rw [hb] at h
      cases h
      exact ⟨v, rfl, r1⟩
    | false =>
      rw [hb] at h
      exact repF_lookup r2 h
theorem j_exf {X : Cx} {a C : Addr} {oe : Obj} {d : Option Addr} {pn : List (Addr × Obj)} {i : Nat} {m n : Str} {p pos : Pos} {fs : List (Str × PV)} (T : XfC X.K C) (hno : PySem.W.findIn X.K (.ref C) n = some none) (hz : Zc (.ref C) d oe) (hf : ∃ vs, oe.data = .fields vs)
    (hN : X.N[i]? = some m) (hv : Vis X.env.scope m) (hd : (m == ("__debug__" : Str)) = false := by decide) (hcd : (m == ("__classdict__" : Str)) = false := by decide) (hb : attributeBase (.Name m p) n X.env (eval (.Name m p) X.env) = eval (.Name m p) X.env := by rfl) :
    PE (X.suite a ((a, oe) :: pn)) (.Attribute (.Name m p) n pos) (tJ X.K (XJ X.K a d i fs) (iExF fs n)) := by
  constructor
  rintro pins s σ H Q I ⟨env, st, ρ, x, st', E, S, ⟨hi, dd, vs, rfl, r, sf, rf⟩, h, q⟩
  obtain ⟨h2, rfl⟩ := map_pair h
  simp only at h2
  obtain ⟨v, hl, rv⟩ := repF_lookup rf h2
  have he : PE (X.suite a ((a, oe) :: pn)) (.Name m p) (tVar i) := pe_var hN hv hd hcd
  refine attr_of hb (thn (he.run pins s σ H (fun y G => y = .ref a ∧ G = H) I ⟨.ref a, hi, rfl, rfl⟩) ?_)
  rintro u s1 ⟨y, G, I1, ry, rfl, rfl⟩
  obtain rfl : u = Value.ref a := ry
  obtain ⟨hget, _⟩ := I1.pin (a, oe) (List.mem_append_left _ List.mem_cons_self)
  obtain ⟨us, hdat⟩ := hf
  obtain ⟨mA, hns, hr⟩ := (r.ok I1.hok : ObjOk X.prog X.w _ s1.heap dd (.xd vs))
  obtain ⟨od, ho, hlk⟩ := lookIn_ns hns
  obtain ⟨u2, hu, ru⟩ := RelO.some_of (v := v) (o := mA n) (by rw [← hl]; exact hr n)
  have at_ : PySem.W.InstAt s1.heap a oe C (some od) := ⟨hget, hz.1, by unfold PySem.W.notCls; rw [hdat] <;> rfl, by rw [hz.2]; exact ho⟩
  exact HandSPX.exc_get I1.kIn at_ T.ga T.gg T.exC (PySem.W.findObj_own T.hdC hno rfl (by rw [hlk, hu])) (handed_of ru) ⟨v, _, I1.tok _, ru, q v _ ρ Grow.refl S rv⟩
/-- isinstance(e, D2) -/
theorem call_isX {X : Cx} {a D : Addr} {oe : Obj} {d : Option Addr} {pn : List (Addr × Obj)} (C : ExcC X.K D) (hz : Zc (.ref D) d oe) (hf : ∃ vs, oe.data = .fields vs) :
    CallR (X.suite a ((a, oe) :: pn)) (.builtin "isinstance") (fun xs H Q => ∃ (D2 : Addr) (b : Bool) (dd : Addr) (vs : List (Str × V)), xs = [.ref a, .ref D2] ∧ d = some dd ∧ Rd H dd (.xd vs) ∧ PySem.W.kitOne X.K (.ref D) (.ref D2) = some b ∧ Q (.bl b) H) := by
  rintro pins s σ H xs us Q I r ⟨D2, b, dd, vs, rfl, rfl, rd, e, q⟩
  cases r with
  | cons rx rr =>
    cases rr with
    | cons rt rr =>
      cases rr
      cases rx
      cases rt
      obtain ⟨hget, _⟩ := I.pin (a, oe) (List.mem_append.mpr (.inl List.mem_cons_self))
      obtain ⟨us, hv⟩ := hf
      obtain ⟨mA, hns, hr⟩ := (rd.ok I.hok : ObjOk X.prog X.w _ s.heap dd (.xd vs))
      obtain ⟨od, ho, hlk⟩ := lookIn_ns hns
      have at_ : PySem.W.InstAt s.heap a oe D (some od) := ⟨hget, hz.1, by unfold PySem.W.notCls; rw [hv] <;> rfl, by rw [hz.2]; exact ho⟩
      have hcl : (PySem.W.clsIn X.K D).isSome = true := by
        obtain ⟨cd, hc, _⟩ := PySem.W.any_some C.hd
        rw [hc]; rfl
      exact PySem.W.kia_one (PySem.W.kitx_exc hcl C.hg C.hk C.hs C.ha C.hn C.ht C.hm) I.kIn at_ e (fun z => nomatch z) fun tk => ⟨.bl b, H, I.kept (t' := tk) fun _ _ z => z, rfl, q⟩
theorem j_isx {X : Cx} {a D D2 : Addr} {oe : Obj} {d : Option Addr} {pn : List (Addr × Obj)} {i : Nat} {m y : Str} {p p2 p3 pos : Pos} {fs : List (Str × PV)} {b : Bool} (C : ExcC X.K D) (hz : Zc (.ref D) d oe) (hf : ∃ vs, oe.data = .fields vs) (hk : PySem.W.kitOne X.K (.ref D) (.ref D2) = some b)
    (hN : X.N[i]? = some m) (hv : Vis X.env.scope m) (hg : Gl X "isinstance") (hm : X.mg "isinstance" = none) (hv2 : bootBuiltins "isinstance" = some (.builtin "isinstance")) (hgy : Gl X y) (hmy : X.mg y = some (.ref D2))
    (hd : (m == ("__debug__" : Str)) = false := by decide) (hcd : (m == ("__classdict__" : Str)) = false := by decide) (hdy : (y == ("__debug__" : Str)) = false := by decide)
    (h1 : starEach [.Name m p2, .Name y p3] X.env = (false, eval (.Name m p2) X.env) :: starEach [.Name y p3] X.env := by rfl) (h2 : starEach [.Name y p3] X.env = (false, eval (.Name y p3) X.env) :: starEach [] X.env := by rfl)
    (hpl : (backTo pos (starEach [.Name y p3] X.env)).any (·.1) = false := by rfl) :
    PE (X.suite a ((a, oe) :: pn)) (.Call (.Name "isinstance" p) [.Name m p2, .Name y p3] [] pos) (tJ X.K (XJ X.K a d i fs) (iC (.bl b))) := by
  have he : PE (X.suite a ((a, oe) :: pn)) (.Name m p2) (tVar i) := pe_var hN hv hd hcd
  have hy : PE (X.suite a ((a, oe) :: pn)) (.Name y p3) (tC (.ref D2)) := pe_glob hgy hmy rfl hdy
  refine PE.imp (pe_callB (X := X.suite a ((a, oe) :: pn)) (call_isX C hz hf) hg hm hv2 (pa_cons he (pa_cons hy pa_nil h2) h1) (by decide) (by decide) h1 hpl) ?_
  rintro σ H Q ⟨env, st, ρ, x, st', E, S, ⟨hi, dd, vs, rfl, r, sf, rf⟩, h, q⟩
  cases h
  exact ⟨.ref a, hi, D2, b, dd, vs, rfl, rfl, r, hk, q (.bl b) H ρ Grow.refl S (by unfold Rep; rfl)⟩
end IL

/-! try .. except C as n .. else, as a plain function -/
namespace IL
open PySem PySem.Spec PyProof.Rows L2
/-- a class that is caught by its name -/
structure CatJ (K : PySem.W.Frag) (mg : Str → Option Value) (c : Str) : Prop where
  ex : ∃ C : Addr, ClsAt K c C ∧ mg c = some (.ref C) ∧ PySem.W.exmOne K (.ref C) (.ref C) = some true
def iCatch (cn : Str) (b : IS) (i : Nat) (h : List (Str × PV) → IS) (els : IS) : IS := fun env st => match b env st with
  | some (.nx e s) => els e s
  | some (.er e c fs s) => if c = cn ∧ i < e.length then (match h fs (e.set i none) s with
    | some (.nx e2 s2) => some (.nx (e2.set i none) s2)
    | some (.bk e2 s2) => some (.bk (e2.set i none) s2)
    | some (.ct e2 s2) => some (.ct (e2.set i none) s2)
    | some (.rt v s2) => some (.rt v s2)
    | _ => none) else none
  | o => o
theorem RepE.drop {K : PySem.W.Frag} {H : Hp} {ρ : Rho} {env : PEnv} {σ : L2.St} (E : RepE K H ρ env σ) (i : Nat) (v : Option V) : RepE K H ρ (env.set i none) (σ.set i v) := by
  refine ⟨by simpa using E.len, fun j y hj => ?_⟩
  by_cases e : i = j
  · subst e
    rw [List.getElem?_set] at hj
    simp only [if_true] at hj
    split at hj <;> cases hj
  · rw [List.getElem?_set_ne e] at hj
    obtain ⟨w, a, b⟩ := E.at_ j y hj
    exact ⟨w, by rw [List.getElem?_set_ne e]; exact a, b⟩
theorem RepS.safeX {K : PySem.W.Frag} {H : Hp} {ρ : Rho} {st : Sto} (S : RepS K H ρ st) {d : Addr} {vs : List (Str × V)} (h : H d = some (.xd vs)) : ρ.Safe d := .inl fun hm => by
  obtain ⟨n, so, _, _, r⟩ := S.mem hm
  rcases r.some with ⟨w, e⟩ | ⟨w, e⟩ | ⟨C, dx, w, e⟩ <;> rcases e with e | ⟨o', e⟩ <;> (rw [h] at e; cases e)
section
variable {X : Cx} {W : WX} {n cn : Str} {i : Nat} {body suite orelse : List Stmt} {b₀ : Stmt} {np pos pos' : Pos} {ib els : IS} {ih : List (Str × PV) → IS}
theorem s_catch (stk : X.stack = X.env :: X.outer) (frm : X.env.frame = some X.env.locals) (ndN : X.N.Nodup) (slot : X.N[i]? = some n) (loc : X.env.kindOf n = some .local) (cj : CatJ X.K X.mg cn) (hg : Gl X cn)
    (inner : ∀ (V : WX) (pl : List (Addr × Obj)) (out : Value → Shared → Prop), L2N.Takes (X.tr pl out) V → PSs (X.tr pl out) body (tIS X.K V ib))
    (hand : ∀ (C x : Addr) (ox : Obj) (d : Option Addr) (pl : List (Addr × Obj)) (fs : List (Str × PV)), ClsAt X.K cn C → L2N.Zn (.ref C) d ox → (∃ us, ox.data = .fields us) → PSs (X.suite x ((x, ox) :: pl)) (b₀ :: suite) (tJS X.K (XJ X.K x d i fs) W0 (ih fs)))
    (last : PSs X orelse (tIS X.K W els)) (hdb : (cn == ("__debug__" : Str)) = false := by decide) :
    PS X (.Try body [.ExceptHandler (some (.Name cn np)) (some n) (b₀ :: suite) pos'] orelse [] pos) (tIS X.K W (iCatch cn ib i ih els)) := by
  obtain ⟨C, hC, hm, hx⟩ := cj.ex
  have base := ps_catch (X := X) (x := cn) (n := n) (c := .ref C) (i := i) (np := np) (pos := pos) (pos' := pos') (tb := fun V => tIS X.K V ib) (ts := fun x cls d D σ H => ∃ C fs, cls = .ref C ∧ ClsAt X.K cn C ∧ tJS X.K (XJ X.K x d i fs) W0 (ih fs) D σ H) stk frm ndN slot loc ⟨hg, hdb, .inl hm⟩ (fun V pl out tk _ => inner V pl out tk)
    (fun x ox cls d pl hz hd => ⟨fun pins s σ H D I h => by
      obtain ⟨C, fs, rfl, hC, h⟩ := h
      exact (hand C x ox d pl fs hC hz hd).run pins s σ H D I h⟩) last
  refine PS.imp base fun D σ H ⟨env, st, ρ, f, E, S, h, q⟩ => ?_
  unfold iCatch at h
  split at h
  · rename_i e s hb
    exact ⟨env, st, ρ, _, E, S, hb, fun σ' H' ρ' G S' E' => ⟨e, s, ρ', f, E', S', h, q.grow G⟩⟩
  · rename_i e c fs s hb
    split at h
    · rename_i hc
      obtain ⟨rfl, hi⟩ := hc
      refine ⟨env, st, ρ, _, E, S, hb, fun C' d σ' H' ρ' vs hC' G S' E' R' hd => ?_⟩
      have eC : C' = C := by
        have h1 := hC'
        unfold ClsAt at h1 hC
        rw [hC] at h1
        cases h1; rfl
      subst eC
      refine ⟨hx, fun x hxn => ⟨C', fs, rfl, hC', ?_⟩⟩
      have li : i < σ'.length := by rw [← E'.len]; exact hi
      have XJ' : XJ X.K x (some d) i fs (σ'.set i (some (.ref x))) H' ρ' := ⟨by rw [List.getElem?_set_self li], d, vs, rfl, .of hd, S'.safeX hd, R'⟩
      split at h
      · rename_i e2 s2 hh
        cases h
        exact ⟨e.set i none, s, ρ', _, E'.drop i _, S', XJ', hh, fun τ H2 ρ2 G2 S2 E2 => q _ H2 ρ2 (G.trans G2) S2 (E2.drop i none)⟩
      · rename_i e2 s2 hh
        cases h
        exact ⟨e.set i none, s, ρ', _, E'.drop i _, S', XJ', hh, fun τ H2 ρ2 G2 S2 E2 => q _ H2 ρ2 (G.trans G2) S2 (E2.drop i none)⟩
      · rename_i e2 s2 hh
        cases h
        exact ⟨e.set i none, s, ρ', _, E'.drop i _, S', XJ', hh, fun τ H2 ρ2 G2 S2 E2 => q _ H2 ρ2 (G.trans G2) S2 (E2.drop i none)⟩
      · rename_i v s2 hh
        cases h
        exact ⟨e.set i none, s, ρ', _, E'.drop i _, S', XJ', hh, fun v H2 ρ2 G2 S2 R2 => q v H2 ρ2 (G.trans G2) S2 R2⟩
      · cases h
    · cases h
  · rename_i h1 h2
    refine ⟨env, st, ρ, f, E, S, h, ?_⟩
    cases f with
    | nx e s => exact (h1 e s h).elim
    | er e c fs s => exact (h2 e c fs s h).elim
    | rt v s => exact q
    | bk e s => exact q
    | ct e s => exact q
end
end IL

/-! enumerate(text) -/
namespace IL
open PySem PySem.Spec PyProof.Rows L2
def Itn (x : Str) : It := ⟨fun k _ => k < x.cps.size, fun k G v G' => ∃ T c, v = .ref T ∧ G T = none ∧ x.cps[k]? = some c ∧ G' = upd G T (.tup [.int (k : Nat), .str ⟨#[c]⟩]), fun k _ => x.cps.size ≤ k⟩
theorem draws_text {prog : Program} {w : World} {A : Around} (hh : A.handled = none) (it : Addr) (x : Str) (t : Tok) {ty : String} (hty : ty = "str_ascii_iterator" ∨ ty = "str_iterator") :
    Draws prog w A it [it] x.cps.size (fun k v => ∃ c u, x.cps[k]? = some c ∧ v = .str ⟨#[c]⟩ u) (fun k h => h.IsStrIter it ty x t k) := by
  rcases hty with e | e <;> rw [e]
  · exact Draws.strAscii hh it x t
  · exact Draws.strWide hh it x t
theorem turn_enumT {P : Program} {w : World} {K : PySem.W.Frag} {elts : List Expr} {kk : Nat} {tpos : Pos} (en it : Addr) (x : Str) (t : Tok) {ty : String} (hty : ty = "str_ascii_iterator" ∨ ty = "str_iterator") :
    Turn P w K (.Tuple elts kk tpos) (Itn x) [en, it] en (fun k h => k ≤ x.cps.size ∧ (∃ old, IsEnum h en it ((k : Nat) : Int) old) ∧ h.IsStrIter it ty x t k ∧ en ≠ it) where
  mem := List.mem_cons_self ..
  obj := fun k h st b hb => by
    obtain ⟨_, ⟨old, ie⟩, ⟨ob, at0, _, dat⟩, _⟩ := st
    rcases List.mem_cons.mp hb with rfl | hb
    · exact ⟨_, ie, fun v z => nomatch z⟩
    · rw [List.mem_singleton] at hb
      subst hb
      exact ⟨ob, at0, fun v z => by rw [dat] at z; cases z⟩
  keep := fun k h h' st kp => by
    obtain ⟨le, ⟨old, ie⟩, ⟨ob, at0, r⟩, ne⟩ := st
    exact ⟨le, ⟨old, kp en (by simp) _ ie⟩, ⟨ob, kp it (by simp) ob at0, r⟩, ne⟩
  item := by
    intro X hP hw hK hc k pins s sl G E Iv hf st lt
    subst hP hw hK
    obtain ⟨_, ⟨old, ie⟩, si, ne⟩ := st
    have ltk : k < x.cps.size := lt
    have l1 : en < s.heap.objs.size := Heap.lt_size ie
    have l2 : it < s.heap.objs.size := by obtain ⟨_, q, _⟩ := si; exact Heap.lt_size q
    refine wpAny_pyNext_enum_itemD (draws_text (A := X.A.in1) (Iv.ok.hd hc) it x t hty) ie si ltk ne (by simpa using ne) fun y h' tk py out si' tup sz kp => ?_
    obtain ⟨c, u, hcx, rfl⟩ := py
    refine ⟨_, rfl, wpAny_letOwnedTupleGo_enum (s := { s with heap := h', toks := tk + 1 }) out fun h'' ie' sb => ?_⟩
    have tup2 : h''.get? s.heap.objs.size = some { cls := .type "tuple", data := .seq #[.int k tk, .str ⟨#[c]⟩ u] } := (sb.2 _ (Nat.ne_of_gt l1)).trans tup
    have fresh : ObjOk X.prog X.w (upd G s.heap.objs.size (.tup [.int (k : Nat), .str ⟨#[c]⟩])) h'' s.heap.objs.size (.tup [.int (k : Nat), .str ⟨#[c]⟩]) :=
      ⟨show 2 ≤ sizeLine by decide, [.int k tk, .str ⟨#[c]⟩ u], .cons ⟨_, rfl⟩ (.cons ⟨_, rfl⟩ .nil), ⟨_, tup2, rfl, _, rfl⟩⟩
    have Iv2 : Inv X pins sl (upd G s.heap.objs.size (.tup [.int (k : Nat), .str ⟨#[c]⟩])) { s with heap := h'', toks := tk + 1 } :=
      Iv.turnedNew (ch := [en, it]) (fun b ob hb q => (sb.2 b (fun z => hb (by simp [z]))).trans (kp b ob (fun z => hb (by simp [z])) (fun z => hb (by simp [z])) q)) hf (Nat.le_refl _) fresh
    refine ⟨.ref s.heap.objs.size, _, Iv2, rfl, ⟨_, c, rfl, Iv.hok.fresh (Nat.le_refl _), hcx, rfl⟩, ⟨ltk, ⟨.str ⟨#[c]⟩ u, ?_⟩, ?_, ne⟩, fun b hb => ?_⟩
    · rw [show ((k + 1 : Nat) : Int) = (k : Int) + 1 by omega]
      exact ie'
    · obtain ⟨ob, at0, r⟩ := si'
      exact ⟨ob, (sb.2 it (Ne.symm ne)).trans at0, r⟩
    · have lb : b < s.heap.objs.size := by
        rcases List.mem_cons.mp hb with rfl | hb
        · exact l1
        · rw [List.mem_singleton] at hb; subst hb; exact l2
      rw [upd_ne (Nat.ne_of_lt lb)]
      exact (hf b hb).1
  done := by
    intro X hP hw hK hc k pins s sl G E Iv hf st ge
    subst hP hw hK
    obtain ⟨le, ⟨old, ie⟩, si, ne⟩ := st
    have ek : k = x.cps.size := Nat.le_antisymm le ge
    subst ek
    obtain ⟨f0, f1, f2, f3, f4, f5⟩ := hf it (by simp)
    exact wpAny_pyNext_enum_endD (draws_text (A := X.A.in1) (Iv.ok.hd hc) it x t hty) ie si fun h' eb => ⟨rfl, Iv.turned (t' := s.toks) (fun b o hb q => eb b o hb q) f0 f1 f3 f4 f5⟩
  self := fun A i s Q E st h => by
    obtain ⟨_, ⟨old, ie⟩, _⟩ := st
    exact wpAny_pyIter_enum ie h
def iEnT (ta : TA) : TI := fun σ H R => ta σ H fun vs H1 => ∃ x : Str, vs = [.str x] ∧ R (Itn x) H1
theorem pi_enumT {X : Cx} {e : Expr} {ta : TA} {p pos tpos : Pos} {elts : List Expr} {kk : Nat} (hg : Gl X "enumerate") (hm : X.mg "enumerate" = none) (ha : PA X [e] ta) (hs : starEach [e] X.env = [(false, eval e X.env)] := by rfl) :
    PI X (.Tuple elts kk tpos) (.Call (.Name "enumerate" p) [e] [] pos) (iEnT ta) := by
  constructor
  intro pins s sl G R Iv h
  refine Call_ (ld_blt Iv hg hm boot_enumerate (PyProof.Rows.callWith_type1 (thn (ha.run pos pins s sl G _ Iv h) ?_) hs rfl))
  rintro us s1 ⟨vs, G1, I1, r1, x, rfl, q⟩
  cases r1 with
  | cons r rr =>
    cases rr
    obtain ⟨t, rfl⟩ := r
    refine call_enumerate_str fun h' ie si sz kp => wpAny_pyIter_enum ie ?_
    have I2 : Inv X pins sl G1 { s1 with heap := h' } := I1.kept (t' := s1.toks) kp
    have hty : strIterType x = "str_ascii_iterator" ∨ strIterType x = "str_iterator" := by
      unfold strIterType
      split
      · exact .inl rfl
      · exact .inr rfl
    refine ⟨s1.heap.objs.size + 1, [s1.heap.objs.size + 1, s1.heap.objs.size], _, _, G1, rfl, I2, turn_enumT (s1.heap.objs.size + 1) s1.heap.objs.size x t hty, ⟨Nat.zero_le _, ⟨.none, ie⟩, si, Nat.succ_ne_self _⟩, fun b hb => ?_, q⟩
    have ge : s1.heap.objs.size ≤ b := by
      rcases List.mem_cons.mp hb with rfl | hb
      · exact Nat.le_succ _
      · rw [List.mem_singleton] at hb; subst hb; exact Nat.le_refl _
    exact I1.fpOk ge (I1.hok.fresh ge)
end IL

/-! enumerate over texts, while True, int(text), a replaced text behind a written one; an exception's making; facts of an exception that is caught -/
namespace IL
open PySem PySem.Spec PyProof.Rows L2 CwR
/-! ### enumerate(text) -/
def srcEnT (x : Str) : Src := ⟨x.cps.size, fun _ i => some ((x.cps[i]?).map fun c => .tup [.int (i : Nat), .str ⟨#[c]⟩])⟩
theorem srcEnT_ok {K : PySem.W.Frag} {H0 : Hp} {ρ0 : Rho} {x : Str} : SrcOk K (srcEnT x) (Itn x) H0 ρ0 := fun H ρ st G S i => by
  refine ⟨fun hs => ?_, fun y hs => ?_⟩
  · simp only [srcEnT, Option.some.injEq, Option.map_eq_none_iff] at hs
    exact Array.getElem?_eq_none_iff.mp hs
  · simp only [srcEnT, Option.some.injEq] at hs
    cases e : x.cps[i]? with
    | none => rw [e] at hs; cases hs
    | some c =>
      rw [e] at hs
      cases hs
      refine ⟨(Array.getElem?_eq_some_iff.mp e).1, fun w H' y => ?_⟩
      obtain ⟨T, c', rfl, hT, e', rfl⟩ := y
      rw [e] at e'; cases e'
      obtain ⟨g1, g2, g3⟩ := pair_new (i := i) (x := .str ⟨#[c]⟩) S (by unfold Rep; rfl) hT
      exact ⟨ρ, g1, g2, g3⟩
def iEnumT (ir : IA) : II := fun env st => ob (ir env st) fun xs s => match xs with
  | [.str x] => some (srcEnT x, s)
  | _ => none
theorem i_enumT {X : Cx} {e : Expr} {ir : IA} {p tpos pos : Pos} {elts : List Expr} {kk : Nat} (hg : Gl X "enumerate") (hm : X.mg "enumerate" = none) (ha : PA X [e] (tIA X.K ir)) (hs : starEach [e] X.env = [(false, eval e X.env)] := by rfl) :
    PI X (.Tuple elts kk tpos) (.Call (.Name "enumerate" p) [e] [] pos) (tII X.K (iEnumT ir)) := PI.imp (pi_enumT hg hm ha hs) fun σ H R ⟨env, s, ρ, src, st', E, S, h, q⟩ => by
  obtain ⟨xs, s1, h1, h⟩ := ob_some h
  split at h
  · rename_i x
    cases h
    refine ⟨env, s, ρ, _, _, E, S, h1, fun v H1 ρ1 G1 S1 R1 => ?_⟩
    obtain ⟨w, rfl, R9⟩ := one_arg R1
    unfold Rep at R9
    subst R9
    exact ⟨x, rfl, q _ H1 ρ1 G1 S1 srcEnT_ok⟩
  · cases h
/-! ### while True -/
theorem t_true {X : Cx} {b : Bool} {j : Nat} {pos : Pos} : PT X (.Constant (.bool b) j pos) (tIT X.K (iTest (iC (.bl b)))) := r_truth r_bl (by intro _; rfl)
/-! ### int(text) -/
def fIntS : F1 := fun x st => match x with
  | .int i => some (.int i, st)
  | .bl b => some (.int (if b then 1 else 0), st)
  | .str a => if a.length ≤ 640 then (PySem.intText? a).map fun n => (.int n, st) else none
  | _ => none
def rIntS : List V → Hp → VK → Prop := fun xs H Q => ((∃ i, xs = [.int i] ∧ Q (.int i) H) ∨ ∃ k : Bool, xs = [.bl k] ∧ Q (.int (if k then 1 else 0)) H) ∨ ∃ a n, xs = [.str a] ∧ PySem.intText? a = some n ∧ a.length ≤ 640 ∧ Q (.int n) H
theorem call_intS {X : Cx} : CallR X (.type "int") rIntS := CallR.or call_int1 call_int_str
theorem f_intS {K : PySem.W.Frag} : CallI K rIntS (a1 fIntS) := call1 fun H ρ st x vx z st' Q S R h q => by
  unfold fIntS at h
  split at h
  · unfold Rep at R
    subst R
    cases h
    exact .inl (.inl ⟨_, rfl, q _ H ρ Grow.refl S (by unfold Rep; rfl)⟩)
  · unfold Rep at R
    subst R
    cases h
    exact .inl (.inr ⟨_, rfl, q _ H ρ Grow.refl S (by unfold Rep; rfl)⟩)
  · unfold Rep at R
    subst R
    split at h
    · rename_i hl
      obtain ⟨n, e, hz⟩ := map_some h
      cases hz
      exact .inr ⟨_, n, rfl, e, hl, q _ H ρ Grow.refl S (by unfold Rep; rfl)⟩
    · cases h
  · cases h
/-! ### "a" + x.replace("b", "c") -/
def iRep (ia : IE) (y z : Str) : IE := fun env st => ob (ia env st) fun x s => match x with
  | .str a => if a.length + (a.length + 1) * z.length ≤ 9000000 then some (.str (Txt.replace a y z), s) else none
  | _ => none
theorem pe_behind {X : Cx} {a : Str} {e : Expr} {te : TE} {op : Operator} {r : R2} {j : Nat} {c pos : Pos} (ho : OpR X (binaryOp op) r) (hb : PET X e te) : PE X (.BinOp (.Constant (.str a) j c) op e pos) (tOp r (tC (.str a)) te) := by
  refine ⟨fun pins s σ H Q I h => wpAny_BinOp (Calls.Constant_str ?_)⟩
  exact thn (hb pins { s with toks := s.toks + 1 } σ H _ (Nat.le_add_left 1 s.toks) (I.tok (s.toks + 1)) h) fun u s2 ⟨y, H2, I2, r2, q2⟩ => ho pins s2 σ H2 (.str a) y (.str a s.toks) u Q I2 ⟨s.toks, rfl⟩ r2 q2
theorem r_behindRep {X : Cx} {a y z : Str} {o : Expr} {io : IE} {op : Operator} {r : R2} {f : F2} {j k l : Nat} {c c0 c1 apos cpos pos : Pos} (ho : OpR X (binaryOp op) r) (hf : OpI X.K r f) (he : PE X o (tI X.K io)) (hyz : (y == z) = false := by decide)
    (hst : starEach [.Constant (.str y) k c0, .Constant (.str z) l c1] X.env = [(false, eval (.Constant (.str y) k c0) X.env), (false, eval (.Constant (.str z) l c1) X.env)] := by rfl)
    (hbase : attributeBase o "replace" X.env (eval o X.env) = eval o X.env := by rfl) (hline : (apos.endLine == cpos.line) = true := by rfl) :
    PE X (.BinOp (.Constant (.str a) j c) op (.Call (.Attribute o "replace" apos) [.Constant (.str y) k c0, .Constant (.str z) l c1] [] cpos) pos) (tI X.K (iBin f (iC (.str a)) (iRep io y z))) :=
  PE.imp (pe_behind ho (pet_replC he hyz hst hbase hline)) fun σ H Q ⟨env, st, ρ, w, st', E, S, h, q⟩ => by
    obtain ⟨x0, s0, h0, h⟩ := ob_some h
    cases h0
    obtain ⟨x1, s1, h1, h⟩ := ob_some h
    obtain ⟨x2, s2, h2, h3⟩ := ob_some h1
    refine ⟨env, st, ρ, x2, s2, E, S, h2, fun v H1 ρ1 G1 S1 R1 => ?_⟩
    split at h3
    · rename_i b
      split at h3
      · rename_i hl
        cases h3
        unfold Rep at R1
        subst R1
        refine ⟨b, rfl, by omega, ?_⟩
        exact hf H1 ρ1 _ (.str a) (.str (Txt.replace b y z)) (.str a) (.str (Txt.replace b y z)) w st' Q S1 (by unfold Rep; rfl) (by unfold Rep; rfl) h fun v2 H2 ρ2 G2 S2 R2 => q v2 H2 ρ2 (G1.trans G2) S2 R2
      · cases h3
    · cases h3
/-! ### the facts of a caught exception -/
structure AtJ (K : PySem.W.Frag) (c n : Str) : Prop where
  ex : ∃ C : Addr, ClsAt K c C ∧ XfC K C ∧ PySem.W.findIn K (.ref C) n = some none
structure IsJ (K : PySem.W.Frag) (mg : Str → Option Value) (c y : Str) (b : Bool) : Prop where
  ex : ∃ C D : Addr, ClsAt K c C ∧ mg y = some (.ref D) ∧ PySem.W.kitOne K (.ref C) (.ref D) = some b ∧ ExcC K C
theorem clsAt_one {K : PySem.W.Frag} {c : Str} {C D : Addr} (h : ClsAt K c C) (h' : ClsAt K c D) : C = D := by
  unfold ClsAt at h h'
  rw [h] at h'
  cases h'; rfl
section
variable {X : Cx} {a C : Addr} {oe : Obj} {d : Option Addr} {pn : List (Addr × Obj)} {i : Nat} {m n y cn : Str} {p p2 p3 pos : Pos} {fs : List (Str × PV)}
theorem j_at (T : AtJ X.K cn n) (hC : ClsAt X.K cn C) (hz : Zc (.ref C) d oe) (hf : ∃ vs, oe.data = .fields vs)
    (hN : X.N[i]? = some m) (hv : Vis X.env.scope m) (hd : (m == ("__debug__" : Str)) = false := by decide) (hcd : (m == ("__classdict__" : Str)) = false := by decide) (hb : attributeBase (.Name m p) n X.env (eval (.Name m p) X.env) = eval (.Name m p) X.env := by rfl) :
    PE (X.suite a ((a, oe) :: pn)) (.Attribute (.Name m p) n pos) (tJ X.K (XJ X.K a d i fs) (iExF fs n)) := by
  obtain ⟨D, hD, T, hno⟩ := T.ex
  cases clsAt_one hC hD
  exact j_exf T hno hz hf hN hv hd hcd hb
theorem j_is {b : Bool} (T : IsJ X.K X.mg cn y b) (hC : ClsAt X.K cn C) (hz : Zc (.ref C) d oe) (hf : ∃ vs, oe.data = .fields vs)
    (hN : X.N[i]? = some m) (hv : Vis X.env.scope m) (hg : Gl X "isinstance") (hm : X.mg "isinstance" = none) (hgy : Gl X y) (hv2 : bootBuiltins "isinstance" = some (.builtin "isinstance") := by decide +kernel)
    (hd : (m == ("__debug__" : Str)) = false := by decide) (hcd : (m == ("__classdict__" : Str)) = false := by decide) (hdy : (y == ("__debug__" : Str)) = false := by decide)
    (h1 : starEach [.Name m p2, .Name y p3] X.env = (false, eval (.Name m p2) X.env) :: starEach [.Name y p3] X.env := by rfl) (h2 : starEach [.Name y p3] X.env = (false, eval (.Name y p3) X.env) :: starEach [] X.env := by rfl)
    (hpl : (backTo pos (starEach [.Name y p3] X.env)).any (·.1) = false := by rfl) :
    PE (X.suite a ((a, oe) :: pn)) (.Call (.Name "isinstance" p) [.Name m p2, .Name y p3] [] pos) (tJ X.K (XJ X.K a d i fs) (iC (.bl b))) := by
  obtain ⟨D, D2, hD, hmy, hk, T⟩ := T.ex
  cases clsAt_one hC hD
  exact j_isx T hz hf hk hN hv hg hm hv2 hgy hmy hd hcd hdy h1 h2 hpl
end
end IL

/-! the message of an exception of one field that is an int; IfExp whose parts may raise -/
namespace IL
open PySem PySem.Spec PyProof.Rows L2
theorem fmt2_int {c : Str} (hc : c.length ≤ 1000) : ∀ (σ : L2.St) (H : Hp) (Q : VK) (v : V), σ[1]? = some (some v) → okInt v → (∀ s : Str, Q (.str s) H) → (fun (σ : L2.St) (H : Hp) (Q : VK) => tJs [tC (.str c), tFmt (tVar 1)] Str.empty σ H fun out H1 => Q (.str out) H1) σ H Q := by
  intro σ H Q v hv ⟨i, e, hi⟩ q
  subst e
  have l1 : (Str.empty ++ c).length ≤ 1000 := by rw [PySem.Str.length_append]; show 0 + c.length ≤ 1000; omega
  have l2 := int_text_len_1921 hi
  refine ⟨c, rfl, Nat.le_trans l1 (by decide), .int i, hv, .inr ⟨i, rfl, hi, Str.ofString (toString i), rfl, ?_, q _⟩⟩
  rw [PySem.Str.length_append]
  exact Nat.le_trans (Nat.add_le_add l1 l2) (by decide)
def iIfX (it : IT) (ia ib : IX) : IX := fun env st => ob (it env st) fun b s => if b then ia env s else ib env s
theorem x_if {X : Cx} {W : WX} {c a b : Expr} {pos : Pos} {it : IT} {ia ib : IX} (hc : PT X c (tIT X.K it)) (ha : PE X a (tIX X.K W ia)) (hb : PE X b (tIX X.K W ib)) : PE X (.IfExp c a b pos) (tIX X.K W (iIfX it ia ib)) :=
  PE.imp (pe_ifExp hc ha hb) fun σ H Q ⟨env, st, ρ, r, E, S, h, q⟩ => by
    obtain ⟨k, s1, h1, h⟩ := ob_some h
    refine ⟨env, st, ρ, k, s1, E, S, h1, fun H1 ρ1 G1 S1 => ?_⟩
    cases k with
    | true =>
      rw [if_pos rfl] at h ⊢
      exact ⟨env, s1, ρ1, r, E.grow S G1, S1, h, q.grow G1⟩
    | false =>
      rw [if_neg Bool.false_ne_true] at h ⊢
      exact ⟨env, s1, ρ1, r, E.grow S G1, S1, h, q.grow G1⟩
end IL
namespace IL
open PySem PySem.Spec PyProof.Rows L2
section
variable {X : Cx} {J : JP} {a b c : Expr} {pos : Pos} {ia ib : IE} {it : IT}
theorem j_ifExp (hJ : Keeps X.K J) (hc : PT X c (tJT X.K J it)) (ha : PE X a (tJ X.K J ia)) (hb : PE X b (tJ X.K J ib)) : PE X (.IfExp c a b pos) (tJ X.K J (iIf it ia ib)) :=
  PE.imp (pe_ifExp hc ha hb) fun σ H Q ⟨env, st, ρ, z, st', E, S, hj, h, q⟩ => by
    obtain ⟨k, s1, h1, h⟩ := ob_some h
    refine ⟨env, st, ρ, k, s1, E, S, hj, h1, fun H1 ρ1 G1 S1 => ?_⟩
    cases k with
    | true =>
      rw [if_pos rfl]
      exact ⟨env, s1, ρ1, z, st', E.grow S G1, S1, hJ S G1 hj, h, fun v H2 ρ2 G2 S2 R2 => q v H2 ρ2 (G1.trans G2) S2 R2⟩
    | false =>
      rw [if_neg Bool.false_ne_true]
      exact ⟨env, s1, ρ1, z, st', E.grow S G1, S1, hJ S G1 hj, h, fun v H2 ρ2 G2 S2 R2 => q v H2 ρ2 (G1.trans G2) S2 R2⟩
end
end IL

/-! rules for simp, of what may raise; texts of signs -/
namespace IL
open PySem PySem.Spec PyProof.Rows L2 SX
section
variable {st s s1 s2 : Sto} {env : PEnv} {x y z v : PV} {xs ys : List PV} {ia ib ic ie io : IE} {ix iy : IX} {ir : IA} {iq : IXA} {m k n : Nat} {c f : Str} {t : IT}
@[simp] theorem iOk_e : iOk ie env st = ob (ie env st) fun x s => some (.ok x, s) := rfl
@[simp] theorem iOks_e : iOks ir env st = ob (ir env st) fun x s => some (.ok x, s) := rfl
@[simp] theorem iCallX_e {F : FX} : iCallX F ir env st = ob (ir env st) fun xs s => F xs s := rfl
@[simp] theorem iConsX_e : iConsX ix iq env st = ob (ix env st) fun r s => match r with
  | .ok x => ob (iq env s) fun r2 s2 => match r2 with
    | .ok xs => some (.ok (x :: xs), s2)
    | .er c fs => some (.er c fs, s2)
  | .er c fs => some (.er c fs, s) := rfl
@[simp] theorem iTupX_e : iTupX iq env st = ob (iq env st) fun r s => match r with
  | .ok xs => if xs.length ≤ 9000000 then some (.ok (.tup xs), s) else none
  | .er c fs => some (.er c fs, s) := rfl
@[simp] theorem iAsgX_e {g : IG} : iAsgX g ix env st = ob (ix env st) fun r s => match r with
  | .ok x => (match g x env s with
    | some env' => some (.nx env' s)
    | none => none)
  | .er c fs => some (.er env c fs s) := rfl
@[simp] theorem iRetX_e : iRetX ix env st = ob (ix env st) fun r s => match r with
  | .ok x => some (.rt x s)
  | .er c fs => some (.er env c fs s) := rfl
@[simp] theorem iRaise_e {okP : PV → Bool} : iRaise c f okP ie env st = ob (ie env st) fun x s => if okP x then some (.er env c [(f, x)] s) else none := rfl
@[simp] theorem iIfX_e : iIfX t ix iy env st = ob (t env st) fun b s => if b then ix env s else iy env s := rfl
@[simp] theorem okPI_i {i : Int} : okPI (.int i) = decide (i.natAbs < 10 ^ 30) := rfl
@[simp] theorem iExF_e {fs : List (Str × PV)} : iExF fs f env st = (fs.lookup f).map fun x => (x, st) := rfl
@[simp] theorem fIntS_s {a : Str} : fIntS (.str a) st = if a.length ≤ 640 then (PySem.intText? a).map fun n => (.int n, st) else none := rfl
@[simp] theorem fIntS_i {i : Int} : fIntS (.int i) st = some (.int i, st) := rfl
@[simp] theorem iEnumT_e : iEnumT ir env st = ob (ir env st) fun xs s => match xs with
  | [.str x] => some (srcEnT x, s)
  | _ => none := rfl
theorem defX_rt {nN : Nat} {b : IS} (hl : xs.length = n) (h : b (xs.map some ++ List.replicate (nN - n) none) st = some (.rt v s)) : iDefX n nN b xs st = some (.ok v, gcS st s v) := by
  unfold iDefX
  rw [if_pos hl, h]
theorem defX_er {nN : Nat} {b : IS} {e : PEnv} {fs : List (Str × PV)} (hl : xs.length = n) (h : b (xs.map some ++ List.replicate (nN - n) none) st = some (.er e c fs s)) : iDefX n nN b xs st = some (.er c fs, s) := by
  unfold iDefX
  rw [if_pos hl, h]
/-- the value has no number: the store is as it was -/
theorem defX_pure {nN : Nat} {b : IS} {l : Sto} (hl : xs.length = n) (h : b (xs.map some ++ List.replicate (nN - n) none) st = some (.rt v (st ++ l))) (hv : nr v = true) : iDefX n nN b xs st = some (.ok v, st) := by
  rw [defX_rt hl h, gc_app (rlt_nr _ hv)]
theorem defX_pure0 {nN : Nat} {b : IS} (hl : xs.length = n) (h : b (xs.map some ++ List.replicate (nN - n) none) st = some (.rt v st)) (hv : nr v = true) : iDefX n nN b xs st = some (.ok v, st) := by
  rw [defX_rt hl h, gc_id (rlt_nr _ hv)]
theorem set_last {a b : SO} : (st ++ [a]).set st.length b = st ++ [b] := by
  have := List.set_append_right (s := st) (t := [a]) st.length b (Nat.le_refl _)
  rw [this]
  simp
end
/-! ### texts -/
section
variable {st : Sto} {l : List Nat}
theorem cut_SX (lo hi : Nat) : cutS (S l) (some (lo : Int)) (some (hi : Int)) = S ((l.drop lo).take (hi - lo)) := by
  unfold cutS
  rw [HT.sIx_nat, HT.sIx_nat, S_len]
  refine congrArg S ?_
  show (l.drop (min lo l.length)).take (min hi l.length - min lo l.length) = _
  by_cases h : lo ≤ l.length
  · rw [Nat.min_eq_left h]
    by_cases h2 : hi ≤ l.length
    · rw [Nat.min_eq_left h2]
    · rw [show min hi l.length = l.length by omega]
      rw [List.take_of_length_le (by rw [List.length_drop]; omega), List.take_of_length_le (by rw [List.length_drop]; omega)]
  · rw [show min lo l.length = l.length by omega]
    rw [List.drop_eq_nil_of_le (Nat.le_refl _), List.drop_eq_nil_of_le (by omega)]
    simp
theorem fSl_SX {lo hi : Nat} (hl : l.length ≤ 9000000) : fSl (.str (S l)) (some (lo : Int)) (some (hi : Int)) st = some (.str (S ((l.drop lo).take (hi - lo))), st) := by
  show (if (S l).length ≤ 9000000 then some (PV.str (cutS (S l) (some (lo : Int)) (some (hi : Int))), st) else none) = _
  rw [S_len, if_pos hl, cut_SX]
/-- one sign -/
theorem fSl_1 {p q : Int} {i : Nat} (hl : l.length ≤ 9000000) (hp : p = (i : Int)) (hq : q = ((i + 1 : Nat) : Int)) : fSl (.str (S l)) (some p) (some q) st = some (.str (S ((l.drop i).take 1)), st) := by
  rw [hp, hq, fSl_SX hl, show i + 1 - i = 1 by omega]
theorem fSl_to {p : Int} {i : Nat} (hl : l.length ≤ 9000000) (hp : p = (i : Int)) : fSl (.str (S l)) none (some p) st = some (.str (S (l.take i)), st) := by
  show (if (S l).length ≤ 9000000 then some (PV.str (cutS (S l) none (some p)), st) else none) = _
  rw [S_len, if_pos hl, hp]
  unfold cutS
  rw [HT.sIx_nat, HT.sIx_none, S_len]
  have e : (l.drop 0).take (min i l.length - 0) = l.take i := by
    rw [List.drop_zero, Nat.sub_zero]
    by_cases h : i ≤ l.length
    · rw [Nat.min_eq_left h]
    · rw [show min i l.length = l.length by omega, List.take_of_length_le (Nat.le_refl _), List.take_of_length_le (by omega)]
  show some (PV.str (S ((l.drop 0).take (min i l.length - 0))), st) = _
  rw [e]
theorem fSl_from {p : Int} {i : Nat} (hl : l.length ≤ 9000000) (hp : p = (i : Int)) : fSl (.str (S l)) (some p) none st = some (.str (S (l.drop i)), st) := by
  show (if (S l).length ≤ 9000000 then some (PV.str (cutS (S l) (some p) none), st) else none) = _
  rw [S_len, if_pos hl, hp]
  unfold cutS
  rw [HT.sIx_nat, HT.sIx_none, S_len]
  have e : (l.drop (min i l.length)).take (l.length - min i l.length) = l.drop i := by
    by_cases h : i ≤ l.length
    · rw [Nat.min_eq_left h, List.take_of_length_le (by rw [List.length_drop]; omega)]
    · rw [show min i l.length = l.length by omega, List.drop_eq_nil_of_le (Nat.le_refl _), List.drop_eq_nil_of_le (by omega)]
      simp
  show some (PV.str (S ((l.drop (min i l.length)).take (l.length - min i l.length))), st) = _
  rw [e]
/-- good for == -/
def okL (l : List Nat) : Prop := ∀ c ∈ l, c < 1114112
theorem okL_iff : PyData.strOk (S l) = true ↔ okL l := ok_iff
theorem okL.drop (h : okL l) (i : Nat) : okL (l.drop i) := fun c hc => h c (List.mem_of_mem_drop hc)
theorem okL.take (h : okL l) (i : Nat) : okL (l.take i) := fun c hc => h c (List.mem_of_mem_take hc)
theorem okL.app {m : List Nat} (h : okL l) (h2 : okL m) : okL (l ++ m) := fun c hc => (List.mem_append.mp hc).elim (h c) (h2 c)
theorem eqP_SX {a b : List Nat} (ha : okL a) (hb : okL b) : eqP st (.str (S a)) (.str (S b)) = some (decide (a = b)) := by
  rw [eqP_s, okL_iff.mpr ha, okL_iff.mpr hb]
  simp only [Bool.and_self, if_true]
  rw [S_beq_eq]
/-- the first sign is c -/
theorem eqP_hd {c : Nat} {b : Str} (hb : b = S [c]) (hc : c < 1114112) (h : okL l) : eqP st (.str (S (l.take 1))) (.str b) = some (decide (l.head? = some c)) := by
  rw [hb, eqP_SX (h.take 1) (fun d hd => by rw [List.mem_singleton] at hd; rw [hd]; exact hc)]
  cases l with
  | nil => simp
  | cons d r => simp
/-- lo <= the first sign <= hi -/
theorem ltS_hd_lo {c : Nat} {b : Str} (hb : b = S [c]) : ltS (S (l.take 1)) b = (match l.head? with
  | some d => decide (d < c)
  | none => true) := by
  subst hb
  cases l with
  | nil => rfl
  | cons d r => exact ltS_lo d c
theorem ltS_hd_hi {c : Nat} {b : Str} (hb : b = S [c]) : ltS b (S (l.take 1)) = (match l.head? with
  | some d => decide (c < d)
  | none => false) := by
  subst hb
  cases l with
  | nil => rfl
  | cons d r => exact ltS_lo c d
end
end IL

/-! x in a tuple of data of any depth -/
namespace IL
open PySem PySem.Spec PyProof.Rows L2 SX
def rInDT (K : PySem.W.Frag) : R2 := fun x y H Q => ∃ d ds, Dp K H x d ∧ Dp K H y (.tuple ds) ∧ SeqAt.shaped d = true ∧ SeqAt.shaped (.tuple ds) = true ∧ Q (.bl (ds.any fun z => PyData.eqv z d)) H
theorem op_inDT {X : Cx} (hu : X.A.units + 65 < cLine) : OpR X (compareOp .In) (rInDT X.K) := by
  intro pins s σ H x y v u Q I rx ry h
  obtain ⟨d, ds, hd, he, sd, se, q⟩ := h
  obtain ⟨as, r1⟩ := Dp.reads I d x v hd rx
  obtain ⟨bs, r2⟩ := Dp.reads I (.tuple ds) y u he ry
  exact SeqAt.in_tuple_reads r2 r1 (SeqAt.canLay_of_shaped se) (SeqAt.canLay_of_shaped sd) (room_in_shaped sd hu) ⟨.bl _, H, I, rfl, q⟩
def inT (st : Sto) (x y : PV) : Option Bool := match toD st 70 x, toD st 70 y with
  | some d, some (.tuple ds) => if SeqAt.shaped d && SeqAt.shaped (.tuple ds) then some (ds.any fun z => PyData.eqv z d) else none
  | _, _ => none
def inC (st : Sto) (x y : PV) : Option Bool := match inB st x y with
  | some b => some b
  | none => inT st x y
def fInC : F2 := fun x y st => (inC st x y).map fun b => (.bl b, st)
def rInC (K : PySem.W.Frag) : R2 := fun x y H Q => rInAll K x y H Q ∨ rInDT K x y H Q
theorem op_inC {X : Cx} (hu : X.A.units + 65 < cLine) : OpR X (compareOp .In) (rInC X.K) := OpR.or (op_inAll (by omega)) (op_inDT hu)
theorem f_inC {K : PySem.W.Frag} : OpI K (rInC K) fInC := by
  intro H ρ st x y vx vy z st' Q S Rx Ry h q
  obtain ⟨b, e, hz⟩ := map_some h
  unfold inC at e
  split at e
  · rename_i b' e1
    cases e
    refine .inl (f_inB H ρ st x y vx vy z st' Q S Rx Ry ?_ q)
    unfold fInB
    rw [e1]
    exact congrArg some hz
  · cases hz
    unfold inT at e
    split at e
    · rename_i d ds e1 e2
      split at e
      · rename_i hs
        rw [Bool.and_eq_true] at hs
        cases e
        exact .inr ⟨d, ds, toD_dp S _ _ _ _ Rx e1, toD_dp S _ _ _ _ Ry e2, hs.1, hs.2, q (.bl _) H ρ Grow.refl S (by unfold Rep; rfl)⟩
      · cases e
    · cases e
@[simp] theorem fInC_e {st : Sto} {x y : PV} : fInC x y st = (inC st x y).map fun b => (.bl b, st) := rfl
@[simp] theorem inC_s {st : Sto} {a : Str} {ys : List PV} {ws : List V} (h : mapO flatP ys = some ws) : inC st (.str a) (.tup ys) = some (inV (.str a) ws) := by
  unfold inC
  rw [inB_st, h]
  rfl
theorem inC_B {st : Sto} {x y : PV} {b : Bool} (h : inB st x y = some b) : inC st x y = some b := by
  unfold inC
  rw [h]
end IL
namespace IL
open PySem PySem.Spec PyProof.Rows L2 SX
/-! ### "a" * k, k up to 1, too -/
def fMulA : F2 := fun x y st => match fMul x y st with
  | some r => some r
  | none => match x, y with
    | .str a, .int k => if -1000 ≤ k ∧ k ≤ 1 then some (.str (Txt.mul a k), st) else none
    | _, _ => none
def rMulS1 : R2 := fun x y H Q => ∃ a k, x = .str a ∧ y = .int k ∧ (-1000 ≤ k ∧ k ≤ 1) ∧ Q (.str (Txt.mul a k)) H
theorem op_mulS1 {X : Cx} : OpR X (binaryOp .Mult) rMulS1 := by
  intro pins s σ H x y v u Q I rx ry h
  obtain ⟨a, k, rfl, rfl, ⟨h0, h1⟩, q⟩ := h
  obtain ⟨t, rfl⟩ := rx
  obtain ⟨t', rfl⟩ := ry
  have hk : ¬ k < 1 → (k == 1 || a.length == 0) = false → False := fun h2 h3 => by
    have : k = 1 := by omega
    subst this
    simp at h3
  refine PySem.SB.mul ⟨?_, fun h2 h3 => (hk h2 h3).elim, fun h2 h3 => (hk h2 h3).elim⟩ fun tk k' => ⟨.str _, H, I.tok _, ⟨_, rfl⟩, q⟩
  rw [decide_eq_false (by omega), decide_eq_false (by omega)]; rfl
def rMulA (K : PySem.W.Frag) : R2 := fun x y H Q => rMul K x y H Q ∨ rMulS1 x y H Q
theorem op_mulA {X : Cx} : OpR X (binaryOp .Mult) (rMulA X.K) := OpR.or op_mulI op_mulS1
theorem f_mulA {K : PySem.W.Frag} : OpI K (rMulA K) fMulA := by
  intro H ρ st x y vx vy z st' Q S Rx Ry h q
  unfold fMulA at h
  split at h
  · rename_i r e
    exact .inl (f_mul H ρ st x y vx vy z st' Q S Rx Ry (e.trans h) q)
  · cases x with
    | str a =>
      cases y with
      | int k =>
        simp only at h
        split at h
        · rename_i hk
          cases h
          unfold Rep at Rx Ry
          exact .inr ⟨a, k, Rx, Ry, hk, q _ H ρ Grow.refl S (by unfold Rep; rfl)⟩
        · cases h
      | _ => cases h
    | _ => cases h
@[simp] theorem fMulA_i {m n : Int} {st : Sto} : fMulA (.int m) (.int n) st = if cMul m n then some (.int (m * n), st) else none := by
  unfold fMulA
  rw [fMul_i]
  cases cMul m n <;> rfl
theorem fMulA_s {a : Str} {k : Int} {st : Sto} (h : cRep a.length k = true) : fMulA (.str a) (.int k) st = some (.str (repStr a k.toNat), st) := by
  have : fMul (.str a) (.int k) st = some (.str (repStr a k.toNat), st) := by
    show (if cRep a.length k then some (PV.str (repStr a k.toNat), st) else none) = _
    rw [h]
    rfl
  unfold fMulA
  rw [this]
theorem fMulA_s1 {a : Str} {k : Int} {st : Sto} (h0 : -1000 ≤ k) (h1 : k ≤ 1) : fMulA (.str a) (.int k) st = some (.str (Txt.mul a k), st) := by
  have hc : cRep a.length k = false := by
    rw [Bool.eq_false_iff]
    intro h
    have := cRep_of h
    omega
  have : fMul (.str a) (.int k) st = none := by
    show (if cRep a.length k then some (PV.str (repStr a k.toNat), st) else none) = _
    rw [hc]
    rfl
  unfold fMulA
  rw [this]
  show (if -1000 ≤ k ∧ k ≤ 1 then some (PV.str (Txt.mul a k), st) else none) = _
  rw [if_pos ⟨h0, h1⟩]
end IL

set_option maxHeartbeats 2000000
/-! iterators of tuples at their end, where an exception is handled -/
namespace IL
open PySem PySem.Spec PyProof.Rows L2 HotX
section
variable {prog : Program} {w : World} {A : Around} {E : Value → Shared → Prop} {s : Shared}
theorem tuple_over_hot {it t x1 : Addr} {k : Nat} {row : Array Value} {R : Option Value → Shared → Prop} (hot : HotAt A x1 s.heap) (walk : s.heap.IsTupleIter it t k) (seq : s.heap.IsTuple t row) (over : row[k]? = none) (apart : x1 ≠ it)
    (fin : ∀ h', Heap.ExtBut it s.heap h' → R none { s with heap := h' }) : wpAny (model prog w) A (pyNext (.ref it)) R E s := by
  obtain ⟨oi, gi, ci, di⟩ := id walk
  obtain ⟨ot, gt, _, nt, dt⟩ := seq
  obtain ⟨hand, ox, vx, gx, dx, cx⟩ := hot
  have slot := F.slot_tuple_iterator_next
  unfold pyNext
  refine wpAny_bind (wpAny_attempt (wpAny_callSpecial?_slot (name := Str.ofString "__next__") walk.typeIs slot (wpAny_call_entry slot walk.typeIs F.entry_tuple_iterator_next ?_ (F.args_tuple_iterator_next_1 _))))
  show wpAny _ _ (field (Value.ref it) 0 >>= _) _ _ s
  refine wpAny_bind (wpAny_field gi di (x := Value.ref t) rfl ?_)
  show wpAny _ _ (if (Value.ref t == Value.none) = true then _ else _) _ _ _
  rw [if_neg (by exact Bool.false_ne_true)]
  show wpAny _ _ (field (Value.ref it) 1 >>= _) _ _ s
  refine wpAny_bind (wpAny_field gi di (x := Value.int k 0) rfl ?_)
  show wpAny _ _ (seqItems? (Value.ref t) >>= _) _ _ s
  refine wpAny_bind (wpAny_seqItems gt dt ?_)
  simp only [over, Int.toNat_natCast]
  refine wpAny_bind (wpAny_rule (wpAny_bind (wpAny_setField gi di (by simp) (?_ : wpAny _ _ (newExc (.type "StopIteration") [] >>= _) _ _ _))))
  refine wpAny_bind ?_
  simp only [newTuple, newExc]
  refine wpAny_bind (wpAny_newObj_type (wpAny_bind (m := firstArgMember _ _) (wpAny_of_eq (a := Value.none) (by first | rfl | (simp only [firstArgMember]; rfl)) (wpAny_newObj_type ?_ (by size_fits)))) (by size_fits))
  have gx2 := (Heap.get?_update_other s.heap (Obj.mapFields (·.setIfInBounds 0 Value.none)) (Ne.symm apart)).trans gx
  have gx3 := Heap.get?_push_of_some { cls := .type "tuple", data := .seq #[] } gx2
  refine raiseNew_hot ⟨hand, ox, vx, Heap.get?_push_of_some _ gx3, dx, cx⟩ (Nat.ne_of_lt (Heap.lt_size gx3)) (Heap.get?_push_size _ rfl) rfl (by simp; omega) ?_
  refine wpAny_bind (wpAny_isInstance (T := "StopIteration") (b := true) ⟨_, Heap.get?_update_self _ (Heap.get?_push_size _ rfl) rfl, rfl⟩ isSubtype_stop (wpAny_pure (fin _ fun b o hb e => ?_)))
  have e3 := Heap.get?_push_of_some { cls := .type "tuple", data := .seq #[] } ((Heap.get?_update_other s.heap (Obj.mapFields (·.setIfInBounds 0 Value.none)) (Ne.symm hb)).trans e)
  exact (Heap.get?_update_other _ _ (Nat.ne_of_gt (Heap.lt_size e3))).trans (Heap.get?_push_of_some _ e3)
end
open L2H
/-- a walk over a tuple there -/
theorem turn_tupH {P : Program} {w : World} {K : PySem.W.Frag} {tg : Expr} (a it : Addr) : TurnH P w K tg (Itt K a) [it] it (fun i h => h.IsTupleIter it a i) := by
  refine ⟨by simp, fun i h st b hb => ?_, fun i h h' st k => st.at fun o e => k it (by simp) o e, ?_, ?_, fun _ _ _ _ _ st h => wpAny_pyIter_tupleiter st h⟩
  · rw [List.mem_singleton] at hb
    subst hb
    obtain ⟨o, e, _, d⟩ := st
    exact ⟨o, e, fun v z => by rw [d] at z; cases z⟩
  · intro X eP ew eK hc i pins s σ H E I hf st hg
    subst eP ew eK
    obtain ⟨xs, x, hq, hx⟩ := hg
    obtain ⟨its, rv, tup, _⟩ := I.tuple hq
    obtain ⟨u, hu, ru⟩ := rv.get hx
    obtain ⟨n0, n1, _, n3, n4, n5⟩ := hf it (by simp)
    refine wpAny_pyNext_tuple_item st (show s.heap.IsTuple a its.toArray from tup) (x := u) (by simpa using hu) fun h2 st2 same => ?_
    have J : Inv X pins σ H { s with heap := h2 } := I.turned (t' := s.toks) (fun b o hb e => (same.2 b hb).trans e) n0 n1 n3 n4 n5
    obtain ⟨o, e, c, d⟩ := id st2
    refine ⟨u, rfl, go_of (s := { s with heap := h2 }) e c d (by decide) ⟨x, H, J, ru, ⟨rfl, fun ys hy => ?_⟩, st2, fun b hb => (hf b hb).1⟩⟩
    rw [I.tuple_inj hy hq]
    exact hx
  · intro X eP ew eK hc i pins s σ H E I hf st hg
    subst eP ew eK
    obtain ⟨xs, hq, hx⟩ := hg
    obtain ⟨its, rv, tup, _⟩ := I.tuple hq
    obtain ⟨n0, n1, _, n3, n4, n5⟩ := hf it (by simp)
    obtain ⟨p, ⟨hand, vs, ep, cp⟩, hp⟩ := hc
    have hl := rv.length
    have gp := (I.pin p (List.mem_append_left _ hp)).1
    have apart : p.1 ≠ it := n5 p (List.mem_append_left _ hp)
    exact tuple_over_hot ⟨hand, p.2, vs, gp, ep, cp⟩ st (show s.heap.IsTuple a its.toArray from tup) (by simp; omega) apart fun h2 eb => ⟨rfl, I.turned (t' := s.toks) (fun b o hb e => eb b o hb e) n0 n1 n3 n4 n5⟩
theorem pi_tupH {X : Cx} {tg l : Expr} {tl : TE} (hl : PE X l tl) : PIH X tg l (L2.iTup X.K tl) := by
  constructor
  intro pins s σ H R I h
  refine thn (hl.run pins s σ H _ I h) fun v s1 ⟨x, H1, I1, r1, a, e, ⟨xs, hq⟩, q⟩ => ?_
  subst e
  cases r1
  obtain ⟨its, _, tup, _⟩ := I1.tuple hq
  refine wpAny_pyIter_tuple (show s1.heap.IsTuple a its.toArray from tup) ⟨s1.heap.objs.size, [s1.heap.objs.size], _, _, H1, rfl, I1.kept (t' := s1.toks) fun b o e => Heap.get?_push_of_some _ e, turn_tupH a _, ⟨_, Heap.get?_push_size _ rfl, rfl, rfl⟩, fun b hb => ?_, q⟩
  rw [List.mem_singleton] at hb
  subst hb
  exact I1.fpOk (Nat.le_refl _) (I1.hok.fresh (Nat.le_refl _))
end IL

set_option maxHeartbeats 2000000
/-! a comprehension's block that keeps the pins of what is around it -/
namespace IL
open PySem PySem.Spec PyProof.Rows L2 HotX L2H
/-- the block of a comprehension, with the pins around it -/
abbrev blkP (X : Cx) (s : Shared) (H : Hp) (scope : Scope) (cenv : PySem.Env) (fp : List Addr) : Cx := { X.blk s H scope cenv fp with pn := X.pn }
theorem blk_pins {X : Cx} {pins : List (Addr × Obj)} {σ σ' : L2.St} {H : Hp} {s s' : Shared} {scope : Scope} {cenv : PySem.Env} {fp : List Addr} (I : Inv X pins σ H s) (J : Inv (X.blk s H scope cenv fp) [] σ' H s') (kp : ∀ b o, s.heap.get? b = some o → s'.heap.get? b = some o) (hL : cenv.locals = s.heap.objs.size) :
    Inv (blkP X s H scope cenv fp) [] σ' H s' := by
  have k := J.ok
  refine ⟨⟨k.mod, k.kind, k.glob, k.blt, k.above, k.inj, k.has, k.cab, k.hd, k.frames, k.stk, k.exf, k.bs, k.bsz, k.noex, k.exfs, k.funs, k.frf⟩, J.os, J.bare, J.base, J.loc, J.cell, J.free, J.freeC, fun p hp => ?_, J.hok, J.len⟩
  have hp' : p ∈ X.pn := by simpa using hp
  have q := I.pin p (List.mem_append_left _ hp')
  refine ⟨kp _ _ q.1, q.2.1, ?_, ?_, q.2.2.2.2⟩
  · show p.1 ≠ cenv.locals
    rw [hL]
    exact Nat.ne_of_lt (Heap.lt_size q.1)
  · exact fun hm => (List.mem_cons.mp (I.stkSub p.1 hm)).elim q.2.2.1 q.2.2.2.1
theorem hot_blk {X : Cx} {s : Shared} {H : Hp} {scope : Scope} {cenv : PySem.Env} {fp : List Addr} (h : HotC X) : HotC (blkP X s H scope cenv fp) := h
end IL

set_option maxHeartbeats 2000000
/-! a comprehension where an exception is handled -/
namespace IL
open PySem PySem.Spec PyProof.Rows L2 HotX L2H
section
variable {X : Cx}
theorem lc_hot {pins : List (Addr × Obj)} {s : Shared} {σ : L2.St} {H : Hp} {Q : VK} {elt tg iter : Expr} {ifs : List Expr} {scope : Scope} {own : List (Str × Nat)} {pos pos' : Pos} {wi : TI} {g : TG} {tt : TT} {te : TE} {use : Option (Value → Sem Unit)} {Qf : Value → Shared → Prop}
    (hot : HotC X) (nd : X.N.Nodup) (Iv : Inv X pins σ H s) (walk : PIH X tg iter wi) (ok : BlkOk X.N X.env.scope scope own)
    (gg : ∀ (s : Shared) (H : Hp) (C : Addr) (cl : List (Str × Addr)) (fp : List Addr), PG (blkP X s H scope (compEnvC scope cl C X.env) fp) tg g) (gt : ∀ (s : Shared) (H : Hp) (C : Addr) (cl : List (Str × Addr)) (fp : List Addr), PTs (blkP X s H scope (compEnvC scope cl C X.env) fp) ifs tt)
    (ge : ∀ (s : Shared) (H : Hp) (C : Addr) (cl : List (Str × Addr)) (fp : List Addr), PE (blkP X s H scope (compEnvC scope cl C X.env) fp) elt te) (fold : ∀ x, foldedSetIterable iter X.env x = pure x)
    (wish : tLc wi g tt te (own.map (·.2)) σ H Q)
    (after : ∀ D C s' m H', Inv X pins σ H' s' → Q (.ref D) H' → s'.heap.Ns C m → FpOk X pins H' C → compPost (model X.prog X.w) X.A X.xe use Qf (.ref D) C (.ok .next) s') :
    wpAny (model X.prog X.w) X.A (comprehension (.ListComp elt [⟨tg, iter, ifs, 0⟩] scope pos) scope X.env pos' (newList []) false (eval iter X.env) use) Qf X.xe s := by
  have free : ∀ y ∈ scope.names, y.2 = .free → ∃ c, X.env.cells.lookup y.1 = some c := fun y hy e =>
    (ok.free y hy e).elim (fun k => Iv.ok.has _ (.inl k)) fun k => Iv.ok.has _ (.inr k)
  refine wpAny_comprehension_free (use := use) rfl fold (closure_ok free) ok.kind (fun y hy e => by rw [ok.uniq y hy, e]) (thn (walk.run pins s σ H _ Iv wish) fun xv t1 at1 => thn at1 fun itv t2 at2 => ?_)
  obtain ⟨it, fp, tn, J, Ha, e, Ia, T, sta, fra, q⟩ := at2
  subst e
  refine wpAny_newObj_type (newEnv_comp ?_) (by show 0 ≤ sizeLine; decide)
  generalize eD : t2.heap.objs.size = D
  have nD : Ha D = none := Ia.hok.fresh (Nat.le_of_eq eD)
  obtain ⟨W, ⟨m0, w0⟩, turn⟩ := q D nD
  generalize e3 : ({ t2 with heap := t2.heap.push { cls := .type "list", data := .seq ([] : List Value).toArray } } : Shared) = t3
  have Ib : Inv X pins σ (upd Ha D (.lst [])) t3 := by
    subst e3
    refine Ia.laid (t' := t2.toks) (fun b o e => Heap.get?_push_of_some _ e) (Nat.le_of_eq eD) ⟨Nat.zero_le _, [], 0, .nil, ?_⟩
    subst eD
    exact Heap.get?_push_size _ rfl
  have hp3 : t3.heap = t2.heap.push { cls := .type "list", data := .seq ([] : List Value).toArray } := by subst e3; rfl
  have low : ∀ b ∈ fp, b < t2.heap.objs.size := fun b hb => by
    obtain ⟨o, e, _⟩ := T.obj _ _ sta b hb
    exact Heap.lt_size e
  have frb : ∀ b ∈ fp, FpOk X pins (upd Ha D (.lst [])) b ∧ b < t3.heap.objs.size := fun b hb => by
    have lt := low b hb
    constructor
    · refine ⟨?_, (fra b hb).2⟩
      rw [upd_ne (by subst eD; exact Nat.ne_of_lt lt)]
      exact (fra b hb).1
    · rw [hp3, Heap.size_push]
      exact Nat.lt_succ_of_lt lt
  have stb : tn 0 t3.heap := T.keep _ _ _ sta fun b _ o e => by rw [hp3]; exact Heap.get?_push_of_some _ e
  have Ic0 := block_start Ib ok nd frb
  have Ic := blk_pins Ib Ic0 (fun b o e => pushCells_keeps _ _ _ _ (Heap.get?_push_of_some _ e)) rfl
  have pg := gg t3 (upd Ha D (.lst [])) t3.heap.objs.size (cellsFrom (t3.heap.objs.size + 1) scope.names (cloFrom X.env.cells scope.names [])) fp
  have pt := gt t3 (upd Ha D (.lst [])) t3.heap.objs.size (cellsFrom (t3.heap.objs.size + 1) scope.names (cloFrom X.env.cells scope.names [])) fp
  have pe := ge t3 (upd Ha D (.lst [])) t3.heap.objs.size (cellsFrom (t3.heap.objs.size + 1) scope.names (cloFrom X.env.cells scope.names [])) fp
  show codeAny _ _ (.compStart (.ListComp elt [⟨tg, iter, ifs, 0⟩] scope pos) 0 (.ref it) (.ref D) (compEnvC scope (cellsFrom (t3.heap.objs.size + 1) scope.names (cloFrom X.env.cells scope.names [])) t3.heap.objs.size X.env)) (compPost (model X.prog X.w) X.A X.xe use Qf (.ref D) t3.heap.objs.size) { t3 with heap := pushCells (t3.heap.push { cls := .type "dict", data := .dict #[] }) scope.names }
  have nfp : ∀ b ∈ fp, (upd Ha D (.lst [])) b = none := fun b hb => (frb b hb).1.1
  generalize ece : compEnvC scope (cellsFrom (t3.heap.objs.size + 1) scope.names (cloFrom X.env.cells scope.names [])) t3.heap.objs.size X.env = ce at Ic pg pt pe ⊢
  have cL : ce.locals = t3.heap.objs.size := by subst ece; rfl
  generalize eH : upd Ha D (.lst []) = Hb at Ib Ic pg pt pe w0 nfp frb
  generalize e4 : ({ t3 with heap := pushCells (t3.heap.push { cls := .type "dict", data := .dict #[] }) scope.names } : Shared) = t4 at Ic ⊢
  have stc : tn 0 t4.heap := T.keep _ _ _ stb fun b _ o e => by subst e4; exact pushCells_keeps _ _ _ _ (Heap.get?_push_of_some _ e)
  have stat : ∀ {σ' : L2.St} {H' : Hp} {s' : Shared}, Inv (blkP X t3 Hb scope ce fp) [] σ' H' s' → (∀ b ∈ fp, H' b = none) → ∀ b ∈ fp, FpOk (blkP X t3 Hb scope ce fp) [] H' b := fun {σ' H' s'} I' hn b hb =>
    ⟨hn b hb, (I'.ok.exf b hb).1, I'.ok.exfs b hb, .inl hb, fun x c e => (I'.ok.exf b hb).2 x c e, fun p hp => (frb b hb).1.2.2.2.2.2 p (List.mem_append_left _ (by simpa using hp))⟩
  have hotB : HotC (blkP X t3 Hb scope ce fp) := hot_blk hot
  have loop : codeAny (model X.prog X.w) X.A (.compLoop (.ListComp elt [⟨tg, iter, ifs, 0⟩] scope pos) 0 (.ref it) (.ref D) ce) (compPost (model X.prog X.w) X.A X.xe use Qf (.ref D) t3.heap.objs.size) t4 := by
    refine compLoop_any (fun n s' => ∃ i H', Inv (blkP X t3 Hb scope ce fp) [] (wipe σ (own.map (·.2))) H' s' ∧ tn i s'.heap ∧ (∀ b ∈ fp, H' b = none) ∧ W i n H') ?_ m0 ⟨0, Hb, Ic, stc, nfp, w0⟩
    rintro n t5 ⟨i, Hc, Id, std, nd5, w5⟩
    rcases turn i n Hc w5 with ⟨stop, qq⟩ | ⟨go, Nx, hNx, step⟩
    · refine thnF (T.done (blkP X t3 Hb scope ce fp) rfl rfl rfl hotB i [] t5 _ Hc (fun _ _ => False) Id (stat Id nd5) std stop) fun r t6 ⟨hr, If⟩ => ?_
      subst hr
      have Ig : Inv X pins σ Hc t6 := Ib.call' (ch := fp) If.os If.base If.hok If.bare fun b hb => ⟨(frb b hb).1.2.2.2.1, (frb b hb).1.2.1, (frb b hb).1.2.2.2.2.1, (frb b hb).1.2.2.2.2.2⟩
      have nC : Hc t3.heap.objs.size = none := cL ▸ (If.free : Hc ce.locals = none)
      obtain ⟨m, ns, _⟩ := If.loc
      have ns' : t6.heap.Ns t3.heap.objs.size m := cL ▸ (ns : t6.heap.Ns ce.locals m)
      exact after D _ t6 m Hc Ig qq ns' (Ib.fpOk (Nat.le_refl _) nC)
    · refine thnF (T.item (blkP X t3 Hb scope ce fp) rfl rfl rfl hotB i [] t5 _ Hc (fun _ _ => False) Id (stat Id nd5) std go) fun r t6 ⟨u, hr, at6⟩ => ?_
      subst hr
      refine thnF at6 fun _ t7 ⟨x, He, If, rx, yx, stf, nf⟩ => ?_
      have If' := If.pinned (stat If nf) (T.obj _ _ stf)
      refine thnF (pg.run _ t7 _ He x u _ If' rx (step x He yx)) fun _ t8 ⟨σ8, Hg, Ig, wp8, q8⟩ => ?_
      refine thnF (pt.run _ t8 σ8 Hg _ Ig q8) fun b t9 ⟨Hh, Ih, q9⟩ => ?_
      have over : ∀ {s' : Shared} {H' : Hp}, Inv (blkP X t3 Hb scope ce fp) ([] ++ pinsAt fp t7.heap) σ8 H' s' → Nx H' → ∃ m, m < n ∧ ∃ i H', Inv (blkP X t3 Hb scope ce fp) [] (wipe σ (own.map (·.2))) H' s' ∧ tn i s'.heap ∧ (∀ b ∈ fp, H' b = none) ∧ W i m H' := fun {s' H'} I' nx => by
        obtain ⟨m', lt, w'⟩ := hNx H' nx
        have stays : ∀ b ∈ fp, ∀ o, t7.heap.get? b = some o → s'.heap.get? b = some o ∧ H' b = none := fun b hb o e =>
          have z := I'.pin (b, o) (List.mem_append_right _ (List.mem_append_right _ (mem_pinsAt hb e)))
          ⟨z.1, z.2.1⟩
        refine ⟨m', lt, i + 1, H', (I'.unpinned (pins := [])).weak (by rw [← wp8, wipe_length]) (fun j v e => ?_), T.keep _ _ _ stf fun b hb o e => (stays b hb o e).1, fun b hb => ?_, w'⟩
        · rw [← wp8] at e
          exact (wipe_some e).1
        · obtain ⟨o, e, _⟩ := T.obj _ _ stf b hb
          exact (stays b hb o e).2
      cases b with
      | false =>
        simp only [if_false, Bool.false_eq_true] at q9 ⊢
        exact over Ih q9
      | true =>
        simp only [if_true] at q9 ⊢
        refine thnF (pe.run _ t9 σ8 Hh _ Ih q9) fun z t10 ⟨yv, Hi, Ii, ry, acc, hD, hz, nx⟩ => ?_
        exact app_ok (X := blkP X t3 Hb scope ce fp) Ii hD hz ry fun t11 Ij => over Ij nx
  exact codeAny_compStart_list loop (T.self X.A 0 _ _ _ stc loop)
/-- as a value -/
theorem pe_lcH {elt tg iter : Expr} {ifs : List Expr} {scope : Scope} {own : List (Str × Nat)} {pos : Pos} {wi : TI} {g : TG} {tt : TT} {te : TE} (hot : HotC X) (nd : X.N.Nodup) (walk : PIH X tg iter wi) (ok : BlkOk X.N X.env.scope scope own)
    (gg : ∀ (s : Shared) (H : Hp) (C : Addr) (cl : List (Str × Addr)) (fp : List Addr), PG (blkP X s H scope (compEnvC scope cl C X.env) fp) tg g) (gt : ∀ (s : Shared) (H : Hp) (C : Addr) (cl : List (Str × Addr)) (fp : List Addr), PTs (blkP X s H scope (compEnvC scope cl C X.env) fp) ifs tt)
    (ge : ∀ (s : Shared) (H : Hp) (C : Addr) (cl : List (Str × Addr)) (fp : List Addr), PE (blkP X s H scope (compEnvC scope cl C X.env) fp) elt te) (fold : ∀ x, foldedSetIterable iter X.env x = pure x := by intro _; rfl) :
    PE X (.ListComp elt [⟨tg, iter, ifs, 0⟩] scope pos) (tLc wi g tt te (own.map (·.2))) := by
  constructor
  intro pins s σ H Q I h
  rw [eval_ListComp]
  refine lc_hot hot nd I walk ok gg gt ge fold h fun D C s' m H' I' q hn ⟨f0, f1, _, f3, f4, f5⟩ => ⟨m, hn, fun h2 same => ?_⟩
  exact ⟨.ref D, H', I'.turned (t' := s'.toks) (fun b o hb e => (same.2 b hb).trans e) f0 f1 f3 f4 f5, rfl, q⟩
end
end IL

set_option maxHeartbeats 2000000
/-! all(xs) of a list where an exception is handled -/
namespace IL
open PySem PySem.Spec PyProof.Rows L2 HotX L2H
section
variable {prog : Program} {w : World} {A : Around} {E : Value → Shared → Prop} {s : Shared}
theorem list_over_hot {it t x1 : Addr} {k : Nat} {row : Array Value} {R : Option Value → Shared → Prop} (hot : HotAt A x1 s.heap) (walk : s.heap.IsListIter it t k) (seq : s.heap.IsList t row) (over : row[k]? = none) (apart : x1 ≠ it)
    (fin : ∀ h', Heap.ExtBut it s.heap h' → R none { s with heap := h' }) : wpAny (model prog w) A (pyNext (.ref it)) R E s := by
  obtain ⟨oi, gi, ci, di⟩ := id walk
  obtain ⟨ot, gt, _, nt, dt⟩ := seq
  obtain ⟨hand, ox, vx, gx, dx, cx⟩ := hot
  have slot := slot_listiter_next
  unfold pyNext
  refine wpAny_bind (wpAny_attempt (wpAny_callSpecial?_slot (name := Str.ofString "__next__") walk.typeIs slot (wpAny_call_entry slot walk.typeIs entry_listiter_next ?_ (args_listiter_next _))))
  show wpAny _ _ (field (Value.ref it) 0 >>= _) _ _ s
  refine wpAny_bind (wpAny_field gi di (x := Value.ref t) rfl ?_)
  show wpAny _ _ (if (Value.ref t == Value.none) = true then _ else _) _ _ _
  rw [if_neg (by exact Bool.false_ne_true)]
  show wpAny _ _ (field (Value.ref it) 1 >>= _) _ _ s
  refine wpAny_bind (wpAny_field gi di (x := Value.int k 0) rfl ?_)
  show wpAny _ _ (seqItems? (Value.ref t) >>= _) _ _ s
  refine wpAny_bind (wpAny_seqItems gt dt ?_)
  simp only [over, Int.toNat_natCast]
  refine wpAny_bind (wpAny_rule (wpAny_bind (wpAny_setField gi di (by simp) (?_ : wpAny _ _ (newExc (.type "StopIteration") [] >>= _) _ _ _))))
  refine wpAny_bind ?_
  simp only [newTuple, newExc]
  refine wpAny_bind (wpAny_newObj_type (wpAny_bind (m := firstArgMember _ _) (wpAny_of_eq (a := Value.none) (by first | rfl | (simp only [firstArgMember]; rfl)) (wpAny_newObj_type ?_ (by size_fits)))) (by size_fits))
  have gx2 := (Heap.get?_update_other s.heap (Obj.mapFields (·.setIfInBounds 0 Value.none)) (Ne.symm apart)).trans gx
  have gx3 := Heap.get?_push_of_some { cls := .type "tuple", data := .seq #[] } gx2
  refine raiseNew_hot ⟨hand, ox, vx, Heap.get?_push_of_some _ gx3, dx, cx⟩ (Nat.ne_of_lt (Heap.lt_size gx3)) (Heap.get?_push_size _ rfl) rfl (by simp; omega) ?_
  refine wpAny_bind (wpAny_isInstance (T := "StopIteration") (b := true) ⟨_, Heap.get?_update_self _ (Heap.get?_push_size _ rfl) rfl, rfl⟩ isSubtype_stop (wpAny_pure (fin _ fun b o hb e => ?_)))
  have e3 := Heap.get?_push_of_some { cls := .type "tuple", data := .seq #[] } ((Heap.get?_update_other s.heap (Obj.mapFields (·.setIfInBounds 0 Value.none)) (Ne.symm hb)).trans e)
  exact (Heap.get?_update_other _ _ (Nat.ne_of_gt (Heap.lt_size e3))).trans (Heap.get?_push_of_some _ e3)
theorem HotAt.stays {x1 : Addr} {h h2 : Heap} (hot : HotAt A x1 h) (k : ∀ o, h.get? x1 = some o → h2.get? x1 = some o) : HotAt A x1 h2 := by
  obtain ⟨hand, ox, vx, gx, r⟩ := hot
  exact ⟨hand, ox, vx, k _ gx, r⟩
/-- a walk over a list there -/
theorem walks_hot (it t x1 : Addr) (ne : t ≠ it) (apart : x1 ≠ it) (row : Array Value) :
    Walks prog w A it [it, t, x1] [it] row.size (fun i v => row[i]? = some v) (fun i h => h.IsListIter it t i ∧ h.IsList t row ∧ HotAt A x1 h) := by
  refine ⟨fun b hb => by rw [List.mem_singleton] at hb; simp [hb], fun _ _ _ st k => ⟨st.1.at fun o e => k it (by simp) o e, st.2.1.at fun o e => k t (by simp) o e, HotAt.stays st.2.2 fun o e => k x1 (by simp) o e⟩, fun i s Q E lt st q => ?_, fun s Q E st q => ?_, fun _ _ _ _ st q => wpAny_pyIter_listiter st.1 q⟩
  · refine wpAny_pyNext_list_item st.1 st.2.1 (x := row[i]) (by simp [lt]) fun h2 it2 same => ?_
    exact q _ h2 s.toks (by simp [lt]) ⟨it2, st.2.1.extBut same.extBut ne, HotAt.stays st.2.2 fun o e => same.extBut x1 o apart e⟩ fun b o hb e => same.extBut b o (fun z => hb (by simp [z])) e
  · exact list_over_hot st.2.2 st.1 st.2.1 (by simp) apart fun h2 ext => q h2 s.toks fun b o hb e => ext b o (fun z => hb (by simp [z])) e
end
theorem cr_allH {X : Cx} (hot : HotC X) : CallR X (.builtin "all") (rAll X.K) := by
  intro pins s σ H vs us Q I r h
  obtain ⟨a, bs, rfl, hs, q⟩ := h
  obtain ⟨its, rv, hl, _⟩ := I.list hs
  rw [Vals.ref1 r]
  have bools := rv.bls
  obtain ⟨p, ⟨hand, vx, dp, cp⟩, hp⟩ := hot
  have gp := (I.pin p (List.mem_append_left _ hp)).1
  refine call_all_walk (iter_any hl.isList fun s2 e2 st ne => ?_)
  subst e2
  have apart : p.1 ≠ s.heap.objs.size := Nat.ne_of_lt (Heap.lt_size gp)
  refine ⟨_, _, _, _, _, _, _, rfl, walks_hot (A := X.A.in1) _ a p.1 ne apart its.toArray, ⟨st.1, st.2, hand, p.2, vx, Heap.get?_push_of_some _ gp, dp, cp⟩, truth_bools bools, fun h2 tk keep => ⟨.bl _, H, I.kept fun b o eo => keep b o (fun hm => ?_) (Heap.get?_push_of_some _ eo), ?_, q⟩⟩
  · rw [List.mem_singleton] at hm
    exact absurd (hm ▸ Heap.lt_size eo) (Nat.lt_irrefl _)
  · show Value.bool _ = Value.bool _
    rw [bools, ← L2.all_range, List.size_toArray, List.length_map]
end IL

/-! in an except suite something is handled whose context is None: defs can be called there -/
namespace IL
open PySem PySem.Spec PyProof.Rows L2 HotX L2H
theorem hot_suite {X : Cx} {x : Addr} {ox : Obj} {cls : Value} {d : Option Addr} {pl : List (Addr × Obj)} (z : L2N.Zn cls d ox) (hd : ∃ us, ox.data = .fields us) : HotC (X.suite x ((x, ox) :: pl)) :=
  ⟨(x, ox), ⟨rfl, hd.choose, hd.choose_spec, z.2.2 _ hd.choose_spec⟩, List.mem_cons_self⟩
end IL

/-! defs that are called where an exception is handled -/
namespace IL
open PySem PySem.Spec PyProof.Rows L2 HotX L2H
structure CalH (P : Program) (w : World) (K : PySem.W.Frag) (mg : Str → Option PySem.Value) (base : Heap) (k : Nat) (x : Str) (n : Nat) (f : FA) : Prop where
  ex : ∃ (fa : Addr) (fd : FuncData) (ps : List Str), FnH P w K mg base C8.CX0 k fa fd ps (spI K n f) ∧ mg x = some (.ref fa) ∧ PySem.W.keepIn K (.ref fa) = true ∧ Binds K fd ps []
section
variable {X : Cx} {x : Str} {p pos : Pos} {e : Expr} {es : List Expr} {ir : IA} {k j n : Nat} {F : FA}
theorem h_call (c : CalH X.prog X.w X.K X.mg X.base k x n F) (hn : Ar n F) (hr : RoomH j X.A) (hc : HotC X) (hk : k ≤ j) (hg : Gl X x) (ha : PA X (e :: es) (tIA X.K ir))
    (hdb : (x == ("__debug__" : Str)) = false := by decide) (he : starEach (e :: es) X.env = (false, eval e X.env) :: starEach es X.env := by rfl) (hpl : (backTo pos (starEach es X.env)).any (·.1) = false := by rfl) :
    PE X (.Call (.Name x p) (e :: es) [] pos) (tI X.K (iCall F ir)) := by
  obtain ⟨fa, fd, ps, Fn, hm, kp, b⟩ := c.ex
  refine PE.imp (pe_callH (E := fun _ _ _ _ => False) Fn (hr.mono hk) hc hg hm kp b (fun σ => fun _ _ _ _ _ _ h => h.elim) ha hdb he hpl) fun σ H Q ⟨env, st, ρ, z, st', E, S, h, q⟩ => ?_
  obtain ⟨xs, s1, h1, h⟩ := ob_some h
  exact ⟨env, st, ρ, xs, s1, E, S, h1, fun vs H1 ρ1 G1 S1 R1 => ⟨by rw [← R1.length]; exact hn _ _ _ h, s1, ρ1, xs, z, st', S1, R1, h, fun v H' ρ' G S' R' => q v H' ρ' (G1.trans G) S' R'⟩⟩
theorem roomH_suite {a : Addr} {pn : List (Addr × Obj)} (hr : Room j X.A) : RoomH j (X.suite a pn).A := ⟨hr.dp, hr.un⟩
theorem roomH_suite' {a : Addr} {pn : List (Addr × Obj)} (hr : RoomH j X.A) : RoomH j (X.suite a pn).A := ⟨hr.dp, hr.un⟩
end
theorem cal_H {P : Program} {w : World} {K : PySem.W.Frag} {mg : Str → Option PySem.Value} {base : Heap} {x : Str} {st : Stmt} {f : Addr} {fd : FuncData} {N ps : List Str} {k : Nat} {ib : IS} (F : C8.Def K mg x st f fd) (b : Binds K fd ps []) (S : FnScope N ps (C8.fnScope st))
    (hb : ∀ (cdv : PySem.Value) (A : Around) (outer : List PySem.Env) (s : Shared) (H : Hp) (E : XK) (p : Addr × Obj), Hot1 A p → RoomH k (A.deeper (envOfC x (C8.fnScope st) s.heap.objs.size f cdv)) →
      PSs (cxH C8.CX0 P w K mg base N x (C8.fnScope st) f cdv A outer s H E p) (C8.fnBody st) (tIS K W0 ib)) : CalH P w K mg base (k + 1) x ps.length (iDef ps.length N.length ib) := by
  obtain ⟨oc, od, dV, kV, doc, pm, an, cdv, ct, osl, rfl, lk, hcd⟩ := F.fn.ex
  exact ⟨f, _, ps, fn_ofH lk hcd S (fun vs H Q E h => h.1) fun A outer s H vs Q E p hp hr hsp => ⟨_, hb cdv A outer s H E p hp hr, body_to hsp⟩, F.mgf, F.kp, b⟩
end IL

/-! comprehensions over tuples, as plain functions, where an exception is handled -/
namespace IL
open PySem PySem.Spec PyProof.Rows L2 HotX L2H
theorem PIH.impH {X : Cx} {tg iter : Expr} {t t' : TI} (h : PIH X tg iter t) (i : ∀ σ H R, t' σ H R → t σ H R) : PIH X tg iter t' := ⟨fun pins s σ H R I q => h.run pins s σ H R I (i _ _ _ q)⟩
def iWalkT (ie : IE) : II := fun env st => ob (ie env st) fun x s => match x with
  | .tup xs => some (srcT xs, s)
  | _ => none
section
variable {X : Cx} {e : Expr} {ie : IE} {it : IT}
theorem i_walkH {tg : Expr} (he : PE X e (tI X.K ie)) : PIH X tg e (tII X.K (iWalkT ie)) := PIH.impH (pi_tupH he) fun σ H R ⟨env, s, ρ, src, st', E, S, h, q⟩ => by
  obtain ⟨x, s1, h1, h⟩ := ob_some h
  cases x with
  | tup xs =>
    cases h
    refine ⟨env, s, ρ, _, _, E, S, h1, fun v H1 ρ1 G1 S1 R1 => ?_⟩
    unfold Rep at R1
    obtain ⟨a, vs, rfl, t1, t2⟩ := R1
    exact ⟨a, rfl, ⟨vs, t1⟩, q _ H1 ρ1 G1 S1 (srcT_ok S1 t1 t2)⟩
  | _ => cases h
theorem r_lcH {elt tg iter : Expr} {ifs : List Expr} {scope : Scope} {own : List (Str × Nat)} {pos : Pos} {ii : II} {T : List Nat} {ig : IG} (hot : HotC X) (hN : X.N.Nodup) (hi : PIH X tg iter (tII X.K ii)) (ok : BlkOk X.N X.env.scope scope own)
    (hT : ∀ i ∈ T, i ∈ own.map (·.2))
    (hg : ∀ (s : Shared) (H : Hp) (C : Addr) (cl : List (Str × Addr)) (fp : List Addr), PG (blkP X s H scope (compEnvC scope cl C X.env) fp) tg (tIG X.K T ig)) (ht : ∀ (s : Shared) (H : Hp) (C : Addr) (cl : List (Str × Addr)) (fp : List Addr), PTs (blkP X s H scope (compEnvC scope cl C X.env) fp) ifs (tIT X.K it))
    (he : ∀ (s : Shared) (H : Hp) (C : Addr) (cl : List (Str × Addr)) (fp : List Addr), PE (blkP X s H scope (compEnvC scope cl C X.env) fp) elt (tI X.K ie)) (hs : ∀ x, foldedSetIterable iter X.env x = pure x := by intro _; rfl) :
    PE X (.ListComp elt [⟨tg, iter, ifs, 0⟩] scope pos) (tI X.K (iLc ii ig it ie (own.map (·.2)))) :=
  PE.imp (pe_lcH hot hN hi ok hg ht he hs) fun _ _ _ h => lc_to hT h
end
end IL

/-! pop(), extend, reversed, f-strings, isinstance of one of two types -/
namespace IL
open PySem PySem.Spec PyProof.Rows L2 RT
section
variable {X : Cx} {o e e1 e2 : Expr} {es : List Expr} {ia ib ie : IE} {pos : Pos}
theorem Reps.dropLast {K : PySem.W.Frag} {H : Hp} {ρ : Rho} {xs : List PV} {vs : List V} (r : Reps K H ρ xs vs) : Reps K H ρ xs.dropLast vs.dropLast := by
  rw [List.dropLast_eq_take, List.dropLast_eq_take, ← r.length]
  exact Reps.take _ r
/-- xs.pop() -/
def iPop (io : IE) : IE := fun env st => ob (io env st) fun o s1 => match o with
  | .ref n => match s1[n]? with
    | some (.lst xs) => match xs[xs.length - 1]? with
      | some y => some (y, s1.set n (.lst xs.dropLast))
      | none => none
    | _ => none
  | _ => none
theorem r_pop {apos cpos : Pos} (ho : PE X o (tI X.K ia)) (hbase : attributeBase o "pop" X.env (eval o X.env) = eval o X.env := by rfl) (hline : (apos.endLine == cpos.line) = true := by rfl) :
    PE X (.Call (.Attribute o "pop" apos) [] [] cpos) (tI X.K (iPop ia)) :=
  PE.imp (pe_bm0 PySem.F.plainAttrs_list PySem.F.slot_list_pop PySem.F.type_list_pop mt_pop ho hbase hline) fun σ H Q ⟨env, st, ρ, z, st', E, S, h, q⟩ => by
    obtain ⟨x, s1, h1, h⟩ := ob_some h
    refine ⟨env, st, ρ, x, s1, E, S, h1, fun vx H1 ρ1 G1 S1 R1 => ?_⟩
    split at h
    · rename_i n
      split at h
      · rename_i xs e0
        split at h
        · rename_i y ey
          cases h
          unfold Rep at R1
          obtain ⟨a, rfl, i1⟩ := R1
          obtain ⟨b1, hb1, vs1, h3, r1⟩ := S1.at_ _ _ e0
          rw [i1] at hb1; cases hb1
          have ndd := S1.lv _ _ _ e0 (by simp) i1
          obtain ⟨v, hv, rv⟩ := r1.get ey
          have g : Grow H1 ρ1 (upd H1 a (.lst vs1.dropLast)) ρ1 := grow_write h3 (List.mem_of_getElem? i1) ndd
          refine ⟨.inl ⟨rfl, vs1, .of h3⟩, a, vs1, v, rfl, rfl, h3, by rw [← r1.length]; exact hv, ?_⟩
          exact q v _ ρ1 (G1.trans g) (S1.write (so := .lst xs.dropLast) i1 ndd h3 ⟨_, upd_same, Reps.grow S1 g _ _ r1.dropLast⟩) (Rep.grow S1 g _ _ rv)
        · cases h
      · cases h
    · cases h
/-- xs.extend(ys), both written here -/
def iExtend (io ie : IE) : IE := fun env st => ob (io env st) fun o s1 => match o with
  | .ref n => match s1[n]? with
    | some (.lst _) => ob (ie env s1) fun x s2 => match x with
      | .ref m => match s2[n]?, s2[m]? with
        | some (.lst xs), some (.lst ys) => if xs.length + ys.length ≤ 9000000 then some (.non, s2.set n (.lst (xs ++ ys))) else none
        | _, _ => none
      | _ => none
    | _ => none
  | _ => none
theorem r_extend {apos cpos : Pos} (ho : PE X o (tI X.K ia)) (he : PE X e (tI X.K ib))
    (hbase : attributeBase o "extend" X.env (eval o X.env) = eval o X.env := by rfl)
    (hfew : ((backTo cpos (starEach (e :: []) X.env)).all (fun x => !x.1) && (backToKw cpos (keywordEach [] X.env)).all (fun x => x.1.isSome)
      && decide ((e :: []).length + ([] : List Keyword).length + (if ([] : List Keyword).isEmpty then 0 else 1) < 30)) = true := by rfl)
    (hline : (apos.endLine == cpos.line) = true := by rfl) (hs : starEach (e :: []) X.env = (false, eval e X.env) :: starEach [] X.env := by rfl) (hplain : (backTo cpos (starEach [] X.env)).any (·.1) = false := by rfl) :
    PE X (.Call (.Attribute o "extend" apos) [e] [] cpos) (tI X.K (iExtend ia ib)) :=
  PE.imp (pe_bm PySem.F.plainAttrs_list PySem.F.slot_list_extend PySem.F.type_list_extend mt_extend ho (pa_cons he pa_nil hs) hbase hfew hline hs hplain) fun σ H Q ⟨env, st, ρ, z, st', E, S, h, q⟩ => by
    obtain ⟨x, s1, h1, h⟩ := ob_some h
    refine ⟨env, st, ρ, x, s1, E, S, h1, fun vx H1 ρ1 G1 S1 R1 => ?_⟩
    split at h
    · rename_i n
      split at h
      · rename_i ws e0
        obtain ⟨y, s2, h2, h⟩ := ob_some h
        split at h
        · rename_i m
          split at h
          · rename_i xs ys ex ey
            split at h
            · rename_i hl
              cases h
              unfold Rep at R1
              obtain ⟨a, rfl, i1⟩ := R1
              refine ⟨?_, env, s1, ρ1, .ref m, s2, E.grow S G1, S1, h2, fun vy H2 ρ2 G2 S2 R2 => ?_⟩
              · obtain ⟨b1, hb1, vs1, h3, r1⟩ := S1.at_ _ _ e0
                rw [i1] at hb1; cases hb1
                exact .inl ⟨rfl, vs1, .of h3⟩
              · have i2 := G2.ix i1
                obtain ⟨b1, hb1, vs1, h3, r1⟩ := S2.at_ _ _ ex
                rw [i2] at hb1; cases hb1
                have ndd := S2.lv _ _ _ ex (by simp) i2
                unfold Rep at R2
                obtain ⟨b, rfl, j2⟩ := R2
                obtain ⟨b2, hb2, vs2, h4, r2⟩ := S2.at_ _ _ ey
                rw [j2] at hb2; cases hb2
                have g : Grow H2 ρ2 (upd H2 a (.lst (vs1 ++ vs2))) ρ2 := grow_write h3 (List.mem_of_getElem? i2) ndd
                refine ⟨a, b, vs1, vs2, rfl, rfl, h3, h4, ?_, ?_⟩
                · rw [← r1.length, ← r2.length]
                  exact Nat.le_trans hl (by decide)
                · exact q .non _ ρ2 ((G1.trans G2).trans g) (S2.write (so := .lst (xs ++ ys)) i2 ndd h3 ⟨_, upd_same, Reps.grow S2 g _ _ (r1.append r2)⟩) (by unfold Rep; rfl)
            · cases h
          · cases h
        · cases h
      · cases h
    · cases h
/-- reversed(xs), a list that nobody writes, or a tuple -/
def iRevW (ie : IE) : II := fun env st => ob (ie env st) fun x s => match x with
  | .tup xs => some (srcT xs.reverse, s)
  | .frz xs => some (srcT xs.reverse, s)
  | _ => none
theorem rev_at {xs : List PV} {i : Nat} (h : i < xs.length) : xs.reverse[i]? = xs[xs.length - 1 - i]? := List.getElem?_reverse h
theorem srcRT_ok {K : PySem.W.Frag} {H0 : Hp} {ρ0 : Rho} {st0 : Sto} {xs : List PV} {vs : List V} {a : Addr} (S0 : RepS K H0 ρ0 st0) (h : SqT K H0 a vs) (r : Reps K H0 ρ0 xs vs) : SrcOk K (srcT xs.reverse) (ItvT K a vs.length) H0 ρ0 := fun H ρ st G S i => by
  have h1 := SqT.grow S0 G h
  have r1 := Reps.grow S0 G _ _ r
  have hl := r1.length
  refine ⟨fun hs => ?_, fun x hs => ?_⟩
  · simp only [srcT, Option.some.injEq, List.getElem?_eq_none_iff, List.length_reverse] at hs
    show vs.length ≤ i
    omega
  · simp only [srcT, Option.some.injEq] at hs
    have hi : i < xs.length := by
      have := (List.getElem?_eq_some_iff.mp hs).1
      rwa [List.length_reverse] at this
    rw [rev_at hi] at hs
    obtain ⟨v, hv, r⟩ := r1.get hs
    rw [hl] at hv
    refine ⟨⟨by omega, vs, v, h1, hv⟩, fun w H' y => ?_⟩
    obtain ⟨rfl, y⟩ := y
    have := y vs h1
    rw [hv] at this; cases this
    exact ⟨ρ, Grow.refl, S, r⟩
theorem srcRF_ok {K : PySem.W.Frag} {H0 : Hp} {ρ0 : Rho} {st0 : Sto} {xs : List PV} {vs : List V} {a : Addr} (S0 : RepS K H0 ρ0 st0) (h : FrzAt K H0 ρ0 a vs) (r : Reps K H0 ρ0 xs vs) : SrcOk K (srcT xs.reverse) (Itv K a vs.length) H0 ρ0 := fun H ρ st G S i => by
  have h1 := (h.grow G).sq
  have r1 := Reps.grow S0 G _ _ r
  have hl := r1.length
  refine ⟨fun hs => ?_, fun x hs => ?_⟩
  · simp only [srcT, Option.some.injEq, List.getElem?_eq_none_iff, List.length_reverse] at hs
    show vs.length ≤ i
    omega
  · simp only [srcT, Option.some.injEq] at hs
    have hi : i < xs.length := by
      have := (List.getElem?_eq_some_iff.mp hs).1
      rwa [List.length_reverse] at this
    rw [rev_at hi] at hs
    obtain ⟨v, hv, r⟩ := r1.get hs
    rw [hl] at hv
    refine ⟨⟨by omega, vs, v, h1, hv⟩, fun w H' y => ?_⟩
    obtain ⟨rfl, y⟩ := y
    have := y vs h1
    rw [hv] at this; cases this
    exact ⟨ρ, Grow.refl, S, r⟩
theorem i_revW {tg : Expr} {p : Pos} (hg : Gl X "reversed") (hm : X.mg "reversed" = none) (he : PE X e (tI X.K ie)) (hs : starEach [e] X.env = (false, eval e X.env) :: starEach [] X.env := by rfl) : PI X tg (.Call (.Name "reversed" p) [e] [] pos) (tII X.K (iRevW ie)) :=
  PI.imp (pi_revA hg hm he hs) fun σ H R ⟨env, s, ρ, src, st', E, S, h, q⟩ => by
    obtain ⟨x, s1, h1, h⟩ := ob_some h
    refine ⟨env, s, ρ, _, _, E, S, h1, fun v H1 ρ1 G1 S1 R1 => ?_⟩
    split at h
    · cases h
      unfold Rep at R1
      obtain ⟨a, vs, rfl, t1, t2⟩ := R1
      exact ⟨a, vs, rfl, .inr ⟨t1, q _ H1 ρ1 G1 S1 (srcRT_ok S1 t1 t2)⟩⟩
    · cases h
      unfold Rep at R1
      obtain ⟨a, vs, rfl, t1, t2⟩ := R1
      exact ⟨a, vs, rfl, .inl ⟨t1.sq, q _ H1 ρ1 G1 S1 (srcRF_ok S1 t1 t2)⟩⟩
    · cases h
/-! ### f-strings of texts and ints -/
def txtP : PV → Option Str
  | .str y => if y.length ≤ 9000000 then some y else none
  | .int i => if decide (i.natAbs < 10 ^ 30) = true then some (Str.ofString (toString i)) else none
  | _ => none
def jsI : List IE → Str → PEnv → Sto → Option (Str × Sto)
  | [], acc, _, st => some (acc, st)
  | e :: es, acc, env, st => ob (e env st) fun x s => match txtP x with
    | some y => if acc.length + y.length ≤ 9000000 then jsI es (acc ++ y) env s else none
    | none => none
def iFStr (es : List IE) : IE := fun env st => (jsI es Str.empty env st).map fun r => (.str r.1, r.2)
/-- the parts -/
inductive FP (X : Cx) : List Expr → List TE → List IE → Prop
  | nil : FP X [] [] []
  | con {c : Str} {k : Nat} {pos : Pos} {es : List Expr} {ts : List TE} {is : List IE} (r : FP X es ts is) : FP X (.Constant (.str c) k pos :: es) (tC (.str c) :: ts) (iC (.str c) :: is)
  | fmt {e : Expr} {pos : Pos} {ie : IE} {es : List Expr} {ts : List TE} {is : List IE} (h : PE X e (tI X.K ie)) (r : FP X es ts is) : FP X (.FormattedValue e (-1) none pos :: es) (tFmt (tI X.K ie) :: ts) (ie :: is)
theorem FP.pj {ts : List TE} {is : List IE} (h : FP X es ts is) : PJ X es ts := by
  induction h with
  | nil => exact .nil
  | con _ ih => exact .cons pe_str ih
  | fmt h _ ih => exact .cons (pe_fmt h) ih
theorem fp_to {ts : List TE} {is : List IE} (h : FP X es ts is) : ∀ {env : PEnv} {σ : L2.St} {H : Hp} {ρ : Rho} {st st' : Sto} {acc z : Str} {Q : Str → Hp → Prop}, RepE X.K H ρ env σ → RepS X.K H ρ st → jsI is acc env st = some (z, st') →
    (∀ H' ρ', Grow H ρ H' ρ' → RepS X.K H' ρ' st' → Q z H') → tJs ts acc σ H Q := by
  induction h with
  | nil =>
    intro env σ H ρ st st' acc z Q E S h q
    cases h
    exact q H ρ Grow.refl S
  | @con c k pos es ts is _ ih =>
    intro env σ H ρ st st' acc z Q E S h q
    unfold jsI at h
    obtain ⟨x, s1, h1, h3⟩ := ob_some h
    clear h
    cases h1
    split at h3
    · rename_i y ey
      split at h3
      · rename_i hl
        have hy : y = c := by
          unfold txtP at ey
          simp only at ey
          split at ey
          · cases ey; rfl
          · cases ey
        subst hy
        exact ⟨y, rfl, by rw [PySem.Str.length_append]; exact Nat.le_trans hl (by decide), ih E S h3 q⟩
      · cases h3
    · cases h3
  | @fmt e pos ie es ts is he _ ih =>
    intro env σ H ρ st st' acc z Q E S h q
    unfold jsI at h
    obtain ⟨x, s1, h1, h⟩ := ob_some h
    split at h
    · rename_i y ey
      split at h
      · rename_i hl
        refine ⟨env, st, ρ, x, s1, E, S, h1, fun v H1 ρ1 G1 S1 R1 => ?_⟩
        have go : ∃ y' : Str, V.str y = .str y' ∧ (acc ++ y').length ≤ sizeLine ∧ tJs ts (acc ++ y') σ H1 Q := ⟨y, rfl, by rw [PySem.Str.length_append]; exact Nat.le_trans hl (by decide), ih (E.grow S G1) S1 h fun H' ρ' G' S' => q H' ρ' (G1.trans G') S'⟩
        unfold txtP at ey
        split at ey
        · rename_i y0
          split at ey
          · rename_i hz
            cases ey
            unfold Rep at R1
            subst R1
            exact .inl ⟨y, rfl, Nat.le_trans hz (by decide), go⟩
          · cases ey
        · rename_i i
          split at ey
          · rename_i hz
            cases ey
            obtain ⟨i', e', hi⟩ := okPI_ok (K := X.K) (H := H1) (ρ := ρ1) (x := .int i) (v := v) hz R1
            unfold Rep at R1
            rw [R1] at e'
            cases e'
            exact .inr ⟨i, R1, hi, go⟩
          · cases ey
        · cases ey
      · cases h
    · cases h
theorem r_fstr {v1 v2 : Expr} {rest : List Expr} {ts : List TE} {is : List IE} (h : FP X (v1 :: v2 :: rest) ts is) : PE X (.JoinedStr (v1 :: v2 :: rest) pos) (tI X.K (iFStr is)) :=
  PE.imp (pe_joined h.pj) fun σ H Q ⟨env, st, ρ, z, st', E, S, hz, q⟩ => by
    obtain ⟨r, h1, h2⟩ := map_some hz
    cases h2
    exact fp_to h E S (st' := r.2) (z := r.1) h1 fun H' ρ' G S' => q (.str r.1) H' ρ' G S' (by unfold Rep; rfl)
/-! ### isinstance(x, (a, b)) -/
def isP2 (st : Sto) (x : PV) (a b : String) : Option Bool := match tyName st x with
  | some n => match kitB n a, kitB n b with
    | some k, some l => some (k || l)
    | _, _ => none
  | none => none
def iIs2 (ie : IE) (a b : String) : IE := fun env st => ob (ie env st) fun x s => (isP2 s x a b).map fun k => (.bl k, s)
theorem r_is2 {a b : String} {k0 : Nat} {p tp : Pos} (hg : Gl X "isinstance") (hm : X.mg "isinstance" = none) (he : PE X e (tI X.K ie)) (h1 : PE X e1 (tI X.K (iC (.ty a)))) (h2 : PE X e2 (tI X.K (iC (.ty b))))
    (hs1 : starEach [e, .Tuple [e1, e2] k0 tp] X.env = (false, eval e X.env) :: starEach [.Tuple [e1, e2] k0 tp] X.env := by rfl) (hs2 : starEach [.Tuple [e1, e2] k0 tp] X.env = (false, eval (.Tuple [e1, e2] k0 tp) X.env) :: starEach [] X.env := by rfl)
    (hs3 : starEach [e1, e2] X.env = (false, eval e1 X.env) :: starEach [e2] X.env := by rfl) (hs4 : starEach [e2] X.env = (false, eval e2 X.env) :: starEach [] X.env := by rfl) (hpl : (backTo pos (starEach [.Tuple [e1, e2] k0 tp] X.env)).any (·.1) = false := by rfl) :
    PE X (.Call (.Name "isinstance" p) [e, .Tuple [e1, e2] k0 tp] [] pos) (tI X.K (iIs2 ie a b)) :=
  PE.imp (pe_callB call_isiT hg hm (by decide +kernel) (pa_cons he (pa_cons (pe_tup (pa_cons h1 (pa_cons h2 pa_nil hs4) hs3)) pa_nil hs2) hs1) (by decide) (by decide) hs1 hpl) fun σ H Q ⟨env, st, ρ, z, st', E, S, h, q⟩ => by
    obtain ⟨x, s1, h0, h⟩ := ob_some h
    obtain ⟨k, hk, hz⟩ := map_some h
    cases hz
    unfold isP2 at hk
    split at hk
    · rename_i n en
      split at hk
      · rename_i k1 k2 e1 e2
        cases hk
        refine ⟨env, st, ρ, x, st', E, S, h0, fun vx H1 ρ1 G1 S1 R1 => ?_⟩
        refine ⟨env, st', ρ1, .ty a, st', E.grow S G1, S1, rfl, fun va H2 ρ2 G2 S2 R2 => ?_⟩
        refine ⟨env, st', ρ2, .ty b, st', (E.grow S G1).grow S1 G2, S2, rfl, fun vb H3 ρ3 G3 S3 R3 => ⟨show 2 ≤ sizeLine by decide, fun tpl htp => ?_⟩⟩
        unfold Rep at R2 R3
        subst R2 R3
        have G4 : Grow H3 ρ3 (upd H3 tpl (.tup [.ty a, .ty b])) ρ3 := grow_new htp
        have S4 := S3.new (o := .tup [.ty a, .ty b]) htp
        have Gall := (G2.trans G3).trans G4
        refine ⟨vx, tpl, [.ty a, .ty b], .type n, [.type a, .type b], k1 || k2, rfl, upd_same, .cons (.ty a) (.cons (.ty b) .nil), tyName_rep S4 (Rep.grow S1 Gall _ _ R1) en, ?_, q _ _ ρ3 (G1.trans Gall) S4 (by unfold Rep; rfl)⟩
        unfold PySem.W.kitAny
        rw [kit_ty e1]
        cases k1 with
        | true => rfl
        | false =>
          unfold PySem.W.kitAny
          rw [kit_ty e2]
          cases k2 <;> rfl
      · cases hk
    · cases hk
end
end IL

/-! defs that call repr: promised where no repr is on its way (guards known) -/
namespace IL
open PySem PySem.Spec PyProof.Rows L2
/-- what a def does, called where no repr is on its way -/
structure FnG (P : Program) (w : World) (K : W.Frag) (mg : Str → Option Value) (base : Heap) (k : Nat) (f : Addr) (fd : FuncData) (ps : List Str) (sp : Sp) : Prop where
  few : ∀ vs H Q E, sp vs H Q E → vs.length = ps.length
  goes : ∀ (A : Around) (outer : List PySem.Env) (s : Shared) (H : Hp) (args : Args) (us : List Value) (vs : List V) (Q : VK) (E : XK), A.guards = some [] → Room k A → Env0 P w K mg base A outer s H →
    BindsTo s fd args (ps.zip us) → Vals vs us → sp vs H Q E → codeAny (model P w) A (.call (.ref f) args) (CR C8.CX0 outer P w H s Q E) s
structure CalG (P : Program) (w : World) (K : W.Frag) (mg : Str → Option Value) (base : Heap) (k : Nat) (x : Str) (n : Nat) (f : FA) : Prop where
  ex : ∃ (fa : Addr) (fd : FuncData) (ps : List Str), FnG P w K mg base k fa fd ps (spI K n f) ∧ mg x = some (.ref fa) ∧ W.keepIn K (.ref fa) = true ∧ Binds K fd ps []
section
variable {X : Cx} {x : Str} {p pos : Pos} {e : Expr} {es : List Expr} {ir : IA} {k j n : Nat} {F : FA}
/-- the called def at work -/
theorem goes_fn {pins : List (Addr × Obj)} {σ : L2.St} {H : Hp} {s : Shared} {Q : VK} {us : List Value} {vs : List V} {sp : Sp} {f : Addr} {fd : FuncData} {ps : List Str}
    (Fn : FnG X.prog X.w X.K X.mg X.base k f fd ps sp) (hG : X.A.guards = some []) (hr : Room k X.A) (hb : Binds X.K fd ps [])
    (I : Inv X pins σ H s) (r : Vals vs us) (h : sp vs H Q C8.E0) : wpAny (model X.prog X.w) X.A (call (.ref f) us) (EP X pins σ Q) X.xe s := by
  have fits : (us ++ []).length = ps.length := by
    rw [List.append_nil, ← r.length]
    exact Fn.few _ _ _ _ h
  have bound := hb s us I.kIn fits
  rw [List.append_nil] at bound
  have ran := Fn.goes X.A X.stack s H ⟨us, []⟩ us vs Q C8.E0 hG hr I.env0 bound r h
  refine wpAny_call (codeAny_mono ran ?_)
  intro res s' hq
  match res, hq with
  | .error e, hq => exact C8.pass0 (E := C8.E0) pins σ H s e s' I hq
  | .ok (.ret u), hq => exact I.after hq
  | .ok .next, hq => exact hq.elim
  | .ok .brk, hq => exact hq.elim
  | .ok .cont, hq => exact hq.elim
theorem g_call (c : CalG X.prog X.w X.K X.mg X.base k x n F) (hn : Ar n F) (hG : X.A.guards = some []) (hr : Room j X.A) (hk : k ≤ j) (hg : Gl X x) (ha : PA X (e :: es) (tIA X.K ir))
    (hdb : (x == ("__debug__" : Str)) = false := by decide) (he : starEach (e :: es) X.env = (false, eval e X.env) :: starEach es X.env := by rfl) (hpl : (backTo pos (starEach es X.env)).any (·.1) = false := by rfl) :
    PE X (.Call (.Name x p) (e :: es) [] pos) (tI X.K (iCall F ir)) := by
  obtain ⟨fa, fd, ps, Fn, hm, kp, b⟩ := c.ex
  constructor
  rintro pins s σ H Q I ⟨env, st, ρ, z, st', E, S, h, q⟩
  obtain ⟨xs, s1, h1, h⟩ := ob_some h
  refine wpAny_Call_Name_kw (ld_glob I hg hm ?_ hdb)
  have args := ha.run pos pins s σ H (fun vs H1 => spI X.K n F vs H1 Q C8.E0) I ⟨env, st, ρ, xs, s1, E, S, h1, fun vs H1 ρ1 G1 S1 R1 => ⟨by rw [← R1.length]; exact hn _ _ _ h, s1, ρ1, xs, z, st', S1, R1, h, fun v H' ρ' G' S' R' => q v H' ρ' (G1.trans G') S' R'⟩⟩
  refine W.callWith_K (h₀ := X.base) I.ok.mod.kin kp (thn args ?_) he hpl
  rintro us s2 ⟨vs, H1, I1, r, hs⟩
  exact ⟨I1.kIn, goes_fn Fn hG (hr.mono hk) b I1 r hs⟩
end
theorem fn_ofG {P : Program} {w : World} {K : W.Frag} {mg : Str → Option Value} {base : Heap} {k : Nat} {f : Addr} {fd : FuncData} {x : Str} {st : Stmt} {N ps : List Str} {sp : Sp} (Fu : C8.Fun K x x st f fd) (S : FnScope N ps (C8.fnScope st))
    (few : ∀ vs H Q E, sp vs H Q E → vs.length = ps.length)
    (hbody : ∀ (cdv : Value) (A : Around) (outer : List PySem.Env) (s : Shared) (H : Hp) (vs : List V) (Q : VK) (E : XK), A.guards = some [] → Room k (A.deeper (envOfC x (C8.fnScope st) s.heap.objs.size f cdv)) → sp vs H Q E →
      ∃ t, PSs (cxOf C8.CX0 P w K mg base N x (C8.fnScope st) f cdv A outer s H E) (C8.fnBody st) t ∧ t { nx := fun _ H' => Q .non H', rt := Q } (L2.start N vs) H) :
    FnG P w K mg base (k + 1) f fd ps sp := by
  obtain ⟨oc, od, dV, kV, doc, pm, an, cdv, ct, osl, rfl, lk, hcd⟩ := Fu.ex
  refine ⟨few, ?_⟩
  intro A outer s H args us vs Q E hG hr e0 hb r hsp
  have KX : K.In s.heap := e0.mod.kin.keeps fun b o e => (e0.bs b o e).1
  have lim : s.heap.NoLimit := e0.mod.nolimit.keeps fun b o e => (e0.bs b o e).1
  have places : ∀ y ∈ ps.zip us, (C8.fnScope st).names.lookup y.1 = some .local ∨ ((C8.fnScope st).names.lookup y.1 = some .cell ∧ ((cellsFrom (s.heap.objs.size + 1) (C8.fnScope st).names []).lookup y.1).isSome = true) := by
    rintro ⟨m, v⟩ hy
    cases S.par m (List.of_mem_zip hy).1 with
    | inl q => exact Or.inl q
    | inr q => exact Or.inr ⟨q, W.cellsFrom_some _ _ _ (Or.inl q)⟩
  obtain ⟨t, ht, hq⟩ := hbody cdv A outer s H vs Q E hG (hr.deeper _) hsp
  refine codeAny_call_function hr.depth (KX _ _ lk) rfl S.co S.gen rfl (W.codeRec_of KX hcd) (hb _ _ _ _ ?_)
  refine wpAny_newFunctionEnv_cells S.kind places ?_
  intro env he s1 x1
  subst he
  refine ⟨lim.keeps x1.toInCall.keep, codeAny_func ?_⟩
  have I : Inv (cxOf C8.CX0 P w K mg base N x (C8.fnScope st) f cdv A outer s H E) [] (L2.start N vs) H s1 := inv_start S hr.hd e0 (few _ _ _ _ hsp) r x1
  refine wpAny_mono (ht.run [] s1 (L2.start N vs) H _ I hq) ?_ (fun e s' hs => hs)
  intro fl s' hs
  match fl, hs with
  | .ret u, ⟨v, σ', H', J, rv, q⟩ => exact ⟨v, H', J.os, J.bare, J.base, J.hok, rv, q⟩
  | .next, ⟨σ', H', J, q⟩ => exact ⟨V.non, H', J.os, J.bare, J.base, J.hok, rfl, q⟩
  | .brk, ⟨_, _, _, q⟩ => exact q.elim
  | .cont, ⟨_, _, _, q⟩ => exact q.elim
theorem cal_G {P : Program} {w : World} {K : W.Frag} {mg : Str → Option Value} {base : Heap} {x : Str} {st : Stmt} {f : Addr} {fd : FuncData} {N ps : List Str} {k : Nat} {ib : IS} (F : C8.Def K mg x st f fd) (b : Binds K fd ps []) (S : FnScope N ps (C8.fnScope st))
    (hb : ∀ (cdv : Value) (A : Around) (outer : List PySem.Env) (s : Shared) (H : Hp) (E : XK), Room k (A.deeper (envOfC x (C8.fnScope st) s.heap.objs.size f cdv)) → (A.deeper (envOfC x (C8.fnScope st) s.heap.objs.size f cdv)).guards = some [] →
      PSs (cxOf C8.CX0 P w K mg base N x (C8.fnScope st) f cdv A outer s H E).nox (C8.fnBody st) (tIS K W0 ib)) : CalG P w K mg base (k + 1) x ps.length (iDef ps.length N.length ib) :=
  ⟨f, fd, ps, fn_ofG F.fn S (fun vs H Q E h => h.1) (fun cdv A outer s H vs Q E hG hr hsp => ⟨_, (hb cdv A outer s H E hr hG).nox, body_to hsp⟩), F.mgf, F.kp, b⟩
theorem calG_zero {P : Program} {w : World} {K : W.Frag} {mg : Str → Option Value} {base : Heap} {x : Str} {st : Stmt} {f : Addr} {fd : FuncData} {ps : List Str} {k : Nat} (F : C8.Def K mg x st f fd) (b : Binds K fd ps []) : CalG P w K mg base k x ps.length (fun _ _ => none) :=
  ⟨f, fd, ps, ⟨fun _ _ _ _ h => h.1, fun A outer s H args us vs Q E _ _ _ _ _ h => by
    obtain ⟨_, s1, ρ, xs, z, st', S1, R1, h, q⟩ := h
    cases h⟩, F.mgf, F.kp, b⟩
end IL

/-! repr of any data -/
namespace IL
open PySem PySem.Spec PyProof.Rows L2
section
variable {X : Cx}
def rReprS : List V → Hp → VK → Prop := fun xs H Q => ∃ x : Str, xs = [.str x] ∧ (reprText x).length ≤ sizeLine ∧ Q (.str (reprText x)) H
theorem cr_reprS : CallR X (.builtin "repr") rReprS := by
  intro pins s σ H xs us Q I r h
  obtain ⟨x, rfl, hz, q⟩ := h
  cases r with
  | @cons _ u0 _ ur ra rb =>
    cases rb
    obtain ⟨t, rfl⟩ := (show ∃ t, u0 = Value.str x t from ra)
    exact PySem.P.repr_of_str ⟨.str _, H, I.tok _, ⟨_, rfl⟩, q⟩ hz
def rReprN : List V → Hp → VK → Prop := fun xs H Q => xs = [.non] ∧ Q (.str "None") H
theorem cr_reprN : CallR X (.builtin "repr") rReprN := by
  intro pins s σ H xs us Q I r h
  obtain ⟨rfl, q⟩ := h
  cases r with
  | @cons _ u0 _ ur ra rb =>
    cases rb
    obtain rfl : u0 = Value.none := ra
    exact PySem.P.repr_of_none ⟨.str _, H, I.tok _, ⟨_, rfl⟩, q⟩
def rReprI : List V → Hp → VK → Prop := fun xs H Q => ∃ i : Int, xs = [.int i] ∧ i.natAbs.log2 < 1920 ∧ Q (.str (toString i)) H
def rReprA (K : PySem.W.Frag) : List V → Hp → VK → Prop := fun xs H Q => (rReprB xs H Q ∨ rReprD K xs H Q) ∨ rReprS xs H Q ∨ rReprN xs H Q ∨ rReprI xs H Q
theorem cr_reprA (hG : X.A.guards = some []) (hu : X.A.units + 64 < cLine) : CallR X (.builtin "repr") (rReprA X.K) :=
  CallR.or (cr_repr2 hG hu) (CallR.or cr_reprS (CallR.or cr_reprN SkE.call_repr_int))
def fReprA : F1 := fun x st => match x with
  | .str y => if (reprText y).length ≤ 16000000 then some (.str (reprText y), st) else none
  | .non => some (.str "None", st)
  | .int i => if decide (i.natAbs < 10 ^ 30) = true then some (.str (toString i), st) else none
  | x => fReprD x st
theorem f_reprA {K : PySem.W.Frag} : CallI K (rReprA K) (a1 fReprA) := call1 fun H ρ st x vx z st' Q S R h q => by
  have rest : fReprD x st = some (z, st') → rReprA K [vx] H Q := fun h => by
    have h2 : a1 fReprD [x] st = some (z, st') := h
    exact .inl (f_reprD H ρ st [x] [vx] z st' Q S (by unfold Reps; exact ⟨vx, [], rfl, R, by unfold Reps; rfl⟩) h2 q)
  unfold fReprA at h
  split at h
  · split at h
    · rename_i y hz
      cases h
      unfold Rep at R
      subst R
      exact .inr (.inl ⟨y, rfl, Nat.le_trans hz (by decide), q _ H ρ Grow.refl S (by unfold Rep; rfl)⟩)
    · cases h
  · cases h
    unfold Rep at R
    subst R
    exact .inr (.inr (.inl ⟨rfl, q _ H ρ Grow.refl S (by unfold Rep; rfl)⟩))
  · split at h
    · rename_i i hz
      cases h
      obtain ⟨i', e', hi⟩ := okPI_ok (K := K) (H := H) (ρ := ρ) (x := .int i) (v := vx) hz R
      unfold Rep at R
      rw [R] at e'
      cases e'
      exact .inr (.inr (.inr ⟨i, by rw [R], hi, q _ H ρ Grow.refl S (by unfold Rep; rfl)⟩))
    · cases h
  · exact rest h
/-- what repr is of data -/
theorem repr_all {n w : Nat} {x : PV} {st : Sto} (h : Gd n w x) (hn : n ≤ 60) (hw : w ≤ 16000000) (hx : ∀ ks xs, x ≠ .fdk ks xs) : fReprA x st = some (.str (datP x).shown, st) := by
  have hg := h.g
  have hw2 := h.w
  cases x with
  | non => rfl
  | bl b => cases b <;> rfl
  | int i =>
    unfold wt at hw2
    have hi : i.natAbs < 10 ^ 30 := by
      split at hw2
      · assumption
      · exfalso
        have : (10 : Nat) ^ 9 ≤ 16000000 := Nat.le_trans hw2 hw
        exact absurd this (by decide)
    show (if decide (i.natAbs < 10 ^ 30) = true then some (PV.str (toString i), st) else none) = _
    rw [if_pos (decide_eq_true hi)]
    rfl
  | str y =>
    have h6 := shown_le (.str y) n h.g (Nat.lt_of_le_of_lt (Nat.le_trans h.w hw) (by decide))
    have h7 : (reprText y).length ≤ 16000000 := Nat.le_trans h6 (Nat.le_trans h.w hw)
    show (if (reprText y).length ≤ 16000000 then some (PV.str (reprText y), st) else none) = _
    rw [if_pos h7]
    rfl
  | tup xs => exact repr_tup h hn hw
  | frz xs => exact repr_frz h hn hw
  | ref k => simp [gd] at hg
  | ty k => simp [gd] at hg
  | fdk ks xs => exact (hx ks xs rfl).elim
/-! ### the first sign -/
def hd0 (x : Str) : Option Nat := x.cps[0]?
theorem hd0_app {a b : Str} {c : Nat} (h : hd0 a = some c) : hd0 (a ++ b) = some c := by
  unfold hd0 at h ⊢
  have hl : 0 < a.cps.size := (Array.getElem?_eq_some_iff.mp h).1
  show (a.cps ++ b.cps)[0]? = some c
  rw [Array.getElem?_append_left hl]
  exact h
theorem hd0_from : ∀ (ts : List Str) (k : Nat) (acc : Str) {c : Nat}, hd0 acc = some c → hd0 (textFrom k acc ts) = some c
  | [], _, _, _, h => h
  | t :: r, k, acc, c, h => hd0_from r (k + 1) _ (hd0_app (hd0_app h))
theorem hd0_list (ts : List Str) : hd0 (listText ts) = some 91 := hd0_app (hd0_from ts 0 _ rfl)
theorem hd0_tup (ts : List Str) : hd0 (tupleText ts) = some 40 := hd0_app (hd0_app rfl)
theorem hd0_fold {f : Nat → Array Nat} {q : Nat} : ∀ (l : List Nat) (acc : Array Nat), acc[0]? = some q → (l.foldl (fun out c => out ++ f c) acc)[0]? = some q
  | [], _, h => h
  | c :: r, acc, h => by
    rw [List.foldl_cons]
    refine hd0_fold r _ ?_
    rw [Array.getElem?_append_left (Array.getElem?_eq_some_iff.mp h).1]
    exact h
theorem hd0_repr (x : Str) : hd0 (reprText x) = some (reprQuote x) := by
  unfold hd0 reprText
  rw [← Array.foldl_toList]
  have h := hd0_fold (f := fun c => (Builtin.Str.reprChar (reprQuote x) c).toArray) (q := reprQuote x) x.cps.toList #[reprQuote x] rfl
  rw [Array.getElem?_push]
  split
  · rename_i e
    have := (Array.getElem?_eq_some_iff.mp h).1
    omega
  · exact h
end
end IL

set_option maxHeartbeats 2000000
/-! a comprehension out of which an exception comes: what is around the block -/
namespace IL
open PySem PySem.Spec PyProof.Rows L2
/-- an exception is on its way out of the block whose names lie at C, in the frame fr -/
def outB (M : Model) (A : Around) (E : Value → Shared → Prop) (C : Addr) (fr : Option Addr) (x : Value) (s : Shared) : Prop :=
  ∃ m, s.heap.Ns C m ∧ ∀ h, Heap.SameBut C s.heap h → ∀ ce : PySem.Env, ce.locals = C → ce.frame = fr → wpAny M A (passOn "comprehension.variables-let-go" x ce : Sem Value) (fun _ _ => False) E { s with heap := h }
/-- the block's ends, its value used by u -/
def endB (M : Model) (A : Around) (E : Value → Shared → Prop) (u : Value → Sem Unit) (Q : Value → Shared → Prop) (acc : Value) (C : Addr) (fr : Option Addr) : Result → Shared → Prop
  | .ok _, s => wpAny M A (u acc) (fun _ s2 => ∃ m, s2.heap.Ns C m ∧ ∀ h, Heap.SameBut C s2.heap h → Q .none { s2 with heap := h }) E s
  | .error x, s => outB M A E C fr x s
theorem comp_out {M : Model} {A : Around} {E : Value → Shared → Prop} {s : Shared} {env : PySem.Env} {e : Expr} {scope : Scope} {pos : Pos} {mk first : Sem Value} {g : Comprehension} {gs : List Comprehension} {cl : List (Str × Addr)} {u : Value → Sem Unit} {Q : Value → Shared → Prop}
    (c1 : clausesOf e = g :: gs) (c2 : ∀ x, foldedSetIterable g.iter env x = pure x) (c3 : closureFor scope env = pure cl) (c4 : scope.kind = .function) (c5 : ∀ x ∈ scope.names, x.2 = .local → scope.names.lookup x.1 = some .local)
    (run : wpAny M A first (fun x s1 => wpAny M A (pyIter x) (fun it s2 => wpAny M A mk (fun acc s3 => wpAny M A (newFunctionEnv scope env.globals cl [] env.qual none .none (some env)) (fun ce s4 =>
      ce.frame = env.frame ∧ codeAny M A (.compStart e 0 it acc { ce with scope := relabel scope env }) (endB M A E u Q acc ce.locals env.frame) s4) E s3) E s2) E s1) E s) :
    wpAny M A (comprehension e scope env pos mk false first (some u)) Q E s := by
  have same : ∀ {x : Value} {s : Shared}, E x s → E x s := fun h => h
  unfold comprehension
  rw [c3, c1]
  refine wpAny_bind (wpAny_mono run (fun x s1 k1 => ?_) fun _ _ => same)
  refine wpAny_bind (wpAny_standAt (wpAny_bind (wpAny_of_eq (c2 x) (wpAny_bind (wpAny_holding (wpAny_mono k1 (fun it s2 k2 => ?_) fun _ _ => same))))))
  refine wpAny_standIf (wpAny_bind (wpAny_mono k2 (fun acc s3 k3 => ?_) fun _ _ => same))
  refine wpAny_bind (wpAny_pure (wpAny_bind (wpAny_mono k3 (fun ce s4 k4 => ?_) fun _ _ => same)))
  obtain ⟨fe, k4⟩ := k4
  dsimp only
  have vars : ∀ l : List (Str × NameKind), (∀ x ∈ l, x ∈ scope.names.filter fun x => (x.2 == .local || x.2 == .cell) && x.1 != (".0" : Str)) → ∀ x ∈ l, x.2 = .local → Env.kindOf { ce with scope := relabel scope env } x.1 = some .local := fun l hl x hx loc =>
    lookup_relabel_local (c5 x (List.mem_filter.mp (hl x hx)).1 loc)
  refine wpAny_holding (wpAny_bind (wpAny_attempt (wpAny_holding (wpAny_run (codeAny_mono k4 fun r s' hr => ?_)))))
  cases r with
  | ok f =>
    refine wpAny_bind (wpAny_rule (wpAny_bind (wpAny_holding (wpAny_mono hr (fun _ s2 ⟨m, n2, q2⟩ => ?_) fun _ _ => same))))
    refine wpAny_bind (wpAny_comp_letGo (cenv := { ce with scope := relabel scope env }) c4 _ s2 m (vars _ fun x hx => ?_) n2 fun h m2 _ sb => wpAny_pure (q2 h sb))
    rcases List.mem_append.mp hx with z | z
    · exact List.mem_reverse.mp (List.mem_of_mem_drop z)
    · exact List.mem_reverse.mp (List.mem_of_mem_take z)
  | error x =>
    obtain ⟨m, n2, q2⟩ := hr
    exact wpAny_bind (wpAny_holding (wpAny_comp_letGo (cenv := { ce with scope := relabel scope env }) c4 _ s' m (vars _ fun x hx => List.mem_reverse.mp hx) n2 fun h m2 _ sb =>
      wpAny_mono (q2 h sb { ce with scope := relabel scope env } rfl fe) (fun _ _ z => z.elim) fun _ _ => same))
/-- noted in the block is noted in its frame -/
theorem note_blk (x : Value) (scope : Scope) (cl : List (Str × Addr)) (C : Addr) (env : PySem.Env) : noteFrame x (compEnvC scope cl C env) = noteFrame x env := rfl
end IL

set_option maxHeartbeats 2000000
/-! an exception leaves a comprehension's block -/
namespace IL
open PySem PySem.Spec PyProof.Rows L2
/-- an exception that a call let out -/
def XF (X : Cx) (W : WX) (u : Value) (s : Shared) : Prop := L2N.XE X W u s ∧ ∃ (a : Addr) (B : Heap) (Z : Obj → Prop), u = .ref a ∧ HandSPX.FlyingZ B X.stack a Z s.heap
def Flies (X : Cx) (W : WX) : Prop := ∀ u s, XF X W u s → X.xe u s
theorem Flies.of {X : Cx} {W : WX} (t : L2N.Takes X W) : Flies X W := fun u s h => t u s h.1
theorem flyAt {X : Cx} {W : WX} (tk : Flies X W) (σ : L2.St) : PassesAt (L2N.CX X.prog X.w) X σ (WE W σ) := fun _ _ _ e s' I c => by
  refine tk e s' ⟨L2N.XE.of_call I (fun _ _ _ h => h) c, ?_⟩
  obtain ⟨a, B, H', cls, d, rfl, fl, _⟩ := c
  exact ⟨a, B, _, rfl, fl⟩
/-- what flies is traced, and noted by no frame -/
theorem sky_flies {B B' : Heap} {l : List PySem.Env} {a L : Addr} {Z Z' : Obj → Prop} {h : Heap} (x : L2.Sky B l a Z L h) (f : HandSPX.FlyingZ B' l a Z' h) : HandSPX.FlyingZ B l a Z h := by
  obtain ⟨_, _, _, oe, vs, T, oT, ts, he, hz, hd, h1, hnT, hTe, hT, hdT, h3⟩ := f
  rcases x with ⟨_, _, _, oe', vs', he', _, hd', h1'⟩ | f | ⟨_, _, _, oe', vs', T', oT', ts', he', _, hd', h1', _, _, hT', hdT', h3'⟩
  · rw [he] at he'; cases he'
    rw [hd] at hd'; cases hd'
    rw [h1] at h1'; cases h1'
  · exact f
  · rw [he] at he'; cases he'
    rw [hd] at hd'; cases hd'
    rw [h1] at h1'; cases h1'
    rw [hT] at hT'; cases hT'
    rw [hdT] at hdT'; cases hdT'
    rw [h3] at h3'; cases h3'
section
variable {B h h' : Heap} {l : List PySem.Env} {a C : Addr} {Z : Obj → Prop} {v : Value}
theorem frames_but (sb : Heap.SameBut C h h') (hB : ∃ o, B.get? C = some o) : ∀ {l : List PySem.Env}, h.FunFrames B l → h'.FunFrames (PySem.W.hideAll B [C]) l
  | [], _ => trivial
  | env :: rest, ⟨hk, ⟨L, o, hf, hn, ho, hd⟩, hr⟩ => by
    refine ⟨hk, ⟨L, o, hf, ?_, ?_, hd⟩, frames_but sb hB hr⟩
    · cases q : (PySem.W.hideAll B [C]).get? L with
      | none => rfl
      | some z =>
        have := PySem.W.of_hideAll _ q
        rw [hn] at this; cases this
    · rw [sb.2 L fun e => ?_]
      · exact ho
      · obtain ⟨z, hz⟩ := hB
        rw [e, hz] at hn; cases hn
theorem hide_none (q : B.get? a = none) : (PySem.W.hideAll B [C]).get? a = none := by
  cases e : (PySem.W.hideAll B [C]).get? a with
  | none => rfl
  | some z =>
    have := PySem.W.of_hideAll _ e
    rw [q] at this; cases this
theorem traced_but (sb : Heap.SameBut C h h') (hB : ∃ o, B.get? C = some o) (ha : B.get? a = none) (t : HandSPX.TracedZ h B a Z v) : HandSPX.TracedZ h' (PySem.W.hideAll B [C]) a Z v := by
  obtain ⟨oe, vs, T, oT, ts, he, hz, hd, h1, hnT, hTe, hT, hdT, h3⟩ := t
  obtain ⟨z, hzC⟩ := hB
  refine ⟨oe, vs, T, oT, ts, ?_, hz, hd, h1, hide_none hnT, hTe, ?_, hdT, h3⟩
  · rw [sb.2 a fun e => by rw [e, hzC] at ha; cases ha]; exact he
  · rw [sb.2 T fun e => by rw [e, hzC] at hnT; cases hnT]; exact hT
theorem stays_but (sb : Heap.SameBut C h h') (k : B.StaysIn h) : (PySem.W.hideAll B [C]).StaysIn h' := fun b o e => by
  have nb : b ≠ C := fun z => by
    rw [z, PySem.W.hideAll_none [C] (by simp)] at e; cases e
  rw [sb.2 b nb]
  exact k b o (PySem.W.of_hideAll _ e)
end
/-- the block whose exceptions end in xe -/
abbrev blkX (X : Cx) (s : Shared) (H : Hp) (scope : Scope) (cenv : PySem.Env) (fp : List Addr) (xe : Value → Shared → Prop) : Cx := { X.blk s H scope cenv fp with xe := xe }
theorem blk_xe {X : Cx} {pins : List (Addr × Obj)} {σ : L2.St} {H H' : Hp} {s s' : Shared} {scope : Scope} {cenv : PySem.Env} {fp : List Addr} {xe : Value → Shared → Prop} (J : Inv (X.blk s H scope cenv fp) pins σ H' s') : Inv (blkX X s H scope cenv fp xe) pins σ H' s' := by
  have k := J.ok
  exact ⟨⟨k.mod, k.kind, k.glob, k.blt, k.above, k.inj, k.has, k.cab, k.hd, k.frames, k.stk, k.exf, k.bs, k.bsz, k.noex, k.exfs, k.funs, k.frf⟩, J.os, J.bare, J.base, J.loc, J.cell, J.free, J.freeC, J.pin, J.hok, J.len⟩
/-- out of the block: into the air of what is around it -/
theorem fly_out {X : Cx} {W : WX} {pins : List (Addr × Obj)} {σ : L2.St} {H : Hp} {s : Shared} {scope : Scope} {cl : List (Str × Addr)} {fp : List Addr} {xe : Value → Shared → Prop} (I : Inv X pins σ H s) (hs : X.stack = X.env :: X.outer) (hf : X.env.frame = some X.env.locals) (tk : L2N.Takes X W)
    (low : ∀ b ∈ fp, FpOk X pins H b) {u : Value} {s' : Shared} (x : XF (blkX X s H scope (compEnvC scope cl s.heap.objs.size X.env) fp xe) (fun c d _ H' => W c d σ H') u s') {E' : Value → Shared → Prop} :
    wpAny (model X.prog X.w) X.A (noteFrame u (compEnvC scope cl s.heap.objs.size X.env)) (fun _ s2 => outB (model X.prog X.w) X.A X.xe s.heap.objs.size X.env.frame u s2) E' s' := by
  obtain ⟨⟨a, B, sI, pins', σ', H', cls, d, rfl, J, nb, up, sky, na, os, ag, w⟩, a', B', Z', e0, fl⟩ := x
  cases e0
  have fly : HandSPX.FlyingZ B X.stack a (L2N.Zn cls d) s'.heap := sky_flies sky fl
  have hfr : X.A.frames = some (X.env :: X.outer) := by rw [I.ok.frames, hs]
  rw [note_blk]
  rw [hs] at fly
  refine PXN.looks_onZ L2N.Zn.steady hfr hf fly fun h1 held up1 => ?_
  -- the block's names
  have nC : H' s.heap.objs.size = none := J.free
  have fC := I.fpOk (Nat.le_refl _) nC
  obtain ⟨m, hn, _⟩ := J.loc
  have hn : sI.heap.Ns s.heap.objs.size m := hn
  have offC : s.heap.objs.size ∉ frs X.stack := fun hm => (List.mem_cons.mp (I.stkSub _ hm)).elim fC.2.1 fC.2.2.1
  have hBC : ∃ o, B.get? s.heap.objs.size = some o := by
    obtain ⟨o, _, _, ho, _⟩ := hn
    exact ⟨o, nb _ o ho offC⟩
  refine ⟨m, up1.ns (up.ns hn), fun h sb ce e1 e2 => ?_⟩
  obtain ⟨k1, k2, k3, k4⟩ := held
  have q1 := stays_but sb k1
  have q3 := frames_but sb hBC k3
  have q4 := traced_but sb hBC k2 k4
  have q2 : (PySem.W.hideAll B [s.heap.objs.size]).get? a = none := hide_none k2
  -- around the block
  have I7 : Inv X pins σ H' sI := I.call' (ch := fp) J.os J.base J.hok J.bare fun b hb => ⟨(low b hb).2.2.2.1, (low b hb).2.1, (low b hb).2.2.2.2.1, (low b hb).2.2.2.2.2⟩
  have I8 : Inv X pins σ H' { sI with heap := PySem.W.hideAll sI.heap [s.heap.objs.size] } := I7.turned (t' := sI.toks) (fun b o hb e => PySem.W.hideAll_get _ e (by simpa using hb)) fC.1 fC.2.1 fC.2.2.2.1 fC.2.2.2.2.1 fC.2.2.2.2.2
  unfold PySem.passOn
  obtain ⟨oe, vs, T, oT, ts, he, hz, hd, h1', rest⟩ := id q4
  refine wpAny_bind (wpAny_field he hd h1' ?_)
  rw [if_neg (by simp)]
  refine wpAny_bind ?_
  rw [e2, hf]
  refine HandSPX.setFlight_anyZ q1 q3 q4 fun h2 r1 r3 r4 up2 => wpAny_throw (tk _ _ ?_)
  refine ⟨a, PySem.W.hideAll B [s.heap.objs.size], { sI with heap := PySem.W.hideAll sI.heap [s.heap.objs.size] }, pins, σ, H', cls, d, rfl, I8, fun b o e hb => ?_, fun b o e hnf => ?_, ?_, na, os, ag, w⟩
  · have nbC : b ≠ s.heap.objs.size := fun z => by
      rw [z, PySem.W.hideAll_none [s.heap.objs.size] (by simp)] at e; cases e
    exact PySem.W.hideAll_get _ (nb b o (PySem.W.of_hideAll _ e) hb) (by simpa using nbC)
  · have nbC : b ≠ s.heap.objs.size := fun z => by
      rw [z, PySem.W.hideAll_none [s.heap.objs.size] (by simp)] at e; cases e
    obtain ⟨sl, e3⟩ := (up.trans up1) b o (PySem.W.of_hideAll _ e) hnf
    have e4 : h.get? b = some { o with slots := sl } := (sb.2 b nbC).trans e3
    obtain ⟨sl2, e5⟩ := up2 b { o with slots := sl } e4 hnf
    exact ⟨sl2, e5⟩
  · rw [hs]
    exact .inr (.inr ⟨r1, q2, r3, r4⟩)
end IL

set_option maxHeartbeats 2000000
/-! name = [..], where an item may raise -/
namespace IL
open PySem PySem.Spec PyProof.Rows L2
section
variable {X : Cx}
theorem lc_flies {W : WX} {pins : List (Addr × Obj)} {s : Shared} {σ : L2.St} {H : Hp} {Q : VK} {elt tg iter : Expr} {ifs : List Expr} {scope : Scope} {own : List (Str × Nat)} {pos pos' : Pos} {wi : TI} {g : TG} {tt : TT} {te : TE} {use : Value → Sem Unit} {Qf : Value → Shared → Prop}
    (hc : X.calm = true) (hs : X.stack = X.env :: X.outer) (hf : X.env.frame = some X.env.locals) (tk : L2N.Takes X W) (nd : X.N.Nodup) (Iv : Inv X pins σ H s) (walk : PI X tg iter wi) (ok : BlkOk X.N X.env.scope scope own)
    (gg : ∀ (s : Shared) (H : Hp) (C : Addr) (cl : List (Str × Addr)) (fp : List Addr) (xe : Value → Shared → Prop), PG (blkX X s H scope (compEnvC scope cl C X.env) fp xe) tg g) (gt : ∀ (s : Shared) (H : Hp) (C : Addr) (cl : List (Str × Addr)) (fp : List Addr) (xe : Value → Shared → Prop), PTs (blkX X s H scope (compEnvC scope cl C X.env) fp xe) ifs tt)
    (ge : ∀ (s : Shared) (H : Hp) (C : Addr) (cl : List (Str × Addr)) (fp : List Addr) (xe : Value → Shared → Prop), Flies (blkX X s H scope (compEnvC scope cl C X.env) fp xe) (fun c d _ H' => W c d σ H') → PE (blkX X s H scope (compEnvC scope cl C X.env) fp xe) elt te) (fold : ∀ x, foldedSetIterable iter X.env x = pure x)
    (wish : tLc wi g tt te (own.map (·.2)) σ H Q)
    (after : ∀ D C s' m H', Inv X pins σ H' s' → Q (.ref D) H' → s'.heap.Ns C m → FpOk X pins H' C → wpAny (model X.prog X.w) X.A (use (.ref D)) (fun _ s2 => ∃ m, s2.heap.Ns C m ∧ ∀ h, Heap.SameBut C s2.heap h → Qf .none { s2 with heap := h }) X.xe s') :
    wpAny (model X.prog X.w) X.A (comprehension (.ListComp elt [⟨tg, iter, ifs, 0⟩] scope pos) scope X.env pos' (newList []) false (eval iter X.env) (some use)) Qf X.xe s := by
  have free : ∀ y ∈ scope.names, y.2 = .free → ∃ c, X.env.cells.lookup y.1 = some c := fun y hy e =>
    (ok.free y hy e).elim (fun k => Iv.ok.has _ (.inl k)) fun k => Iv.ok.has _ (.inr k)
  refine comp_out (u := use) rfl fold (closure_ok free) ok.kind (fun y hy e => by rw [ok.uniq y hy, e]) (thn (walk.run pins s σ H _ Iv wish) fun xv t1 at1 => thn at1 fun itv t2 at2 => ?_)
  obtain ⟨it, fp, tn, J, Ha, e, Ia, T, sta, fra, q⟩ := at2
  subst e
  refine wpAny_newObj_type (newEnv_comp ⟨rfl, ?_⟩) (by show 0 ≤ sizeLine; decide)
  generalize eD : t2.heap.objs.size = D
  have nD : Ha D = none := Ia.hok.fresh (Nat.le_of_eq eD)
  obtain ⟨V, ⟨m0, w0⟩, turn⟩ := q D nD
  generalize e3 : ({ t2 with heap := t2.heap.push { cls := .type "list", data := .seq ([] : List Value).toArray } } : Shared) = t3
  have Ib : Inv X pins σ (upd Ha D (.lst [])) t3 := by
    subst e3
    refine Ia.laid (t' := t2.toks) (fun b o e => Heap.get?_push_of_some _ e) (Nat.le_of_eq eD) ⟨Nat.zero_le _, [], 0, .nil, ?_⟩
    subst eD
    exact Heap.get?_push_size _ rfl
  have hp3 : t3.heap = t2.heap.push { cls := .type "list", data := .seq ([] : List Value).toArray } := by subst e3; rfl
  have low : ∀ b ∈ fp, b < t2.heap.objs.size := fun b hb => by
    obtain ⟨o, e, _⟩ := T.obj _ _ sta b hb
    exact Heap.lt_size e
  have frb : ∀ b ∈ fp, FpOk X pins (upd Ha D (.lst [])) b ∧ b < t3.heap.objs.size := fun b hb => by
    have lt := low b hb
    constructor
    · refine ⟨?_, (fra b hb).2⟩
      rw [upd_ne (by subst eD; exact Nat.ne_of_lt lt)]
      exact (fra b hb).1
    · rw [hp3, Heap.size_push]
      exact Nat.lt_succ_of_lt lt
  have stb : tn 0 t3.heap := T.keep _ _ _ sta fun b _ o e => by rw [hp3]; exact Heap.get?_push_of_some _ e
  have Ic0 := block_start Ib ok nd frb
  show codeAny _ _ (.compStart (.ListComp elt [⟨tg, iter, ifs, 0⟩] scope pos) 0 (.ref it) (.ref D) (compEnvC scope (cellsFrom (t3.heap.objs.size + 1) scope.names (cloFrom X.env.cells scope.names [])) t3.heap.objs.size X.env)) (endB (model X.prog X.w) X.A X.xe use Qf (.ref D) t3.heap.objs.size X.env.frame) { t3 with heap := pushCells (t3.heap.push { cls := .type "dict", data := .dict #[] }) scope.names }
  generalize ecl : cellsFrom (t3.heap.objs.size + 1) scope.names (cloFrom X.env.cells scope.names []) = cl at Ic0 ⊢
  generalize exx : (fun (u : Value) (s' : Shared) => notedBy (model X.prog X.w) X.A (compEnvC scope cl t3.heap.objs.size X.env) (fun x s2 => outB (model X.prog X.w) X.A X.xe t3.heap.objs.size X.env.frame x s2) u s') = xx
  have pg := gg t3 (upd Ha D (.lst [])) t3.heap.objs.size cl fp xx
  have pt := gt t3 (upd Ha D (.lst [])) t3.heap.objs.size cl fp xx
  have pe := ge t3 (upd Ha D (.lst [])) t3.heap.objs.size cl fp xx fun u s' z => by
    show xx u s'
    subst exx
    exact fly_out Ib hs hf tk (fun b hb => (frb b hb).1) z
  have nfp : ∀ b ∈ fp, (upd Ha D (.lst [])) b = none := fun b hb => (frb b hb).1.1
  have Ic : Inv (blkX X t3 (upd Ha D (.lst [])) scope (compEnvC scope cl t3.heap.objs.size X.env) fp xx) [] _ _ _ := blk_xe Ic0
  generalize ece : compEnvC scope cl t3.heap.objs.size X.env = ce at Ic pg pt pe exx ⊢
  have cL : ce.locals = t3.heap.objs.size := by subst ece; rfl
  generalize eH : upd Ha D (.lst []) = Hb at Ib Ic pg pt pe w0 nfp frb
  generalize e4 : ({ t3 with heap := pushCells (t3.heap.push { cls := .type "dict", data := .dict #[] }) scope.names } : Shared) = t4 at Ic ⊢
  have stc : tn 0 t4.heap := T.keep _ _ _ stb fun b _ o e => by subst e4; exact pushCells_keeps _ _ _ _ (Heap.get?_push_of_some _ e)
  have stat : ∀ {σ' : L2.St} {H' : Hp} {s' : Shared}, Inv (blkX X t3 Hb scope ce fp xx) [] σ' H' s' → (∀ b ∈ fp, H' b = none) → ∀ b ∈ fp, FpOk (blkX X t3 Hb scope ce fp xx) [] H' b := fun {σ' H' s'} I' hn b hb =>
    ⟨hn b hb, (I'.ok.exf b hb).1, I'.ok.exfs b hb, .inl hb, fun x c e => (I'.ok.exf b hb).2 x c e, fun p hp => absurd (show p ∈ ([] : List (Addr × Obj)) ++ [] from hp) (by simp)⟩
  have loop : codeAny (model X.prog X.w) X.A (.compLoop (.ListComp elt [⟨tg, iter, ifs, 0⟩] scope pos) 0 (.ref it) (.ref D) ce) (endB (model X.prog X.w) X.A X.xe use Qf (.ref D) t3.heap.objs.size X.env.frame) t4 := by
    refine compLoop_any (fun n s' => ∃ i H', Inv (blkX X t3 Hb scope ce fp xx) [] (wipe σ (own.map (·.2))) H' s' ∧ tn i s'.heap ∧ (∀ b ∈ fp, H' b = none) ∧ V i n H') ?_ m0 ⟨0, Hb, Ic, stc, nfp, w0⟩
    rintro n t5 ⟨i, Hc, Id, std, nd5, w5⟩
    rcases turn i n Hc w5 with ⟨stop, qq⟩ | ⟨go, Nx, hNx, step⟩
    · refine thnF (T.done (blkX X t3 Hb scope ce fp xx) rfl rfl rfl hc i [] t5 _ Hc (fun _ _ => False) Id (stat Id nd5) std stop) fun r t6 ⟨hr, If⟩ => ?_
      subst hr
      have Ig : Inv X pins σ Hc t6 := Ib.call' (ch := fp) If.os If.base If.hok If.bare fun b hb => ⟨(frb b hb).1.2.2.2.1, (frb b hb).1.2.1, (frb b hb).1.2.2.2.2.1, (frb b hb).1.2.2.2.2.2⟩
      have nC : Hc t3.heap.objs.size = none := cL ▸ (If.free : Hc ce.locals = none)
      obtain ⟨m, ns, _⟩ := If.loc
      have ns' : t6.heap.Ns t3.heap.objs.size m := cL ▸ (ns : t6.heap.Ns ce.locals m)
      exact after D _ t6 m Hc Ig qq ns' (Ib.fpOk (Nat.le_refl _) nC)
    · have hx : ∀ {u : Value} {s' : Shared}, xx u s' → notedBy (model X.prog X.w) X.A ce (fun e s' => endB (model X.prog X.w) X.A X.xe use Qf (.ref D) t3.heap.objs.size X.env.frame (.error e) s') u s' := fun {u s'} z => by
        subst exx
        exact z
      refine thnF (T.item (blkX X t3 Hb scope ce fp xx) rfl rfl rfl hc i [] t5 _ Hc (fun _ _ => False) Id (stat Id nd5) std go) fun r t6 ⟨u, hr, at6⟩ => ?_
      subst hr
      refine thnF at6 fun _ t7 ⟨x, He, If, rx, yx, stf, nf⟩ => ?_
      have If' := If.pinned (stat If nf) (T.obj _ _ stf)
      refine wpAny_mono (pg.run _ t7 _ He x u _ If' rx (step x He yx)) (fun _ t8 ⟨σ8, Hg, Ig, wp8, q8⟩ => ?_) fun _ _ => hx
      refine wpAny_mono (pt.run _ t8 σ8 Hg _ Ig q8) (fun b t9 ⟨Hh, Ih, q9⟩ => ?_) fun _ _ => hx
      have over : ∀ {s' : Shared} {H' : Hp}, Inv (blkX X t3 Hb scope ce fp xx) ([] ++ pinsAt fp t7.heap) σ8 H' s' → Nx H' → ∃ m, m < n ∧ ∃ i H', Inv (blkX X t3 Hb scope ce fp xx) [] (wipe σ (own.map (·.2))) H' s' ∧ tn i s'.heap ∧ (∀ b ∈ fp, H' b = none) ∧ V i m H' := fun {s' H'} I' nx => by
        obtain ⟨m', lt, w'⟩ := hNx H' nx
        have stays : ∀ b ∈ fp, ∀ o, t7.heap.get? b = some o → s'.heap.get? b = some o ∧ H' b = none := fun b hb o e =>
          have z := I'.pin (b, o) (List.mem_append_right _ (List.mem_append_right _ (mem_pinsAt hb e)))
          ⟨z.1, z.2.1⟩
        refine ⟨m', lt, i + 1, H', (I'.unpinned (pins := [])).weak (by rw [← wp8, wipe_length]) (fun j v e => ?_), T.keep _ _ _ stf fun b hb o e => (stays b hb o e).1, fun b hb => ?_, w'⟩
        · rw [← wp8] at e
          exact (wipe_some e).1
        · obtain ⟨o, e, _⟩ := T.obj _ _ stf b hb
          exact (stays b hb o e).2
      cases b with
      | false =>
        simp only [if_false, Bool.false_eq_true] at q9 ⊢
        exact over Ih q9
      | true =>
        simp only [if_true] at q9 ⊢
        refine wpAny_mono (pe.run _ t9 σ8 Hh _ Ih q9) (fun z t10 ⟨yv, Hi, Ii, ry, acc, hD, hz, nx⟩ => ?_) fun _ _ => hx
        exact app_ok (X := blkX X t3 Hb scope ce fp xx) Ii hD hz ry fun t11 Ij => over Ij nx
  exact codeAny_compStart_list loop (T.self X.A 0 _ _ _ stc loop)
/-- name = [..] on one line, the name a local -/
theorem ps_setLcX {W : WX} {i : Nat} {y : Str} {py : Pos} {elt tg iter : Expr} {ifs : List Expr} {scope : Scope} {own : List (Str × Nat)} {pos spos : Pos} {wi : TI} {g : TG} {tt : TT} {te : WX → L2.St → TE} (hc : X.calm = true) (nd : X.N.Nodup) (hy : X.N[i]? = some y) (hyl : X.env.scope.names.lookup y = some .local)
    (hs : X.stack = X.env :: X.outer) (hf : X.env.frame = some X.env.locals) (tk : L2N.Takes X W) (hsw : swapsWith (.ListComp elt [⟨tg, iter, ifs, 0⟩] scope pos) (some (.Name y py)) spos.line X.env = pure true) (walk : PI X tg iter wi) (ok : BlkOk X.N X.env.scope scope own)
    (gg : ∀ (s : Shared) (H : Hp) (C : Addr) (cl : List (Str × Addr)) (fp : List Addr) (xe : Value → Shared → Prop), PG (blkX X s H scope (compEnvC scope cl C X.env) fp xe) tg g) (gt : ∀ (s : Shared) (H : Hp) (C : Addr) (cl : List (Str × Addr)) (fp : List Addr) (xe : Value → Shared → Prop), PTs (blkX X s H scope (compEnvC scope cl C X.env) fp xe) ifs tt)
    (ge : ∀ (σ : L2.St) (s : Shared) (H : Hp) (C : Addr) (cl : List (Str × Addr)) (fp : List Addr) (xe : Value → Shared → Prop), Flies (blkX X s H scope (compEnvC scope cl C X.env) fp xe) (fun c d _ H' => W c d σ H') → PE (blkX X s H scope (compEnvC scope cl C X.env) fp xe) elt (te W σ)) (fold : ∀ x, foldedSetIterable iter X.env x = pure x := by intro _; rfl) :
    PS X (.Assign [.Name y py] (.ListComp elt [⟨tg, iter, ifs, 0⟩] scope pos) spos) (fun D σ H => tAsg (tLc wi g tt (te W σ) (own.map (·.2))) (gName i) D σ H) := by
  refine ⟨fun pins s σ H D I h => ?_⟩
  rw [exec_Assign_Name_used _ _ _ _ hsw]
  refine wpAny_bind (wpAny_standAt (wpAny_bind ?_))
  show wpAny _ X.A (do let _ ← comprehension (.ListComp elt [⟨tg, iter, ifs, 0⟩] scope pos) scope X.env (firstIterPos [⟨tg, iter, ifs, 0⟩] pos) (newList []) false (eval iter X.env) (some (assign (.Name y py) X.env))) _ _ s
  have h : tLc wi g tt (te W σ) (own.map (·.2)) σ H (fun x H1 => gName i x σ H1 D.nx) := h
  refine wpAny_bind (thn (lc_flies (Qf := fun _ s' => SP X pins D .next s') hc hs hf tk nd I walk ok gg gt (ge σ) fold h fun L C s' m H' I' q hn f => ?_) fun _ s' hq => wpAny_pure (wpAny_pure hq))
  refine wpAny_assign_Name (store_ok2 (v := V.ref L) I' nd hy (.inl hyl) rfl (fun s2 I2 ⟨a, sb, ha⟩ => ?_) (.inr hyl))
  obtain ⟨f0, f1, f2, f3, f4, f5⟩ := f
  have away : C ≠ a := fun z => ha.elim (fun w => f1 (z.trans w)) fun w => f4 y a w z.symm
  refine ⟨m, hn.sameBut sb away, fun h3 sb3 => ?_⟩
  exact ⟨_, H', I2.turned (t' := s2.toks) (fun b o hb e => (sb3.2 b hb).trans e) f0 f1 f3 f4 f5, q⟩
end
end IL

set_option maxHeartbeats 2000000
/-! comprehensions whose items may raise, as plain functions -/
namespace IL
open PySem PySem.Spec PyProof.Rows L2
def lcLoopX (at_ : Sto → Nat → Option (Option PV)) (ig : IG) (t : IT) (e : IX) (d : Nat) (env : PEnv) : Nat → Nat → Sto → Option (RX × Sto)
  | 0, _, _ => none
  | m + 1, i, st => match at_ st i with
    | none => none
    | some none => some (.ok (.ref d), st)
    | some (some x) => match ig x env st with
      | none => none
      | some env1 => match t env1 st with
        | none => none
        | some (false, s1) => lcLoopX at_ ig t e d env m (i + 1) s1
        | some (true, s1) => match e env1 s1 with
          | none => none
          | some (.er c fs, s2) => some (.er c fs, s2)
          | some (.ok y, s2) => match s2[d]? with
            | some (.lst acc) => if acc.length < 9000000 then lcLoopX at_ ig t e d env m (i + 1) (s2.set d (.lst (acc ++ [y]))) else none
            | _ => none
def iLcX (ii : II) (ig : IG) (t : IT) (e : IX) (vs : List Nat) : IX := fun env st => ob (ii env st) fun src s =>
  lcLoopX src.at_ ig t e s.length (wipeE env vs) (src.n + 1) 0 (s ++ [.lst []])
theorem loop_ref {at_ : Sto → Nat → Option (Option PV)} {ig : IG} {t : IT} {e : IX} {d : Nat} {env : PEnv} : ∀ {m i : Nat} {st st' : Sto} {z : PV}, lcLoopX at_ ig t e d env m i st = some (.ok z, st') → z = .ref d
  | 0, _, _, _, _, h => by cases h
  | m + 1, i, st, st', z, h => by
    unfold lcLoopX at h
    split at h
    · cases h
    · cases h; rfl
    · split at h
      · cases h
      · split at h
        · cases h
        · exact loop_ref h
        · split at h
          · cases h
          · cases h
          · split at h
            · split at h
              · exact loop_ref h
              · cases h
            · cases h
theorem lcX_to {K : PySem.W.Frag} {W : WX} {ii : II} {it : IT} {ie : IX} {ig : IG} {T vs : List Nat} {σ : L2.St} {H : Hp} {Q : VK} (hT : ∀ i ∈ T, i ∈ vs) (h : tIX K W (iLcX ii ig it ie vs) σ H Q) : tLc (tII K ii) (tIG K T ig) (tIT K it) (tIX K (fun c d _ H' => W c d σ H') ie) vs σ H Q := by
  obtain ⟨env, s, ρ, r, E, S, h, q⟩ := h
  obtain ⟨src, s1, h1, hl⟩ := ob_some h
  refine ⟨env, s, ρ, src, s1, E, S, h1, fun J H1 ρ1 G1 S1 O Dl hD => ?_⟩
  have g0 : Grow H1 ρ1 (upd H1 Dl (.lst [])) (ρ1.add Dl) := grow_alloc hD
  have E1 : RepE K H1 ρ1 env σ := E.grow S G1
  have q1 := (q.grow G1).grow g0
  refine ⟨fun i m H' => ∃ st2 ρ', Grow (upd H1 Dl (.lst [])) (ρ1.add Dl) H' ρ' ∧ RepS K H' ρ' st2 ∧ lcLoopX src.at_ ig it ie s1.length (wipeE env vs) m i st2 = some r,
    ⟨src.n + 1, _, _, Grow.refl, S1.alloc (so := .lst []) hD ⟨[], upd_same, by unfold Reps; rfl⟩, hl⟩, ?_⟩
  rintro i m H' ⟨st2, ρ', G', S', hl⟩
  have ix : ρ'.l[s1.length]? = some Dl := G'.ix (by show (ρ1.l ++ [Dl])[s1.length]? = some Dl; rw [← S1.len, List.getElem?_append_right (Nat.le_refl _)]; simp)
  cases m with
  | zero => cases hl
  | succ m =>
    unfold lcLoopX at hl
    obtain ⟨o1, o2⟩ := O H' ρ' st2 (g0.trans G') S' i
    split at hl
    · cases hl
    · rename_i e1
      cases hl
      refine .inl ⟨o1 e1, q1 _ H' ρ' G' S' ?_⟩
      unfold Rep
      exact ⟨Dl, rfl, ix⟩
    · rename_i x e1
      obtain ⟨go, yl⟩ := o2 x e1
      split at hl
      · cases hl
      · rename_i env1 e2
        refine .inr ⟨go, fun H2 => ∃ m', m' < m + 1 ∧ ∃ st2 ρ', Grow (upd H1 Dl (.lst [])) (ρ1.add Dl) H2 ρ' ∧ RepS K H2 ρ' st2 ∧ lcLoopX src.at_ ig it ie s1.length (wipeE env vs) m' (i + 1) st2 = some r, fun H2 n => n, fun v H2 y => ?_⟩
        obtain ⟨ρ2, G2, S2, R2⟩ := yl v H2 y
        have Ew : RepE K H2 ρ2 (wipeE env vs) (L2.wipe σ vs) := (E1.wipe vs).grow S1 ((g0.trans G').trans G2)
        refine ⟨wipeE env vs, st2, ρ2, x, env1, Ew, S2, R2, e2, fun σ3 E3 l3 a3 => ⟨?_, ?_⟩⟩
        · rw [L2.wipe_length] at l3
          exact wipe_same l3 fun j hj => a3 j fun z => hj (hT j z)
        · cases e3 : it env1 st2 with
          | none => rw [e3] at hl; cases hl
          | some rt =>
            obtain ⟨b, s3⟩ := rt
            rw [e3] at hl
            refine ⟨env1, st2, ρ2, b, s3, E3, S2, e3, fun H3 ρ3 G3 S3 => ?_⟩
            cases b with
            | false =>
              rw [if_neg Bool.false_ne_true]
              exact ⟨m, Nat.lt_succ_self m, s3, ρ3, (G'.trans G2).trans G3, S3, hl⟩
            | true =>
              rw [if_pos rfl]
              simp only at hl
              cases e4 : ie env1 s3 with
              | none => rw [e4] at hl; cases hl
              | some re =>
                obtain ⟨re, s4⟩ := re
                rw [e4] at hl
                refine ⟨env1, s3, ρ3, (re, s4), E3.grow S2 G3, S3, e4, ?_⟩
                cases re with
                | er c fs =>
                  cases hl
                  exact fun C d H4 ρ4 ws hc G4 S4 R4 hd => q1 C d H4 ρ4 ws hc (((G'.trans G2).trans G3).trans G4) S4 R4 hd
                | ok y =>
                  intro w H4 ρ4 G4 S4 R4
                  simp only at hl
                  split at hl
                  · rename_i acc e5
                    split at hl
                    · rename_i hlen
                      have ix4 : ρ4.l[s1.length]? = some Dl := (G2.trans (G3.trans G4)).ix ix
                      obtain ⟨b, ws, e0, hb, ndd, h2, h3⟩ := S4.lst (by unfold Rep; exact ⟨Dl, rfl, ix4⟩) e5
                      cases e0
                      have gw : Grow H4 ρ4 (upd H4 Dl (.lst (ws ++ [w]))) ρ4 := grow_write h2 (List.mem_of_getElem? ix4) ndd
                      refine ⟨ws, h2, line6 (by rw [← h3.length]; exact hlen), m, Nat.lt_succ_self m, _, ρ4, ((G'.trans G2).trans G3).trans (G4.trans gw), S4.write (so := .lst (acc ++ [y])) ix4 ndd h2 ⟨_, upd_same, ?_⟩, hl⟩
                      exact Reps.grow S4 gw _ _ (Reps.append h3 (by unfold Reps; exact ⟨w, [], rfl, R4, by unfold Reps; rfl⟩))
                    · cases hl
                  · cases hl
/-- the list is a value from now on -/
noncomputable def iNewX (i : IX) : IX := fun env st => match i env st with
  | some (.ok x, s) => (iNew (fun _ _ => some (x, s)) env st).map fun p => (.ok p.1, p.2)
  | some (.er c fs, s) => some (.er c fs, s)
  | none => none
section
variable {X : Cx} {W : WX} {pos : Pos} {it : IT} {ie : IX}
theorem newX_to {K : PySem.W.Frag} {i : IX} {σ : L2.St} {H : Hp} {Q : VK} (h : tIX K W (iNewX i) σ H Q) : tIX K W i σ H Q := by
  obtain ⟨env, st, ρ, r, E, S, h, q⟩ := h
  unfold iNewX at h
  split at h
  · rename_i x s e
    obtain ⟨p, h2, h3⟩ := map_some h
    cases h3
    obtain ⟨z, s2⟩ := p
    obtain ⟨x0, s0, h4, h5⟩ := new_split h2
    cases h4
    refine ⟨env, st, ρ, _, E, S, e, fun v H1 ρ1 G1 S1 R1 => ?_⟩
    obtain ⟨ρ2, G2, S2, R2⟩ := h5 S G1 S1 R1
    exact q v H1 ρ2 G2 S2 R2
  · rename_i c fs s e
    cases h
    exact ⟨env, st, ρ, _, E, S, e, q⟩
  · cases h
theorem s_setLcX {i : Nat} {y : Str} {py : Pos} {elt tg iter : Expr} {ifs : List Expr} {scope : Scope} {own : List (Str × Nat)} {spos : Pos} {ii : II} {T : List Nat} {ig : IG} (hy : X.N[i]? = some y) (hyl : X.env.scope.names.lookup y = some .local)
    (hsw : swapsWith (.ListComp elt [⟨tg, iter, ifs, 0⟩] scope pos) (some (.Name y py)) spos.line X.env = pure true) (hc : X.calm = true) (hs : X.stack = X.env :: X.outer) (hf : X.env.frame = some X.env.locals) (tk : L2N.Takes X W) (hN : X.N.Nodup) (hi : PI X tg iter (tII X.K ii)) (ok : BlkOk X.N X.env.scope scope own)
    (hT : ∀ i ∈ T, i ∈ own.map (·.2))
    (hg : ∀ (s : Shared) (H : Hp) (C : Addr) (cl : List (Str × Addr)) (fp : List Addr) (xe : Value → Shared → Prop), PG (blkX X s H scope (compEnvC scope cl C X.env) fp xe) tg (tIG X.K T ig)) (ht : ∀ (s : Shared) (H : Hp) (C : Addr) (cl : List (Str × Addr)) (fp : List Addr) (xe : Value → Shared → Prop), PTs (blkX X s H scope (compEnvC scope cl C X.env) fp xe) ifs (tIT X.K it))
    (he : ∀ (V : WX) (s : Shared) (H : Hp) (C : Addr) (cl : List (Str × Addr)) (fp : List Addr) (xe : Value → Shared → Prop), Flies (blkX X s H scope (compEnvC scope cl C X.env) fp xe) V → PE (blkX X s H scope (compEnvC scope cl C X.env) fp xe) elt (tIX X.K V ie)) (fold : ∀ x, foldedSetIterable iter X.env x = pure x := by intro _; rfl) :
    PS X (.Assign [.Name y py] (.ListComp elt [⟨tg, iter, ifs, 0⟩] scope pos) spos) (tIS X.K W (iAsgX (gN i) (iNewX (iLcX ii ig it ie (own.map (·.2)))))) :=
  PS.imp (ps_setLcX (te := fun W σ => tIX X.K (fun c d _ H' => W c d σ H') ie) hc hN hy hyl hs hf tk hsw hi ok hg ht (fun σ s H C cl fp xe fl => he _ s H C cl fp xe fl) fold) fun D σ H ⟨env, s, ρ, f, E, S, h, q⟩ => by
    obtain ⟨r, s1, h1, h⟩ := ob_some h
    refine lcX_to hT (newX_to ⟨env, s, ρ, (r, s1), E, S, h1, ?_⟩)
    cases r with
    | er c fs =>
      cases h
      exact er_to E S q
    | ok x =>
      cases h
      exact fun v H1 ρ1 G1 S1 R1 => q _ H1 ρ1 G1 S1 ((E.grow S G1).set R1 i)
end
section
variable {X : Cx} {W : WX} {x : Str} {p pos : Pos} {e : Expr} {es : List Expr} {ir : IA} {k j n : Nat} {f : FX}
/-- a call in the block -/
theorem x_callF (c : CalX X.prog X.w X.K X.mg X.base k x n f) (hn : ArX n f) (hr : Room j X.A) (hk : k ≤ j) (hg : Gl X x) (tk : Flies X W) (ha : PA X (e :: es) (tIA X.K ir))
    (hdb : (x == ("__debug__" : Str)) = false := by decide) (he : starEach (e :: es) X.env = (false, eval e X.env) :: starEach es X.env := by rfl) (hpl : (backTo pos (starEach es X.env)).any (·.1) = false := by rfl) :
    PE X (.Call (.Name x p) (e :: es) [] pos) (tIX X.K W (iCallX f ir)) := by
  obtain ⟨fa, fd, ps, F, hm, kp, b⟩ := c.ex
  refine PE.imp (pe_callS (E := WE W) F (hr.mono hk) hg hm kp b (fun σ => flyAt tk σ) ha hdb he hpl) fun σ H Q ⟨env, st, ρ, r, E, S, h, q⟩ => ?_
  obtain ⟨xs, s1, h1, h⟩ := ob_some h
  exact ⟨env, st, ρ, xs, s1, E, S, h1, fun vs H1 ρ1 G1 S1 R1 => ⟨by rw [← R1.length]; exact hn _ _ _ h, s1, ρ1, xs, r, S1, R1, h, (q.grow G1).at⟩⟩
end
end IL

set_option maxHeartbeats 2000000
/-! d.get(k), d.get(k, x); sorted of what is sorted -/
namespace IL
open PySem PySem.Spec PyProof.Rows L2
section
variable {X : Cx} {o e f : Expr} {io ie ix : IE} {apos cpos : Pos}
def iGet1 (io ie : IE) : IE := fun env st => ob (io env st) fun d s1 => match pairsOf s1 d with
  | some _ => ob (ie env s1) fun y s2 => match pairsOf s2 d with
    | some kvs => (keyP y).map fun k => ((findP kvs k).getD .non, s2)
    | none => none
  | none => none
def iGet2 (io ie ix : IE) : IE := fun env st => ob (io env st) fun d s1 => match pairsOf s1 d with
  | some _ => ob (ie env s1) fun y s2 => ob (ix env s2) fun z s3 => match pairsOf s3 d with
    | some kvs => (keyP y).map fun k => ((findP kvs k).getD z, s3)
    | none => none
  | none => none
theorem isD_rep {K : PySem.W.Frag} {H : Hp} {ρ : Rho} {st : Sto} (S : RepS K H ρ st) {x : PV} {v : V} {kvs : List (Key × PV)} (R : Rep K H ρ x v) (h : pairsOf st x = some kvs) : ∃ a, v = .ref a ∧ IsD H a := by
  obtain ⟨a, vs, rfl, h1, _⟩ := pairs_rep S R h
  exact ⟨a, rfl, .inl ⟨_, h1⟩⟩
theorem get_rep {K : PySem.W.Frag} {H : Hp} {ρ : Rho} {st : Sto} (S : RepS K H ρ st) {x z : PV} {a : Addr} {u : V} {kvs : List (Key × PV)} (R : Rep K H ρ x (.ref a)) (Rz : Rep K H ρ z u) (h : pairsOf st x = some kvs) (k : Key) :
    ∃ o, DGet H a (kV k) o ∧ Rep K H ρ ((findP kvs k).getD z) (o.getD u) := by
  obtain ⟨b, vs, e, h1, r⟩ := pairs_rep S R h
  cases e
  refine ⟨_, .inl ⟨_, k, h1, rfl, rfl⟩, ?_⟩
  cases q : findP kvs k with
  | some y =>
    obtain ⟨w, hw, Rw⟩ := (find_rep (k := k) r).1 _ q
    rw [hw]
    exact Rw
  | none =>
    have := (find_rep (k := k) r).2 q
    rw [this]
    exact Rz
theorem r_get1 (hu : X.A.units + 1 < cLine) (ho : PE X o (tI X.K io)) (he : PE X e (tI X.K ie)) (m : M1 X o "get" apos e cpos) : PE X (.Call (.Attribute o "get" apos) [e] [] cpos) (tI X.K (iGet1 io ie)) :=
  PE.imp (pe_dget1 hu ho he m) fun σ H Q ⟨env, st, ρ, z, st', E, S, h, q⟩ => by
    obtain ⟨d, s1, h1, h⟩ := ob_some h
    refine ⟨env, st, ρ, d, s1, E, S, h1, fun vd H1 ρ1 G1 S1 R1 => ?_⟩
    split at h
    · rename_i kvs e0
      obtain ⟨a, rfl, hd⟩ := isD_rep S1 R1 e0
      refine ⟨a, rfl, hd, ?_⟩
      obtain ⟨y, s2, h2, h⟩ := ob_some h
      refine ⟨env, s1, ρ1, y, s2, E.grow S G1, S1, h2, fun vy H2 ρ2 G2 S2 R2 => ?_⟩
      split at h
      · rename_i kvs2 e2
        obtain ⟨k, ek, hz⟩ := map_some h
        cases hz
        have hk := key_rep R2 ek
        subst hk
        obtain ⟨o, g, Ro⟩ := get_rep (z := .non) (u := .non) S2 (Rep.grow S1 G2 _ _ R1) (by unfold Rep; rfl) e2 k
        exact ⟨o, g, q _ H2 ρ2 (G1.trans G2) S2 Ro⟩
      · cases h
    · cases h
theorem r_get2 (hu : X.A.units + 1 < cLine) (ho : PE X o (tI X.K io)) (he : PE X e (tI X.K ie)) (hx : PE X f (tI X.K ix)) (m : M2 X o "get" apos e f cpos) : PE X (.Call (.Attribute o "get" apos) [e, f] [] cpos) (tI X.K (iGet2 io ie ix)) :=
  PE.imp (pe_dget2 hu ho he hx m) fun σ H Q ⟨env, st, ρ, z, st', E, S, h, q⟩ => by
    obtain ⟨d, s1, h1, h⟩ := ob_some h
    refine ⟨env, st, ρ, d, s1, E, S, h1, fun vd H1 ρ1 G1 S1 R1 => ?_⟩
    split at h
    · rename_i kvs e0
      obtain ⟨a, rfl, hd⟩ := isD_rep S1 R1 e0
      refine ⟨a, rfl, hd, ?_⟩
      obtain ⟨y, s2, h2, h⟩ := ob_some h
      refine ⟨env, s1, ρ1, y, s2, E.grow S G1, S1, h2, fun vy H2 ρ2 G2 S2 R2 => ?_⟩
      obtain ⟨w, s3, h3, h⟩ := ob_some h
      refine ⟨env, s2, ρ2, w, s3, (E.grow S G1).grow S1 G2, S2, h3, fun vw H3 ρ3 G3 S3 R3 => ?_⟩
      split at h
      · rename_i kvs2 e2
        obtain ⟨k, ek, hz⟩ := map_some h
        cases hz
        have hk := key_rep R2 ek
        subst hk
        obtain ⟨o, g, Ro⟩ := get_rep (z := w) (u := vw) S3 (Rep.grow S1 (G2.trans G3) _ _ R1) R3 e2 k
        exact ⟨o, g, q _ H3 ρ3 ((G1.trans G2).trans G3) S3 Ro⟩
      · cases h
    · cases h
end
/-! ### sorted -/
def txt : PV → Option Str
  | .str s => some s
  | _ => none
def txts : List PV → Option (List Str)
  | [] => some []
  | x :: xs => (txt x).bind fun s => (txts xs).map (s :: ·)
/-- texts in their order are given as they are -/
def fSortS : F1 := fun x st => match listOf st x with
  | some xs => match txts xs with
    | some ss => if sortedS ss = true ∧ ss.length < 64 then some (alloc (.lst xs) st) else none
    | none => none
  | none => none
theorem txts_rep {K : PySem.W.Frag} {H : Hp} {ρ : Rho} : ∀ {xs : List PV} {ss : List Str} {vs : List V}, txts xs = some ss → Reps K H ρ xs vs → vs = ss.map V.str ∧ xs = ss.map PV.str
  | [], ss, vs, h, r => by
    cases h
    unfold Reps at r
    subst r
    exact ⟨rfl, rfl⟩
  | x :: xs, ss, vs, h, r => by
    unfold txts at h
    obtain ⟨s, h1, h2⟩ := Option.bind_eq_some_iff.mp h
    obtain ⟨ss', h3, h4⟩ := map_some h2
    subst h4
    unfold Reps at r
    obtain ⟨v, ws, rfl, r1, r2⟩ := r
    obtain ⟨e1, e2⟩ := txts_rep h3 r2
    unfold txt at h1
    split at h1
    · cases h1
      unfold Rep at r1
      subst r1 e1 e2
      exact ⟨rfl, rfl⟩
    · cases h1
theorem rising_all : ∀ {p : Str} {l : List Str}, risingS p l = true → (p :: l).Pairwise (fun a b => ¬ b.cps.toList < a.cps.toList)
  | p, [], _ => by simp
  | p, x :: r, h => by
    unfold risingS at h
    rw [Bool.and_eq_true, ltCps_eq] at h
    obtain ⟨h1, h2⟩ := h
    have ih := rising_all h2
    have h1' : ¬ x.cps.toList < p.cps.toList := by simpa using h1
    refine List.Pairwise.cons (fun y hy => ?_) ih
    rcases List.mem_cons.mp hy with e | hy
    · subst e; exact h1'
    · have h3 := (List.pairwise_cons.mp ih).1 y hy
      exact List.not_lt.mpr (List.le_trans (List.not_lt.mp h1') (List.not_lt.mp h3))
theorem sorted_all {l : List Str} (h : sortedS l = true) : l.Pairwise (fun a b => ¬ b.cps.toList < a.cps.toList) := by
  cases l with
  | nil => simp
  | cons x r => exact rising_all h
theorem sorted_one {a b : List Str} (p : a.Perm b) (ha : sortedS a = true) (hb : sortedS b = true) : a = b := by
  refine List.Perm.eq_of_pairwise (le := fun a b => ¬ b.cps.toList < a.cps.toList) (fun x y _ _ h1 h2 => ?_) (sorted_all ha) (sorted_all hb) p
  have e : x.cps.toList = y.cps.toList := List.le_antisymm (List.not_lt.mp h1) (List.not_lt.mp h2)
  obtain ⟨c⟩ := x
  obtain ⟨d⟩ := y
  have : c = d := by simpa using e
  rw [this]
theorem f_sortS {K : PySem.W.Frag} : CallI K (fun xs H Q => ∃ (a : Addr) (ss : List Str), xs = [V.ref a] ∧ SqL K H a (ss.map V.str) ∧ ss.length < 64 ∧
    ∀ (ys : List Str) (p : Addr), ys.Perm ss → sortedS ys = true → H p = none → Q (.ref p) (upd H p (.lst (ys.map V.str)))) (a1 fSortS) := call1 fun H ρ st x vx z st' Q S R h q => by
  unfold fSortS at h
  split at h
  · rename_i xs e
    split at h
    · rename_i ss e2
      split at h
      · rename_i hs
        obtain ⟨a, vs, rfl, t, r⟩ := list_rep S R e
        obtain ⟨e3, e4⟩ := txts_rep e2 r
        subst e3
        refine ⟨a, ss, rfl, t, hs.2, fun ys p pm so hp => ?_⟩
        · have := sorted_one pm so hs.1
          subst this
          obtain ⟨b1, b2, b3⟩ := new_lst S r hp
          cases h
          exact q _ _ _ b1 b2 b3
      · cases h
    · cases h
  · cases h
/-! ### a name is set where the exception is in hand -/
theorem j_set {X : Cx} {J : JP} {W : WX} {e : Expr} {ia : IE} {pos : Pos} {i : Nat} {x : Str} {pos' : Pos} (hN : X.N.Nodup) (hi : X.N[i]? = some x) (hx : Loc X.env.scope x) (he : PE X e (tJ X.K J ia)) (hs : swapsWith e (some (.Name x pos')) pos.line X.env = pure false := by rfl)
    (hf : X.fn x = true ∨ X.env.scope.names.lookup x = some .local := by first | exact .inl rfl | exact .inr rfl | assumption) : PS X (.Assign [.Name x pos'] e pos) (tJS X.K J W (iAsg (gN i) ia)) :=
  PS.imp (ps_set hN hi hx he hs hf) fun D σ H ⟨env, s, ρ, f, E, S, hj, h, q⟩ => by
    obtain ⟨y, s1, h1, h⟩ := ob_some h
    cases h
    exact ⟨env, s, ρ, y, _, E, S, hj, h1, fun v H1 ρ1 G1 S1 R1 => q _ H1 ρ1 G1 S1 ((E.grow S G1).set R1 i)⟩
/-! ### x in a list of data of any depth -/
def inL (st : Sto) (x y : PV) : Option Bool := match toD st 70 x, toD st 70 y with
  | some d, some (.list ds) => if SeqAt.shaped d && SeqAt.shaped (.list ds) then some (ds.any fun z => PyData.eqv z d) else none
  | _, _ => none
def inE (st : Sto) (x y : PV) : Option Bool := match inC st x y with
  | some b => some b
  | none => inL st x y
def fInE : F2 := fun x y st => (inE st x y).map fun b => (.bl b, st)
theorem op_inE {X : Cx} (hu : X.A.units + 65 < cLine) : OpR X (compareOp .In) (fun x y H Q => rInC X.K x y H Q ∨ rInD X.K x y H Q) := OpR.or (op_inC hu) (op_inD hu)
theorem f_inE {K : PySem.W.Frag} : OpI K (fun x y H Q => rInC K x y H Q ∨ rInD K x y H Q) fInE := by
  intro H ρ st x y vx vy z st' Q S Rx Ry h q
  obtain ⟨b, e, hz⟩ := map_some h
  unfold inE at e
  split at e
  · rename_i b' e1
    cases e
    refine .inl (f_inC H ρ st x y vx vy z st' Q S Rx Ry ?_ q)
    unfold fInC
    rw [e1]
    exact congrArg some hz
  · cases hz
    unfold inL at e
    split at e
    · rename_i d ds e1 e2
      split at e
      · rename_i hs
        rw [Bool.and_eq_true] at hs
        cases e
        exact .inr ⟨d, ds, toD_dp S _ _ _ _ Rx e1, toD_dp S _ _ _ _ Ry e2, hs.1, hs.2, q (.bl _) H ρ Grow.refl S (by unfold Rep; rfl)⟩
      · cases e
    · cases e
@[simp] theorem fInE_e {st : Sto} {x y : PV} : fInE x y st = (inE st x y).map fun b => (.bl b, st) := rfl
theorem inE_C {st : Sto} {x y : PV} {b : Bool} (h : inC st x y = some b) : inE st x y = some b := by
  unfold inE
  rw [h]
end IL

set_option maxHeartbeats 2000000
/-! exceptions of one field that is a tuple of whole numbers -/
namespace IL
open PySem PySem.Spec PyProof.Rows L2
section
variable {X : Cx}
theorem small_log {i : Int} (h : i.natAbs < 10 ^ 30) : i.natAbs.log2 < 1920 := by
  by_cases h0 : i.natAbs = 0
  · rw [h0]; decide
  · have h2 : i.natAbs < 2 ^ 1920 := Nat.lt_of_lt_of_le h (Nat.le_trans (by decide : (10 : Nat) ^ 30 ≤ 2 ^ 100) (Nat.pow_le_pow_right (by decide) (by decide)))
    exact (Nat.log2_lt h0).mpr h2
theorem reprs_int {prog : Program} {w : World} : ∀ {l : List Int} {its : List Value}, Vals (l.map V.int) its → (∀ i ∈ l, i.natAbs < 10 ^ 30) → ∃ ts, ReprAll prog w its ts ∧ piled ts ≤ l.length * 2000
  | [], _, r, _ => by
    cases r
    exact ⟨[], .nil, by simp [piled]⟩
  | i :: l, _, r, h => by
    cases r with
    | cons r1 r2 =>
      obtain ⟨t, rfl⟩ := r1
      obtain ⟨ts, h1, h2⟩ := reprs_int (prog := prog) (w := w) r2 fun z hz => h z (List.mem_cons_of_mem _ hz)
      have hb := h i List.mem_cons_self
      have hlog := small_log hb
      refine ⟨Str.ofString (toString i) :: ts, .cons (ReprIs.int t hlog) h1, ?_⟩
      have := int_text_len_1921 hlog
      rw [piled_cons, List.length_cons]
      omega
def okTup (K : PySem.W.Frag) (H : Hp) (v : V) : Prop := ∃ (a : Addr) (l : List Int), v = .ref a ∧ SqT K H a (l.map V.int) ∧ l.length ≤ 1000 ∧ ∀ i ∈ l, i.natAbs < 10 ^ 30
def tFmtI (K : PySem.W.Frag) (te : TE) : TE := fun σ H Q => te σ H fun x H1 => okTup K H1 x ∧ ∀ m : Str, m.length ≤ 5000000 → Q (.str m) H1
theorem pe_fmtI {e : Expr} {te : TE} {pos : Pos} {k : Nat} (hr : Room k X.A) (he : PE X e te) : PE X (.FormattedValue e (-1) none pos) (tFmtI X.K te) := by
  refine ⟨fun pins s σ H Q I h => ?_⟩
  refine wpAny_FormattedValue_plain (thn (he.run pins s σ H _ I h) fun v s1 hv => ?_)
  obtain ⟨x, H1, I1, r1, ⟨a, l, rfl, ht, hl, hb⟩, q⟩ := hv
  cases r1
  obtain ⟨its, rv, ⟨o, ho, hcl, n, hd⟩, _⟩ := I1.tuple ht
  obtain ⟨ts, hts, hp⟩ := reprs_int (prog := X.prog) (w := X.w) rv hb
  have htx := fmt_text ts
  have hu := hr.units
  have hz : l.length * 2000 ≤ 2000000 := by omega
  have big : 9000000 ≤ sizeLine := by decide
  exact fmt_tuple (ts := ts) (by omega) ho hcl hd hts (by omega) fun m u tk hm => ⟨.str m, H1, I1.tok _, ⟨u, rfl⟩, q m (by omega)⟩
theorem fmt2_tup {K : PySem.W.Frag} {c : Str} (hc : c.length ≤ 1000) : ∀ (σ : L2.St) (H : Hp) (Q : VK) (v : V), σ[1]? = some (some v) → okTup K H v → (∀ s : Str, Q (.str s) H) → (fun (σ : L2.St) (H : Hp) (Q : VK) => tJs [tC (.str c), tFmtI K (tVar 1)] Str.empty σ H fun out H1 => Q (.str out) H1) σ H Q := by
  intro σ H Q v hv ok q
  have l1 : (Str.empty ++ c).length ≤ 1000 := by rw [PySem.Str.length_append]; show 0 + c.length ≤ 1000; omega
  have big : 9000000 ≤ sizeLine := by decide
  refine ⟨c, rfl, by omega, v, hv, ok, fun m hm => ⟨m, rfl, ?_, q _⟩⟩
  rw [PySem.Str.length_append]
  omega
end
/-- what an __init__ of one field does, the field told by the heap -/
def spInitH (K : PySem.W.Frag) (C : Addr) (n : Str) (ok : Hp → V → Prop) : Sp := fun vs H Q _ => ∃ (a : Addr) (v : V), vs = [.ref a, v] ∧ H a = some (exo a C none) ∧ ok H v ∧ ∀ d, H d = none → d ≠ a → Q .non (upd (upd H d (exd d [(n, v)])) a (exo a C (some d)))
section
variable {X : Cx} {n B : Str} {ej : Expr} {tj : TE} {p1 p2 p3 p4 p5 p6 p7 p8 p9 : Pos} {C : Addr} {ok : Hp → V → Prop}
theorem init_bH {mc : Value} {CF : Addr} {pl : Sem Bool} (hN0 : X.N[0]? = some ("self" : Str)) (hN1 : X.N[1]? = some n) (v0 : Vis X.env.scope "self") (v1 : Vis X.env.scope n) (hd : (n == ("__debug__" : Str)) = false) (hcd : (n == ("__classdict__" : Str)) = false)
    (hg : Gl X B) (hm : X.mg B = some (.ref CF)) (sp : PySem.W.specialIn X.K (.ref CF) "__getattribute__" = some (some (.builtin "type.__getattribute__"))) (rd : PySem.W.readsIn X.K CF mc = true)
    (vV : PySem.W.findCls X.K (.ref CF) mc "__init__" = some (.val (.builtin "ValueError.__init__"))) (T : OexC X.K C) (hno : PySem.W.findIn X.K (.ref C) n = some none)
    (hj : PE X ej tj) (hjt : ∀ (σ : L2.St) (H : Hp) (Q : VK) (v : V), σ[1]? = some (some v) → ok H v → (∀ s : Str, Q (.str s) H) → tj σ H Q) (hdb : (B == ("__debug__" : Str)) = false := by decide)
    (hs1 : swapsWith (.Call (.Attribute (.Name B p1) "__init__" p2) [.Name "self" p3, ej] [] p4) none p5.line X.env = pure false := by rfl)
    (hs2 : swapsWith (.Name n p8) (some (.Attribute (.Name "self" p6) n p7)) p9.line X.env = pure false := by rfl)
    (hc : eval (.Call (.Attribute (.Name B p1) "__init__" p2) [.Name "self" p3, ej] [] p4) X.env = (do
      let ov ← eval (.Name B p1) X.env
      standAt p2.atName
      let (f, first) ← holding [ov] (getMethod ov "__init__" pl)
      callWith p4 f first (backTo p4 (starEach [.Name "self" p3, ej] X.env)) (backToKw p4 (keywordEach [] X.env))) := by rfl)
    (he : starEach [.Name "self" p3, ej] X.env = (false, eval (.Name "self" p3) X.env) :: starEach [ej] X.env := by rfl) (he2 : starEach [ej] X.env = (false, eval ej X.env) :: starEach [] X.env := by rfl) (hpl : (backTo p4 (starEach [ej] X.env)).any (·.1) = false := by rfl) :
    PSs X [.Expr (.Call (.Attribute (.Name B p1) "__init__" p2) [.Name "self" p3, ej] [] p4) p5, .Assign [.Attribute (.Name "self" p6) n p7] (.Name n p8) p9]
      (fun D σ H => ∃ (a : Addr) (v : V), σ[0]? = some (some (.ref a)) ∧ σ[1]? = some (some v) ∧ H a = some (exo a C none) ∧ ok H v ∧ ∀ d, H d = none → d ≠ a → D.nx σ (upd (upd H d (exd d [(n, v)])) a (exo a C (some d)))) := by
  have h1 := ps_expr (pe_basei (pl := pl) hg hm sp rd vV (pa_cons (pe_var (pos := p3) hN0 v0) (pa_cons hj pa_nil he2) he) hdb hc he hpl) hs1
  have h2 := ps_ost (f := n) (p' := p7) (pe_var (pos := p6) hN0 v0) (pe_var (pos := p8) hN1 v1 hd hcd) hs2
  refine PSs.imp (pss_cons h1 (pss_one h2)) fun D σ H ⟨a, v, s0, s1, ea, hv, q⟩ => ?_
  refine ⟨.ref a, s0, hjt σ H _ v s1 hv fun s => ⟨a, C, [.str s], rfl, by simp, T, ea, ?_⟩⟩
  exact ⟨v, s1, .ref a, s0, a, C, rfl, T, hno, .inl ⟨ea, fun dx h1 h2 => q dx h1 h2⟩⟩
end
/-- a class that may be raised by its name, with one field, told by the heap -/
structure RaiH (P : Program) (w : World) (K : PySem.W.Frag) (mg : Str → Option Value) (base : Heap) (k : Nat) (c n : Str) (ok : Hp → V → Prop) : Prop where
  ex : ∃ (C fI : Addr) (fd : FuncData), ClsAt K c C ∧ mg c = some (.ref C) ∧ OexC K C ∧ PySem.W.findIn K (.ref C) "__init__" = some (some (.ref fI)) ∧ PySem.W.typeIn K (.ref fI) = some (.type "function") ∧
    FnOk P w K mg base C8.CX0 k fI fd ["self", n] (spInitH K C n ok) ∧ Binds K fd ["self", n] []
def intsP : List PV → Option (List Int)
  | [] => some []
  | .int i :: xs => (intsP xs).map (i :: ·)
  | _ :: _ => none
def okPT : PV → Bool
  | .tup xs => match intsP xs with
    | some l => decide (l.length ≤ 1000) && l.all fun i => decide (i.natAbs < 10 ^ 30)
    | none => false
  | _ => false
theorem intsP_rep {K : PySem.W.Frag} {H : Hp} {ρ : Rho} : ∀ {xs : List PV} {l : List Int} {vs : List V}, intsP xs = some l → Reps K H ρ xs vs → vs = l.map V.int
  | [], l, vs, h, r => by
    cases h
    unfold Reps at r
    subst r
    rfl
  | x :: xs, l, vs, h, r => by
    unfold Reps at r
    obtain ⟨v, ws, rfl, r1, r2⟩ := r
    cases x <;> simp only [intsP, reduceCtorEq] at h
    obtain ⟨l', h1, h2⟩ := map_some h
    subst h2
    unfold Rep at r1
    subst r1
    rw [intsP_rep h1 r2]
    rfl
theorem okPT_ok {K : PySem.W.Frag} {H : Hp} {ρ : Rho} {x : PV} {v : V} (h : okPT x = true) (r : Rep K H ρ x v) : okTup K H v := by
  unfold okPT at h
  split at h
  · rename_i xs
    split at h
    · rename_i l e
      unfold Rep at r
      obtain ⟨a, vs, rfl, t, rr⟩ := r
      have := intsP_rep e rr
      subst this
      rw [Bool.and_eq_true, decide_eq_true_eq, List.all_eq_true] at h
      exact ⟨a, l, rfl, t, h.1, fun i hi => of_decide_eq_true (h.2 i hi)⟩
    · cases h
  · cases h
theorem s_raiseH {X : Cx} {W : WX} {c n : Str} {ok : Hp → V → Prop} {okP : PV → Bool} {ie : IE} {e : Expr} {p pos pos2 : Pos} {k j : Nat} (r : RaiH X.prog X.w X.K X.mg X.base k c n ok) (hok : ∀ (H : Hp) (ρ : Rho) (x : PV) (v : V), okP x = true → Rep X.K H ρ x v → ok H v) (hr : Room j X.A) (hk : k + 1 ≤ j) (hg : Gl X c) (hc : X.calm = true) (tk : L2N.Takes X W)
    (ha : PE X e (tI X.K ie)) (hdb : (c == ("__debug__" : Str)) = false := by decide) (he : starEach [e] X.env = (false, eval e X.env) :: starEach [] X.env := by rfl) (hpl : (backTo pos (starEach [] X.env)).any (·.1) = false := by rfl) :
    PS X (.Raise (some (.Call (.Name c p) [e] [] pos)) none pos2) (tIS X.K W (iRaise c n okP ie)) := by
  obtain ⟨C, fI, fd, hC, hm, T, iC, tI, F, b⟩ := r.ex
  refine PS.imp (L2N.ps_raise hc tk (pmk_oexN (dvs := []) T iC tI F (hr.mono hk) b .nil C8.pass0 hg hm (pa_cons ha pa_nil he) hdb he hpl)) fun D σ H ⟨env, st, ρ, f, E, S, h, q⟩ => ?_
  obtain ⟨x, s1, h1, h⟩ := ob_some h
  split at h
  · rename_i hx
    cases h
    refine ⟨env, st, ρ, x, s1, E, S, h1, fun v H1 ρ1 G1 S1 R1 => ⟨by simp, fun a ha => ?_⟩⟩
    refine ⟨a, v, by simp, upd_same, hok _ ρ1 x v hx (Rep.grow S1 (grow_new ha) _ _ R1), fun d hd hda => ⟨rfl, d, [(n, v)], upd_same, by rw [upd_ne hda]; exact upd_same, by rw [← upd_ne (H := H1) (o := exo a C none) hda]; exact hd, ?_⟩⟩
    have hd1 : H1 d = none := by rw [← upd_ne (H := H1) (o := exo a C none) hda]; exact hd
    have eH : upd (del (upd (upd (upd H1 a (exo a C none)) d (exd d [(n, v)])) a (exo a C (some d))) a) d (.xd [(n, v)]) = upd H1 d (.xd [(n, v)]) := by
      funext b
      by_cases hb : b = d
      · subst hb; rw [upd_same, upd_same]
      · rw [upd_ne hb, upd_ne hb]
        by_cases hba : b = a
        · subst hba; rw [del_same, ha]
        · rw [del_ne hba, upd_ne hba, upd_ne hb, upd_ne hba]
    rw [eH]
    have G2 : Grow H1 ρ1 (upd H1 d (.xd [(n, v)])) ρ1 := grow_new hd1
    exact q C d σ _ ρ1 [(n, v)] hC (G1.trans G2) (S1.new hd1) ((E.grow S G1).grow S1 G2) ⟨v, [], rfl, Rep.grow S1 G2 _ _ R1, rfl⟩ upd_same
  · cases h
/-! a, b = xs, xs a list -/
def gU (n : Nat) (gs : IGs) : IG := fun x env st => match listOf st x with
  | some xs => if xs.length = n then gs xs env st else none
  | none => none
theorem g_lst {X : Cx} {pos : Pos} {es : List Expr} {k : Nat} {T : List Nat} {gs : IGs} {n : Nat} (hc : X.calm = true) (h : PGs X es (tIGs X.K T gs))
    (hn : (assignEach es X.env).length = n := by rfl) (hst : (assignEach es X.env).findIdx? (·.1) = none := by rfl) : PG X (.Tuple es k pos) (tIG X.K T (gU n gs)) :=
  PG.imp (pg_lst hc h hn hst) fun v σ H Q ⟨env, st, ρ, y, env', E, S, R, h, q⟩ => by
    unfold gU at h
    split at h
    · rename_i xs e
      split at h
      · rename_i hl
        obtain ⟨a, vs, rfl, h1, h2⟩ := list_rep S R e
        exact ⟨a, vs, rfl, h1, by rw [← h2.length]; exact hl, env, st, ρ, xs, env', E, S, h2, h, q⟩
      · cases h
    · cases h
end IL

set_option maxHeartbeats 2000000
/-! name = [.. for k in d ..], d a dict that is not written any more -/
namespace IL
open PySem PySem.Spec PyProof.Rows L2
section
variable {it : IT} {ie : IE}
theorem lc_in {K : PySem.W.Frag} {src : Src} {J : It} {ig : IG} {T vs : List Nat} {σ : L2.St} {H1 : Hp} {ρ1 : Rho} {Q : VK} {env : PEnv} {s1 st' : Sto} {Dl : Addr} (hT : ∀ i ∈ T, i ∈ vs) (O : SrcOk K src J H1 ρ1) (E1 : RepE K H1 ρ1 env σ) (S1 : RepS K H1 ρ1 s1)
    (hl : lcLoop src.at_ ig it ie s1.length (wipeE env vs) (src.n + 1) 0 (s1 ++ [.lst []]) = some st') (q : ∀ v H' ρ', Grow H1 ρ1 H' ρ' → RepS K H' ρ' st' → Rep K H' ρ' (.ref s1.length) v → Q v H') (hD : H1 Dl = none) :
    ∃ W : Nat → Nat → Hp → Prop, (∃ m, W 0 m (upd H1 Dl (.lst []))) ∧ ∀ i m H, W i m H →
      (J.stop i H ∧ Q (.ref Dl) H) ∨ (J.go i H ∧ ∃ Nx : Hp → Prop, (∀ H', Nx H' → ∃ m', m' < m ∧ W (i + 1) m' H') ∧ ∀ x H', J.yld i H x H' → (tIG K T ig) x (wipe σ vs) H' fun σ2 H2 => wipe σ2 vs = wipe σ vs ∧ (tIT K it) σ2 H2 fun b H3 =>
        if b = true then (tI K ie) σ2 H3 fun y H4 => ∃ acc, H4 Dl = some (.lst acc) ∧ acc.length < sizeLine ∧ Nx (upd H4 Dl (.lst (acc ++ [y]))) else Nx H3) := by
  have g0 : Grow H1 ρ1 (upd H1 Dl (.lst [])) (ρ1.add Dl) := grow_alloc hD
  refine ⟨fun i m H' => ∃ st2 ρ', Grow (upd H1 Dl (.lst [])) (ρ1.add Dl) H' ρ' ∧ RepS K H' ρ' st2 ∧ lcLoop src.at_ ig it ie s1.length (wipeE env vs) m i st2 = some st',
    ⟨src.n + 1, _, _, Grow.refl, S1.alloc (so := .lst []) hD ⟨[], upd_same, by unfold Reps; rfl⟩, hl⟩, ?_⟩
  rintro i m H' ⟨st2, ρ', G', S', hl⟩
  have ix : ρ'.l[s1.length]? = some Dl := G'.ix (by show (ρ1.l ++ [Dl])[s1.length]? = some Dl; rw [← S1.len, List.getElem?_append_right (Nat.le_refl _)]; simp)
  cases m with
  | zero => cases hl
  | succ m =>
    unfold lcLoop at hl
    obtain ⟨o1, o2⟩ := O H' ρ' st2 (g0.trans G') S' i
    split at hl
    · cases hl
    · rename_i e1
      cases hl
      refine .inl ⟨o1 e1, q _ H' ρ' (g0.trans G') S' ?_⟩
      unfold Rep
      exact ⟨Dl, rfl, ix⟩
    · rename_i x e1
      obtain ⟨go, yl⟩ := o2 x e1
      split at hl
      · cases hl
      · rename_i env1 e2
        refine .inr ⟨go, fun H2 => ∃ m', m' < m + 1 ∧ ∃ st2 ρ', Grow (upd H1 Dl (.lst [])) (ρ1.add Dl) H2 ρ' ∧ RepS K H2 ρ' st2 ∧ lcLoop src.at_ ig it ie s1.length (wipeE env vs) m' (i + 1) st2 = some st', fun H2 n => n, fun v H2 y => ?_⟩
        obtain ⟨ρ2, G2, S2, R2⟩ := yl v H2 y
        have Ew : RepE K H2 ρ2 (wipeE env vs) (L2.wipe σ vs) := (E1.wipe vs).grow S1 ((g0.trans G').trans G2)
        refine ⟨wipeE env vs, st2, ρ2, x, env1, Ew, S2, R2, e2, fun σ3 E3 l3 a3 => ⟨?_, ?_⟩⟩
        · rw [L2.wipe_length] at l3
          exact wipe_same l3 fun j hj => a3 j fun z => hj (hT j z)
        · cases e3 : it env1 st2 with
          | none => rw [e3] at hl; cases hl
          | some r =>
            obtain ⟨b, s3⟩ := r
            rw [e3] at hl
            refine ⟨env1, st2, ρ2, b, s3, E3, S2, e3, fun H3 ρ3 G3 S3 => ?_⟩
            cases b with
            | false =>
              rw [if_neg Bool.false_ne_true]
              exact ⟨m, Nat.lt_succ_self m, s3, ρ3, (G'.trans G2).trans G3, S3, hl⟩
            | true =>
              rw [if_pos rfl]
              simp only at hl
              cases e4 : ie env1 s3 with
              | none => rw [e4] at hl; cases hl
              | some r =>
                obtain ⟨y, s4⟩ := r
                rw [e4] at hl
                refine ⟨env1, s3, ρ3, y, s4, E3.grow S2 G3, S3, e4, fun w H4 ρ4 G4 S4 R4 => ?_⟩
                simp only at hl
                split at hl
                · rename_i acc e5
                  split at hl
                  · rename_i hlen
                    have ix4 : ρ4.l[s1.length]? = some Dl := (G2.trans (G3.trans G4)).ix ix
                    obtain ⟨b, ws, e0, hb, ndd, h2, h3⟩ := S4.lst (by unfold Rep; exact ⟨Dl, rfl, ix4⟩) e5
                    cases e0
                    have gw : Grow H4 ρ4 (upd H4 Dl (.lst (ws ++ [w]))) ρ4 := grow_write h2 (List.mem_of_getElem? ix4) ndd
                    refine ⟨ws, h2, line6 (by rw [← h3.length]; exact hlen), m, Nat.lt_succ_self m, _, ρ4, ((G'.trans G2).trans G3).trans (G4.trans gw), S4.write (so := .lst (acc ++ [y])) ix4 ndd h2 ⟨_, upd_same, ?_⟩, hl⟩
                    exact Reps.grow S4 gw _ _ (Reps.append h3 (by unfold Reps; exact ⟨w, [], rfl, R4, by unfold Reps; rfl⟩))
                  · cases hl
                · cases hl

/-- a comprehension over the keys of the dict in slot j -/
def iLcK (j : Nat) (ig : IG) (t : IT) (e : IE) (vs : List Nat) : IE := fun env st => match env[j]? with
  | some (some (.fdk ks _)) => (lcLoop (srcT (ks.map kPV)).at_ ig t e st.length (wipeE env vs) (ks.length + 1) 0 (st ++ [.lst []])).map fun s' => (.ref st.length, s')
  | _ => none
end
section
variable {X : Cx} {W : WX} {pos : Pos} {it : IT} {ie : IE}
theorem s_setLcK {i j : Nat} {y : Str} {py : Pos} {elt tg iter : Expr} {ifs : List Expr} {scope : Scope} {own : List (Str × Nat)} {spos : Pos} {T : List Nat} {ig : IG} (hy : X.N[i]? = some y) (hyl : X.env.scope.names.lookup y = some .local)
    (hsw : swapsWith (.ListComp elt [⟨tg, iter, ifs, 0⟩] scope pos) (some (.Name y py)) spos.line X.env = pure true) (hc : X.calm = true) (hN : X.N.Nodup) (hi : PE X iter (tVar j)) (ok : BlkOk X.N X.env.scope scope own)
    (hT : ∀ i ∈ T, i ∈ own.map (·.2))
    (hg : ∀ (s : Shared) (H : Hp) (C : Addr) (cl : List (Str × Addr)) (fp : List Addr), PG (X.blk s H scope (compEnvC scope cl C X.env) fp) tg (tIG X.K T ig)) (ht : ∀ (s : Shared) (H : Hp) (C : Addr) (cl : List (Str × Addr)) (fp : List Addr), PTs (X.blk s H scope (compEnvC scope cl C X.env) fp) ifs (tIT X.K it))
    (he : ∀ (s : Shared) (H : Hp) (C : Addr) (cl : List (Str × Addr)) (fp : List Addr), PE (X.blk s H scope (compEnvC scope cl C X.env) fp) elt (tI X.K ie)) (hs : ∀ x, foldedSetIterable iter X.env x = pure x := by intro _; rfl) :
    PS X (.Assign [.Name y py] (.ListComp elt [⟨tg, iter, ifs, 0⟩] scope pos) spos) (tIS X.K W (iAsg (gN i) (iNew (iLcK j ig it ie (own.map (·.2)))))) :=
  PS.imp (PS.or (ps_lock (ps_setLc hc hN hy hyl hsw (pi_keys hi) ok hg ht he hs)) (ps_setLc hc hN hy hyl hsw (pi_keys hi) ok hg ht he hs)) fun D σ H ⟨env, s, ρ, f, E, S, h, q⟩ => by
    obtain ⟨x, s1, h1, h⟩ := ob_some h
    cases h
    obtain ⟨x0, s0, h2, h3⟩ := new_split h1
    unfold iLcK at h2
    split at h2
    · rename_i ks xs e
      obtain ⟨s2, hl, h4⟩ := map_some h2
      cases h4
      obtain ⟨v, hv, R⟩ := E.at_ j _ e
      unfold Rep at R
      obtain ⟨d, vs, rfl, ⟨kvs, rd, sd, hk, hvs⟩, _⟩ := R
      subst hk
      have hn : (srcT ((kvs.map (·.1)).map kPV)).n = (kvs.map (·.1)).length := by simp [srcT]
      have done : ∀ {H' : Hp} {ρ' : Rho} {w : V}, Grow H ρ H' ρ' → RepS X.K H' ρ' s0 → Rep X.K H' ρ' (.ref s.length) w → D.nx (σ.set i (some w)) H' := fun {H' ρ' w} G' S' R' => by
        obtain ⟨ρ2, G2, S2, R2⟩ := h3 S G' S' R'
        exact q _ H' ρ2 G2 S2 ((E.grow S G2).set R2 i)
      rcases rd with rd | ⟨od, rd⟩
      · refine .inl ⟨d, .dK kvs, rd, trivial, fun od => ?_⟩
        have r1 := rd_lock (od := od) rd trivial
        have E1 := E.rdk r1
        have S1 := S.rdk r1 sd (fun a ha => upd_ne ha)
        refine ⟨.ref d, hv, d, od, rfl, .inl ⟨kvs, upd_same, fun Dl hD => ?_⟩⟩
        refine lc_in (Q := fun x H' => H' d = some (HO.frz od (HO.dK kvs)) ∧ D.nx (σ.set i (some x)) (upd H' d (HO.dK kvs))) hT (srcK_ok upd_same sd) E1 S1 (by rw [hn]; exact hl) (fun w H2 ρ2 g S2 R2 => ?_) hD
        have h2 := g.lck d od _ sd upd_same
        have sd2 := g.safe (by rw [upd_same]; simp) sd
        have ru := rd_unlock h2
        exact ⟨h2, done (grow_locked rd trivial g h2) (S2.rdk ru sd2 (fun a ha => upd_ne ha)) (Rep.rdk ru _ _ R2)⟩
      · refine .inr ⟨.ref d, hv, d, od, rfl, .inl ⟨kvs, rd, fun Dl hD => ?_⟩⟩
        exact lc_in (Q := fun x H' => D.nx (σ.set i (some x)) H') hT (srcK_ok rd sd) E S (by rw [hn]; exact hl) (fun w H2 ρ2 g S2 R2 => done g S2 R2) hD
    · cases h2
end
end IL

/-! repr of data in which dicts stand (their keys whole numbers or texts) -/
namespace IL
open PySem PySem.Spec PyProof.Rows L2
/-- a key as data -/
def kD : Key → PyData
  | .inl i => .int i
  | .inr x => .str x
/-- data with dicts, so deep at most -/
def De (K : PySem.W.Frag) (H : Hp) : Nat → V → PyData → Prop
  | 0, _, _ => False
  | n + 1, v, d => Dp K H v d ∨
      (∃ a xs ds, v = .ref a ∧ d = .list ds ∧ SqL K H a xs ∧ Paired (De K H n) xs ds) ∨
      (∃ a xs ds, v = .ref a ∧ d = .tuple ds ∧ SqT K H a xs ∧ Paired (De K H n) xs ds) ∨
      (∃ a kvs ds, v = .ref a ∧ d = .dict ds ∧ Rd H a (.dK kvs) ∧ Paired (fun p q => q.1 = kD p.1 ∧ De K H n p.2 q.2) kvs ds)
section
variable {prog : Program} {w : World} {h : Heap}
/-- read so, and shown so -/
def RK (prog : Program) (w : World) (h : Heap) (u : Value) (d : PyData) : Prop :=
  ((∃ as, Reads h u d as) ∧ ∃ bs, ReadAtMost h d.depth bs ∧ ReprK prog w bs h d.depth u d.shown) ∧ ∀ a, u = .ref a → ∃ T f, ShowsBy prog w h a d T f
def RKs (prog : Program) (w : World) (h : Heap) (us : List Value) (ds : List PyData) : Prop :=
  (∃ as, ReadsAll h us ds as) ∧ ∃ bs, ReadAtMost h (PyData.depthAll ds) bs ∧ ReprAllK prog w bs h (PyData.depthAll ds) us (PyData.shownAll ds)
/-- may be shown, in less than a line -/
def ShOk (d : PyData) : Prop := d.showable = true ∧ d.shown.length ≤ sizeLine
theorem RKs.nil : RKs prog w h [] [] := ⟨⟨_, .nil⟩, [], (fun _ z => nomatch z), .nil⟩
theorem RKs.cons {u : Value} {d : PyData} {us : List Value} {ds : List PyData} (a : RK prog w h u d) (b : RKs prog w h us ds) : RKs prog w h (u :: us) (d :: ds) := by
  obtain ⟨⟨⟨as, ra⟩, x, hx, kx⟩, _⟩ := a
  obtain ⟨⟨cs, rc⟩, y, hy, ky⟩ := b
  refine ⟨⟨_, .cons ra rc⟩, x ++ y, ?_, ?_⟩
  · simp only [PyData.depthAll]
    exact (hx.mono (Nat.le_max_left ..)).append (hy.mono (Nat.le_max_right ..))
  · simp only [PyData.depthAll, PyData.shownAll]
    exact .cons ((kx.more fun z hz => List.mem_append_left _ hz).level_le (Nat.le_max_left ..)) (ky.more_le (fun z hz => List.mem_append_right _ hz) (Nat.le_max_right ..))
theorem rk_plain {u : Value} {d : PyData} {as : List Addr} (r : Reads h u d as) (hd : d.hasDict = false) (ok : ShOk d) : RK prog w h u d :=
  ⟨⟨⟨as, r⟩, ReprK.of_reads r ok.1 (PyData.noDict_hsm hd) ok.2⟩, fun a e => by subst e; exact showsBy_of_reads r ok.1 (PyData.noDict_hsm hd) ok.2⟩
theorem rk_list {a : Addr} {o : Obj} {n : Nat} {its : List Value} {ds : List PyData} (ho : h.get? a = some o) (hc : o.cls = .type "list") (hd : o.data = .seq its.toArray n) (z : RKs prog w h its ds) (ok : ShOk (.list ds)) : RK prog w h (.ref a) (.list ds) := by
  obtain ⟨⟨as, ra⟩, bs, hb, hk⟩ := z
  have r : Reads h (.ref a) (.list ds) (a :: as) := .list ho hc hd ra
  have hna := not_mem_of_deeper r (n := PyData.depthAll ds) (by simp only [PyData.depth]; omega) hb
  have hz : (listText (PyData.shownAll ds)).length ≤ sizeLine := by simpa only [PyData.shown] using ok.2
  refine ⟨⟨⟨_, r⟩, a :: bs, .cons r (by simp only [PyData.depth]; omega) hb, ?_⟩, fun a' e => ?_⟩
  · simp only [PyData.depth, PyData.shown]
    cases its with
    | nil =>
      cases ra
      simp only [PyData.shownAll, listText_nil]
      exact .listEmpty ho hc hd
    | cons u us => exact .list ho hc hd hna (by simpa using hk.length_eq) fun i y e => hk.item i y (by simpa using e)
  · cases e
    refine ⟨_, _, F.slot_list_repr.toG, F.slot_list_str, F.slot_list_format, fun s k => ⟨o, k _ _ ho, hc⟩, fun A E s Q g u k q => ?_⟩
    simp only [PyData.shown] at q
    simp only [PyData.depth] at u
    cases its with
    | nil =>
      cases ra
      simp only [PyData.shownAll, listText_nil] at q
      exact call_list_repr_empty ⟨o, k _ _ ho, hc⟩ (k _ _ ho) hd (q s.heap _ _ fun _ _ e => e)
    | cons u1 us => exact call_list_reprK ho hc hd hna (by simpa using hk.length_eq) (fun i y e => hk.item i y (by simpa using e)) g (fun b _ => Clear.nil b) u k q hz
theorem rk_tup {a : Addr} {o : Obj} {n : Nat} {its : List Value} {ds : List PyData} (ho : h.get? a = some o) (hc : o.cls = .type "tuple") (hd : o.data = .seq its.toArray n) (z : RKs prog w h its ds) (ok : ShOk (.tuple ds)) : RK prog w h (.ref a) (.tuple ds) := by
  obtain ⟨⟨as, ra⟩, bs, hb, hk⟩ := z
  have r : Reads h (.ref a) (.tuple ds) as := .tuple ho hc hd ra
  have hna := not_mem_of_deeper r (n := PyData.depthAll ds) (by simp only [PyData.depth]; omega) hb
  have hz : (tupleText (PyData.shownAll ds)).length ≤ sizeLine := by simpa only [PyData.shown] using ok.2
  refine ⟨⟨⟨_, r⟩, a :: bs, .cons r (by simp only [PyData.depth]; omega) hb, ?_⟩, fun a' e => ?_⟩
  · simp only [PyData.depth, PyData.shown]
    exact .tuple ho hc hd hna hk
  · cases e
    refine ⟨_, _, F.slot_tuple_repr, F.slot_tuple_str, F.slot_tuple_format, fun s k => ⟨o, k _ _ ho, hc⟩, fun A E s Q g u k q => ?_⟩
    simp only [PyData.shown] at q
    simp only [PyData.depth] at u
    exact call_tuple_reprK ho hc hd hna hk g (fun b _ => Clear.nil b) u k q hz
theorem rk_dict {a : Addr} {o : Obj} {n : Nat} {es : Array DictEntry} {ds : List (PyData × PyData)} (hs : (a == sysModules) = false) (ho : h.get? a = some o) (hc : o.cls = .type "dict") (hd : o.data = .dict es n)
    (z1 : RKs prog w h (es.toList.map (·.key)) (ds.map (·.1))) (z2 : RKs prog w h (es.toList.map (·.val)) (ds.map (·.2))) (ok : ShOk (.dict ds)) : RK prog w h (.ref a) (.dict ds) := by
  obtain ⟨⟨as, ra⟩, x, hx, kx⟩ := z1
  obtain ⟨⟨cs, rc⟩, y, hy, ky⟩ := z2
  have r : Reads h (.ref a) (.dict ds) (a :: as ++ cs) := .dict ho hc hd ra rc
  have hb : ReadAtMost h (PyData.depthKv ds) (x ++ y) := (hx.mono (PyData.depthAll_keys_le ds)).append (hy.mono (PyData.depthAll_vals_le ds))
  have hna := not_mem_of_deeper r (n := PyData.depthKv ds) (by simp only [PyData.depth]; omega) hb
  have hz : (dictText (PyData.shownKv ds)).length ≤ sizeLine := by simpa only [PyData.shown] using ok.2
  have ent := ReprEntriesK.of_two _ _ _ (kx.more_le (fun z hz => List.mem_append_left _ hz) (PyData.depthAll_keys_le ds)) (ky.more_le (fun z hz => List.mem_append_right _ hz) (PyData.depthAll_vals_le ds))
  rw [← PyData.shownKv_eq] at ent
  refine ⟨⟨⟨_, r⟩, a :: (x ++ y), .cons r (by simp only [PyData.depth]; omega) hb, ?_⟩, fun a' e => ?_⟩
  · simp only [PyData.depth, PyData.shown]
    exact .dict ho hc hd hs hna ent
  · cases e
    refine ⟨_, _, F.slot_dict_repr, F.slot_dict_str, F.slot_dict_format, fun s k => ⟨o, k _ _ ho, hc⟩, fun A E s Q g u k q => ?_⟩
    simp only [PyData.shown] at q
    simp only [PyData.depth] at u
    exact call_dict_reprK ho hc hd hs hna ent g (fun b _ => Clear.nil b) u k q hz
theorem mem_shown : ∀ {ds : List PyData} {d : PyData}, d ∈ ds → d.shown ∈ PyData.shownAll ds
  | x :: xs, d, hm => by
    rcases List.mem_cons.mp hm with e | hm
    · subst e; exact List.mem_cons_self ..
    · exact List.mem_cons_of_mem _ (mem_shown hm)
theorem mem_showable : ∀ {ds : List PyData} {d : PyData}, PyData.showableAll ds = true → d ∈ ds → d.showable = true
  | x :: xs, d, ha, hm => by
    simp only [PyData.showableAll, Bool.and_eq_true] at ha
    rcases List.mem_cons.mp hm with e | hm
    · subst e; exact ha.1
    · exact mem_showable ha.2 hm
theorem ShOk.list {ds : List PyData} (a : ShOk (.list ds)) : ∀ d ∈ ds, ShOk d := fun d hd =>
  ⟨mem_showable (by simpa [PyData.showable] using a.1) hd, Nat.le_trans (listText_mem_le (mem_shown hd)) (by simpa only [PyData.shown] using a.2)⟩
theorem ShOk.tup {ds : List PyData} (a : ShOk (.tuple ds)) : ∀ d ∈ ds, ShOk d := fun d hd =>
  ⟨mem_showable (by simpa [PyData.showable] using a.1) hd, Nat.le_trans (tupleText_mem_le (mem_shown hd)) (by simpa only [PyData.shown] using a.2)⟩
theorem ShOk.dict {ds : List (PyData × PyData)} (a : ShOk (.dict ds)) : (∀ d ∈ ds.map (·.1), ShOk d) ∧ ∀ d ∈ ds.map (·.2), ShOk d := by
  obtain ⟨h1, h2⟩ := PyData.showableKv_split ds (by simpa [PyData.showable] using a.1)
  have hz : (dictText (PyData.shownKv ds)).length ≤ sizeLine := by simpa only [PyData.shown] using a.2
  refine ⟨fun d hd => ⟨mem_showable h1 hd, ?_⟩, fun d hd => ⟨mem_showable h2 hd, ?_⟩⟩
  · obtain ⟨p, hp, hl⟩ := PyData.shownKv_key_le ds _ (mem_shown hd)
    exact Nat.le_trans hl (Nat.le_trans (dictText_mem_le hp) hz)
  · obtain ⟨p, hp, hl⟩ := PyData.shownKv_val_le ds _ (mem_shown hd)
    exact Nat.le_trans hl (Nat.le_trans (dictText_mem_le hp) hz)
theorem rk_key {k : Key} {u : Value} (e : keyIs k u = true) (ok : ShOk (kD k)) : RK prog w h u (kD k) := by
  rcases keyIs_shape e with ⟨i, t, rfl, rfl⟩ | ⟨x, t, rfl, rfl⟩
  · exact rk_plain (.int i t) rfl ok
  · exact rk_plain (.str x t) rfl ok
end
section
variable {X : Cx} {pins : List (Addr × Obj)} {σ : L2.St} {H : Hp} {s : Shared}
mutual
theorem Dp.nodict {K : PySem.W.Frag} : ∀ (d : PyData) (v : V), Dp K H v d → d.hasDict = false
  | .none, _, _ => rfl
  | .bool _, _, _ => rfl
  | .int _, _, _ => rfl
  | .str _, _, _ => rfl
  | .list ds, _, .lst _ ha => by simpa [PyData.hasDict] using Dp.nodictAll ds _ ha
  | .tuple ds, _, .tup _ ha => by simpa [PyData.hasDict] using Dp.nodictAll ds _ ha
  | .dict _, _, h => by cases h
theorem Dp.nodictAll {K : PySem.W.Frag} : ∀ (ds : List PyData) (vs : List V), DpAll K H vs ds → PyData.hasDictAll ds = false
  | [], _, _ => rfl
  | d :: ds, _, .cons a b => by simp [PyData.hasDictAll, Dp.nodict d _ a, Dp.nodictAll ds _ b]
end
theorem rk_of (I : L2.Inv X pins σ H s) : ∀ (n : Nat) (v : V) (u : Value) (d : PyData), De X.K H n v d → RelV v u → ShOk d → RK X.prog X.w s.heap u d
  | 0, _, _, _, z, _, _ => z.elim
  | n + 1, v, u, d, z, r, ok => by
    have all : ∀ (xs : List V) (us : List Value) (ds : List PyData), Paired (De X.K H n) xs ds → Vals xs us → (∀ d ∈ ds, ShOk d) → RKs X.prog X.w s.heap us ds := fun xs us ds p => by
      induction p generalizing us with
      | nil => intro r _; cases r; exact .nil
      | cons a _ ih =>
        intro r ok
        cases r with
        | cons r1 r2 => exact .cons (rk_of I n _ _ _ a r1 (ok _ (List.mem_cons_self ..))) (ih _ r2 fun d hd => ok d (List.mem_cons_of_mem _ hd))
    rcases z with z | ⟨a, xs, ds, rfl, rfl, hs, hp⟩ | ⟨a, xs, ds, rfl, rfl, hs, hp⟩ | ⟨a, kvs, ds, rfl, rfl, hs, hp⟩
    · obtain ⟨as, q⟩ := Dp.reads I d v u z r
      exact rk_plain q (Dp.nodict d v z) ok
    · obtain rfl : u = Value.ref a := r
      obtain ⟨its, rv, ⟨o, m, ho, hc, _, hd⟩, _⟩ := I.list hs
      exact rk_list ho hc hd (all _ _ _ hp rv ok.list) ok
    · obtain rfl : u = Value.ref a := r
      obtain ⟨its, rv, ⟨o, ho, hc, m, hd⟩, _⟩ := I.tuple hs
      exact rk_tup ho hc hd (all _ _ _ hp rv ok.tup) ok
    · obtain rfl : u = Value.ref a := r
      obtain ⟨_, hsm, vs, kv, o, es, ep, ho, hx, hd, _, pr, _⟩ := objd I hs
      obtain ⟨ok1, ok2⟩ := ok.dict
      have pairs : ∀ (kvs : List (Key × V)) (vs : List (Key × Value)) (es : List DictEntry) (ds : List (PyData × PyData)), KV kvs vs → Pairs (mixKind X.prog X.w) es vs → Paired (fun p q => q.1 = kD p.1 ∧ De X.K H n p.2 q.2) kvs ds → (∀ d ∈ ds.map (·.1), ShOk d) → (∀ d ∈ ds.map (·.2), ShOk d) →
          RKs X.prog X.w s.heap (es.map (·.key)) (ds.map (·.1)) ∧ RKs X.prog X.w s.heap (es.map (·.val)) (ds.map (·.2)) := fun kvs vs es ds kv pr hp => by
        induction hp generalizing vs es with
        | nil =>
          intro _ _
          cases kv
          cases pr
          exact ⟨.nil, .nil⟩
        | @cons p q ps qs a _ ih =>
          intro o1 o2
          obtain ⟨k, d⟩ := q
          obtain ⟨e0, a⟩ := a
          simp only at e0 a
          subst e0
          cases kv with
          | cons k1 k2 =>
            cases pr with
            | cons p1 p2 p3 =>
              obtain ⟨j1, j2⟩ := ih _ _ k2 p3 (fun d hd => o1 d (List.mem_cons_of_mem _ hd)) (fun d hd => o2 d (List.mem_cons_of_mem _ hd))
              obtain ⟨g1, g2⟩ := k1
              rw [← g1] at p1
              rw [← p2] at g2
              exact ⟨.cons (rk_key p1 (o1 _ (List.mem_cons_self ..))) j1, .cons (rk_of I n _ _ _ a g2 (o2 _ (List.mem_cons_self ..))) j2⟩
      obtain ⟨z1, z2⟩ := pairs kvs vs es.toList ds kv pr hp ok1 ok2
      exact rk_dict hsm ho hx.1 hd z1 z2 ok
end
end IL

/-! the rule of repr for such data -/
namespace IL
open PySem PySem.Spec PyProof.Rows L2
section
variable {X : Cx}
def okE (d : PyData) : Bool := d.showable && decide (d.depth ≤ 60) && decide (d.shown.length ≤ 16000000)
def rReprE (K : PySem.W.Frag) : List V → Hp → VK → Prop := fun xs H Q => ∃ (p : Addr) (d : PyData), xs = [.ref p] ∧ De K H 70 (.ref p) d ∧ okE d = true ∧ Q (.str d.shown) H
theorem cr_reprE (hG : X.A.guards = some []) (hu : X.A.units + 64 < cLine) : CallR X (.builtin "repr") (rReprE X.K) := by
  intro pins s σ H xs us Q I r h
  obtain ⟨p, d, rfl, hd, hk, q⟩ := h
  unfold okE at hk
  simp only [Bool.and_eq_true, decide_eq_true_eq] at hk
  obtain ⟨⟨k1, k3⟩, k4⟩ := hk
  cases r with
  | @cons _ u0 _ ur ra rb =>
    cases rb
    obtain rfl : u0 = Value.ref p := ra
    obtain ⟨T, f, sb⟩ := (rk_of I 70 (.ref p) (.ref p) d hd rfl ⟨k1, Nat.le_trans k4 (by decide)⟩).2 p rfl
    refine PySem.call_repr_slot (by omega) (sb.typeIs s fun _ _ e => e) sb.slotRepr (sb.call X.A.in1 _ s _ hG (by show X.A.units + 1 + d.depth < cLine; omega) (fun _ _ e => e) fun h' u tk hk => ⟨_, _, rfl, ?_⟩)
    exact ⟨.str d.shown, H, I.un (h' := h') (t' := tk) (Un.kept hk) (I.hok.kept hk), ⟨_, rfl⟩, q⟩
def zipK : List Key → List PyData → List (PyData × PyData)
  | k :: ks, d :: ds => (kD k, d) :: zipK ks ds
  | _, _ => []
/-- data with dicts -/
def toE (st : Sto) : Nat → PV → Option PyData
  | 0, _ => none
  | f + 1, x => match toD st (f + 1) x with
    | some d => some d
    | none => match x with
      | .tup xs => (mapO (toE st f) xs).map .tuple
      | .frz xs => (mapO (toE st f) xs).map .list
      | .ref n => match st[n]? with
        | some (.lst xs) => (mapO (toE st f) xs).map .list
        | some (.dK kvs) => (mapO (toE st f) (kvs.map (·.2))).map fun ds => .dict (zipK (kvs.map (·.1)) ds)
        | _ => none
      | .fdk ks xs => if ks.length = xs.length then (mapO (toE st f) xs).map fun ds => .dict (zipK ks ds) else none
      | _ => none
theorem mapO_de {K : PySem.W.Frag} {H : Hp} {ρ : Rho} {n : Nat} {f : PV → Option PyData} (hf : ∀ x v d, Rep K H ρ x v → f x = some d → De K H n v d) : ∀ {xs : List PV} {vs : List V} {ds : List PyData}, Reps K H ρ xs vs → mapO f xs = some ds → Paired (De K H n) vs ds
  | [], vs, ds, R, h => by
    unfold Reps at R
    subst R
    cases h
    exact .nil
  | x :: xs, vs, ds, R, h => by
    unfold Reps at R
    obtain ⟨v, r, rfl, r1, r2⟩ := R
    unfold mapO at h
    split at h
    · rename_i e1 e2
      cases h
      exact .cons (hf _ _ _ r1 e1) (mapO_de hf r2 e2)
    · cases h
theorem mapK_de {K : PySem.W.Frag} {H : Hp} {ρ : Rho} {n : Nat} {f : PV → Option PyData} (hf : ∀ x v d, Rep K H ρ x v → f x = some d → De K H n v d) : ∀ {xs : List (Key × PV)} {vs : List (Key × V)} {ds : List PyData}, RepK K H ρ xs vs → mapO f (xs.map (·.2)) = some ds → Paired (fun p q => q.1 = kD p.1 ∧ De K H n p.2 q.2) vs (zipK (xs.map (·.1)) ds)
  | [], vs, ds, R, h => by
    subst R
    cases h
    exact .nil
  | x :: xs, vs, ds, R, h => by
    obtain ⟨v, r, rfl, r1, r2⟩ := R
    rw [List.map_cons] at h
    unfold mapO at h
    split at h
    · rename_i e1 e2
      cases h
      exact .cons ⟨rfl, hf _ _ _ r1 e1⟩ (mapK_de hf r2 e2)
    · cases h
theorem toE_de {K : PySem.W.Frag} {H : Hp} {ρ : Rho} {st : Sto} (S : RepS K H ρ st) : ∀ (f : Nat) (x : PV) (v : V) (d : PyData), Rep K H ρ x v → toE st f x = some d → De K H f v d
  | 0, _, _, _, _, h => by cases h
  | f + 1, x, v, d, R, h => by
    unfold toE at h
    split at h
    · rename_i d' e
      cases h
      exact .inl (toD_dp S _ _ _ _ R e)
    · split at h
      · rename_i xs _
        unfold Rep at R
        obtain ⟨a, vs, rfl, t, r⟩ := R
        obtain ⟨ds, e, rfl⟩ := map_some h
        exact .inr (.inr (.inl ⟨a, vs, ds, rfl, rfl, t, mapO_de (toE_de S f) r e⟩))
      · rename_i xs _
        unfold Rep at R
        obtain ⟨a, vs, rfl, t, r⟩ := R
        obtain ⟨ds, e, rfl⟩ := map_some h
        exact .inr (.inl ⟨a, vs, ds, rfl, rfl, t.sq, mapO_de (toE_de S f) r e⟩)
      · split at h
        · rename_i xs e1
          obtain ⟨a, vs1, rfl, i1, ndd, h1, r1⟩ := S.lst R e1
          obtain ⟨ds, e, rfl⟩ := map_some h
          exact .inr (.inl ⟨a, vs1, ds, rfl, rfl, .of h1, mapO_de (toE_de S f) r1 e⟩)
        · rename_i kvs e1
          obtain ⟨a, vs1, rfl, _, _, h1, r1⟩ := S.dct R e1
          obtain ⟨ds, e, rfl⟩ := map_some h
          exact .inr (.inr (.inr ⟨a, vs1, _, rfl, rfl, .of h1, mapK_de (toE_de S f) r1 e⟩))
        · cases h
      · rename_i ks xs _
        split at h
        · rename_i hl
          unfold Rep at R
          obtain ⟨a, vs, rfl, ⟨ws, h1, _, h2, h3⟩, h4⟩ := R
          subst h3
          obtain ⟨ds, e, rfl⟩ := map_some h
          have := mapK_de (toE_de S f) (repK_zip hl h2 h4) (ds := ds) (by rw [List.map_snd_zip (by omega)]; exact e)
          rw [List.map_fst_zip (by omega)] at this
          exact .inr (.inr (.inr ⟨a, ws, _, rfl, rfl, h1, this⟩))
        · cases h
      · cases h
/-- repr: of data with dicts, too -/
def fReprE : F1 := fun x st => match x with
  | .frz xs => match toE st 70 (.frz xs) with
    | some d => if okE d then some (.str d.shown, st) else none
    | none => none
  | .tup xs => match toE st 70 (.tup xs) with
    | some d => if okE d then some (.str d.shown, st) else none
    | none => none
  | .fdk ks xs => match toE st 70 (.fdk ks xs) with
    | some d => if okE d then some (.str d.shown, st) else none
    | none => none
  | x => fReprA x st
def rReprF (K : PySem.W.Frag) : List V → Hp → VK → Prop := fun xs H Q => rReprA K xs H Q ∨ rReprE K xs H Q
theorem cr_reprF (hG : X.A.guards = some []) (hu : X.A.units + 64 < cLine) : CallR X (.builtin "repr") (rReprF X.K) := CallR.or (cr_reprA hG hu) (cr_reprE hG hu)
theorem f_reprE {K : PySem.W.Frag} : CallI K (rReprF K) (a1 fReprE) := call1 fun H ρ st x vx z st' Q S R h q => by
  have rest : fReprA x st = some (z, st') → rReprF K [vx] H Q := fun h => by
    have h2 : a1 fReprA [x] st = some (z, st') := h
    exact .inl (f_reprA H ρ st [x] [vx] z st' Q S (by unfold Reps; exact ⟨vx, [], rfl, R, by unfold Reps; rfl⟩) h2 q)
  have main : ∀ (p : Addr), vx = .ref p → (match toE st 70 x with
    | some d => if okE d then some (PV.str d.shown, st) else none
    | none => none) = some (z, st') → rReprF K [vx] H Q := fun p hp h => by
    split at h
    · rename_i d e
      split at h
      · rename_i hk
        cases h
        subst hp
        exact .inr ⟨p, d, rfl, toE_de S _ _ _ _ R e, hk, q _ H ρ Grow.refl S (by unfold Rep; rfl)⟩
      · cases h
    · cases h
  cases x with
  | tup xs =>
    have R0 := R
    unfold Rep at R0
    obtain ⟨p, vs, hp, _⟩ := R0
    exact main p hp h
  | frz xs =>
    have R0 := R
    unfold Rep at R0
    obtain ⟨p, vs, hp, _⟩ := R0
    exact main p hp h
  | fdk ks xs =>
    have R0 := R
    unfold Rep at R0
    obtain ⟨p, vs, hp, _⟩ := R0
    exact main p hp h
  | _ => exact rest h
end
end IL

namespace J20
open PySem PySem.Spec PyProof.Rows L2 IL CwR HotX L2H
/-! ## the program's defs as plain functions -/
def top (i : Nat) : Stmt := PySem.Challenge.pw_flowreprise_k20_types_of_expressions.main.body.getD i (.Pass ⟨0, 0, 0, 0⟩)
abbrev s_parts_of : Stmt := top 3
theorem sc_parts_of : FnScope ["tree", "word"] ["tree"] (C8.fnScope s_parts_of) := ⟨rfl, rfl, rfl, by decide +kernel, rfl, by decide +kernel, by decide +kernel⟩
abbrev s__awaited_parts : Stmt := top 4
theorem sc__awaited_parts : FnScope ["tree"] ["tree"] (C8.fnScope s__awaited_parts) := ⟨rfl, rfl, rfl, by decide +kernel, rfl, by decide +kernel, by decide +kernel⟩
abbrev s_signatures : Stmt := top 6
theorem sc_signatures : FnScope ["program", "function", "_", "kind"] ["program"] (C8.fnScope s_signatures) := ⟨rfl, rfl, rfl, by decide +kernel, rfl, by decide +kernel, by decide +kernel⟩
abbrev s_is_list_kind : Stmt := top 11
theorem sc_is_list_kind : FnScope ["kind"] ["kind"] (C8.fnScope s_is_list_kind) := ⟨rfl, rfl, rfl, by decide +kernel, rfl, by decide +kernel, by decide +kernel⟩
abbrev s_made_by_sign : Stmt := top 12
theorem sc_made_by_sign : FnScope ["sign", "one", "other"] ["sign", "one", "other"] (C8.fnScope s_made_by_sign) := ⟨rfl, rfl, rfl, by decide +kernel, rfl, by decide +kernel, by decide +kernel⟩
abbrev s_made_by_word : Stmt := top 13
theorem sc_made_by_word : FnScope ["word", "kinds", "one"] ["word", "kinds"] (C8.fnScope s_made_by_word) := ⟨rfl, rfl, rfl, by decide +kernel, rfl, by decide +kernel, by decide +kernel⟩
abbrev s_called : Stmt := top 14
theorem sc_called : FnScope ["name", "kinds", "signatures"] ["name", "kinds", "signatures"] (C8.fnScope s_called) := ⟨rfl, rfl, rfl, by decide +kernel, rfl, by decide +kernel, by decide +kernel⟩
abbrev s_listed : Stmt := top 15
theorem sc_listed : FnScope ["kind", "kinds", "one"] ["kind", "kinds"] (C8.fnScope s_listed) := ⟨rfl, rfl, rfl, by decide +kernel, rfl, by decide +kernel, by decide +kernel⟩
abbrev s_type_of_expression : Stmt := top 18
theorem sc_type_of_expression : FnScope ["program", "names", "tree"] ["program", "names", "tree"] (C8.fnScope s_type_of_expression) := ⟨rfl, rfl, rfl, by decide +kernel, rfl, by decide +kernel, by decide +kernel⟩
abbrev s__kind_of : Stmt := top 19
theorem sc__kind_of : FnScope ["sorts", "names", "tree", "place", "kinds", "kind", "k", "part"] ["sorts", "names", "tree", "place"] (C8.fnScope s__kind_of) := ⟨rfl, rfl, rfl, by decide +kernel, rfl, by decide +kernel, by decide +kernel⟩
abbrev s__made_kind : Stmt := top 20
theorem sc__made_kind : FnScope ["sorts", "tree", "kinds", "word"] ["sorts", "tree", "kinds"] (C8.fnScope s__made_kind) := ⟨rfl, rfl, rfl, by decide +kernel, rfl, by decide +kernel, by decide +kernel⟩
abbrev s__kind_by_sign : Stmt := top 21
theorem sc__kind_by_sign : FnScope ["sign", "kinds"] ["sign", "kinds"] (C8.fnScope s__kind_by_sign) := ⟨rfl, rfl, rfl, by decide +kernel, rfl, by decide +kernel, by decide +kernel⟩
abbrev s__awaited_kind : Stmt := top 22
theorem sc__awaited_kind : FnScope ["sorts", "tree", "kinds"] ["sorts", "tree", "kinds"] (C8.fnScope s__awaited_kind) := ⟨rfl, rfl, rfl, by decide +kernel, rfl, by decide +kernel, by decide +kernel⟩
abbrev s__law_state : Stmt := top 24
theorem sc__law_state : FnScope ["script", "seed", "cell"] ["script"] (C8.fnScope s__law_state) := ⟨rfl, rfl, rfl, by decide +kernel, rfl, by decide +kernel, by decide +kernel⟩
abbrev s__law_draw : Stmt := top 25
theorem sc__law_draw : FnScope ["state", "many", "cells", "mixed", "value"] ["state", "many"] (C8.fnScope s__law_draw) := ⟨rfl, rfl, rfl, by decide +kernel, rfl, by decide +kernel, by decide +kernel⟩
abbrev s__law_pick : Stmt := top 26
theorem sc__law_pick : FnScope ["state", "row"] ["state", "row"] (C8.fnScope s__law_pick) := ⟨rfl, rfl, rfl, by decide +kernel, rfl, by decide +kernel, by decide +kernel⟩
abbrev s__law_parts : Stmt := top 27
theorem sc__law_parts : FnScope ["tree", "kind"] ["tree"] (C8.fnScope s__law_parts) := ⟨rfl, rfl, rfl, by decide +kernel, rfl, by decide +kernel, by decide +kernel⟩
abbrev s__law_is_list : Stmt := top 28
theorem sc__law_is_list : FnScope ["kind"] ["kind"] (C8.fnScope s__law_is_list) := ⟨rfl, rfl, rfl, by decide +kernel, rfl, by decide +kernel, by decide +kernel⟩
abbrev s__law_type_of : Stmt := top 29
theorem sc__law_type_of : FnScope ["heads", "names", "tree", "place", "kinds", "parts", "k", "kind", "found"] ["heads", "names", "tree", "place"] (C8.fnScope s__law_type_of) := ⟨rfl, rfl, rfl, by decide +kernel, rfl, by decide +kernel, by decide +kernel⟩
abbrev s__law_rule : Stmt := top 30
theorem sc__law_rule : FnScope ["heads", "names", "tree", "kinds", "word", "rows", "head", "kind"] ["heads", "names", "tree", "kinds"] (C8.fnScope s__law_rule) := ⟨rfl, rfl, rfl, by decide +kernel, rfl, by decide +kernel, by decide +kernel⟩
abbrev s__law_sign_rule : Stmt := top 31
theorem sc__law_sign_rule : FnScope ["sign", "kinds", "one", "other"] ["sign", "kinds"] (C8.fnScope s__law_sign_rule) := ⟨rfl, rfl, rfl, by decide +kernel, rfl, by decide +kernel, by decide +kernel⟩
abbrev s__law_typed : Stmt := top 32
theorem sc__law_typed : FnScope ["state", "names", "kind", "deep", "row", "pick", "many", "found", "inner", "name", "k"] ["state", "names", "kind", "deep"] (C8.fnScope s__law_typed) := ⟨rfl, rfl, rfl, by decide +kernel, rfl, by decide +kernel, by decide +kernel⟩
abbrev s__law_typed_int : Stmt := top 33
theorem sc__law_typed_int : FnScope ["state", "names", "deep", "pick", "sign", "args"] ["state", "names", "deep"] (C8.fnScope s__law_typed_int) := ⟨rfl, rfl, rfl, by decide +kernel, rfl, by decide +kernel, by decide +kernel⟩
abbrev s__law_typed_bool : Stmt := top 34
theorem sc__law_typed_bool : FnScope ["state", "names", "deep", "pick", "kind", "sign"] ["state", "names", "deep"] (C8.fnScope s__law_typed_bool) := ⟨rfl, rfl, rfl, by decide +kernel, rfl, by decide +kernel, by decide +kernel⟩
abbrev s__law_with : Stmt := top 35
theorem sc__law_with : FnScope ["tree", "parts", "kind"] ["tree", "parts"] (C8.fnScope s__law_with) := ⟨rfl, rfl, rfl, by decide +kernel, rfl, by decide +kernel, by decide +kernel⟩
abbrev s__law_turned : Stmt := top 36
theorem sc__law_turned : FnScope ["state", "names", "tree", "parts", "kind", "k"] ["state", "names", "tree"] (C8.fnScope s__law_turned) := ⟨rfl, rfl, rfl, by decide +kernel, rfl, by decide +kernel, by decide +kernel⟩
abbrev s_law : Stmt := top 37
theorem sc_law : FnScope ["script", "state", "names", "program", "heads", "k", "kind", "tree", "turn", "kept", "due", "told", "e"] ["script"] (C8.fnScope s_law) := ⟨rfl, rfl, rfl, by decide +kernel, rfl, by decide +kernel, by decide +kernel⟩
abbrev s_CheckError___init__ : Stmt := inClass (top 9) 0
theorem sc_CheckError___init__ : FnScope ["self", "place"] ["self", "place"] (C8.fnScope s_CheckError___init__) := ⟨rfl, rfl, rfl, by decide +kernel, rfl, by decide +kernel, by decide +kernel⟩
abbrev I_parts_of : Nat := 0
abbrev I__awaited_parts : Nat := 1
abbrev I_signatures : Nat := 2
abbrev I_is_list_kind : Nat := 3
abbrev I_made_by_sign : Nat := 4
abbrev I_made_by_word : Nat := 5
abbrev I_called : Nat := 6
abbrev I_listed : Nat := 7
abbrev I_type_of_expression : Nat := 8
abbrev I__kind_of : Nat := 9
abbrev I__made_kind : Nat := 10
abbrev I__kind_by_sign : Nat := 11
abbrev I__awaited_kind : Nat := 12
abbrev I__law_state : Nat := 13
abbrev I__law_draw : Nat := 14
abbrev I__law_pick : Nat := 15
abbrev I__law_parts : Nat := 16
abbrev I__law_is_list : Nat := 17
abbrev I__law_type_of : Nat := 18
abbrev I__law_rule : Nat := 19
abbrev I__law_sign_rule : Nat := 20
abbrev I__law_typed : Nat := 21
abbrev I__law_typed_int : Nat := 22
abbrev I__law_typed_bool : Nat := 23
abbrev I__law_with : Nat := 24
abbrev I__law_turned : Nat := 25
abbrev I_law : Nat := 26
abbrev N_law : List Str := ["script", "state", "names", "program", "heads", "k", "kind", "tree", "turn", "kept", "due", "told", "e"]
def allStrs : List Str := (["op", "item", "list", "call", "await", "act", "timer", "flow", "+", "-", "*", "/", "int", "&", "text", "<"] : List Str) ++ (["<=", "bool", "not", "neg", "size", "text of", "var", "CheckError", "place", "now", "random", "signal", "nothing", "fault", "type", "and"] : List Str) ++ (["or", "=", "!=", "s", "t", "pay", "", "a", "bc", "f", "g", "h", "name", "q", "e", "d"] : List Str) ++ (["c", "b", "fn", "x", "y"] : List Str)
def Sx (i : Nat) : Str := allStrs.getD i ""
abbrev S_op : Str := Sx 0
abbrev S_item : Str := Sx 1
abbrev S_list : Str := Sx 2
abbrev S_call : Str := Sx 3
abbrev S_await : Str := Sx 4
abbrev S_act : Str := Sx 5
abbrev S_timer : Str := Sx 6
abbrev S_flow : Str := Sx 7
abbrev S_x2b : Str := Sx 8
abbrev S_x2d : Str := Sx 9
abbrev S_x2a : Str := Sx 10
abbrev S_x2f : Str := Sx 11
abbrev S_int : Str := Sx 12
abbrev S_x26 : Str := Sx 13
abbrev S_text : Str := Sx 14
abbrev S_x3c : Str := Sx 15
abbrev S_x3cx3d : Str := Sx 16
abbrev S_bool : Str := Sx 17
abbrev S_not : Str := Sx 18
abbrev S_neg : Str := Sx 19
abbrev S_size : Str := Sx 20
abbrev S_textx20of : Str := Sx 21
abbrev S_var : Str := Sx 22
abbrev S_CheckError : Str := Sx 23
abbrev S_place : Str := Sx 24
abbrev S_now : Str := Sx 25
abbrev S_random : Str := Sx 26
abbrev S_signal : Str := Sx 27
abbrev S_nothing : Str := Sx 28
abbrev S_fault : Str := Sx 29
abbrev S_type : Str := Sx 30
abbrev S_and : Str := Sx 31
abbrev S_or : Str := Sx 32
abbrev S_x3d : Str := Sx 33
abbrev S_x21x3d : Str := Sx 34
abbrev S_s : Str := Sx 35
abbrev S_t : Str := Sx 36
abbrev S_pay : Str := Sx 37
abbrev S_ : Str := Sx 38
abbrev S_a : Str := Sx 39
abbrev S_bc : Str := Sx 40
abbrev S_f : Str := Sx 41
abbrev S_g : Str := Sx 42
abbrev S_h : Str := Sx 43
abbrev S_name : Str := Sx 44
abbrev S_q : Str := Sx 45
abbrev S_e : Str := Sx 46
abbrev S_d : Str := Sx 47
abbrev S_c : Str := Sx 48
abbrev S_b : Str := Sx 49
abbrev S_fn : Str := Sx 50
abbrev S_x : Str := Sx 51
abbrev S_y : Str := Sx 52
@[simp] theorem Sx_eq {i j : Nat} (hi : i < 53) (hj : j < 53) : (Sx i == Sx j) = decide (i = j) := (by decide +kernel : ∀ i : Fin 53, ∀ j : Fin 53, (Sx i == Sx j) = decide (i.val = j.val)) ⟨i, hi⟩ ⟨j, hj⟩
@[simp] theorem Sx_inj {i j : Nat} (hi : i < 53) (hj : j < 53) : (Sx i = Sx j) = (i = j) := propext ⟨fun e => by have h := Sx_eq hi hj; rw [e] at h; exact of_decide_eq_true (h.symm.trans (beq_self_eq_true _)), fun e => by rw [e]⟩
@[simp] theorem Sx_ok {i : Nat} (hi : i < 53) : PyData.strOk (Sx i) = true := (by decide +kernel : ∀ i : Fin 53, PyData.strOk (Sx i) = true) ⟨i, hi⟩
def lens : List Nat := [2, 4, 4, 4, 5, 3, 5, 4, 1, 1, 1, 1, 3, 1, 4, 1, 2, 4, 3, 3, 4, 7, 3, 10, 5, 3, 6, 6, 7, 5, 4, 3, 2, 1, 2, 1, 1, 3, 0, 1, 2, 1, 1, 1, 4, 1, 1, 1, 1, 1, 2, 1, 1]
@[simp] theorem Sx_len {i : Nat} (hi : i < 53) : (Sx i).length = lens.getD i 0 := (by decide +kernel : ∀ i : Fin 53, (Sx i).length = lens.getD i 0) ⟨i, hi⟩
@[simp] theorem eqP_S {st : Sto} {i j : Nat} (hi : i < 53) (hj : j < 53) : eqP st (.str (Sx i)) (.str (Sx j)) = some (decide (i = j)) := by rw [eqP_s, Sx_ok hi, Sx_ok hj, Sx_eq hi hj]; rfl
abbrev c_LITERALS : PV := (.tup [(.str S_int), (.str S_bool), (.str S_text), (.str S_nothing)])
abbrev c_OF_ONE_PART : PV := (.tup [(.str S_not), (.str S_neg), (.str S_size), (.str S_textx20of), (.str S_random)])
abbrev c_TRUTH_SIGNS : PV := (.tup [(.str S_and), (.str S_or)])
noncomputable def b_parts_of (F : Nat → FA) (G : Nat → FX) : IS := (iSeq (iAsg (gN 1) (iBin fSubB (iVar 0) (iC (.int 0)))) (iSeq (iIfS (iTestB (iBin fInE (iVar 1) (iC c_OF_ONE_PART))) (iRet (iNew (iLst (iCons (iBin fSubB (iVar 0) (iC (.int 1))) iNil)))) iSkip) (iSeq (iIfS (iTestB (iBin fEqB (iVar 1) (iC (.str S_op)))) (iRet (iNew (iLst (iCons (iBin fSubB (iVar 0) (iC (.int 2))) (iCons (iBin fSubB (iVar 0) (iC (.int 3))) iNil))))) iSkip) (iSeq (iIfS (iTestB (iBin fEqB (iVar 1) (iC (.str S_item)))) (iRet (iNew (iLst (iCons (iBin fSubB (iVar 0) (iC (.int 1))) (iCons (iBin fSubB (iVar 0) (iC (.int 2))) iNil))))) iSkip) (iSeq (iIfS (iTestB (iBin fInE (iVar 1) (iTup (iCons (iC (.str S_list)) (iCons (iC (.str S_call)) iNil))))) (iRet (iNew (iCall (a1 fList) (iCons (iBin fSubB (iVar 0) (iC (.int 2))) iNil)))) iSkip) (iSeq (iIfS (iTestB (iBin fEqB (iVar 1) (iC (.str S_await)))) (iRet (iCall (F I__awaited_parts) (iCons (iVar 0) iNil))) iSkip) (iRet (iNew (iLst iNil)))))))))
noncomputable def b__awaited_parts (F : Nat → FA) (G : Nat → FX) : IS := (iSeq (iIfS (iTestB (iBin fEqB (iBin fSubB (iVar 0) (iC (.int 1))) (iC (.str S_act)))) (iRet (iNew (iLst (iCons (iBin fSubB (iVar 0) (iC (.int 3))) iNil)))) iSkip) (iSeq (iIfS (iTestB (iBin fEqB (iBin fSubB (iVar 0) (iC (.int 1))) (iC (.str S_timer)))) (iRet (iNew (iLst (iCons (iBin fSubB (iVar 0) (iC (.int 2))) iNil)))) iSkip) (iSeq (iIfS (iTestB (iBin fEqB (iBin fSubB (iVar 0) (iC (.int 1))) (iC (.str S_flow)))) (iRet (iNew (iCall (a1 fList) (iCons (iBin fSubB (iVar 0) (iC (.int 3))) iNil)))) iSkip) (iRet (iNew (iLst iNil))))))
noncomputable def b_signatures (F : Nat → FA) (G : Nat → FX) : IS := (iRet (iNew (iDc (iWalk (iVar 0)) (gN 1) iYes (iBin fSubB (iVar 1) (iC (.int 1))) (iTup (iCons (iNew (iLc (iWalk (iBin fSubB (iVar 1) (iC (.int 2)))) (gT 2 (gCs (gN 2) (gCs (gN 3) gNs))) iYes (iVar 3) [2, 3])) (iCons (iBin fSubB (iVar 1) (iC (.int 3))) iNil))) [1])))
noncomputable def b_is_list_kind (F : Nat → FA) (G : Nat → FX) : IS := (iRet (iCall (a2 fIsi) (iCons (iVar 0) (iCons (iC (.ty "tuple")) iNil))))
noncomputable def b_made_by_sign (F : Nat → FA) (G : Nat → FX) : IS := (iSeq (iIfS (iTestB (iBin fInE (iVar 0) (iTup (iCons (iC (.str S_x2b)) (iCons (iC (.str S_x2d)) (iCons (iC (.str S_x2a)) (iCons (iC (.str S_x2f)) iNil))))))) (iRet (iIf (iTestB (iChain fEqB fEqB (iVar 1) (iVar 2) (iC (.str S_int)))) (iC (.str S_int)) (iC .non))) iSkip) (iSeq (iIfS (iTestB (iBin fNeB (iVar 1) (iVar 2))) (iRet (iC .non)) iSkip) (iSeq (iIfS (iTestB (iBin fEqB (iVar 0) (iC (.str S_x26)))) (iRet (iIf (iOr (iTestB (iBin fEqB (iVar 1) (iC (.str S_text)))) (iTest (iCall (F I_is_list_kind) (iCons (iVar 1) iNil)))) (iVar 1) (iC .non))) iSkip) (iSeq (iIfS (iTestB (iBin fInE (iVar 0) (iTup (iCons (iC (.str S_x3c)) (iCons (iC (.str S_x3cx3d)) iNil))))) (iRet (iIf (iTestB (iBin fInE (iVar 1) (iTup (iCons (iC (.str S_int)) (iCons (iC (.str S_text)) iNil))))) (iC (.str S_bool)) (iC .non))) iSkip) (iRet (iC (.str S_bool)))))))
noncomputable def b_made_by_word (F : Nat → FA) (G : Nat → FX) : IS := (iSeq (iAsg (gN 2) (iBin fSubB (iVar 1) (iC (.int 0)))) (iSeq (iIfS (iTestB (iBin fEqB (iVar 0) (iC (.str S_not)))) (iRet (iIf (iTestB (iBin fEqB (iVar 2) (iC (.str S_bool)))) (iC (.str S_bool)) (iC .non))) iSkip) (iSeq (iIfS (iTestB (iBin fEqB (iVar 0) (iC (.str S_neg)))) (iRet (iIf (iTestB (iBin fEqB (iVar 2) (iC (.str S_int)))) (iC (.str S_int)) (iC .non))) iSkip) (iSeq (iIfS (iTestB (iBin fEqB (iVar 0) (iC (.str S_size)))) (iRet (iIf (iOr (iTestB (iBin fEqB (iVar 2) (iC (.str S_text)))) (iTest (iCall (F I_is_list_kind) (iCons (iVar 2) iNil)))) (iC (.str S_int)) (iC .non))) iSkip) (iSeq (iIfS (iTestB (iBin fEqB (iVar 0) (iC (.str S_textx20of)))) (iRet (iIf (iTestB (iBin fInE (iVar 2) (iTup (iCons (iC (.str S_int)) (iCons (iC (.str S_bool)) iNil))))) (iC (.str S_text)) (iC .non))) iSkip) (iRet (iIf (iAnd (iTest (iCall (F I_is_list_kind) (iCons (iVar 2) iNil))) (iTestB (iBin fEqB (iBin fSubB (iVar 1) (iC (.int 1))) (iC (.str S_int))))) (iBin fSubB (iVar 2) (iC (.int 1))) (iC .non))))))))
noncomputable def b_called (F : Nat → FA) (G : Nat → FX) : IS := (iSeq (iIfS (iOr (iTestB (iBin fNotInB (iVar 0) (iVar 2))) (iTestB (iBin fNeB (iBin fSubB (iBin fSubB (iVar 2) (iVar 0)) (iC (.int 0))) (iNew (iCall (a1 fList) (iCons (iVar 1) iNil)))))) (iRet (iC .non)) iSkip) (iRet (iBin fSubB (iBin fSubB (iVar 2) (iVar 0)) (iC (.int 1)))))
noncomputable def b_listed (F : Nat → FA) (G : Nat → FX) : IS := (iRet (iIf (iTest (iCall (a1 fAll) (iCons (iNew (iLc (iWalk (iVar 1)) (gN 2) iYes (iBin fEqB (iVar 2) (iVar 0)) [2])) iNil))) (iTup (iCons (iC (.str S_list)) (iCons (iVar 0) iNil))) (iC .non)))
noncomputable def b_type_of_expression (F : Nat → FA) (G : Nat → FX) : IS := (iRetX (iCallX (G I__kind_of) (iCons (iCall (F I_signatures) (iCons (iVar 0) iNil)) (iCons (iVar 1) (iCons (iVar 2) (iCons (iTup (iCons (iC (.int 0)) iNil)) iNil))))))
noncomputable def b__kind_of (F : Nat → FA) (G : Nat → FX) : IS := (iSeq (iAsgX (gN 4) (iNewX (iLcX (iEnumL (iCons (iCall (F I_parts_of) (iCons (iVar 2) iNil)) iNil)) (gT 2 (gCs (gN 6) (gCs (gN 7) gNs))) iYes (iCallX (G I__kind_of) (iCons (iVar 0) (iCons (iVar 1) (iCons (iVar 7) (iCons (iBin fAdd (iVar 3) (iTup (iCons (iVar 6) iNil))) iNil))))) [6, 7]))) (iSeq (iAsg (gN 5) (iIf (iTestB (iBin fEqB (iBin fSubB (iVar 2) (iC (.int 0))) (iC (.str S_var)))) (iGet1 (iVar 1) (iBin fSubB (iVar 2) (iC (.int 1)))) (iCall (F I__made_kind) (iCons (iVar 0) (iCons (iVar 2) (iCons (iVar 4) iNil)))))) (iSeq (iIfS (iTestB (iBin fIs (iVar 5) (iC .non))) (iRaise S_CheckError S_place okPT (iVar 3)) iSkip) (iRet (iVar 5)))))
noncomputable def b__made_kind (F : Nat → FA) (G : Nat → FX) : IS := (iSeq (iAsg (gN 3) (iBin fSubB (iVar 1) (iC (.int 0)))) (iSeq (iIfS (iTestB (iBin fInE (iVar 3) (iC c_LITERALS))) (iRet (iVar 3)) iSkip) (iSeq (iIfS (iTestB (iBin fEqB (iVar 3) (iC (.str S_op)))) (iRet (iCall (F I__kind_by_sign) (iCons (iBin fSubB (iVar 1) (iC (.int 1))) (iCons (iVar 2) iNil)))) iSkip) (iSeq (iIfS (iTestB (iBin fEqB (iVar 3) (iC (.str S_list)))) (iRet (iCall (F I_listed) (iCons (iBin fSubB (iVar 1) (iC (.int 1))) (iCons (iVar 2) iNil)))) iSkip) (iSeq (iIfS (iTestB (iBin fEqB (iVar 3) (iC (.str S_call)))) (iRet (iCall (F I_called) (iCons (iBin fSubB (iVar 1) (iC (.int 1))) (iCons (iVar 2) (iCons (iVar 0) iNil))))) iSkip) (iSeq (iIfS (iTestB (iBin fEqB (iVar 3) (iC (.str S_now)))) (iRet (iC (.str S_int))) iSkip) (iSeq (iIfS (iTestB (iBin fEqB (iVar 3) (iC (.str S_random)))) (iRet (iIf (iTestB (iBin fEqB (iBin fSubB (iVar 2) (iC (.int 0))) (iC (.str S_int)))) (iC (.str S_int)) (iC .non))) iSkip) (iSeq (iIfS (iTestB (iBin fEqB (iVar 3) (iC (.str S_await)))) (iRet (iCall (F I__awaited_kind) (iCons (iVar 0) (iCons (iVar 1) (iCons (iVar 2) iNil))))) iSkip) (iRet (iCall (F I_made_by_word) (iCons (iVar 3) (iCons (iVar 2) iNil))))))))))))
noncomputable def b__kind_by_sign (F : Nat → FA) (G : Nat → FX) : IS := (iSeq (iIfS (iTestB (iBin fInE (iVar 0) (iC c_TRUTH_SIGNS))) (iRet (iIf (iTestB (iBin fEqB (iVar 1) (iNew (iLst (iCons (iC (.str S_bool)) (iCons (iC (.str S_bool)) iNil)))))) (iC (.str S_bool)) (iC .non))) iSkip) (iRet (iCall (F I_made_by_sign) (iCons (iVar 0) (iCons (iBin fSubB (iVar 1) (iC (.int 0))) (iCons (iBin fSubB (iVar 1) (iC (.int 1))) iNil))))))
noncomputable def b__awaited_kind (F : Nat → FA) (G : Nat → FX) : IS := (iSeq (iIfS (iTestB (iBin fEqB (iBin fSubB (iVar 1) (iC (.int 1))) (iC (.str S_act)))) (iRet (iBin fSubB (iVar 1) (iC (.int 4)))) iSkip) (iSeq (iIfS (iTestB (iBin fEqB (iBin fSubB (iVar 1) (iC (.int 1))) (iC (.str S_signal)))) (iRet (iBin fSubB (iVar 1) (iC (.int 3)))) iSkip) (iSeq (iIfS (iTestB (iBin fEqB (iBin fSubB (iVar 1) (iC (.int 1))) (iC (.str S_flow)))) (iRet (iCall (F I_called) (iCons (iBin fSubB (iVar 1) (iC (.int 2))) (iCons (iVar 2) (iCons (iVar 0) iNil))))) iSkip) (iRet (iIf (iTestB (iBin fEqB (iBin fSubB (iVar 2) (iC (.int 0))) (iC (.str S_int)))) (iC (.str S_nothing)) (iC .non))))))
noncomputable def b__law_state (F : Nat → FA) (G : Nat → FX) : IS := (iSeq (iAsg (gN 1) (iC (.int 7))) (iSeq (iFor (iWalk (iVar 0)) (gN 2) (iAsg (gN 1) (iBin fMod (iCall (a1 fIntS) (iCons (iBin fAdd (iBin fMulA (iVar 1) (iC (.int 31))) (iVar 2)) iNil)) (iC (.int 1000003))))) (iRet (iLst (iCons (iLc (iWalk (iVar 0)) (gN 2) iYes (iCall (a1 fAbs) (iCons (iVar 2) iNil)) [2]) (iCons (iBin fAdd (iVar 1) (iC (.int 1))) iNil))))))
noncomputable def b__law_draw (F : Nat → FA) (G : Nat → FX) : IS := (iSeq (iIfS (iTestB (iBin fLt (iVar 1) (iC (.int 1)))) (iRet (iC (.int 0))) iSkip) (iSeq (iAsg (gN 2) (iBin fSubB (iVar 0) (iC (.int 0)))) (iSeq (iWhile (iAnd (iTestB (iBin fGt (iCall (a1 fLenB) (iCons (iVar 2) iNil)) (iC (.int 0)))) (iTestB (iBin fEqB (iBin fSubB (iVar 2) (iC (.int 0))) (iC (.int 0))))) (iDrop (iPop0 (iVar 2) (iC (.int 0))))) (iSeq (iIfS (iTestB (iBin fGt (iCall (a1 fLenB) (iCons (iVar 2) iNil)) (iC (.int 0)))) (iSeq (iAsg (gN 4) (iBin fSubB (iVar 2) (iC (.int 0)))) (iSeq (iSetIx fSetA (iVar 2) (iC (.int 0)) (iBin fDiv (iVar 4) (iVar 1))) (iRet (iBin fMod (iCall (a1 fIntS) (iCons (iVar 4) iNil)) (iVar 1))))) iSkip) (iSeq (iAsg (gN 3) (iBin fMod (iCall (a1 fIntS) (iCons (iBin fAdd (iBin fMulA (iBin fSubB (iVar 0) (iC (.int 1))) (iC (.int 48271))) (iC (.int 12345))) iNil)) (iC (.int 2147483647)))) (iSeq (iSetIx fSetA (iVar 0) (iC (.int 1)) (iVar 3)) (iRet (iBin fMod (iCall (a1 fIntS) (iCons (iBin fDiv (iVar 3) (iC (.int 64))) iNil)) (iVar 1)))))))))
noncomputable def b__law_pick (F : Nat → FA) (G : Nat → FX) : IS := (iRet (iBin fSubB (iVar 1) (iCall (F I__law_draw) (iCons (iVar 0) (iCons (iCall (a1 fLenB) (iCons (iVar 1) iNil)) iNil)))))
noncomputable def b__law_parts (F : Nat → FA) (G : Nat → FX) : IS := (iSeq (iAsg (gN 1) (iBin fSubB (iVar 0) (iC (.int 0)))) (iSeq (iIfS (iTestB (iBin fEqB (iVar 1) (iC (.str S_op)))) (iRet (iLst (iCons (iBin fSubB (iVar 0) (iC (.int 2))) (iCons (iBin fSubB (iVar 0) (iC (.int 3))) iNil)))) iSkip) (iSeq (iIfS (iTestB (iBin fInE (iVar 1) (iTup (iCons (iC (.str S_not)) (iCons (iC (.str S_neg)) (iCons (iC (.str S_size)) (iCons (iC (.str S_textx20of)) (iCons (iC (.str S_random)) iNil)))))))) (iRet (iLst (iCons (iBin fSubB (iVar 0) (iC (.int 1))) iNil))) iSkip) (iSeq (iIfS (iTestB (iBin fEqB (iVar 1) (iC (.str S_item)))) (iRet (iLst (iCons (iBin fSubB (iVar 0) (iC (.int 1))) (iCons (iBin fSubB (iVar 0) (iC (.int 2))) iNil)))) iSkip) (iSeq (iIfS (iTestB (iBin fInE (iVar 1) (iTup (iCons (iC (.str S_list)) (iCons (iC (.str S_call)) iNil))))) (iRet (iCall (a1 fList) (iCons (iBin fSubB (iVar 0) (iC (.int 2))) iNil))) iSkip) (iSeq (iIfS (iAnd (iTestB (iBin fEqB (iVar 1) (iC (.str S_await)))) (iTestB (iBin fEqB (iBin fSubB (iVar 0) (iC (.int 1))) (iC (.str S_timer))))) (iRet (iLst (iCons (iBin fSubB (iVar 0) (iC (.int 2))) iNil))) iSkip) (iSeq (iIfS (iAnd (iTestB (iBin fEqB (iVar 1) (iC (.str S_await)))) (iTestB (iBin fNeB (iBin fSubB (iVar 0) (iC (.int 1))) (iC (.str S_signal))))) (iRet (iIf (iTestB (iBin fEqB (iBin fSubB (iVar 0) (iC (.int 1))) (iC (.str S_act)))) (iLst (iCons (iBin fSubB (iVar 0) (iC (.int 3))) iNil)) (iCall (a1 fList) (iCons (iBin fSubB (iVar 0) (iC (.int 3))) iNil)))) iSkip) (iRet (iLst iNil)))))))))
noncomputable def b__law_is_list (F : Nat → FA) (G : Nat → FX) : IS := (iRet (iCall (a2 fIsi) (iCons (iVar 0) (iCons (iC (.ty "tuple")) iNil))))
noncomputable def b__law_type_of (F : Nat → FA) (G : Nat → FX) : IS := (iSeq (iAsg (gN 4) (iLst iNil)) (iSeq (iAsg (gN 5) (iFrz (iCall (F I__law_parts) (iCons (iVar 2) iNil)))) (iSeq (iFor (iRange1 (iCons (iCall (a1 fLenB) (iCons (iVar 5) iNil)) iNil)) (gN 6) (iSeq (iAsg (gN 8) (iCall (F I__law_type_of) (iCons (iVar 0) (iCons (iVar 1) (iCons (iBin fSubB (iVar 5) (iVar 6)) (iCons (iBin fAdd (iVar 3) (iTup (iCons (iVar 6) iNil))) iNil)))))) (iSeq (iIfS (iTestB (iBin fEqB (iBin fSubB (iVar 8) (iC (.int 0))) (iC (.str S_fault)))) (iRet (iVar 8)) iSkip) (iDrop (iAppend (iVar 4) (iBin fSubB (iVar 8) (iC (.int 1)))))))) (iSeq (iAsg (gN 7) (iCall (F I__law_rule) (iCons (iVar 0) (iCons (iVar 1) (iCons (iVar 2) (iCons (iVar 4) iNil)))))) (iRet (iIf (iTestB (iBin fIs (iVar 7) (iC .non))) (iTup (iCons (iC (.str S_fault)) (iCons (iVar 3) iNil))) (iTup (iCons (iC (.str S_type)) (iCons (iVar 7) iNil)))))))))
noncomputable def b__law_rule (F : Nat → FA) (G : Nat → FX) : IS := (iSeq (iAsg (gN 4) (iBin fSubB (iVar 2) (iC (.int 0)))) (iSeq (iIfS (iTestB (iBin fInE (iVar 4) (iTup (iCons (iC (.str S_int)) (iCons (iC (.str S_bool)) (iCons (iC (.str S_text)) (iCons (iC (.str S_nothing)) iNil))))))) (iRet (iVar 4)) iSkip) (iSeq (iIfS (iTestB (iBin fEqB (iVar 4) (iC (.str S_var)))) (iRet (iGet1 (iVar 1) (iBin fSubB (iVar 2) (iC (.int 1))))) iSkip) (iSeq (iIfS (iTestB (iBin fEqB (iVar 4) (iC (.str S_op)))) (iRet (iCall (F I__law_sign_rule) (iCons (iBin fSubB (iVar 2) (iC (.int 1))) (iCons (iVar 3) iNil)))) iSkip) (iSeq (iIfS (iTestB (iBin fEqB (iVar 4) (iC (.str S_list)))) (iRet (iIf (iTestB (iBin fNotInB (iC (.bl false)) (iNew (iLc (iWalk (iVar 3)) (gN 7) iYes (iBin fEqB (iVar 7) (iBin fSubB (iVar 2) (iC (.int 1)))) [7])))) (iTup (iCons (iC (.str S_list)) (iCons (iBin fSubB (iVar 2) (iC (.int 1))) iNil))) (iC .non))) iSkip) (iSeq (iIfS (iTestB (iBin fEqB (iVar 4) (iC (.str S_item)))) (iRet (iIf (iAnd (iTest (iCall (F I__law_is_list) (iCons (iBin fSubB (iVar 3) (iC (.int 0))) iNil))) (iTestB (iBin fEqB (iBin fSubB (iVar 3) (iC (.int 1))) (iC (.str S_int))))) (iBin fSubB (iBin fSubB (iVar 3) (iC (.int 0))) (iC (.int 1))) (iC .non))) iSkip) (iSeq (iIfS (iOr (iTestB (iBin fEqB (iVar 4) (iC (.str S_call)))) (iAnd (iTestB (iBin fEqB (iVar 4) (iC (.str S_await)))) (iTestB (iBin fEqB (iBin fSubB (iVar 2) (iC (.int 1))) (iC (.str S_flow)))))) (iSeq (iAsg (gN 6) (iGet1 (iVar 0) (iIf (iTestB (iBin fEqB (iVar 4) (iC (.str S_call)))) (iBin fSubB (iVar 2) (iC (.int 1))) (iBin fSubB (iVar 2) (iC (.int 2)))))) (iRet (iIf (iAnd (iTestB (iBin fIsNot (iVar 6) (iC .non))) (iTestB (iBin fEqB (iBin fSubB (iVar 6) (iC (.int 0))) (iVar 3)))) (iBin fSubB (iVar 6) (iC (.int 1))) (iC .non)))) iSkip) (iSeq (iIfS (iAnd (iTestB (iBin fEqB (iVar 4) (iC (.str S_await)))) (iTestB (iBin fNeB (iBin fSubB (iVar 2) (iC (.int 1))) (iC (.str S_timer))))) (iRet (iIf (iTestB (iBin fEqB (iBin fSubB (iVar 2) (iC (.int 1))) (iC (.str S_act)))) (iBin fSubB (iVar 2) (iC (.int 4))) (iBin fSubB (iVar 2) (iC (.int 3))))) iSkip) (iSeq (iAsg (gN 5) (iDict (iPCons (iC (.str S_not)) (iNew (iLst (iCons (iNew (iLst (iCons (iC (.str S_bool)) iNil))) (iCons (iC (.str S_bool)) iNil)))) (iPCons (iC (.str S_neg)) (iNew (iLst (iCons (iNew (iLst (iCons (iC (.str S_int)) iNil))) (iCons (iC (.str S_int)) iNil)))) (iPCons (iC (.str S_random)) (iNew (iLst (iCons (iNew (iLst (iCons (iC (.str S_int)) iNil))) (iCons (iC (.str S_int)) iNil)))) (iPCons (iC (.str S_textx20of)) (iNew (iLst (iCons (iNew (iLst (iCons (iC (.str S_int)) (iCons (iC (.str S_bool)) iNil)))) (iCons (iC (.str S_text)) iNil)))) iPNil)))))) (iSeq (iSetIx fSetA (iVar 5) (iC (.str S_await)) (iNew (iLst (iCons (iNew (iLst (iCons (iC (.str S_int)) iNil))) (iCons (iC (.str S_nothing)) iNil))))) (iSeq (iIfS (iTestB (iBin fEqB (iVar 4) (iC (.str S_size)))) (iRet (iIf (iOr (iTestB (iBin fEqB (iBin fSubB (iVar 3) (iC (.int 0))) (iC (.str S_text)))) (iTest (iCall (F I__law_is_list) (iCons (iBin fSubB (iVar 3) (iC (.int 0))) iNil)))) (iC (.str S_int)) (iC .non))) iSkip) (iSeq (iIfS (iTestB (iBin fEqB (iVar 4) (iC (.str S_now)))) (iRet (iC (.str S_int))) iSkip) (iRet (iIf (iTestB (iBin fInE (iBin fSubB (iVar 3) (iC (.int 0))) (iBin fSubB (iBin fSubB (iVar 5) (iVar 4)) (iC (.int 0))))) (iBin fSubB (iBin fSubB (iVar 5) (iVar 4)) (iC (.int 1))) (iC .non)))))))))))))))
noncomputable def b__law_sign_rule (F : Nat → FA) (G : Nat → FX) : IS := (iSeq (iAsg (gU 2 (gCs (gN 2) (gCs (gN 3) gNs))) (iVar 1)) (iSeq (iIfS (iTestB (iBin fNeB (iVar 2) (iVar 3))) (iRet (iC .non)) iSkip) (iSeq (iIfS (iTestB (iBin fInE (iVar 0) (iTup (iCons (iC (.str S_x2b)) (iCons (iC (.str S_x2d)) (iCons (iC (.str S_x2a)) (iCons (iC (.str S_x2f)) iNil))))))) (iRet (iIf (iTestB (iBin fEqB (iVar 2) (iC (.str S_int)))) (iC (.str S_int)) (iC .non))) iSkip) (iSeq (iIfS (iTestB (iBin fEqB (iVar 0) (iC (.str S_x26)))) (iRet (iIf (iOr (iTestB (iBin fEqB (iVar 2) (iC (.str S_text)))) (iTest (iCall (F I__law_is_list) (iCons (iVar 2) iNil)))) (iVar 2) (iC .non))) iSkip) (iSeq (iIfS (iTestB (iBin fInE (iVar 0) (iTup (iCons (iC (.str S_and)) (iCons (iC (.str S_or)) iNil))))) (iRet (iIf (iTestB (iBin fEqB (iVar 2) (iC (.str S_bool)))) (iC (.str S_bool)) (iC .non))) iSkip) (iRet (iIf (iOr (iTestB (iBin fInE (iVar 0) (iTup (iCons (iC (.str S_x3d)) (iCons (iC (.str S_x21x3d)) iNil))))) (iTestB (iBin fInE (iVar 2) (iTup (iCons (iC (.str S_int)) (iCons (iC (.str S_text)) iNil)))))) (iC (.str S_bool)) (iC .non))))))))
noncomputable def b__law_typed (F : Nat → FA) (G : Nat → FX) : IS := (iSeq (iAsg (gN 4) (iNew (iLcK 1 (gN 9) (iTestB (iBin fEqB (iBin fSubB (iVar 1) (iVar 9)) (iVar 2))) (iVar 9) [9]))) (iSeq (iAsg (gN 5) (iCall (F I__law_draw) (iCons (iVar 0) (iCons (iC (.int 9)) iNil)))) (iSeq (iIfS (iAnd (iTestB (iBin fGt (iCall (a1 fLenB) (iCons (iVar 4) iNil)) (iC (.int 0)))) (iOr (iTestB (iBin fLt (iVar 5) (iC (.int 3)))) (iTestB (iBin fEqB (iVar 3) (iC (.int 0)))))) (iRet (iTup (iCons (iC (.str S_var)) (iCons (iCall (F I__law_pick) (iCons (iVar 0) (iCons (iNew (iCall (a1 fSortS) (iCons (iVar 4) iNil))) iNil))) iNil)))) iSkip) (iSeq (iIfS (iTestB (iBin fEqB (iVar 5) (iC (.int 3)))) (iRet (iTup (iCons (iC (.str S_await)) (iCons (iC (.str S_signal)) (iCons (iCall (F I__law_pick) (iCons (iVar 0) (iCons (iNew (iLst (iCons (iC (.str S_s)) (iCons (iC (.str S_t)) iNil)))) iNil))) (iCons (iVar 2) iNil)))))) iSkip) (iSeq (iIfS (iAnd (iTestB (iBin fEqB (iVar 5) (iC (.int 4)))) (iTestB (iBin fGt (iVar 3) (iC (.int 0))))) (iRet (iTup (iCons (iC (.str S_await)) (iCons (iC (.str S_act)) (iCons (iC (.str S_pay)) (iCons (iCall (F I__law_typed) (iCons (iVar 0) (iCons (iVar 1) (iCons (iCall (F I__law_pick) (iCons (iVar 0) (iCons (iNew (iLst (iCons (iC (.str S_int)) (iCons (iC (.str S_text)) iNil)))) iNil))) (iCons (iBin fSub (iVar 3) (iC (.int 1))) iNil))))) (iCons (iVar 2) iNil))))))) iSkip) (iSeq (iIfS (iAnd (iTestB (iBin fEqB (iVar 5) (iC (.int 5)))) (iTestB (iBin fGt (iVar 3) (iC (.int 0))))) (iSeq (iAsg (gN 8) (iTup (iCons (iC (.str S_list)) (iCons (iVar 2) (iCons (iNew (iLc (iRange1 (iCons (iCall (F I__law_draw) (iCons (iVar 0) (iCons (iC (.int 3)) iNil))) iNil)) (gN 10) iYes (iCall (F I__law_typed) (iCons (iVar 0) (iCons (iVar 1) (iCons (iVar 2) (iCons (iBin fSub (iVar 3) (iC (.int 1))) iNil))))) [10])) iNil))))) (iRet (iTup (iCons (iC (.str S_item)) (iCons (iVar 8) (iCons (iCall (F I__law_typed) (iCons (iVar 0) (iCons (iVar 1) (iCons (iC (.str S_int)) (iCons (iBin fSub (iVar 3) (iC (.int 1))) iNil))))) iNil)))))) iSkip) (iSeq (iIfS (iTestB (iBin fEqB (iVar 2) (iC (.str S_int)))) (iRet (iCall (F I__law_typed_int) (iCons (iVar 0) (iCons (iVar 1) (iCons (iVar 3) iNil))))) iSkip) (iSeq (iIfS (iTestB (iBin fEqB (iVar 2) (iC (.str S_bool)))) (iRet (iCall (F I__law_typed_bool) (iCons (iVar 0) (iCons (iVar 1) (iCons (iVar 3) iNil))))) iSkip) (iSeq (iIfS (iTestB (iBin fEqB (iVar 2) (iC (.str S_text)))) (iSeq (iIfS (iOr (iTestB (iBin fEqB (iVar 3) (iC (.int 0)))) (iTestB (iBin fEqB (iVar 5) (iC (.int 6))))) (iRet (iTup (iCons (iC (.str S_text)) (iCons (iCall (F I__law_pick) (iCons (iVar 0) (iCons (iNew (iLst (iCons (iC (.str S_)) (iCons (iC (.str S_a)) (iCons (iC (.str S_bc)) iNil))))) iNil))) iNil)))) iSkip) (iSeq (iIfS (iTestB (iBin fLt (iVar 5) (iC (.int 8)))) (iRet (iTup (iCons (iC (.str S_op)) (iCons (iC (.str S_x26)) (iCons (iCall (F I__law_typed) (iCons (iVar 0) (iCons (iVar 1) (iCons (iC (.str S_text)) (iCons (iBin fSub (iVar 3) (iC (.int 1))) iNil))))) (iCons (iCall (F I__law_typed) (iCons (iVar 0) (iCons (iVar 1) (iCons (iC (.str S_text)) (iCons (iBin fSub (iVar 3) (iC (.int 1))) iNil))))) iNil)))))) iSkip) (iRet (iTup (iCons (iC (.str S_textx20of)) (iCons (iCall (F I__law_typed) (iCons (iVar 0) (iCons (iVar 1) (iCons (iCall (F I__law_pick) (iCons (iVar 0) (iCons (iNew (iLst (iCons (iC (.str S_int)) (iCons (iC (.str S_bool)) iNil)))) iNil))) (iCons (iBin fSub (iVar 3) (iC (.int 1))) iNil))))) iNil)))))) iSkip) (iSeq (iIfS (iTestB (iBin fEqB (iVar 2) (iC (.str S_nothing)))) (iSeq (iIfS (iAnd (iTestB (iBin fGt (iVar 3) (iC (.int 0)))) (iTestB (iBin fGt (iVar 5) (iC (.int 6))))) (iRet (iTup (iCons (iC (.str S_await)) (iCons (iC (.str S_timer)) (iCons (iCall (F I__law_typed) (iCons (iVar 0) (iCons (iVar 1) (iCons (iC (.str S_int)) (iCons (iBin fSub (iVar 3) (iC (.int 1))) iNil))))) iNil))))) iSkip) (iRet (iTup (iCons (iC (.str S_nothing)) iNil)))) iSkip) (iSeq (iAsg (gN 6) (iIf (iTestB (iBin fEqB (iVar 3) (iC (.int 0)))) (iC (.int 0)) (iCall (F I__law_draw) (iCons (iVar 0) (iCons (iC (.int 3)) iNil))))) (iSeq (iAsg (gN 7) (iTup (iCons (iC (.str S_list)) (iCons (iBin fSubB (iVar 2) (iC (.int 1))) (iCons (iNew (iLc (iRange1 (iCons (iVar 6) iNil)) (gN 10) iYes (iCall (F I__law_typed) (iCons (iVar 0) (iCons (iVar 1) (iCons (iBin fSubB (iVar 2) (iC (.int 1))) (iCons (iBin fSub (iVar 3) (iC (.int 1))) iNil))))) [10])) iNil))))) (iSeq (iIfS (iAnd (iTestB (iBin fGt (iVar 3) (iC (.int 0)))) (iTestB (iBin fEqB (iVar 5) (iC (.int 8))))) (iRet (iTup (iCons (iC (.str S_op)) (iCons (iC (.str S_x26)) (iCons (iVar 7) (iCons (iCall (F I__law_typed) (iCons (iVar 0) (iCons (iVar 1) (iCons (iVar 2) (iCons (iBin fSub (iVar 3) (iC (.int 1))) iNil))))) iNil)))))) iSkip) (iRet (iVar 7)))))))))))))))
noncomputable def b__law_typed_int (F : Nat → FA) (G : Nat → FX) : IS := (iSeq (iAsg (gN 3) (iCall (F I__law_draw) (iCons (iVar 0) (iCons (iC (.int 9)) iNil)))) (iSeq (iIfS (iOr (iTestB (iBin fEqB (iVar 2) (iC (.int 0)))) (iTestB (iBin fLt (iVar 3) (iC (.int 2))))) (iRet (iTup (iCons (iC (.str S_int)) (iCons (iCall (F I__law_pick) (iCons (iVar 0) (iCons (iNew (iLst (iCons (iC (.int 0)) (iCons (iC (.int 1)) (iCons (iC (.int 2)) (iCons (iC (.int 9)) iNil)))))) iNil))) iNil)))) iSkip) (iSeq (iIfS (iTestB (iBin fLt (iVar 3) (iC (.int 5)))) (iSeq (iAsg (gN 4) (iCall (F I__law_pick) (iCons (iVar 0) (iCons (iNew (iLst (iCons (iC (.str S_x2b)) (iCons (iC (.str S_x2d)) (iCons (iC (.str S_x2a)) (iCons (iC (.str S_x2f)) iNil)))))) iNil)))) (iRet (iTup (iCons (iC (.str S_op)) (iCons (iVar 4) (iCons (iCall (F I__law_typed) (iCons (iVar 0) (iCons (iVar 1) (iCons (iC (.str S_int)) (iCons (iBin fSub (iVar 2) (iC (.int 1))) iNil))))) (iCons (iCall (F I__law_typed) (iCons (iVar 0) (iCons (iVar 1) (iCons (iC (.str S_int)) (iCons (iBin fSub (iVar 2) (iC (.int 1))) iNil))))) iNil))))))) iSkip) (iSeq (iIfS (iTestB (iBin fEqB (iVar 3) (iC (.int 5)))) (iRet (iTup (iCons (iCall (F I__law_pick) (iCons (iVar 0) (iCons (iNew (iLst (iCons (iC (.str S_neg)) (iCons (iC (.str S_random)) iNil)))) iNil))) (iCons (iCall (F I__law_typed) (iCons (iVar 0) (iCons (iVar 1) (iCons (iC (.str S_int)) (iCons (iBin fSub (iVar 2) (iC (.int 1))) iNil))))) iNil)))) iSkip) (iSeq (iIfS (iTestB (iBin fEqB (iVar 3) (iC (.int 6)))) (iRet (iTup (iCons (iC (.str S_size)) (iCons (iCall (F I__law_typed) (iCons (iVar 0) (iCons (iVar 1) (iCons (iCall (F I__law_pick) (iCons (iVar 0) (iCons (iNew (iLst (iCons (iC (.str S_text)) (iCons (iTup (iCons (iC (.str S_list)) (iCons (iC (.str S_int)) iNil))) iNil)))) iNil))) (iCons (iBin fSub (iVar 2) (iC (.int 1))) iNil))))) iNil)))) iSkip) (iSeq (iIfS (iTestB (iBin fEqB (iVar 3) (iC (.int 7)))) (iSeq (iAsg (gN 5) (iNew (iLst (iCons (iCall (F I__law_typed) (iCons (iVar 0) (iCons (iVar 1) (iCons (iC (.str S_int)) (iCons (iBin fSub (iVar 2) (iC (.int 1))) iNil))))) iNil)))) (iRet (iCall (F I__law_pick) (iCons (iVar 0) (iCons (iNew (iLst (iCons (iTup (iCons (iC (.str S_call)) (iCons (iC (.str S_f)) (iCons (iVar 5) iNil)))) (iCons (iTup (iCons (iC (.str S_await)) (iCons (iC (.str S_flow)) (iCons (iC (.str S_f)) (iCons (iVar 5) iNil))))) iNil)))) iNil))))) iSkip) (iRet (iTup (iCons (iC (.str S_now)) iNil)))))))))
noncomputable def b__law_typed_bool (F : Nat → FA) (G : Nat → FX) : IS := (iSeq (iAsg (gN 3) (iCall (F I__law_draw) (iCons (iVar 0) (iCons (iC (.int 9)) iNil)))) (iSeq (iIfS (iOr (iTestB (iBin fEqB (iVar 2) (iC (.int 0)))) (iTestB (iBin fLt (iVar 3) (iC (.int 2))))) (iRet (iTup (iCons (iC (.str S_bool)) (iCons (iBin fEqB (iCall (F I__law_draw) (iCons (iVar 0) (iCons (iC (.int 2)) iNil))) (iC (.int 0))) iNil)))) iSkip) (iSeq (iIfS (iTestB (iBin fLt (iVar 3) (iC (.int 4)))) (iSeq (iAsg (gN 5) (iCall (F I__law_pick) (iCons (iVar 0) (iCons (iNew (iLst (iCons (iC (.str S_and)) (iCons (iC (.str S_or)) iNil)))) iNil)))) (iRet (iTup (iCons (iC (.str S_op)) (iCons (iVar 5) (iCons (iCall (F I__law_typed) (iCons (iVar 0) (iCons (iVar 1) (iCons (iC (.str S_bool)) (iCons (iBin fSub (iVar 2) (iC (.int 1))) iNil))))) (iCons (iCall (F I__law_typed) (iCons (iVar 0) (iCons (iVar 1) (iCons (iC (.str S_bool)) (iCons (iBin fSub (iVar 2) (iC (.int 1))) iNil))))) iNil))))))) iSkip) (iSeq (iIfS (iTestB (iBin fEqB (iVar 3) (iC (.int 4)))) (iRet (iTup (iCons (iC (.str S_not)) (iCons (iCall (F I__law_typed) (iCons (iVar 0) (iCons (iVar 1) (iCons (iC (.str S_bool)) (iCons (iBin fSub (iVar 2) (iC (.int 1))) iNil))))) iNil)))) iSkip) (iSeq (iIfS (iTestB (iBin fEqB (iVar 3) (iC (.int 5)))) (iRet (iTup (iCons (iC (.str S_call)) (iCons (iC (.str S_g)) (iCons (iNew (iLst (iCons (iCall (F I__law_typed) (iCons (iVar 0) (iCons (iVar 1) (iCons (iC (.str S_text)) (iCons (iBin fSub (iVar 2) (iC (.int 1))) iNil))))) (iCons (iCall (F I__law_typed) (iCons (iVar 0) (iCons (iVar 1) (iCons (iC (.str S_bool)) (iCons (iBin fSub (iVar 2) (iC (.int 1))) iNil))))) iNil)))) iNil))))) iSkip) (iSeq (iIfS (iTestB (iBin fEqB (iVar 3) (iC (.int 6)))) (iSeq (iAsg (gN 4) (iCall (F I__law_pick) (iCons (iVar 0) (iCons (iNew (iLst (iCons (iC (.str S_bool)) (iCons (iC (.str S_nothing)) (iCons (iTup (iCons (iC (.str S_list)) (iCons (iC (.str S_text)) iNil))) iNil))))) iNil)))) (iRet (iTup (iCons (iC (.str S_op)) (iCons (iCall (F I__law_pick) (iCons (iVar 0) (iCons (iNew (iLst (iCons (iC (.str S_x3d)) (iCons (iC (.str S_x21x3d)) iNil)))) iNil))) (iCons (iCall (F I__law_typed) (iCons (iVar 0) (iCons (iVar 1) (iCons (iVar 4) (iCons (iBin fSub (iVar 2) (iC (.int 1))) iNil))))) (iCons (iCall (F I__law_typed) (iCons (iVar 0) (iCons (iVar 1) (iCons (iVar 4) (iCons (iBin fSub (iVar 2) (iC (.int 1))) iNil))))) iNil))))))) iSkip) (iSeq (iAsg (gN 4) (iCall (F I__law_pick) (iCons (iVar 0) (iCons (iNew (iLst (iCons (iC (.str S_int)) (iCons (iC (.str S_text)) iNil)))) iNil)))) (iSeq (iAsg (gN 5) (iCall (F I__law_pick) (iCons (iVar 0) (iCons (iNew (iLst (iCons (iC (.str S_x3d)) (iCons (iC (.str S_x3c)) (iCons (iC (.str S_x3cx3d)) (iCons (iC (.str S_x21x3d)) iNil)))))) iNil)))) (iRet (iTup (iCons (iC (.str S_op)) (iCons (iVar 5) (iCons (iCall (F I__law_typed) (iCons (iVar 0) (iCons (iVar 1) (iCons (iVar 4) (iCons (iBin fSub (iVar 2) (iC (.int 1))) iNil))))) (iCons (iCall (F I__law_typed) (iCons (iVar 0) (iCons (iVar 1) (iCons (iVar 4) (iCons (iBin fSub (iVar 2) (iC (.int 1))) iNil))))) iNil))))))))))))))
noncomputable def b__law_with (F : Nat → FA) (G : Nat → FX) : IS := (iSeq (iAsg (gN 2) (iBin fSubB (iVar 0) (iC (.int 0)))) (iSeq (iIfS (iTestB (iBin fEqB (iVar 2) (iC (.str S_op)))) (iRet (iTup (iCons (iC (.str S_op)) (iCons (iBin fSubB (iVar 0) (iC (.int 1))) (iCons (iBin fSubB (iVar 1) (iC (.int 0))) (iCons (iBin fSubB (iVar 1) (iC (.int 1))) iNil)))))) iSkip) (iSeq (iIfS (iTestB (iBin fEqB (iVar 2) (iC (.str S_item)))) (iRet (iTup (iCons (iC (.str S_item)) (iCons (iBin fSubB (iVar 1) (iC (.int 0))) (iCons (iBin fSubB (iVar 1) (iC (.int 1))) iNil))))) iSkip) (iSeq (iIfS (iTestB (iBin fInE (iVar 2) (iTup (iCons (iC (.str S_list)) (iCons (iC (.str S_call)) iNil))))) (iRet (iTup (iCons (iVar 2) (iCons (iBin fSubB (iVar 0) (iC (.int 1))) (iCons (iVar 1) iNil))))) iSkip) (iSeq (iIfS (iTestB (iBin fEqB (iVar 2) (iC (.str S_await)))) (iRet (iGet2 (iNew (iDict (iPCons (iC (.str S_act)) (iBin fAdd (iBin fAdd (iSl fSl (iVar 0) iNo (iPart (iC (.int 3)))) (iCall (a1 fTuple) (iCons (iVar 1) iNil))) (iSl fSl (iVar 0) (iPart (iC (.int 4))) iNo)) (iPCons (iC (.str S_timer)) (iBin fAdd (iSl fSl (iVar 0) iNo (iPart (iC (.int 2)))) (iCall (a1 fTuple) (iCons (iVar 1) iNil))) (iPCons (iC (.str S_flow)) (iBin fAdd (iSl fSl (iVar 0) iNo (iPart (iC (.int 3)))) (iTup (iCons (iVar 1) iNil))) iPNil))))) (iBin fSubB (iVar 0) (iC (.int 1))) (iVar 0))) iSkip) (iRet (iIf (iTestB (iBin fGt (iCall (a1 fLenB) (iCons (iVar 1) iNil)) (iC (.int 0)))) (iBin fAdd (iTup (iCons (iVar 2) iNil)) (iCall (a1 fTuple) (iCons (iVar 1) iNil))) (iVar 0))))))))
noncomputable def b__law_turned (F : Nat → FA) (G : Nat → FX) : IS := (iSeq (iAsg (gN 3) (iCall (F I__law_parts) (iCons (iVar 2) iNil))) (iSeq (iIfS (iAnd (iTestB (iBin fGt (iCall (a1 fLenB) (iCons (iVar 3) iNil)) (iC (.int 0)))) (iTestB (iBin fGt (iCall (F I__law_draw) (iCons (iVar 0) (iCons (iC (.int 4)) iNil))) (iC (.int 0))))) (iSeq (iAsg (gN 5) (iCall (F I__law_draw) (iCons (iVar 0) (iCons (iCall (a1 fLenB) (iCons (iVar 3) iNil)) iNil)))) (iSeq (iSetIx fSetA (iVar 3) (iVar 5) (iCall (F I__law_turned) (iCons (iVar 0) (iCons (iVar 1) (iCons (iBin fSubB (iVar 3) (iVar 5)) iNil))))) (iRet (iCall (F I__law_with) (iCons (iVar 2) (iCons (iFrz (iVar 3)) iNil)))))) iSkip) (iSeq (iIfS (iAnd (iTestB (iBin fEqB (iBin fSubB (iVar 2) (iC (.int 0))) (iC (.str S_op)))) (iTestB (iBin fEqB (iCall (F I__law_draw) (iCons (iVar 0) (iCons (iC (.int 2)) iNil))) (iC (.int 0))))) (iRet (iBin fAdd (iTup (iCons (iC (.str S_op)) (iCons (iCall (F I__law_pick) (iCons (iVar 0) (iCons (iNew (iLst (iCons (iC (.str S_x2b)) (iCons (iC (.str S_x26)) (iCons (iC (.str S_x3d)) (iCons (iC (.str S_x3c)) (iCons (iC (.str S_and)) iNil))))))) iNil))) iNil))) (iSl fSl (iVar 2) (iPart (iC (.int 2))) iNo))) iSkip) (iSeq (iIfS (iAnd (iTestB (iBin fEqB (iBin fSubB (iVar 2) (iC (.int 0))) (iC (.str S_call)))) (iTestB (iBin fEqB (iCall (F I__law_draw) (iCons (iVar 0) (iCons (iC (.int 2)) iNil))) (iC (.int 0))))) (iRet (iTup (iCons (iC (.str S_call)) (iCons (iCall (F I__law_pick) (iCons (iVar 0) (iCons (iNew (iLst (iCons (iC (.str S_f)) (iCons (iC (.str S_g)) (iCons (iC (.str S_h)) iNil))))) iNil))) (iCons (iNew (iSl fSl (iBin fSubB (iVar 2) (iC (.int 2))) (iPart (iC (.int 1))) iNo)) iNil))))) iSkip) (iSeq (iAsg (gN 4) (iCall (F I__law_pick) (iCons (iVar 0) (iCons (iNew (iLst (iCons (iC (.str S_int)) (iCons (iC (.str S_bool)) (iCons (iC (.str S_text)) (iCons (iC (.str S_nothing)) (iCons (iTup (iCons (iC (.str S_list)) (iCons (iC (.str S_int)) iNil))) (iCons (iC (.str S_name)) iNil)))))))) iNil)))) (iRet (iIf (iTestB (iBin fEqB (iVar 4) (iC (.str S_name)))) (iTup (iCons (iC (.str S_var)) (iCons (iC (.str S_q)) iNil))) (iCall (F I__law_typed) (iCons (iVar 0) (iCons (iVar 1) (iCons (iVar 4) (iCons (iC (.int 1)) iNil))))))))))))
noncomputable def b_law (F : Nat → FA) (G : Nat → FX) : IS := (iSeq (iAsg (gN 1) (iCall (F I__law_state) (iCons (iVar 0) iNil))) (iSeq (iAsg (gN 2) (iNew (iDict (iPCons (iC (.str S_a)) (iC (.str S_int)) (iPCons (iC (.str S_b)) (iC (.str S_text)) (iPCons (iC (.str S_c)) (iTup (iCons (iC (.str S_list)) (iCons (iC (.str S_int)) iNil))) (iPCons (iC (.str S_d)) (iC (.str S_bool)) (iPCons (iC (.str S_e)) (iTup (iCons (iC (.str S_list)) (iCons (iTup (iCons (iC (.str S_list)) (iCons (iC (.str S_text)) iNil))) iNil))) iPNil)))))))) (iSeq (iAsg (gN 3) (iNew (iLst (iCons (iTup (iCons (iC (.str S_fn)) (iCons (iC (.str S_f)) (iCons (iNew (iLst (iCons (iTup (iCons (iC (.str S_x)) (iCons (iC (.str S_int)) iNil))) iNil))) (iCons (iC (.str S_int)) (iCons (iNew (iLst iNil)) iNil)))))) (iCons (iTup (iCons (iC (.str S_fn)) (iCons (iC (.str S_g)) (iCons (iNew (iLst (iCons (iTup (iCons (iC (.str S_x)) (iCons (iC (.str S_text)) iNil))) (iCons (iTup (iCons (iC (.str S_y)) (iCons (iC (.str S_bool)) iNil))) iNil)))) (iCons (iC (.str S_bool)) (iCons (iNew (iLst iNil)) iNil)))))) iNil))))) (iSeq (iAsg (gN 4) (iNew (iDict (iPCons (iC (.str S_f)) (iTup (iCons (iNew (iLst (iCons (iC (.str S_int)) iNil))) (iCons (iC (.str S_int)) iNil))) (iPCons (iC (.str S_g)) (iTup (iCons (iNew (iLst (iCons (iC (.str S_text)) (iCons (iC (.str S_bool)) iNil)))) (iCons (iC (.str S_bool)) iNil))) iPNil))))) (iSeq (iFor (iRange1 (iCons (iC (.int 3)) iNil)) (gN 5) (iSeq (iAsg (gN 6) (iCall (F I__law_pick) (iCons (iVar 1) (iCons (iNew (iLst (iCons (iC (.str S_int)) (iCons (iC (.str S_bool)) (iCons (iC (.str S_text)) (iCons (iC (.str S_nothing)) (iCons (iTup (iCons (iC (.str S_list)) (iCons (iC (.str S_int)) iNil))) (iCons (iTup (iCons (iC (.str S_list)) (iCons (iTup (iCons (iC (.str S_list)) (iCons (iC (.str S_text)) iNil))) iNil))) iNil)))))))) iNil)))) (iSeq (iAsg (gN 7) (iCall (F I__law_typed) (iCons (iVar 1) (iCons (iVar 2) (iCons (iVar 6) (iCons (iC (.int 3)) iNil)))))) (iSeq (iFor (iRange1 (iCons (iCall (F I__law_draw) (iCons (iVar 1) (iCons (iC (.int 4)) iNil))) iNil)) (gN 8) (iAsg (gN 7) (iCall (F I__law_turned) (iCons (iVar 1) (iCons (iVar 2) (iCons (iVar 7) iNil)))))) (iSeq (iAsg (gN 9) (iCall (a1 fReprE) (iCons (iNew (iLst (iCons (iVar 3) (iCons (iVar 2) (iCons (iVar 7) iNil))))) iNil))) (iSeq (iAsg (gN 10) (iCall (F I__law_type_of) (iCons (iVar 4) (iCons (iVar 2) (iCons (iVar 7) (iCons (iTup (iCons (iC (.int 0)) iNil)) iNil)))))) (iSeq (iCatch S_CheckError (iAsgX (gN 11) (iTupX (iConsX (iOk (iC (.str S_type))) (iConsX (iCallX (G I_type_of_expression) (iCons (iVar 3) (iCons (iVar 2) (iCons (iVar 7) iNil)))) (iOks iNil))))) 12 (fun fs => (iAsg (gN 11) (iIf (iTest (iC (.bl true))) (iTup (iCons (iC (.str S_fault)) (iCons (iExF fs S_place) iNil))) (iC .non)))) iSkip) (iIfS (iOr (iTestB (iBin fNeB (iVar 11) (iVar 10))) (iTestB (iBin fNeB (iCall (a1 fReprE) (iCons (iNew (iLst (iCons (iVar 3) (iCons (iVar 2) (iCons (iVar 7) iNil))))) iNil)) (iVar 9)))) (iRet (iC (.bl false))) iSkip)))))))) (iRet (iC (.bl true))))))))
noncomputable def FG : Nat → Nat → FA × FX
  | 0, _ => (fun _ _ => none, fun _ _ => none)
  | n + 1, 0 => (iDef 1 2 (b_parts_of (fun i => (FG n i).1) (fun i => (FG n i).2)), fun _ _ => none)
  | n + 1, 1 => (iDef 1 1 (b__awaited_parts (fun i => (FG n i).1) (fun i => (FG n i).2)), fun _ _ => none)
  | n + 1, 2 => (iDef 1 4 (b_signatures (fun i => (FG n i).1) (fun i => (FG n i).2)), fun _ _ => none)
  | n + 1, 3 => (iDef 1 1 (b_is_list_kind (fun i => (FG n i).1) (fun i => (FG n i).2)), fun _ _ => none)
  | n + 1, 4 => (iDef 3 3 (b_made_by_sign (fun i => (FG n i).1) (fun i => (FG n i).2)), fun _ _ => none)
  | n + 1, 5 => (iDef 2 3 (b_made_by_word (fun i => (FG n i).1) (fun i => (FG n i).2)), fun _ _ => none)
  | n + 1, 6 => (iDef 3 3 (b_called (fun i => (FG n i).1) (fun i => (FG n i).2)), fun _ _ => none)
  | n + 1, 7 => (iDef 2 3 (b_listed (fun i => (FG n i).1) (fun i => (FG n i).2)), fun _ _ => none)
  | n + 1, 8 => (fun _ _ => none, iDefX 3 3 (b_type_of_expression (fun i => (FG n i).1) (fun i => (FG n i).2)))
  | n + 1, 9 => (fun _ _ => none, iDefX 4 8 (b__kind_of (fun i => (FG n i).1) (fun i => (FG n i).2)))
  | n + 1, 10 => (iDef 3 4 (b__made_kind (fun i => (FG n i).1) (fun i => (FG n i).2)), fun _ _ => none)
  | n + 1, 11 => (iDef 2 2 (b__kind_by_sign (fun i => (FG n i).1) (fun i => (FG n i).2)), fun _ _ => none)
  | n + 1, 12 => (iDef 3 3 (b__awaited_kind (fun i => (FG n i).1) (fun i => (FG n i).2)), fun _ _ => none)
  | n + 1, 13 => (iDef 1 3 (b__law_state (fun i => (FG n i).1) (fun i => (FG n i).2)), fun _ _ => none)
  | n + 1, 14 => (iDef 2 5 (b__law_draw (fun i => (FG n i).1) (fun i => (FG n i).2)), fun _ _ => none)
  | n + 1, 15 => (iDef 2 2 (b__law_pick (fun i => (FG n i).1) (fun i => (FG n i).2)), fun _ _ => none)
  | n + 1, 16 => (iDef 1 2 (b__law_parts (fun i => (FG n i).1) (fun i => (FG n i).2)), fun _ _ => none)
  | n + 1, 17 => (iDef 1 1 (b__law_is_list (fun i => (FG n i).1) (fun i => (FG n i).2)), fun _ _ => none)
  | n + 1, 18 => (iDef 4 9 (b__law_type_of (fun i => (FG n i).1) (fun i => (FG n i).2)), fun _ _ => none)
  | n + 1, 19 => (iDef 4 8 (b__law_rule (fun i => (FG n i).1) (fun i => (FG n i).2)), fun _ _ => none)
  | n + 1, 20 => (iDef 2 4 (b__law_sign_rule (fun i => (FG n i).1) (fun i => (FG n i).2)), fun _ _ => none)
  | n + 1, 21 => (iDef 4 11 (b__law_typed (fun i => (FG n i).1) (fun i => (FG n i).2)), fun _ _ => none)
  | n + 1, 22 => (iDef 3 6 (b__law_typed_int (fun i => (FG n i).1) (fun i => (FG n i).2)), fun _ _ => none)
  | n + 1, 23 => (iDef 3 6 (b__law_typed_bool (fun i => (FG n i).1) (fun i => (FG n i).2)), fun _ _ => none)
  | n + 1, 24 => (iDef 2 3 (b__law_with (fun i => (FG n i).1) (fun i => (FG n i).2)), fun _ _ => none)
  | n + 1, 25 => (iDef 3 6 (b__law_turned (fun i => (FG n i).1) (fun i => (FG n i).2)), fun _ _ => none)
  | n + 1, 26 => (iDef 1 13 (b_law (fun i => (FG n i).1) (fun i => (FG n i).2)), fun _ _ => none)
  | _ + 1, _ => (fun _ _ => none, fun _ _ => none)
noncomputable def FF (n i : Nat) : FA := (FG n i).1
noncomputable def GG (n i : Nat) : FX := (FG n i).2
theorem e_parts_of (n : Nat) : FF (n + 1) I_parts_of = iDef 1 2 (b_parts_of (FF n) (GG n)) := rfl
theorem ar_parts_of : ∀ n : Nat, Ar 1 (FF n I_parts_of)
  | 0 => fun _ _ _ h => nomatch h
  | n + 1 => by rw [e_parts_of]; exact ar_def
theorem e__awaited_parts (n : Nat) : FF (n + 1) I__awaited_parts = iDef 1 1 (b__awaited_parts (FF n) (GG n)) := rfl
theorem ar__awaited_parts : ∀ n : Nat, Ar 1 (FF n I__awaited_parts)
  | 0 => fun _ _ _ h => nomatch h
  | n + 1 => by rw [e__awaited_parts]; exact ar_def
theorem e_signatures (n : Nat) : FF (n + 1) I_signatures = iDef 1 4 (b_signatures (FF n) (GG n)) := rfl
theorem ar_signatures : ∀ n : Nat, Ar 1 (FF n I_signatures)
  | 0 => fun _ _ _ h => nomatch h
  | n + 1 => by rw [e_signatures]; exact ar_def
theorem e_is_list_kind (n : Nat) : FF (n + 1) I_is_list_kind = iDef 1 1 (b_is_list_kind (FF n) (GG n)) := rfl
theorem ar_is_list_kind : ∀ n : Nat, Ar 1 (FF n I_is_list_kind)
  | 0 => fun _ _ _ h => nomatch h
  | n + 1 => by rw [e_is_list_kind]; exact ar_def
theorem e_made_by_sign (n : Nat) : FF (n + 1) I_made_by_sign = iDef 3 3 (b_made_by_sign (FF n) (GG n)) := rfl
theorem ar_made_by_sign : ∀ n : Nat, Ar 3 (FF n I_made_by_sign)
  | 0 => fun _ _ _ h => nomatch h
  | n + 1 => by rw [e_made_by_sign]; exact ar_def
theorem e_made_by_word (n : Nat) : FF (n + 1) I_made_by_word = iDef 2 3 (b_made_by_word (FF n) (GG n)) := rfl
theorem ar_made_by_word : ∀ n : Nat, Ar 2 (FF n I_made_by_word)
  | 0 => fun _ _ _ h => nomatch h
  | n + 1 => by rw [e_made_by_word]; exact ar_def
theorem e_called (n : Nat) : FF (n + 1) I_called = iDef 3 3 (b_called (FF n) (GG n)) := rfl
theorem ar_called : ∀ n : Nat, Ar 3 (FF n I_called)
  | 0 => fun _ _ _ h => nomatch h
  | n + 1 => by rw [e_called]; exact ar_def
theorem e_listed (n : Nat) : FF (n + 1) I_listed = iDef 2 3 (b_listed (FF n) (GG n)) := rfl
theorem ar_listed : ∀ n : Nat, Ar 2 (FF n I_listed)
  | 0 => fun _ _ _ h => nomatch h
  | n + 1 => by rw [e_listed]; exact ar_def
theorem e_type_of_expression (n : Nat) : GG (n + 1) I_type_of_expression = iDefX 3 3 (b_type_of_expression (FF n) (GG n)) := rfl
theorem ar_type_of_expression : ∀ n : Nat, ArX 3 (GG n I_type_of_expression)
  | 0 => fun _ _ _ h => nomatch h
  | n + 1 => by rw [e_type_of_expression]; exact ar_defX
theorem e__kind_of (n : Nat) : GG (n + 1) I__kind_of = iDefX 4 8 (b__kind_of (FF n) (GG n)) := rfl
theorem ar__kind_of : ∀ n : Nat, ArX 4 (GG n I__kind_of)
  | 0 => fun _ _ _ h => nomatch h
  | n + 1 => by rw [e__kind_of]; exact ar_defX
theorem e__made_kind (n : Nat) : FF (n + 1) I__made_kind = iDef 3 4 (b__made_kind (FF n) (GG n)) := rfl
theorem ar__made_kind : ∀ n : Nat, Ar 3 (FF n I__made_kind)
  | 0 => fun _ _ _ h => nomatch h
  | n + 1 => by rw [e__made_kind]; exact ar_def
theorem e__kind_by_sign (n : Nat) : FF (n + 1) I__kind_by_sign = iDef 2 2 (b__kind_by_sign (FF n) (GG n)) := rfl
theorem ar__kind_by_sign : ∀ n : Nat, Ar 2 (FF n I__kind_by_sign)
  | 0 => fun _ _ _ h => nomatch h
  | n + 1 => by rw [e__kind_by_sign]; exact ar_def
theorem e__awaited_kind (n : Nat) : FF (n + 1) I__awaited_kind = iDef 3 3 (b__awaited_kind (FF n) (GG n)) := rfl
theorem ar__awaited_kind : ∀ n : Nat, Ar 3 (FF n I__awaited_kind)
  | 0 => fun _ _ _ h => nomatch h
  | n + 1 => by rw [e__awaited_kind]; exact ar_def
theorem e__law_state (n : Nat) : FF (n + 1) I__law_state = iDef 1 3 (b__law_state (FF n) (GG n)) := rfl
theorem ar__law_state : ∀ n : Nat, Ar 1 (FF n I__law_state)
  | 0 => fun _ _ _ h => nomatch h
  | n + 1 => by rw [e__law_state]; exact ar_def
theorem e__law_draw (n : Nat) : FF (n + 1) I__law_draw = iDef 2 5 (b__law_draw (FF n) (GG n)) := rfl
theorem ar__law_draw : ∀ n : Nat, Ar 2 (FF n I__law_draw)
  | 0 => fun _ _ _ h => nomatch h
  | n + 1 => by rw [e__law_draw]; exact ar_def
theorem e__law_pick (n : Nat) : FF (n + 1) I__law_pick = iDef 2 2 (b__law_pick (FF n) (GG n)) := rfl
theorem ar__law_pick : ∀ n : Nat, Ar 2 (FF n I__law_pick)
  | 0 => fun _ _ _ h => nomatch h
  | n + 1 => by rw [e__law_pick]; exact ar_def
theorem e__law_parts (n : Nat) : FF (n + 1) I__law_parts = iDef 1 2 (b__law_parts (FF n) (GG n)) := rfl
theorem ar__law_parts : ∀ n : Nat, Ar 1 (FF n I__law_parts)
  | 0 => fun _ _ _ h => nomatch h
  | n + 1 => by rw [e__law_parts]; exact ar_def
theorem e__law_is_list (n : Nat) : FF (n + 1) I__law_is_list = iDef 1 1 (b__law_is_list (FF n) (GG n)) := rfl
theorem ar__law_is_list : ∀ n : Nat, Ar 1 (FF n I__law_is_list)
  | 0 => fun _ _ _ h => nomatch h
  | n + 1 => by rw [e__law_is_list]; exact ar_def
theorem e__law_type_of (n : Nat) : FF (n + 1) I__law_type_of = iDef 4 9 (b__law_type_of (FF n) (GG n)) := rfl
theorem ar__law_type_of : ∀ n : Nat, Ar 4 (FF n I__law_type_of)
  | 0 => fun _ _ _ h => nomatch h
  | n + 1 => by rw [e__law_type_of]; exact ar_def
theorem e__law_rule (n : Nat) : FF (n + 1) I__law_rule = iDef 4 8 (b__law_rule (FF n) (GG n)) := rfl
theorem ar__law_rule : ∀ n : Nat, Ar 4 (FF n I__law_rule)
  | 0 => fun _ _ _ h => nomatch h
  | n + 1 => by rw [e__law_rule]; exact ar_def
theorem e__law_sign_rule (n : Nat) : FF (n + 1) I__law_sign_rule = iDef 2 4 (b__law_sign_rule (FF n) (GG n)) := rfl
theorem ar__law_sign_rule : ∀ n : Nat, Ar 2 (FF n I__law_sign_rule)
  | 0 => fun _ _ _ h => nomatch h
  | n + 1 => by rw [e__law_sign_rule]; exact ar_def
theorem e__law_typed (n : Nat) : FF (n + 1) I__law_typed = iDef 4 11 (b__law_typed (FF n) (GG n)) := rfl
theorem ar__law_typed : ∀ n : Nat, Ar 4 (FF n I__law_typed)
  | 0 => fun _ _ _ h => nomatch h
  | n + 1 => by rw [e__law_typed]; exact ar_def
theorem e__law_typed_int (n : Nat) : FF (n + 1) I__law_typed_int = iDef 3 6 (b__law_typed_int (FF n) (GG n)) := rfl
theorem ar__law_typed_int : ∀ n : Nat, Ar 3 (FF n I__law_typed_int)
  | 0 => fun _ _ _ h => nomatch h
  | n + 1 => by rw [e__law_typed_int]; exact ar_def
theorem e__law_typed_bool (n : Nat) : FF (n + 1) I__law_typed_bool = iDef 3 6 (b__law_typed_bool (FF n) (GG n)) := rfl
theorem ar__law_typed_bool : ∀ n : Nat, Ar 3 (FF n I__law_typed_bool)
  | 0 => fun _ _ _ h => nomatch h
  | n + 1 => by rw [e__law_typed_bool]; exact ar_def
theorem e__law_with (n : Nat) : FF (n + 1) I__law_with = iDef 2 3 (b__law_with (FF n) (GG n)) := rfl
theorem ar__law_with : ∀ n : Nat, Ar 2 (FF n I__law_with)
  | 0 => fun _ _ _ h => nomatch h
  | n + 1 => by rw [e__law_with]; exact ar_def
theorem e__law_turned (n : Nat) : FF (n + 1) I__law_turned = iDef 3 6 (b__law_turned (FF n) (GG n)) := rfl
theorem ar__law_turned : ∀ n : Nat, Ar 3 (FF n I__law_turned)
  | 0 => fun _ _ _ h => nomatch h
  | n + 1 => by rw [e__law_turned]; exact ar_def
theorem e_law (n : Nat) : FF (n + 1) I_law = iDef 1 13 (b_law (FF n) (GG n)) := rfl
theorem ar_law : ∀ n : Nat, Ar 1 (FF n I_law)
  | 0 => fun _ _ _ h => nomatch h
  | n + 1 => by rw [e_law]; exact ar_def
/-- what the top has left: the built-ins' names, constants, classes; the defs, each at level n -/
structure Tb (P : Program) (w : World) (K : PySem.W.Frag) (mg : Str → Option Value) (base : Heap) (n : Nat) : Prop where
  z_abs : mg "abs" = none
  z_all : mg "all" = none
  z_enumerate : mg "enumerate" = none
  z_int : mg "int" = none
  z_isinstance : mg "isinstance" = none
  z_len : mg "len" = none
  z_list : mg "list" = none
  z_range : mg "range" = none
  z_repr : mg "repr" = none
  z_sorted : mg "sorted" = none
  z_tuple : mg "tuple" = none
  g_LITERALS : GC K mg "LITERALS" c_LITERALS
  g_OF_ONE_PART : GC K mg "OF_ONE_PART" c_OF_ONE_PART
  g_TRUTH_SIGNS : GC K mg "TRUTH_SIGNS" c_TRUTH_SIGNS
  c_parts_of : CalJ P w K mg base (2 * n + 2) "parts_of" 1 (FF n I_parts_of)
  c__awaited_parts : CalJ P w K mg base (2 * n + 2) "_awaited_parts" 1 (FF n I__awaited_parts)
  c_signatures : CalJ P w K mg base (2 * n + 2) "signatures" 1 (FF n I_signatures)
  c_is_list_kind : CalJ P w K mg base (2 * n + 2) "is_list_kind" 1 (FF n I_is_list_kind)
  c_made_by_sign : CalJ P w K mg base (2 * n + 2) "made_by_sign" 3 (FF n I_made_by_sign)
  c_made_by_word : CalJ P w K mg base (2 * n + 2) "made_by_word" 2 (FF n I_made_by_word)
  c_called : CalJ P w K mg base (2 * n + 2) "called" 3 (FF n I_called)
  c_listed : CalJ P w K mg base (2 * n + 2) "listed" 2 (FF n I_listed)
  c_type_of_expression : CalX P w K mg base (2 * n + 2) "type_of_expression" 3 (GG n I_type_of_expression)
  c__kind_of : CalX P w K mg base (2 * n + 2) "_kind_of" 4 (GG n I__kind_of)
  c__made_kind : CalJ P w K mg base (2 * n + 2) "_made_kind" 3 (FF n I__made_kind)
  c__kind_by_sign : CalJ P w K mg base (2 * n + 2) "_kind_by_sign" 2 (FF n I__kind_by_sign)
  c__awaited_kind : CalJ P w K mg base (2 * n + 2) "_awaited_kind" 3 (FF n I__awaited_kind)
  c__law_state : CalJ P w K mg base (2 * n + 2) "_law_state" 1 (FF n I__law_state)
  c__law_draw : CalJ P w K mg base (2 * n + 2) "_law_draw" 2 (FF n I__law_draw)
  c__law_pick : CalJ P w K mg base (2 * n + 2) "_law_pick" 2 (FF n I__law_pick)
  c__law_parts : CalJ P w K mg base (2 * n + 2) "_law_parts" 1 (FF n I__law_parts)
  c__law_is_list : CalJ P w K mg base (2 * n + 2) "_law_is_list" 1 (FF n I__law_is_list)
  c__law_type_of : CalJ P w K mg base (2 * n + 2) "_law_type_of" 4 (FF n I__law_type_of)
  c__law_rule : CalJ P w K mg base (2 * n + 2) "_law_rule" 4 (FF n I__law_rule)
  c__law_sign_rule : CalJ P w K mg base (2 * n + 2) "_law_sign_rule" 2 (FF n I__law_sign_rule)
  c__law_typed : CalJ P w K mg base (2 * n + 2) "_law_typed" 4 (FF n I__law_typed)
  c__law_typed_int : CalJ P w K mg base (2 * n + 2) "_law_typed_int" 3 (FF n I__law_typed_int)
  c__law_typed_bool : CalJ P w K mg base (2 * n + 2) "_law_typed_bool" 3 (FF n I__law_typed_bool)
  c__law_with : CalJ P w K mg base (2 * n + 2) "_law_with" 2 (FF n I__law_with)
  c__law_turned : CalJ P w K mg base (2 * n + 2) "_law_turned" 3 (FF n I__law_turned)
  r_CheckError : RaiH P w K mg base 1 "CheckError" "place" (okTup K)
  h_CheckError : CatJ K mg "CheckError"
  at_CheckError_place : AtJ K "CheckError" "place"
  is_CheckError_FlowError : IsJ K mg "CheckError" "FlowError" true
section
variable {P : Program} {w : World} {K : PySem.W.Frag} {mg : Str → Option Value} {base : Heap} {n : Nat}
theorem k_parts_of (T : Tb P w K mg base n) {f : Addr} (cdv : Value) (A : Around) (outer : List PySem.Env) (s : Shared) (H : Hp) (E : XK) (hr : Room (2 * n + 3) (A.deeper (envOfC "parts_of" (C8.fnScope s_parts_of) s.heap.objs.size f cdv))) :
    PSs (cxOf CX0 P w K mg base ["tree", "word"] "parts_of" (C8.fnScope s_parts_of) f cdv A outer s H E).nox (C8.fnBody s_parts_of) (tIS K W0 (b_parts_of (FF n) (GG n))) :=
  have nd := sc_parts_of.nd
  have hu := hu_of hr
  have hv : (A.deeper (envOfC "parts_of" (C8.fnScope s_parts_of) s.heap.objs.size f cdv)).units + 65 < cLine := by have := hr.un; omega
  (s_cons (s_set (i := 1) nd rfl (by first | exact .inl rfl | exact .inr rfl) (r_subB hu (r_var (i := 0) rfl (by first | exact .inl rfl | exact .inr (.inl rfl) | exact .inr (.inr rfl))) r_int (fun _ _ => rfl))) (s_cons (s_if (r_cmpT (op_inE hv) f_inE (r_var (i := 1) rfl (by first | exact .inl rfl | exact .inr (.inl rfl) | exact .inr (.inr rfl))) (r_glob rfl T.g_OF_ONE_PART) (by with_unfolding_all rfl)) (s_one (s_ret (r_new (r_lst (a_cons (r_subB hu (r_var (i := 0) rfl (by first | exact .inl rfl | exact .inr (.inl rfl) | exact .inr (.inr rfl))) r_int (fun _ _ => rfl)) a_nil))))) s_nil) (s_cons (s_if (r_cmpT (op_eqB hv) f_eqB (r_var (i := 1) rfl (by first | exact .inl rfl | exact .inr (.inl rfl) | exact .inr (.inr rfl))) r_str (nomark _)) (s_one (s_ret (r_new (r_lst (a_cons (r_subB hu (r_var (i := 0) rfl (by first | exact .inl rfl | exact .inr (.inl rfl) | exact .inr (.inr rfl))) r_int (fun _ _ => rfl)) (a_cons (r_subB hu (r_var (i := 0) rfl (by first | exact .inl rfl | exact .inr (.inl rfl) | exact .inr (.inr rfl))) r_int (fun _ _ => rfl)) a_nil)))))) s_nil) (s_cons (s_if (r_cmpT (op_eqB hv) f_eqB (r_var (i := 1) rfl (by first | exact .inl rfl | exact .inr (.inl rfl) | exact .inr (.inr rfl))) r_str (nomark _)) (s_one (s_ret (r_new (r_lst (a_cons (r_subB hu (r_var (i := 0) rfl (by first | exact .inl rfl | exact .inr (.inl rfl) | exact .inr (.inr rfl))) r_int (fun _ _ => rfl)) (a_cons (r_subB hu (r_var (i := 0) rfl (by first | exact .inl rfl | exact .inr (.inl rfl) | exact .inr (.inr rfl))) r_int (fun _ _ => rfl)) a_nil)))))) s_nil) (s_cons (s_if (r_cmpT (op_inE hv) f_inE (r_var (i := 1) rfl (by first | exact .inl rfl | exact .inr (.inl rfl) | exact .inr (.inr rfl))) (r_tup (a_cons r_str (a_cons r_str a_nil))) (by with_unfolding_all rfl)) (s_one (s_ret (r_new (r_callTy call_list_of f_list rfl T.z_list (by decide +kernel) (a_cons (r_subB hu (r_var (i := 0) rfl (by first | exact .inl rfl | exact .inr (.inl rfl) | exact .inr (.inr rfl))) r_int (fun _ _ => rfl)) a_nil))))) s_nil) (s_cons (s_if (r_cmpT (op_eqB hv) f_eqB (r_var (i := 1) rfl (by first | exact .inl rfl | exact .inr (.inl rfl) | exact .inr (.inr rfl))) r_str (nomark _)) (s_one (s_ret (j_call T.c__awaited_parts (ar__awaited_parts _) hr (Nat.le_succ _) rfl (a_cons (r_var (i := 0) rfl (by first | exact .inl rfl | exact .inr (.inl rfl) | exact .inr (.inr rfl))) a_nil)))) s_nil) (s_one (s_ret (r_new (r_lst a_nil))))))))))
theorem k__awaited_parts (T : Tb P w K mg base n) {f : Addr} (cdv : Value) (A : Around) (outer : List PySem.Env) (s : Shared) (H : Hp) (E : XK) (hr : Room (2 * n + 3) (A.deeper (envOfC "_awaited_parts" (C8.fnScope s__awaited_parts) s.heap.objs.size f cdv))) :
    PSs (cxOf CX0 P w K mg base ["tree"] "_awaited_parts" (C8.fnScope s__awaited_parts) f cdv A outer s H E).nox (C8.fnBody s__awaited_parts) (tIS K W0 (b__awaited_parts (FF n) (GG n))) :=
  have nd := sc__awaited_parts.nd
  have hu := hu_of hr
  have hv : (A.deeper (envOfC "_awaited_parts" (C8.fnScope s__awaited_parts) s.heap.objs.size f cdv)).units + 65 < cLine := by have := hr.un; omega
  (s_cons (s_if (r_cmpT (op_eqB hv) f_eqB (r_subB hu (r_var (i := 0) rfl (by first | exact .inl rfl | exact .inr (.inl rfl) | exact .inr (.inr rfl))) r_int (fun _ _ => rfl)) r_str (nomark _)) (s_one (s_ret (r_new (r_lst (a_cons (r_subB hu (r_var (i := 0) rfl (by first | exact .inl rfl | exact .inr (.inl rfl) | exact .inr (.inr rfl))) r_int (fun _ _ => rfl)) a_nil))))) s_nil) (s_cons (s_if (r_cmpT (op_eqB hv) f_eqB (r_subB hu (r_var (i := 0) rfl (by first | exact .inl rfl | exact .inr (.inl rfl) | exact .inr (.inr rfl))) r_int (fun _ _ => rfl)) r_str (nomark _)) (s_one (s_ret (r_new (r_lst (a_cons (r_subB hu (r_var (i := 0) rfl (by first | exact .inl rfl | exact .inr (.inl rfl) | exact .inr (.inr rfl))) r_int (fun _ _ => rfl)) a_nil))))) s_nil) (s_cons (s_if (r_cmpT (op_eqB hv) f_eqB (r_subB hu (r_var (i := 0) rfl (by first | exact .inl rfl | exact .inr (.inl rfl) | exact .inr (.inr rfl))) r_int (fun _ _ => rfl)) r_str (nomark _)) (s_one (s_ret (r_new (r_callTy call_list_of f_list rfl T.z_list (by decide +kernel) (a_cons (r_subB hu (r_var (i := 0) rfl (by first | exact .inl rfl | exact .inr (.inl rfl) | exact .inr (.inr rfl))) r_int (fun _ _ => rfl)) a_nil))))) s_nil) (s_one (s_ret (r_new (r_lst a_nil)))))))
theorem k_signatures (T : Tb P w K mg base n) {f : Addr} (cdv : Value) (A : Around) (outer : List PySem.Env) (s : Shared) (H : Hp) (E : XK) (hr : Room (2 * n + 3) (A.deeper (envOfC "signatures" (C8.fnScope s_signatures) s.heap.objs.size f cdv))) :
    PSs (cxOf CX0 P w K mg base ["program", "function", "_", "kind"] "signatures" (C8.fnScope s_signatures) f cdv A outer s H E).nox (C8.fnBody s_signatures) (tIS K W0 (b_signatures (FF n) (GG n))) :=
  have nd := sc_signatures.nd
  have hu := hu_of hr
  have hv : (A.deeper (envOfC "signatures" (C8.fnScope s_signatures) s.heap.objs.size f cdv)).units + 65 < cLine := by have := hr.un; omega
  (s_one (s_ret (r_new (r_dc (own := [("function", 1)]) rfl nd (i_walk (r_var (i := 0) rfl (by first | exact .inl rfl | exact .inr (.inl rfl) | exact .inr (.inr rfl)))) (by first | exact blkOk_by (N := ["program", "function", "_", "kind"]) (sc := C8.fnScope s_signatures) (by decide +kernel) | exact blkOk_by rfl | exact blkOk_by (by with_unfolding_all rfl)) (by decide) (fun _ _ _ _ _ => (g_name (i := 1) nd rfl (by first | exact .inl rfl | exact .inr rfl))) (fun _ _ _ _ _ => t_yes) (fun _ _ _ _ _ => (r_subB hu (r_var (i := 1) rfl (by first | exact .inl rfl | exact .inr (.inl rfl) | exact .inr (.inr rfl))) r_int (fun _ _ => rfl))) (fun _ _ _ _ _ => (r_tup (a_cons (r_new (r_lc (own := [("_", 2), ("kind", 3)]) rfl nd (i_walk (r_subB hu (r_var (i := 1) rfl (by first | exact .inl rfl | exact .inr (.inl rfl) | exact .inr (.inr rfl))) r_int (fun _ _ => rfl))) (by first | exact blkOk_by (N := ["program", "function", "_", "kind"]) (sc := C8.fnScope s_signatures) (by decide +kernel) | exact blkOk_by rfl | exact blkOk_by (by with_unfolding_all rfl)) (by decide) (fun _ _ _ _ _ => (g_tup rfl (gs_cons (g_name (i := 2) nd rfl (by first | exact .inl rfl | exact .inr rfl)) (gs_cons (g_name (i := 3) nd rfl (by first | exact .inl rfl | exact .inr rfl)) gs_nil)))) (fun _ _ _ _ _ => t_yes) (fun _ _ _ _ _ => (r_var (i := 3) rfl (by first | exact .inl rfl | exact .inr (.inl rfl) | exact .inr (.inr rfl)))))) (a_cons (r_subB hu (r_var (i := 1) rfl (by first | exact .inl rfl | exact .inr (.inl rfl) | exact .inr (.inr rfl))) r_int (fun _ _ => rfl)) a_nil))))))))
theorem k_is_list_kind (T : Tb P w K mg base n) {f : Addr} (cdv : Value) (A : Around) (outer : List PySem.Env) (s : Shared) (H : Hp) (E : XK) (hr : Room (2 * n + 3) (A.deeper (envOfC "is_list_kind" (C8.fnScope s_is_list_kind) s.heap.objs.size f cdv))) :
    PSs (cxOf CX0 P w K mg base ["kind"] "is_list_kind" (C8.fnScope s_is_list_kind) f cdv A outer s H E).nox (C8.fnBody s_is_list_kind) (tIS K W0 (b_is_list_kind (FF n) (GG n))) :=
  have nd := sc_is_list_kind.nd
  have hu := hu_of hr
  have hv : (A.deeper (envOfC "is_list_kind" (C8.fnScope s_is_list_kind) s.heap.objs.size f cdv)).units + 65 < cLine := by have := hr.un; omega
  (s_one (s_ret (r_callB call_isi f_isi rfl T.z_isinstance (by decide +kernel) (a_cons (r_var (i := 0) rfl (by first | exact .inl rfl | exact .inr (.inl rfl) | exact .inr (.inr rfl))) (a_cons (r_ty rfl T.z_tuple (by decide +kernel)) a_nil)))))
theorem k_made_by_sign (T : Tb P w K mg base n) {f : Addr} (cdv : Value) (A : Around) (outer : List PySem.Env) (s : Shared) (H : Hp) (E : XK) (hr : Room (2 * n + 3) (A.deeper (envOfC "made_by_sign" (C8.fnScope s_made_by_sign) s.heap.objs.size f cdv))) :
    PSs (cxOf CX0 P w K mg base ["sign", "one", "other"] "made_by_sign" (C8.fnScope s_made_by_sign) f cdv A outer s H E).nox (C8.fnBody s_made_by_sign) (tIS K W0 (b_made_by_sign (FF n) (GG n))) :=
  have nd := sc_made_by_sign.nd
  have hu := hu_of hr
  have hv : (A.deeper (envOfC "made_by_sign" (C8.fnScope s_made_by_sign) s.heap.objs.size f cdv)).units + 65 < cLine := by have := hr.un; omega
  (s_cons (s_if (r_cmpT (op_inE hv) f_inE (r_var (i := 0) rfl (by first | exact .inl rfl | exact .inr (.inl rfl) | exact .inr (.inr rfl))) (r_tup (a_cons r_str (a_cons r_str (a_cons r_str (a_cons r_str a_nil))))) (by with_unfolding_all rfl)) (s_one (s_ret (r_ifExp (r_chainT (op_eqB hv) f_eqB (op_eqB hv) f_eqB (r_var (i := 1) rfl (by first | exact .inl rfl | exact .inr (.inl rfl) | exact .inr (.inr rfl))) (r_var (i := 2) rfl (by first | exact .inl rfl | exact .inr (.inl rfl) | exact .inr (.inr rfl))) r_str) r_str r_non))) s_nil) (s_cons (s_if (r_cmpT (op_neB hv) f_neB (r_var (i := 1) rfl (by first | exact .inl rfl | exact .inr (.inl rfl) | exact .inr (.inr rfl))) (r_var (i := 2) rfl (by first | exact .inl rfl | exact .inr (.inl rfl) | exact .inr (.inr rfl))) (nomark _)) (s_one (s_ret r_non)) s_nil) (s_cons (s_if (r_cmpT (op_eqB hv) f_eqB (r_var (i := 0) rfl (by first | exact .inl rfl | exact .inr (.inl rfl) | exact .inr (.inr rfl))) r_str (nomark _)) (s_one (s_ret (r_ifExp (PW.pt (w_or (r_cmpT (op_eqB hv) f_eqB (r_var (i := 1) rfl (by first | exact .inl rfl | exact .inr (.inl rfl) | exact .inr (.inr rfl))) r_str (nomark _)) (w_or1 (r_truth (j_call T.c_is_list_kind (ar_is_list_kind _) hr (Nat.le_succ _) rfl (a_cons (r_var (i := 1) rfl (by first | exact .inl rfl | exact .inr (.inl rfl) | exact .inr (.inr rfl))) a_nil)) (by intro _; rfl))))) (r_var (i := 1) rfl (by first | exact .inl rfl | exact .inr (.inl rfl) | exact .inr (.inr rfl))) r_non))) s_nil) (s_cons (s_if (r_cmpT (op_inE hv) f_inE (r_var (i := 0) rfl (by first | exact .inl rfl | exact .inr (.inl rfl) | exact .inr (.inr rfl))) (r_tup (a_cons r_str (a_cons r_str a_nil))) (by with_unfolding_all rfl)) (s_one (s_ret (r_ifExp (r_cmpT (op_inE hv) f_inE (r_var (i := 1) rfl (by first | exact .inl rfl | exact .inr (.inl rfl) | exact .inr (.inr rfl))) (r_tup (a_cons r_str (a_cons r_str a_nil))) (by with_unfolding_all rfl)) r_str r_non))) s_nil) (s_one (s_ret r_str))))))
theorem k_made_by_word (T : Tb P w K mg base n) {f : Addr} (cdv : Value) (A : Around) (outer : List PySem.Env) (s : Shared) (H : Hp) (E : XK) (hr : Room (2 * n + 3) (A.deeper (envOfC "made_by_word" (C8.fnScope s_made_by_word) s.heap.objs.size f cdv))) :
    PSs (cxOf CX0 P w K mg base ["word", "kinds", "one"] "made_by_word" (C8.fnScope s_made_by_word) f cdv A outer s H E).nox (C8.fnBody s_made_by_word) (tIS K W0 (b_made_by_word (FF n) (GG n))) :=
  have nd := sc_made_by_word.nd
  have hu := hu_of hr
  have hv : (A.deeper (envOfC "made_by_word" (C8.fnScope s_made_by_word) s.heap.objs.size f cdv)).units + 65 < cLine := by have := hr.un; omega
  (s_cons (s_set (i := 2) nd rfl (by first | exact .inl rfl | exact .inr rfl) (r_subB hu (r_var (i := 1) rfl (by first | exact .inl rfl | exact .inr (.inl rfl) | exact .inr (.inr rfl))) r_int (fun _ _ => rfl))) (s_cons (s_if (r_cmpT (op_eqB hv) f_eqB (r_var (i := 0) rfl (by first | exact .inl rfl | exact .inr (.inl rfl) | exact .inr (.inr rfl))) r_str (nomark _)) (s_one (s_ret (r_ifExp (r_cmpT (op_eqB hv) f_eqB (r_var (i := 2) rfl (by first | exact .inl rfl | exact .inr (.inl rfl) | exact .inr (.inr rfl))) r_str (nomark _)) r_str r_non))) s_nil) (s_cons (s_if (r_cmpT (op_eqB hv) f_eqB (r_var (i := 0) rfl (by first | exact .inl rfl | exact .inr (.inl rfl) | exact .inr (.inr rfl))) r_str (nomark _)) (s_one (s_ret (r_ifExp (r_cmpT (op_eqB hv) f_eqB (r_var (i := 2) rfl (by first | exact .inl rfl | exact .inr (.inl rfl) | exact .inr (.inr rfl))) r_str (nomark _)) r_str r_non))) s_nil) (s_cons (s_if (r_cmpT (op_eqB hv) f_eqB (r_var (i := 0) rfl (by first | exact .inl rfl | exact .inr (.inl rfl) | exact .inr (.inr rfl))) r_str (nomark _)) (s_one (s_ret (r_ifExp (PW.pt (w_or (r_cmpT (op_eqB hv) f_eqB (r_var (i := 2) rfl (by first | exact .inl rfl | exact .inr (.inl rfl) | exact .inr (.inr rfl))) r_str (nomark _)) (w_or1 (r_truth (j_call T.c_is_list_kind (ar_is_list_kind _) hr (Nat.le_succ _) rfl (a_cons (r_var (i := 2) rfl (by first | exact .inl rfl | exact .inr (.inl rfl) | exact .inr (.inr rfl))) a_nil)) (by intro _; rfl))))) r_str r_non))) s_nil) (s_cons (s_if (r_cmpT (op_eqB hv) f_eqB (r_var (i := 0) rfl (by first | exact .inl rfl | exact .inr (.inl rfl) | exact .inr (.inr rfl))) r_str (nomark _)) (s_one (s_ret (r_ifExp (r_cmpT (op_inE hv) f_inE (r_var (i := 2) rfl (by first | exact .inl rfl | exact .inr (.inl rfl) | exact .inr (.inr rfl))) (r_tup (a_cons r_str (a_cons r_str a_nil))) (by with_unfolding_all rfl)) r_str r_non))) s_nil) (s_one (s_ret (r_ifExp (PW.pt (w_and (r_truth (j_call T.c_is_list_kind (ar_is_list_kind _) hr (Nat.le_succ _) rfl (a_cons (r_var (i := 2) rfl (by first | exact .inl rfl | exact .inr (.inl rfl) | exact .inr (.inr rfl))) a_nil)) (by intro _; rfl)) (w_and1 (r_cmpT (op_eqB hv) f_eqB (r_subB hu (r_var (i := 1) rfl (by first | exact .inl rfl | exact .inr (.inl rfl) | exact .inr (.inr rfl))) r_int (fun _ _ => rfl)) r_str (nomark _))))) (r_subB hu (r_var (i := 2) rfl (by first | exact .inl rfl | exact .inr (.inl rfl) | exact .inr (.inr rfl))) r_int (fun _ _ => rfl)) r_non))))))))
theorem k_called (T : Tb P w K mg base n) {f : Addr} (cdv : Value) (A : Around) (outer : List PySem.Env) (s : Shared) (H : Hp) (E : XK) (hr : Room (2 * n + 3) (A.deeper (envOfC "called" (C8.fnScope s_called) s.heap.objs.size f cdv))) :
    PSs (cxOf CX0 P w K mg base ["name", "kinds", "signatures"] "called" (C8.fnScope s_called) f cdv A outer s H E).nox (C8.fnBody s_called) (tIS K W0 (b_called (FF n) (GG n))) :=
  have nd := sc_called.nd
  have hu := hu_of hr
  have hv : (A.deeper (envOfC "called" (C8.fnScope s_called) s.heap.objs.size f cdv)).units + 65 < cLine := by have := hr.un; omega
  (s_cons (s_if (PW.pt (w_or (r_cmpT (op_notInAll hu) f_notInB (r_var (i := 0) rfl (by first | exact .inl rfl | exact .inr (.inl rfl) | exact .inr (.inr rfl))) (r_var (i := 2) rfl (by first | exact .inl rfl | exact .inr (.inl rfl) | exact .inr (.inr rfl))) (by with_unfolding_all rfl)) (w_or1 (r_cmpT (op_neB hv) f_neB (r_subB hu (r_subB hu (r_var (i := 2) rfl (by first | exact .inl rfl | exact .inr (.inl rfl) | exact .inr (.inr rfl))) (r_var (i := 0) rfl (by first | exact .inl rfl | exact .inr (.inl rfl) | exact .inr (.inr rfl))) (fun _ _ => rfl)) r_int (fun _ _ => rfl)) (r_new (r_callTy call_list_of f_list rfl T.z_list (by decide +kernel) (a_cons (r_var (i := 1) rfl (by first | exact .inl rfl | exact .inr (.inl rfl) | exact .inr (.inr rfl))) a_nil))) (nomark _))))) (s_one (s_ret r_non)) s_nil) (s_one (s_ret (r_subB hu (r_subB hu (r_var (i := 2) rfl (by first | exact .inl rfl | exact .inr (.inl rfl) | exact .inr (.inr rfl))) (r_var (i := 0) rfl (by first | exact .inl rfl | exact .inr (.inl rfl) | exact .inr (.inr rfl))) (fun _ _ => rfl)) r_int (fun _ _ => rfl)))))
theorem k_listed (T : Tb P w K mg base n) {f : Addr} (cdv : Value) (A : Around) (outer : List PySem.Env) (s : Shared) (H : Hp) (E : XK) (hr : Room (2 * n + 3) (A.deeper (envOfC "listed" (C8.fnScope s_listed) s.heap.objs.size f cdv))) :
    PSs (cxOf CX0 P w K mg base ["kind", "kinds", "one"] "listed" (C8.fnScope s_listed) f cdv A outer s H E).nox (C8.fnBody s_listed) (tIS K W0 (b_listed (FF n) (GG n))) :=
  have nd := sc_listed.nd
  have hu := hu_of hr
  have hv : (A.deeper (envOfC "listed" (C8.fnScope s_listed) s.heap.objs.size f cdv)).units + 65 < cLine := by have := hr.un; omega
  (s_one (s_ret (r_ifExp (r_truth (r_callB (cr_all rfl) f_all rfl T.z_all (by decide +kernel) (a_cons (r_new (r_lc (own := [("one", 2)]) rfl nd (i_walk (r_var (i := 1) rfl (by first | exact .inl rfl | exact .inr (.inl rfl) | exact .inr (.inr rfl)))) (by first | exact blkOk_by (N := ["kind", "kinds", "one"]) (sc := C8.fnScope s_listed) (by decide +kernel) | exact blkOk_by rfl | exact blkOk_by (by with_unfolding_all rfl)) (by decide) (fun _ _ _ _ _ => (g_name (i := 2) nd rfl (by first | exact .inl rfl | exact .inr rfl))) (fun _ _ _ _ _ => t_yes) (fun _ _ _ _ _ => (r_cmp (op_eqB hv) f_eqB (r_var (i := 2) rfl (by first | exact .inl rfl | exact .inr (.inl rfl) | exact .inr (.inr rfl))) (r_var (i := 0) rfl (by first | exact .inl rfl | exact .inr (.inl rfl) | exact .inr (.inr rfl))) (nomark _))))) a_nil)) (by intro _; rfl)) (r_tup (a_cons r_str (a_cons (r_var (i := 0) rfl (by first | exact .inl rfl | exact .inr (.inl rfl) | exact .inr (.inr rfl))) a_nil))) r_non)))
theorem k_type_of_expression (T : Tb P w K mg base n) {f : Addr} (cdv : Value) (A : Around) (outer : List PySem.Env) (s : Shared) (H : Hp) (E : XK) (hr : Room (2 * n + 3) (A.deeper (envOfC "type_of_expression" (C8.fnScope s_type_of_expression) s.heap.objs.size f cdv))) (tk : L2N.Takes (cxOf (L2N.CX P w) P w K mg base ["program", "names", "tree"] "type_of_expression" (C8.fnScope s_type_of_expression) f cdv A outer s H E) (WC E)) :
    PSs (cxOf (L2N.CX P w) P w K mg base ["program", "names", "tree"] "type_of_expression" (C8.fnScope s_type_of_expression) f cdv A outer s H E) (C8.fnBody s_type_of_expression) (tIS K (WC E) (b_type_of_expression (FF n) (GG n))) :=
  have nd := sc_type_of_expression.nd
  have hu := hu_of hr
  have hv : (A.deeper (envOfC "type_of_expression" (C8.fnScope s_type_of_expression) s.heap.objs.size f cdv)).units + 65 < cLine := by have := hr.un; omega
  (s_one (s_retX (x_call T.c__kind_of (ar__kind_of _) hr (Nat.le_succ _) rfl tk (a_cons (j_call T.c_signatures (ar_signatures _) hr (Nat.le_succ _) rfl (a_cons (r_var (i := 0) rfl (by first | exact .inl rfl | exact .inr (.inl rfl) | exact .inr (.inr rfl))) a_nil)) (a_cons (r_var (i := 1) rfl (by first | exact .inl rfl | exact .inr (.inl rfl) | exact .inr (.inr rfl))) (a_cons (r_var (i := 2) rfl (by first | exact .inl rfl | exact .inr (.inl rfl) | exact .inr (.inr rfl))) (a_cons (r_tup (a_cons r_int a_nil)) a_nil)))))))
theorem k__kind_of (T : Tb P w K mg base n) {f : Addr} (cdv : Value) (A : Around) (outer : List PySem.Env) (s : Shared) (H : Hp) (E : XK) (hr : Room (2 * n + 3) (A.deeper (envOfC "_kind_of" (C8.fnScope s__kind_of) s.heap.objs.size f cdv))) (tk : L2N.Takes (cxOf (L2N.CX P w) P w K mg base ["sorts", "names", "tree", "place", "kinds", "kind", "k", "part"] "_kind_of" (C8.fnScope s__kind_of) f cdv A outer s H E) (WC E)) :
    PSs (cxOf (L2N.CX P w) P w K mg base ["sorts", "names", "tree", "place", "kinds", "kind", "k", "part"] "_kind_of" (C8.fnScope s__kind_of) f cdv A outer s H E) (C8.fnBody s__kind_of) (tIS K (WC E) (b__kind_of (FF n) (GG n))) :=
  have nd := sc__kind_of.nd
  have hu := hu_of hr
  have hv : (A.deeper (envOfC "_kind_of" (C8.fnScope s__kind_of) s.heap.objs.size f cdv)).units + 65 < cLine := by have := hr.un; omega
  (s_cons (s_setLcX (i := 4) rfl rfl (sw_true rfl rfl rfl (by decide +kernel)) (own := [("k", 6), ("part", 7)]) rfl rfl rfl tk nd (i_enum rfl T.z_enumerate (a_cons (j_call T.c_parts_of (ar_parts_of _) hr (Nat.le_succ _) rfl (a_cons (r_var (i := 2) rfl (by first | exact .inl rfl | exact .inr (.inl rfl) | exact .inr (.inr rfl))) a_nil)) a_nil)) (by first | exact blkOk_by (N := ["sorts", "names", "tree", "place", "kinds", "kind", "k", "part"]) (sc := C8.fnScope s__kind_of) (by decide +kernel) | exact blkOk_by rfl | exact blkOk_by (by with_unfolding_all rfl)) (by decide) (fun _ _ _ _ _ _ => (g_tup rfl (gs_cons (g_name (i := 6) nd rfl (by first | exact .inl rfl | exact .inr rfl)) (gs_cons (g_name (i := 7) nd rfl (by first | exact .inl rfl | exact .inr rfl)) gs_nil)))) (fun _ _ _ _ _ _ => t_yes) (fun _ _ _ _ _ _ _ fl => (x_callF T.c__kind_of (ar__kind_of _) hr (Nat.le_succ _) rfl fl (a_cons (r_var (i := 0) rfl (by first | exact .inl rfl | exact .inr (.inl rfl) | exact .inr (.inr rfl))) (a_cons (r_var (i := 1) rfl (by first | exact .inl rfl | exact .inr (.inl rfl) | exact .inr (.inr rfl))) (a_cons (r_var (i := 7) rfl (by first | exact .inl rfl | exact .inr (.inl rfl) | exact .inr (.inr rfl))) (a_cons (r_op op_addI f_add (r_var (i := 3) rfl (by first | exact .inl rfl | exact .inr (.inl rfl) | exact .inr (.inr rfl))) (r_tup (a_cons (r_var (i := 6) rfl (by first | exact .inl rfl | exact .inr (.inl rfl) | exact .inr (.inr rfl))) a_nil))) a_nil))))))) (s_cons (s_set (i := 5) nd rfl (by first | exact .inl rfl | exact .inr rfl) (r_ifExp (r_cmpT (op_eqB hv) f_eqB (r_subB hu (r_var (i := 2) rfl (by first | exact .inl rfl | exact .inr (.inl rfl) | exact .inr (.inr rfl))) r_int (fun _ _ => rfl)) r_str (nomark _)) (r_get1 hu (r_var (i := 1) rfl (by first | exact .inl rfl | exact .inr (.inl rfl) | exact .inr (.inr rfl))) (r_subB hu (r_var (i := 2) rfl (by first | exact .inl rfl | exact .inr (.inl rfl) | exact .inr (.inr rfl))) r_int (fun _ _ => rfl)) ⟨rfl, rfl, rfl, rfl⟩) (j_call T.c__made_kind (ar__made_kind _) hr (Nat.le_succ _) rfl (a_cons (r_var (i := 0) rfl (by first | exact .inl rfl | exact .inr (.inl rfl) | exact .inr (.inr rfl))) (a_cons (r_var (i := 2) rfl (by first | exact .inl rfl | exact .inr (.inl rfl) | exact .inr (.inr rfl))) (a_cons (r_var (i := 4) rfl (by first | exact .inl rfl | exact .inr (.inl rfl) | exact .inr (.inr rfl))) a_nil)))))) (s_cons (s_if (r_cmpT op_isA f_is (r_var (i := 5) rfl (by first | exact .inl rfl | exact .inr (.inl rfl) | exact .inr (.inr rfl))) r_non (nomark _)) (s_one (s_raiseH T.r_CheckError (fun _ _ _ _ h r => okPT_ok h r) hr (by omega) rfl rfl tk (r_var (i := 3) rfl (by first | exact .inl rfl | exact .inr (.inl rfl) | exact .inr (.inr rfl))))) s_nil) (s_one (s_ret (r_var (i := 5) rfl (by first | exact .inl rfl | exact .inr (.inl rfl) | exact .inr (.inr rfl))))))))
theorem k__made_kind (T : Tb P w K mg base n) {f : Addr} (cdv : Value) (A : Around) (outer : List PySem.Env) (s : Shared) (H : Hp) (E : XK) (hr : Room (2 * n + 3) (A.deeper (envOfC "_made_kind" (C8.fnScope s__made_kind) s.heap.objs.size f cdv))) :
    PSs (cxOf CX0 P w K mg base ["sorts", "tree", "kinds", "word"] "_made_kind" (C8.fnScope s__made_kind) f cdv A outer s H E).nox (C8.fnBody s__made_kind) (tIS K W0 (b__made_kind (FF n) (GG n))) :=
  have nd := sc__made_kind.nd
  have hu := hu_of hr
  have hv : (A.deeper (envOfC "_made_kind" (C8.fnScope s__made_kind) s.heap.objs.size f cdv)).units + 65 < cLine := by have := hr.un; omega
  (s_cons (s_set (i := 3) nd rfl (by first | exact .inl rfl | exact .inr rfl) (r_subB hu (r_var (i := 1) rfl (by first | exact .inl rfl | exact .inr (.inl rfl) | exact .inr (.inr rfl))) r_int (fun _ _ => rfl))) (s_cons (s_if (r_cmpT (op_inE hv) f_inE (r_var (i := 3) rfl (by first | exact .inl rfl | exact .inr (.inl rfl) | exact .inr (.inr rfl))) (r_glob rfl T.g_LITERALS) (by with_unfolding_all rfl)) (s_one (s_ret (r_var (i := 3) rfl (by first | exact .inl rfl | exact .inr (.inl rfl) | exact .inr (.inr rfl))))) s_nil) (s_cons (s_if (r_cmpT (op_eqB hv) f_eqB (r_var (i := 3) rfl (by first | exact .inl rfl | exact .inr (.inl rfl) | exact .inr (.inr rfl))) r_str (nomark _)) (s_one (s_ret (j_call T.c__kind_by_sign (ar__kind_by_sign _) hr (Nat.le_succ _) rfl (a_cons (r_subB hu (r_var (i := 1) rfl (by first | exact .inl rfl | exact .inr (.inl rfl) | exact .inr (.inr rfl))) r_int (fun _ _ => rfl)) (a_cons (r_var (i := 2) rfl (by first | exact .inl rfl | exact .inr (.inl rfl) | exact .inr (.inr rfl))) a_nil))))) s_nil) (s_cons (s_if (r_cmpT (op_eqB hv) f_eqB (r_var (i := 3) rfl (by first | exact .inl rfl | exact .inr (.inl rfl) | exact .inr (.inr rfl))) r_str (nomark _)) (s_one (s_ret (j_call T.c_listed (ar_listed _) hr (Nat.le_succ _) rfl (a_cons (r_subB hu (r_var (i := 1) rfl (by first | exact .inl rfl | exact .inr (.inl rfl) | exact .inr (.inr rfl))) r_int (fun _ _ => rfl)) (a_cons (r_var (i := 2) rfl (by first | exact .inl rfl | exact .inr (.inl rfl) | exact .inr (.inr rfl))) a_nil))))) s_nil) (s_cons (s_if (r_cmpT (op_eqB hv) f_eqB (r_var (i := 3) rfl (by first | exact .inl rfl | exact .inr (.inl rfl) | exact .inr (.inr rfl))) r_str (nomark _)) (s_one (s_ret (j_call T.c_called (ar_called _) hr (Nat.le_succ _) rfl (a_cons (r_subB hu (r_var (i := 1) rfl (by first | exact .inl rfl | exact .inr (.inl rfl) | exact .inr (.inr rfl))) r_int (fun _ _ => rfl)) (a_cons (r_var (i := 2) rfl (by first | exact .inl rfl | exact .inr (.inl rfl) | exact .inr (.inr rfl))) (a_cons (r_var (i := 0) rfl (by first | exact .inl rfl | exact .inr (.inl rfl) | exact .inr (.inr rfl))) a_nil)))))) s_nil) (s_cons (s_if (r_cmpT (op_eqB hv) f_eqB (r_var (i := 3) rfl (by first | exact .inl rfl | exact .inr (.inl rfl) | exact .inr (.inr rfl))) r_str (nomark _)) (s_one (s_ret r_str)) s_nil) (s_cons (s_if (r_cmpT (op_eqB hv) f_eqB (r_var (i := 3) rfl (by first | exact .inl rfl | exact .inr (.inl rfl) | exact .inr (.inr rfl))) r_str (nomark _)) (s_one (s_ret (r_ifExp (r_cmpT (op_eqB hv) f_eqB (r_subB hu (r_var (i := 2) rfl (by first | exact .inl rfl | exact .inr (.inl rfl) | exact .inr (.inr rfl))) r_int (fun _ _ => rfl)) r_str (nomark _)) r_str r_non))) s_nil) (s_cons (s_if (r_cmpT (op_eqB hv) f_eqB (r_var (i := 3) rfl (by first | exact .inl rfl | exact .inr (.inl rfl) | exact .inr (.inr rfl))) r_str (nomark _)) (s_one (s_ret (j_call T.c__awaited_kind (ar__awaited_kind _) hr (Nat.le_succ _) rfl (a_cons (r_var (i := 0) rfl (by first | exact .inl rfl | exact .inr (.inl rfl) | exact .inr (.inr rfl))) (a_cons (r_var (i := 1) rfl (by first | exact .inl rfl | exact .inr (.inl rfl) | exact .inr (.inr rfl))) (a_cons (r_var (i := 2) rfl (by first | exact .inl rfl | exact .inr (.inl rfl) | exact .inr (.inr rfl))) a_nil)))))) s_nil) (s_one (s_ret (j_call T.c_made_by_word (ar_made_by_word _) hr (Nat.le_succ _) rfl (a_cons (r_var (i := 3) rfl (by first | exact .inl rfl | exact .inr (.inl rfl) | exact .inr (.inr rfl))) (a_cons (r_var (i := 2) rfl (by first | exact .inl rfl | exact .inr (.inl rfl) | exact .inr (.inr rfl))) a_nil)))))))))))))
theorem k__kind_by_sign (T : Tb P w K mg base n) {f : Addr} (cdv : Value) (A : Around) (outer : List PySem.Env) (s : Shared) (H : Hp) (E : XK) (hr : Room (2 * n + 3) (A.deeper (envOfC "_kind_by_sign" (C8.fnScope s__kind_by_sign) s.heap.objs.size f cdv))) :
    PSs (cxOf CX0 P w K mg base ["sign", "kinds"] "_kind_by_sign" (C8.fnScope s__kind_by_sign) f cdv A outer s H E).nox (C8.fnBody s__kind_by_sign) (tIS K W0 (b__kind_by_sign (FF n) (GG n))) :=
  have nd := sc__kind_by_sign.nd
  have hu := hu_of hr
  have hv : (A.deeper (envOfC "_kind_by_sign" (C8.fnScope s__kind_by_sign) s.heap.objs.size f cdv)).units + 65 < cLine := by have := hr.un; omega
  (s_cons (s_if (r_cmpT (op_inE hv) f_inE (r_var (i := 0) rfl (by first | exact .inl rfl | exact .inr (.inl rfl) | exact .inr (.inr rfl))) (r_glob rfl T.g_TRUTH_SIGNS) (by with_unfolding_all rfl)) (s_one (s_ret (r_ifExp (r_cmpT (op_eqB hv) f_eqB (r_var (i := 1) rfl (by first | exact .inl rfl | exact .inr (.inl rfl) | exact .inr (.inr rfl))) (r_new (r_lst (a_cons r_str (a_cons r_str a_nil)))) (nomark _)) r_str r_non))) s_nil) (s_one (s_ret (j_call T.c_made_by_sign (ar_made_by_sign _) hr (Nat.le_succ _) rfl (a_cons (r_var (i := 0) rfl (by first | exact .inl rfl | exact .inr (.inl rfl) | exact .inr (.inr rfl))) (a_cons (r_subB hu (r_var (i := 1) rfl (by first | exact .inl rfl | exact .inr (.inl rfl) | exact .inr (.inr rfl))) r_int (fun _ _ => rfl)) (a_cons (r_subB hu (r_var (i := 1) rfl (by first | exact .inl rfl | exact .inr (.inl rfl) | exact .inr (.inr rfl))) r_int (fun _ _ => rfl)) a_nil)))))))
theorem k__awaited_kind (T : Tb P w K mg base n) {f : Addr} (cdv : Value) (A : Around) (outer : List PySem.Env) (s : Shared) (H : Hp) (E : XK) (hr : Room (2 * n + 3) (A.deeper (envOfC "_awaited_kind" (C8.fnScope s__awaited_kind) s.heap.objs.size f cdv))) :
    PSs (cxOf CX0 P w K mg base ["sorts", "tree", "kinds"] "_awaited_kind" (C8.fnScope s__awaited_kind) f cdv A outer s H E).nox (C8.fnBody s__awaited_kind) (tIS K W0 (b__awaited_kind (FF n) (GG n))) :=
  have nd := sc__awaited_kind.nd
  have hu := hu_of hr
  have hv : (A.deeper (envOfC "_awaited_kind" (C8.fnScope s__awaited_kind) s.heap.objs.size f cdv)).units + 65 < cLine := by have := hr.un; omega
  (s_cons (s_if (r_cmpT (op_eqB hv) f_eqB (r_subB hu (r_var (i := 1) rfl (by first | exact .inl rfl | exact .inr (.inl rfl) | exact .inr (.inr rfl))) r_int (fun _ _ => rfl)) r_str (nomark _)) (s_one (s_ret (r_subB hu (r_var (i := 1) rfl (by first | exact .inl rfl | exact .inr (.inl rfl) | exact .inr (.inr rfl))) r_int (fun _ _ => rfl)))) s_nil) (s_cons (s_if (r_cmpT (op_eqB hv) f_eqB (r_subB hu (r_var (i := 1) rfl (by first | exact .inl rfl | exact .inr (.inl rfl) | exact .inr (.inr rfl))) r_int (fun _ _ => rfl)) r_str (nomark _)) (s_one (s_ret (r_subB hu (r_var (i := 1) rfl (by first | exact .inl rfl | exact .inr (.inl rfl) | exact .inr (.inr rfl))) r_int (fun _ _ => rfl)))) s_nil) (s_cons (s_if (r_cmpT (op_eqB hv) f_eqB (r_subB hu (r_var (i := 1) rfl (by first | exact .inl rfl | exact .inr (.inl rfl) | exact .inr (.inr rfl))) r_int (fun _ _ => rfl)) r_str (nomark _)) (s_one (s_ret (j_call T.c_called (ar_called _) hr (Nat.le_succ _) rfl (a_cons (r_subB hu (r_var (i := 1) rfl (by first | exact .inl rfl | exact .inr (.inl rfl) | exact .inr (.inr rfl))) r_int (fun _ _ => rfl)) (a_cons (r_var (i := 2) rfl (by first | exact .inl rfl | exact .inr (.inl rfl) | exact .inr (.inr rfl))) (a_cons (r_var (i := 0) rfl (by first | exact .inl rfl | exact .inr (.inl rfl) | exact .inr (.inr rfl))) a_nil)))))) s_nil) (s_one (s_ret (r_ifExp (r_cmpT (op_eqB hv) f_eqB (r_subB hu (r_var (i := 2) rfl (by first | exact .inl rfl | exact .inr (.inl rfl) | exact .inr (.inr rfl))) r_int (fun _ _ => rfl)) r_str (nomark _)) r_str r_non))))))
theorem k__law_state (T : Tb P w K mg base n) {f : Addr} (cdv : Value) (A : Around) (outer : List PySem.Env) (s : Shared) (H : Hp) (E : XK) (hr : Room (2 * n + 3) (A.deeper (envOfC "_law_state" (C8.fnScope s__law_state) s.heap.objs.size f cdv))) :
    PSs (cxOf CX0 P w K mg base ["script", "seed", "cell"] "_law_state" (C8.fnScope s__law_state) f cdv A outer s H E).nox (C8.fnBody s__law_state) (tIS K W0 (b__law_state (FF n) (GG n))) :=
  have nd := sc__law_state.nd
  have hu := hu_of hr
  have hv : (A.deeper (envOfC "_law_state" (C8.fnScope s__law_state) s.heap.objs.size f cdv)).units + 65 < cLine := by have := hr.un; omega
  (s_cons (s_set (i := 1) nd rfl (by first | exact .inl rfl | exact .inr rfl) r_int) (s_cons (s_for PassesOwn.never rfl (i_walk (r_var (i := 0) rfl (by first | exact .inl rfl | exact .inr (.inl rfl) | exact .inr (.inr rfl)))) (g_name (i := 2) nd rfl (by first | exact .inl rfl | exact .inr rfl)) (s_one (s_set (i := 1) nd rfl (by first | exact .inl rfl | exact .inr rfl) (r_op op_modN f_mod (r_callTy call_intS f_intS rfl T.z_int (by decide +kernel) (a_cons (r_op op_addI f_add (r_op op_mulA f_mulA (r_var (i := 1) rfl (by first | exact .inl rfl | exact .inr (.inl rfl) | exact .inr (.inr rfl))) r_int) (r_var (i := 2) rfl (by first | exact .inl rfl | exact .inr (.inl rfl) | exact .inr (.inr rfl)))) a_nil)) r_int)))) (s_one (s_ret (r_lst (a_cons (r_lc (own := [("cell", 2)]) rfl nd (i_walk (r_var (i := 0) rfl (by first | exact .inl rfl | exact .inr (.inl rfl) | exact .inr (.inr rfl)))) (by first | exact blkOk_by (N := ["script", "seed", "cell"]) (sc := C8.fnScope s__law_state) (by decide +kernel) | exact blkOk_by rfl | exact blkOk_by (by with_unfolding_all rfl)) (by decide) (fun _ _ _ _ _ => (g_name (i := 2) nd rfl (by first | exact .inl rfl | exact .inr rfl))) (fun _ _ _ _ _ => t_yes) (fun _ _ _ _ _ => (r_callB call_abs f_abs rfl T.z_abs (by decide +kernel) (a_cons (r_var (i := 2) rfl (by first | exact .inl rfl | exact .inr (.inl rfl) | exact .inr (.inr rfl))) a_nil)))) (a_cons (r_op op_addI f_add (r_var (i := 1) rfl (by first | exact .inl rfl | exact .inr (.inl rfl) | exact .inr (.inr rfl))) r_int) a_nil)))))))
theorem k__law_draw (T : Tb P w K mg base n) {f : Addr} (cdv : Value) (A : Around) (outer : List PySem.Env) (s : Shared) (H : Hp) (E : XK) (hr : Room (2 * n + 3) (A.deeper (envOfC "_law_draw" (C8.fnScope s__law_draw) s.heap.objs.size f cdv))) :
    PSs (cxOf CX0 P w K mg base ["state", "many", "cells", "mixed", "value"] "_law_draw" (C8.fnScope s__law_draw) f cdv A outer s H E).nox (C8.fnBody s__law_draw) (tIS K W0 (b__law_draw (FF n) (GG n))) :=
  have nd := sc__law_draw.nd
  have hu := hu_of hr
  have hv : (A.deeper (envOfC "_law_draw" (C8.fnScope s__law_draw) s.heap.objs.size f cdv)).units + 65 < cLine := by have := hr.un; omega
  (s_cons (s_if (r_cmpT (op_ltA hr.units0) f_lt (r_var (i := 1) rfl (by first | exact .inl rfl | exact .inr (.inl rfl) | exact .inr (.inr rfl))) r_int (nomark _)) (s_one (s_ret r_int)) s_nil) (s_cons (s_set (i := 2) nd rfl (by first | exact .inl rfl | exact .inr rfl) (r_subB hu (r_var (i := 0) rfl (by first | exact .inl rfl | exact .inr (.inl rfl) | exact .inr (.inr rfl))) r_int (fun _ _ => rfl))) (s_cons (s_while PassesOwn.never (PW.pt (w_and (r_cmpT op_gtA f_gt (r_callB cr_len f_lenB rfl T.z_len (by decide +kernel) (a_cons (r_var (i := 2) rfl (by first | exact .inl rfl | exact .inr (.inl rfl) | exact .inr (.inr rfl))) a_nil)) r_int (nomark _)) (w_and1 (r_cmpT (op_eqB hv) f_eqB (r_subB hu (r_var (i := 2) rfl (by first | exact .inl rfl | exact .inr (.inl rfl) | exact .inr (.inr rfl))) r_int (fun _ _ => rfl)) r_int (nomark _))))) (s_one (s_expr (r_pop0 (r_var (i := 2) rfl (by first | exact .inl rfl | exact .inr (.inl rfl) | exact .inr (.inr rfl))) r_int)))) (s_cons (s_if (r_cmpT op_gtA f_gt (r_callB cr_len f_lenB rfl T.z_len (by decide +kernel) (a_cons (r_var (i := 2) rfl (by first | exact .inl rfl | exact .inr (.inl rfl) | exact .inr (.inr rfl))) a_nil)) r_int (nomark _)) (s_cons (s_set (i := 4) nd rfl (by first | exact .inl rfl | exact .inr rfl) (r_subB hu (r_var (i := 2) rfl (by first | exact .inl rfl | exact .inr (.inl rfl) | exact .inr (.inr rfl))) r_int (fun _ _ => rfl))) (s_cons (s_setIx (set_any hu) f_setA (r_var (i := 2) rfl (by first | exact .inl rfl | exact .inr (.inl rfl) | exact .inr (.inr rfl))) r_int (r_op op_divI f_div (r_var (i := 4) rfl (by first | exact .inl rfl | exact .inr (.inl rfl) | exact .inr (.inr rfl))) (r_var (i := 1) rfl (by first | exact .inl rfl | exact .inr (.inl rfl) | exact .inr (.inr rfl))))) (s_one (s_ret (r_op op_modN f_mod (r_callTy call_intS f_intS rfl T.z_int (by decide +kernel) (a_cons (r_var (i := 4) rfl (by first | exact .inl rfl | exact .inr (.inl rfl) | exact .inr (.inr rfl))) a_nil)) (r_var (i := 1) rfl (by first | exact .inl rfl | exact .inr (.inl rfl) | exact .inr (.inr rfl)))))))) s_nil) (s_cons (s_set (i := 3) nd rfl (by first | exact .inl rfl | exact .inr rfl) (r_op op_modN f_mod (r_callTy call_intS f_intS rfl T.z_int (by decide +kernel) (a_cons (r_op op_addI f_add (r_op op_mulA f_mulA (r_subB hu (r_var (i := 0) rfl (by first | exact .inl rfl | exact .inr (.inl rfl) | exact .inr (.inr rfl))) r_int (fun _ _ => rfl)) r_int) r_int) a_nil)) r_int)) (s_cons (s_setIx (set_any hu) f_setA (r_var (i := 0) rfl (by first | exact .inl rfl | exact .inr (.inl rfl) | exact .inr (.inr rfl))) r_int (r_var (i := 3) rfl (by first | exact .inl rfl | exact .inr (.inl rfl) | exact .inr (.inr rfl)))) (s_one (s_ret (r_op op_modN f_mod (r_callTy call_intS f_intS rfl T.z_int (by decide +kernel) (a_cons (r_op op_divI f_div (r_var (i := 3) rfl (by first | exact .inl rfl | exact .inr (.inl rfl) | exact .inr (.inr rfl))) r_int) a_nil)) (r_var (i := 1) rfl (by first | exact .inl rfl | exact .inr (.inl rfl) | exact .inr (.inr rfl))))))))))))
theorem k__law_pick (T : Tb P w K mg base n) {f : Addr} (cdv : Value) (A : Around) (outer : List PySem.Env) (s : Shared) (H : Hp) (E : XK) (hr : Room (2 * n + 3) (A.deeper (envOfC "_law_pick" (C8.fnScope s__law_pick) s.heap.objs.size f cdv))) :
    PSs (cxOf CX0 P w K mg base ["state", "row"] "_law_pick" (C8.fnScope s__law_pick) f cdv A outer s H E).nox (C8.fnBody s__law_pick) (tIS K W0 (b__law_pick (FF n) (GG n))) :=
  have nd := sc__law_pick.nd
  have hu := hu_of hr
  have hv : (A.deeper (envOfC "_law_pick" (C8.fnScope s__law_pick) s.heap.objs.size f cdv)).units + 65 < cLine := by have := hr.un; omega
  (s_one (s_ret (r_subB hu (r_var (i := 1) rfl (by first | exact .inl rfl | exact .inr (.inl rfl) | exact .inr (.inr rfl))) (j_call T.c__law_draw (ar__law_draw _) hr (Nat.le_succ _) rfl (a_cons (r_var (i := 0) rfl (by first | exact .inl rfl | exact .inr (.inl rfl) | exact .inr (.inr rfl))) (a_cons (r_callB cr_len f_lenB rfl T.z_len (by decide +kernel) (a_cons (r_var (i := 1) rfl (by first | exact .inl rfl | exact .inr (.inl rfl) | exact .inr (.inr rfl))) a_nil)) a_nil))) (fun _ _ => rfl))))
theorem k__law_parts (T : Tb P w K mg base n) {f : Addr} (cdv : Value) (A : Around) (outer : List PySem.Env) (s : Shared) (H : Hp) (E : XK) (hr : Room (2 * n + 3) (A.deeper (envOfC "_law_parts" (C8.fnScope s__law_parts) s.heap.objs.size f cdv))) :
    PSs (cxOf CX0 P w K mg base ["tree", "kind"] "_law_parts" (C8.fnScope s__law_parts) f cdv A outer s H E).nox (C8.fnBody s__law_parts) (tIS K W0 (b__law_parts (FF n) (GG n))) :=
  have nd := sc__law_parts.nd
  have hu := hu_of hr
  have hv : (A.deeper (envOfC "_law_parts" (C8.fnScope s__law_parts) s.heap.objs.size f cdv)).units + 65 < cLine := by have := hr.un; omega
  (s_cons (s_set (i := 1) nd rfl (by first | exact .inl rfl | exact .inr rfl) (r_subB hu (r_var (i := 0) rfl (by first | exact .inl rfl | exact .inr (.inl rfl) | exact .inr (.inr rfl))) r_int (fun _ _ => rfl))) (s_cons (s_if (r_cmpT (op_eqB hv) f_eqB (r_var (i := 1) rfl (by first | exact .inl rfl | exact .inr (.inl rfl) | exact .inr (.inr rfl))) r_str (nomark _)) (s_one (s_ret (r_lst (a_cons (r_subB hu (r_var (i := 0) rfl (by first | exact .inl rfl | exact .inr (.inl rfl) | exact .inr (.inr rfl))) r_int (fun _ _ => rfl)) (a_cons (r_subB hu (r_var (i := 0) rfl (by first | exact .inl rfl | exact .inr (.inl rfl) | exact .inr (.inr rfl))) r_int (fun _ _ => rfl)) a_nil))))) s_nil) (s_cons (s_if (r_cmpT (op_inE hv) f_inE (r_var (i := 1) rfl (by first | exact .inl rfl | exact .inr (.inl rfl) | exact .inr (.inr rfl))) (r_tup (a_cons r_str (a_cons r_str (a_cons r_str (a_cons r_str (a_cons r_str a_nil)))))) (by with_unfolding_all rfl)) (s_one (s_ret (r_lst (a_cons (r_subB hu (r_var (i := 0) rfl (by first | exact .inl rfl | exact .inr (.inl rfl) | exact .inr (.inr rfl))) r_int (fun _ _ => rfl)) a_nil)))) s_nil) (s_cons (s_if (r_cmpT (op_eqB hv) f_eqB (r_var (i := 1) rfl (by first | exact .inl rfl | exact .inr (.inl rfl) | exact .inr (.inr rfl))) r_str (nomark _)) (s_one (s_ret (r_lst (a_cons (r_subB hu (r_var (i := 0) rfl (by first | exact .inl rfl | exact .inr (.inl rfl) | exact .inr (.inr rfl))) r_int (fun _ _ => rfl)) (a_cons (r_subB hu (r_var (i := 0) rfl (by first | exact .inl rfl | exact .inr (.inl rfl) | exact .inr (.inr rfl))) r_int (fun _ _ => rfl)) a_nil))))) s_nil) (s_cons (s_if (r_cmpT (op_inE hv) f_inE (r_var (i := 1) rfl (by first | exact .inl rfl | exact .inr (.inl rfl) | exact .inr (.inr rfl))) (r_tup (a_cons r_str (a_cons r_str a_nil))) (by with_unfolding_all rfl)) (s_one (s_ret (r_callTy call_list_of f_list rfl T.z_list (by decide +kernel) (a_cons (r_subB hu (r_var (i := 0) rfl (by first | exact .inl rfl | exact .inr (.inl rfl) | exact .inr (.inr rfl))) r_int (fun _ _ => rfl)) a_nil)))) s_nil) (s_cons (s_if (PW.pt (w_and (r_cmpT (op_eqB hv) f_eqB (r_var (i := 1) rfl (by first | exact .inl rfl | exact .inr (.inl rfl) | exact .inr (.inr rfl))) r_str (nomark _)) (w_and1 (r_cmpT (op_eqB hv) f_eqB (r_subB hu (r_var (i := 0) rfl (by first | exact .inl rfl | exact .inr (.inl rfl) | exact .inr (.inr rfl))) r_int (fun _ _ => rfl)) r_str (nomark _))))) (s_one (s_ret (r_lst (a_cons (r_subB hu (r_var (i := 0) rfl (by first | exact .inl rfl | exact .inr (.inl rfl) | exact .inr (.inr rfl))) r_int (fun _ _ => rfl)) a_nil)))) s_nil) (s_cons (s_if (PW.pt (w_and (r_cmpT (op_eqB hv) f_eqB (r_var (i := 1) rfl (by first | exact .inl rfl | exact .inr (.inl rfl) | exact .inr (.inr rfl))) r_str (nomark _)) (w_and1 (r_cmpT (op_neB hv) f_neB (r_subB hu (r_var (i := 0) rfl (by first | exact .inl rfl | exact .inr (.inl rfl) | exact .inr (.inr rfl))) r_int (fun _ _ => rfl)) r_str (nomark _))))) (s_one (s_ret (r_ifExp (r_cmpT (op_eqB hv) f_eqB (r_subB hu (r_var (i := 0) rfl (by first | exact .inl rfl | exact .inr (.inl rfl) | exact .inr (.inr rfl))) r_int (fun _ _ => rfl)) r_str (nomark _)) (r_lst (a_cons (r_subB hu (r_var (i := 0) rfl (by first | exact .inl rfl | exact .inr (.inl rfl) | exact .inr (.inr rfl))) r_int (fun _ _ => rfl)) a_nil)) (r_callTy call_list_of f_list rfl T.z_list (by decide +kernel) (a_cons (r_subB hu (r_var (i := 0) rfl (by first | exact .inl rfl | exact .inr (.inl rfl) | exact .inr (.inr rfl))) r_int (fun _ _ => rfl)) a_nil))))) s_nil) (s_one (s_ret (r_lst a_nil))))))))))
theorem k__law_is_list (T : Tb P w K mg base n) {f : Addr} (cdv : Value) (A : Around) (outer : List PySem.Env) (s : Shared) (H : Hp) (E : XK) (hr : Room (2 * n + 3) (A.deeper (envOfC "_law_is_list" (C8.fnScope s__law_is_list) s.heap.objs.size f cdv))) :
    PSs (cxOf CX0 P w K mg base ["kind"] "_law_is_list" (C8.fnScope s__law_is_list) f cdv A outer s H E).nox (C8.fnBody s__law_is_list) (tIS K W0 (b__law_is_list (FF n) (GG n))) :=
  have nd := sc__law_is_list.nd
  have hu := hu_of hr
  have hv : (A.deeper (envOfC "_law_is_list" (C8.fnScope s__law_is_list) s.heap.objs.size f cdv)).units + 65 < cLine := by have := hr.un; omega
  (s_one (s_ret (r_callB call_isi f_isi rfl T.z_isinstance (by decide +kernel) (a_cons (r_var (i := 0) rfl (by first | exact .inl rfl | exact .inr (.inl rfl) | exact .inr (.inr rfl))) (a_cons (r_ty rfl T.z_tuple (by decide +kernel)) a_nil)))))
theorem k__law_type_of (T : Tb P w K mg base n) {f : Addr} (cdv : Value) (A : Around) (outer : List PySem.Env) (s : Shared) (H : Hp) (E : XK) (hr : Room (2 * n + 3) (A.deeper (envOfC "_law_type_of" (C8.fnScope s__law_type_of) s.heap.objs.size f cdv))) :
    PSs (cxOf CX0 P w K mg base ["heads", "names", "tree", "place", "kinds", "parts", "k", "kind", "found"] "_law_type_of" (C8.fnScope s__law_type_of) f cdv A outer s H E).nox (C8.fnBody s__law_type_of) (tIS K W0 (b__law_type_of (FF n) (GG n))) :=
  have nd := sc__law_type_of.nd
  have hu := hu_of hr
  have hv : (A.deeper (envOfC "_law_type_of" (C8.fnScope s__law_type_of) s.heap.objs.size f cdv)).units + 65 < cLine := by have := hr.un; omega
  (s_cons (s_set (i := 4) nd rfl (by first | exact .inl rfl | exact .inr rfl) (r_lst a_nil)) (s_cons (s_set (i := 5) nd rfl (by first | exact .inl rfl | exact .inr rfl) (r_frz (j_call T.c__law_parts (ar__law_parts _) hr (Nat.le_succ _) rfl (a_cons (r_var (i := 2) rfl (by first | exact .inl rfl | exact .inr (.inl rfl) | exact .inr (.inr rfl))) a_nil)))) (s_cons (s_for PassesOwn.never rfl (i_range1 rfl T.z_range (a_cons (r_callB cr_len f_lenB rfl T.z_len (by decide +kernel) (a_cons (r_var (i := 5) rfl (by first | exact .inl rfl | exact .inr (.inl rfl) | exact .inr (.inr rfl))) a_nil)) a_nil)) (g_name (i := 6) nd rfl (by first | exact .inl rfl | exact .inr rfl)) (s_cons (s_set (i := 8) nd rfl (by first | exact .inl rfl | exact .inr rfl) (j_call T.c__law_type_of (ar__law_type_of _) hr (Nat.le_succ _) rfl (a_cons (r_var (i := 0) rfl (by first | exact .inl rfl | exact .inr (.inl rfl) | exact .inr (.inr rfl))) (a_cons (r_var (i := 1) rfl (by first | exact .inl rfl | exact .inr (.inl rfl) | exact .inr (.inr rfl))) (a_cons (r_subB hu (r_var (i := 5) rfl (by first | exact .inl rfl | exact .inr (.inl rfl) | exact .inr (.inr rfl))) (r_var (i := 6) rfl (by first | exact .inl rfl | exact .inr (.inl rfl) | exact .inr (.inr rfl))) (fun _ _ => rfl)) (a_cons (r_op op_addI f_add (r_var (i := 3) rfl (by first | exact .inl rfl | exact .inr (.inl rfl) | exact .inr (.inr rfl))) (r_tup (a_cons (r_var (i := 6) rfl (by first | exact .inl rfl | exact .inr (.inl rfl) | exact .inr (.inr rfl))) a_nil))) a_nil)))))) (s_cons (s_if (r_cmpT (op_eqB hv) f_eqB (r_subB hu (r_var (i := 8) rfl (by first | exact .inl rfl | exact .inr (.inl rfl) | exact .inr (.inr rfl))) r_int (fun _ _ => rfl)) r_str (nomark _)) (s_one (s_ret (r_var (i := 8) rfl (by first | exact .inl rfl | exact .inr (.inl rfl) | exact .inr (.inr rfl))))) s_nil) (s_one (s_expr (r_append (r_var (i := 4) rfl (by first | exact .inl rfl | exact .inr (.inl rfl) | exact .inr (.inr rfl))) (r_subB hu (r_var (i := 8) rfl (by first | exact .inl rfl | exact .inr (.inl rfl) | exact .inr (.inr rfl))) r_int (fun _ _ => rfl)))))))) (s_cons (s_set (i := 7) nd rfl (by first | exact .inl rfl | exact .inr rfl) (j_call T.c__law_rule (ar__law_rule _) hr (Nat.le_succ _) rfl (a_cons (r_var (i := 0) rfl (by first | exact .inl rfl | exact .inr (.inl rfl) | exact .inr (.inr rfl))) (a_cons (r_var (i := 1) rfl (by first | exact .inl rfl | exact .inr (.inl rfl) | exact .inr (.inr rfl))) (a_cons (r_var (i := 2) rfl (by first | exact .inl rfl | exact .inr (.inl rfl) | exact .inr (.inr rfl))) (a_cons (r_var (i := 4) rfl (by first | exact .inl rfl | exact .inr (.inl rfl) | exact .inr (.inr rfl))) a_nil)))))) (s_one (s_ret (r_ifExp (r_cmpT op_isA f_is (r_var (i := 7) rfl (by first | exact .inl rfl | exact .inr (.inl rfl) | exact .inr (.inr rfl))) r_non (nomark _)) (r_tup (a_cons r_str (a_cons (r_var (i := 3) rfl (by first | exact .inl rfl | exact .inr (.inl rfl) | exact .inr (.inr rfl))) a_nil))) (r_tup (a_cons r_str (a_cons (r_var (i := 7) rfl (by first | exact .inl rfl | exact .inr (.inl rfl) | exact .inr (.inr rfl))) a_nil))))))))))
theorem k__law_rule (T : Tb P w K mg base n) {f : Addr} (cdv : Value) (A : Around) (outer : List PySem.Env) (s : Shared) (H : Hp) (E : XK) (hr : Room (2 * n + 3) (A.deeper (envOfC "_law_rule" (C8.fnScope s__law_rule) s.heap.objs.size f cdv))) :
    PSs (cxOf CX0 P w K mg base ["heads", "names", "tree", "kinds", "word", "rows", "head", "kind"] "_law_rule" (C8.fnScope s__law_rule) f cdv A outer s H E).nox (C8.fnBody s__law_rule) (tIS K W0 (b__law_rule (FF n) (GG n))) :=
  have nd := sc__law_rule.nd
  have hu := hu_of hr
  have hv : (A.deeper (envOfC "_law_rule" (C8.fnScope s__law_rule) s.heap.objs.size f cdv)).units + 65 < cLine := by have := hr.un; omega
  (s_cons (s_set (i := 4) nd rfl (by first | exact .inl rfl | exact .inr rfl) (r_subB hu (r_var (i := 2) rfl (by first | exact .inl rfl | exact .inr (.inl rfl) | exact .inr (.inr rfl))) r_int (fun _ _ => rfl))) (s_cons (s_if (r_cmpT (op_inE hv) f_inE (r_var (i := 4) rfl (by first | exact .inl rfl | exact .inr (.inl rfl) | exact .inr (.inr rfl))) (r_tup (a_cons r_str (a_cons r_str (a_cons r_str (a_cons r_str a_nil))))) (by with_unfolding_all rfl)) (s_one (s_ret (r_var (i := 4) rfl (by first | exact .inl rfl | exact .inr (.inl rfl) | exact .inr (.inr rfl))))) s_nil) (s_cons (s_if (r_cmpT (op_eqB hv) f_eqB (r_var (i := 4) rfl (by first | exact .inl rfl | exact .inr (.inl rfl) | exact .inr (.inr rfl))) r_str (nomark _)) (s_one (s_ret (r_get1 hu (r_var (i := 1) rfl (by first | exact .inl rfl | exact .inr (.inl rfl) | exact .inr (.inr rfl))) (r_subB hu (r_var (i := 2) rfl (by first | exact .inl rfl | exact .inr (.inl rfl) | exact .inr (.inr rfl))) r_int (fun _ _ => rfl)) ⟨rfl, rfl, rfl, rfl⟩))) s_nil) (s_cons (s_if (r_cmpT (op_eqB hv) f_eqB (r_var (i := 4) rfl (by first | exact .inl rfl | exact .inr (.inl rfl) | exact .inr (.inr rfl))) r_str (nomark _)) (s_one (s_ret (j_call T.c__law_sign_rule (ar__law_sign_rule _) hr (Nat.le_succ _) rfl (a_cons (r_subB hu (r_var (i := 2) rfl (by first | exact .inl rfl | exact .inr (.inl rfl) | exact .inr (.inr rfl))) r_int (fun _ _ => rfl)) (a_cons (r_var (i := 3) rfl (by first | exact .inl rfl | exact .inr (.inl rfl) | exact .inr (.inr rfl))) a_nil))))) s_nil) (s_cons (s_if (r_cmpT (op_eqB hv) f_eqB (r_var (i := 4) rfl (by first | exact .inl rfl | exact .inr (.inl rfl) | exact .inr (.inr rfl))) r_str (nomark _)) (s_one (s_ret (r_ifExp (r_cmpT (op_notInAll hu) f_notInB r_bl (r_new (r_lc (own := [("kind", 7)]) rfl nd (i_walk (r_var (i := 3) rfl (by first | exact .inl rfl | exact .inr (.inl rfl) | exact .inr (.inr rfl)))) (by first | exact blkOk_by (N := ["heads", "names", "tree", "kinds", "word", "rows", "head", "kind"]) (sc := C8.fnScope s__law_rule) (by decide +kernel) | exact blkOk_by rfl | exact blkOk_by (by with_unfolding_all rfl)) (by decide) (fun _ _ _ _ _ => (g_name (i := 7) nd rfl (by first | exact .inl rfl | exact .inr rfl))) (fun _ _ _ _ _ => t_yes) (fun _ _ _ _ _ => (r_cmp (op_eqB hv) f_eqB (r_var (i := 7) rfl (by first | exact .inl rfl | exact .inr (.inl rfl) | exact .inr (.inr rfl))) (r_subB hu (r_var (i := 2) rfl (by first | exact .inl rfl | exact .inr (.inl rfl) | exact .inr (.inr rfl))) r_int (fun _ _ => rfl)) (nomark _))))) (by with_unfolding_all rfl)) (r_tup (a_cons r_str (a_cons (r_subB hu (r_var (i := 2) rfl (by first | exact .inl rfl | exact .inr (.inl rfl) | exact .inr (.inr rfl))) r_int (fun _ _ => rfl)) a_nil))) r_non))) s_nil) (s_cons (s_if (r_cmpT (op_eqB hv) f_eqB (r_var (i := 4) rfl (by first | exact .inl rfl | exact .inr (.inl rfl) | exact .inr (.inr rfl))) r_str (nomark _)) (s_one (s_ret (r_ifExp (PW.pt (w_and (r_truth (j_call T.c__law_is_list (ar__law_is_list _) hr (Nat.le_succ _) rfl (a_cons (r_subB hu (r_var (i := 3) rfl (by first | exact .inl rfl | exact .inr (.inl rfl) | exact .inr (.inr rfl))) r_int (fun _ _ => rfl)) a_nil)) (by intro _; rfl)) (w_and1 (r_cmpT (op_eqB hv) f_eqB (r_subB hu (r_var (i := 3) rfl (by first | exact .inl rfl | exact .inr (.inl rfl) | exact .inr (.inr rfl))) r_int (fun _ _ => rfl)) r_str (nomark _))))) (r_subB hu (r_subB hu (r_var (i := 3) rfl (by first | exact .inl rfl | exact .inr (.inl rfl) | exact .inr (.inr rfl))) r_int (fun _ _ => rfl)) r_int (fun _ _ => rfl)) r_non))) s_nil) (s_cons (s_if (PW.pt (w_or (r_cmpT (op_eqB hv) f_eqB (r_var (i := 4) rfl (by first | exact .inl rfl | exact .inr (.inl rfl) | exact .inr (.inr rfl))) r_str (nomark _)) (w_or1 (PW.pt (w_and (r_cmpT (op_eqB hv) f_eqB (r_var (i := 4) rfl (by first | exact .inl rfl | exact .inr (.inl rfl) | exact .inr (.inr rfl))) r_str (nomark _)) (w_and1 (r_cmpT (op_eqB hv) f_eqB (r_subB hu (r_var (i := 2) rfl (by first | exact .inl rfl | exact .inr (.inl rfl) | exact .inr (.inr rfl))) r_int (fun _ _ => rfl)) r_str (nomark _)))))))) (s_cons (s_set (i := 6) nd rfl (by first | exact .inl rfl | exact .inr rfl) (r_get1 hu (r_var (i := 0) rfl (by first | exact .inl rfl | exact .inr (.inl rfl) | exact .inr (.inr rfl))) (r_ifExp (r_cmpT (op_eqB hv) f_eqB (r_var (i := 4) rfl (by first | exact .inl rfl | exact .inr (.inl rfl) | exact .inr (.inr rfl))) r_str (nomark _)) (r_subB hu (r_var (i := 2) rfl (by first | exact .inl rfl | exact .inr (.inl rfl) | exact .inr (.inr rfl))) r_int (fun _ _ => rfl)) (r_subB hu (r_var (i := 2) rfl (by first | exact .inl rfl | exact .inr (.inl rfl) | exact .inr (.inr rfl))) r_int (fun _ _ => rfl))) ⟨rfl, rfl, rfl, rfl⟩)) (s_one (s_ret (r_ifExp (PW.pt (w_and (r_cmpT op_isNotA f_isNot (r_var (i := 6) rfl (by first | exact .inl rfl | exact .inr (.inl rfl) | exact .inr (.inr rfl))) r_non (nomark _)) (w_and1 (r_cmpT (op_eqB hv) f_eqB (r_subB hu (r_var (i := 6) rfl (by first | exact .inl rfl | exact .inr (.inl rfl) | exact .inr (.inr rfl))) r_int (fun _ _ => rfl)) (r_var (i := 3) rfl (by first | exact .inl rfl | exact .inr (.inl rfl) | exact .inr (.inr rfl))) (nomark _))))) (r_subB hu (r_var (i := 6) rfl (by first | exact .inl rfl | exact .inr (.inl rfl) | exact .inr (.inr rfl))) r_int (fun _ _ => rfl)) r_non)))) s_nil) (s_cons (s_if (PW.pt (w_and (r_cmpT (op_eqB hv) f_eqB (r_var (i := 4) rfl (by first | exact .inl rfl | exact .inr (.inl rfl) | exact .inr (.inr rfl))) r_str (nomark _)) (w_and1 (r_cmpT (op_neB hv) f_neB (r_subB hu (r_var (i := 2) rfl (by first | exact .inl rfl | exact .inr (.inl rfl) | exact .inr (.inr rfl))) r_int (fun _ _ => rfl)) r_str (nomark _))))) (s_one (s_ret (r_ifExp (r_cmpT (op_eqB hv) f_eqB (r_subB hu (r_var (i := 2) rfl (by first | exact .inl rfl | exact .inr (.inl rfl) | exact .inr (.inr rfl))) r_int (fun _ _ => rfl)) r_str (nomark _)) (r_subB hu (r_var (i := 2) rfl (by first | exact .inl rfl | exact .inr (.inl rfl) | exact .inr (.inr rfl))) r_int (fun _ _ => rfl)) (r_subB hu (r_var (i := 2) rfl (by first | exact .inl rfl | exact .inr (.inl rfl) | exact .inr (.inr rfl))) r_int (fun _ _ => rfl))))) s_nil) (s_cons (s_set (i := 5) nd rfl (by first | exact .inl rfl | exact .inr rfl) (r_dict (.cons (.cons (.cons (.cons .nil)))) (pps_cons r_str (r_new (r_lst (a_cons (r_new (r_lst (a_cons r_str a_nil))) (a_cons r_str a_nil)))) (pps_cons r_str (r_new (r_lst (a_cons (r_new (r_lst (a_cons r_str a_nil))) (a_cons r_str a_nil)))) (pps_cons r_str (r_new (r_lst (a_cons (r_new (r_lst (a_cons r_str a_nil))) (a_cons r_str a_nil)))) (pps_cons r_str (r_new (r_lst (a_cons (r_new (r_lst (a_cons r_str (a_cons r_str a_nil)))) (a_cons r_str a_nil)))) pps_nil)))) rfl rfl (by simp) (by decide))) (s_cons (s_setIx (set_any hu) f_setA (r_var (i := 5) rfl (by first | exact .inl rfl | exact .inr (.inl rfl) | exact .inr (.inr rfl))) r_str (r_new (r_lst (a_cons (r_new (r_lst (a_cons r_str a_nil))) (a_cons r_str a_nil))))) (s_cons (s_if (r_cmpT (op_eqB hv) f_eqB (r_var (i := 4) rfl (by first | exact .inl rfl | exact .inr (.inl rfl) | exact .inr (.inr rfl))) r_str (nomark _)) (s_one (s_ret (r_ifExp (PW.pt (w_or (r_cmpT (op_eqB hv) f_eqB (r_subB hu (r_var (i := 3) rfl (by first | exact .inl rfl | exact .inr (.inl rfl) | exact .inr (.inr rfl))) r_int (fun _ _ => rfl)) r_str (nomark _)) (w_or1 (r_truth (j_call T.c__law_is_list (ar__law_is_list _) hr (Nat.le_succ _) rfl (a_cons (r_subB hu (r_var (i := 3) rfl (by first | exact .inl rfl | exact .inr (.inl rfl) | exact .inr (.inr rfl))) r_int (fun _ _ => rfl)) a_nil)) (by intro _; rfl))))) r_str r_non))) s_nil) (s_cons (s_if (r_cmpT (op_eqB hv) f_eqB (r_var (i := 4) rfl (by first | exact .inl rfl | exact .inr (.inl rfl) | exact .inr (.inr rfl))) r_str (nomark _)) (s_one (s_ret r_str)) s_nil) (s_one (s_ret (r_ifExp (r_cmpT (op_inE hv) f_inE (r_subB hu (r_var (i := 3) rfl (by first | exact .inl rfl | exact .inr (.inl rfl) | exact .inr (.inr rfl))) r_int (fun _ _ => rfl)) (r_subB hu (r_subB hu (r_var (i := 5) rfl (by first | exact .inl rfl | exact .inr (.inl rfl) | exact .inr (.inr rfl))) (r_var (i := 4) rfl (by first | exact .inl rfl | exact .inr (.inl rfl) | exact .inr (.inr rfl))) (fun _ _ => rfl)) r_int (fun _ _ => rfl)) (by with_unfolding_all rfl)) (r_subB hu (r_subB hu (r_var (i := 5) rfl (by first | exact .inl rfl | exact .inr (.inl rfl) | exact .inr (.inr rfl))) (r_var (i := 4) rfl (by first | exact .inl rfl | exact .inr (.inl rfl) | exact .inr (.inr rfl))) (fun _ _ => rfl)) r_int (fun _ _ => rfl)) r_non)))))))))))))))
theorem k__law_sign_rule (T : Tb P w K mg base n) {f : Addr} (cdv : Value) (A : Around) (outer : List PySem.Env) (s : Shared) (H : Hp) (E : XK) (hr : Room (2 * n + 3) (A.deeper (envOfC "_law_sign_rule" (C8.fnScope s__law_sign_rule) s.heap.objs.size f cdv))) :
    PSs (cxOf CX0 P w K mg base ["sign", "kinds", "one", "other"] "_law_sign_rule" (C8.fnScope s__law_sign_rule) f cdv A outer s H E).nox (C8.fnBody s__law_sign_rule) (tIS K W0 (b__law_sign_rule (FF n) (GG n))) :=
  have nd := sc__law_sign_rule.nd
  have hu := hu_of hr
  have hv : (A.deeper (envOfC "_law_sign_rule" (C8.fnScope s__law_sign_rule) s.heap.objs.size f cdv)).units + 65 < cLine := by have := hr.un; omega
  (s_cons (s_asg (r_var (i := 1) rfl (by first | exact .inl rfl | exact .inr (.inl rfl) | exact .inr (.inr rfl))) (g_lst rfl (gs_cons (g_name (i := 2) nd rfl (by first | exact .inl rfl | exact .inr rfl)) (gs_cons (g_name (i := 3) nd rfl (by first | exact .inl rfl | exact .inr rfl)) gs_nil)))) (s_cons (s_if (r_cmpT (op_neB hv) f_neB (r_var (i := 2) rfl (by first | exact .inl rfl | exact .inr (.inl rfl) | exact .inr (.inr rfl))) (r_var (i := 3) rfl (by first | exact .inl rfl | exact .inr (.inl rfl) | exact .inr (.inr rfl))) (nomark _)) (s_one (s_ret r_non)) s_nil) (s_cons (s_if (r_cmpT (op_inE hv) f_inE (r_var (i := 0) rfl (by first | exact .inl rfl | exact .inr (.inl rfl) | exact .inr (.inr rfl))) (r_tup (a_cons r_str (a_cons r_str (a_cons r_str (a_cons r_str a_nil))))) (by with_unfolding_all rfl)) (s_one (s_ret (r_ifExp (r_cmpT (op_eqB hv) f_eqB (r_var (i := 2) rfl (by first | exact .inl rfl | exact .inr (.inl rfl) | exact .inr (.inr rfl))) r_str (nomark _)) r_str r_non))) s_nil) (s_cons (s_if (r_cmpT (op_eqB hv) f_eqB (r_var (i := 0) rfl (by first | exact .inl rfl | exact .inr (.inl rfl) | exact .inr (.inr rfl))) r_str (nomark _)) (s_one (s_ret (r_ifExp (PW.pt (w_or (r_cmpT (op_eqB hv) f_eqB (r_var (i := 2) rfl (by first | exact .inl rfl | exact .inr (.inl rfl) | exact .inr (.inr rfl))) r_str (nomark _)) (w_or1 (r_truth (j_call T.c__law_is_list (ar__law_is_list _) hr (Nat.le_succ _) rfl (a_cons (r_var (i := 2) rfl (by first | exact .inl rfl | exact .inr (.inl rfl) | exact .inr (.inr rfl))) a_nil)) (by intro _; rfl))))) (r_var (i := 2) rfl (by first | exact .inl rfl | exact .inr (.inl rfl) | exact .inr (.inr rfl))) r_non))) s_nil) (s_cons (s_if (r_cmpT (op_inE hv) f_inE (r_var (i := 0) rfl (by first | exact .inl rfl | exact .inr (.inl rfl) | exact .inr (.inr rfl))) (r_tup (a_cons r_str (a_cons r_str a_nil))) (by with_unfolding_all rfl)) (s_one (s_ret (r_ifExp (r_cmpT (op_eqB hv) f_eqB (r_var (i := 2) rfl (by first | exact .inl rfl | exact .inr (.inl rfl) | exact .inr (.inr rfl))) r_str (nomark _)) r_str r_non))) s_nil) (s_one (s_ret (r_ifExp (PW.pt (w_or (r_cmpT (op_inE hv) f_inE (r_var (i := 0) rfl (by first | exact .inl rfl | exact .inr (.inl rfl) | exact .inr (.inr rfl))) (r_tup (a_cons r_str (a_cons r_str a_nil))) (by with_unfolding_all rfl)) (w_or1 (r_cmpT (op_inE hv) f_inE (r_var (i := 2) rfl (by first | exact .inl rfl | exact .inr (.inl rfl) | exact .inr (.inr rfl))) (r_tup (a_cons r_str (a_cons r_str a_nil))) (by with_unfolding_all rfl))))) r_str r_non))))))))
theorem k__law_typed (T : Tb P w K mg base n) {f : Addr} (cdv : Value) (A : Around) (outer : List PySem.Env) (s : Shared) (H : Hp) (E : XK) (hr : Room (2 * n + 3) (A.deeper (envOfC "_law_typed" (C8.fnScope s__law_typed) s.heap.objs.size f cdv))) :
    PSs (cxOf CX0 P w K mg base ["state", "names", "kind", "deep", "row", "pick", "many", "found", "inner", "name", "k"] "_law_typed" (C8.fnScope s__law_typed) f cdv A outer s H E).nox (C8.fnBody s__law_typed) (tIS K W0 (b__law_typed (FF n) (GG n))) :=
  have nd := sc__law_typed.nd
  have hu := hu_of hr
  have hv : (A.deeper (envOfC "_law_typed" (C8.fnScope s__law_typed) s.heap.objs.size f cdv)).units + 65 < cLine := by have := hr.un; omega
  (s_cons (s_setLcK (i := 4) (j := 1) rfl rfl (sw_true rfl rfl rfl (by decide +kernel)) (own := [("name", 9)]) rfl nd (pe_var (i := 1) rfl (by first | exact .inl rfl | exact .inr (.inl rfl) | exact .inr (.inr rfl))) (by first | exact blkOk_by (N := ["state", "names", "kind", "deep", "row", "pick", "many", "found", "inner", "name", "k"]) (sc := C8.fnScope s__law_typed) (by decide +kernel) | exact blkOk_by rfl | exact blkOk_by (by with_unfolding_all rfl)) (by decide) (fun _ _ _ _ _ => (g_name (i := 9) nd rfl (by first | exact .inl rfl | exact .inr rfl))) (fun _ _ _ _ _ => (t_one (r_cmpT (op_eqB hv) f_eqB (r_subB hu (r_var (i := 1) rfl (by first | exact .inl rfl | exact .inr (.inl rfl) | exact .inr (.inr rfl))) (r_var (i := 9) rfl (by first | exact .inl rfl | exact .inr (.inl rfl) | exact .inr (.inr rfl))) (fun _ _ => rfl)) (r_var (i := 2) rfl (by first | exact .inl rfl | exact .inr (.inl rfl) | exact .inr (.inr rfl))) (nomark _)))) (fun _ _ _ _ _ => (r_var (i := 9) rfl (by first | exact .inl rfl | exact .inr (.inl rfl) | exact .inr (.inr rfl))))) (s_cons (s_set (i := 5) nd rfl (by first | exact .inl rfl | exact .inr rfl) (j_call T.c__law_draw (ar__law_draw _) hr (Nat.le_succ _) rfl (a_cons (r_var (i := 0) rfl (by first | exact .inl rfl | exact .inr (.inl rfl) | exact .inr (.inr rfl))) (a_cons r_int a_nil)))) (s_cons (s_if (PW.pt (w_and (r_cmpT op_gtA f_gt (r_callB cr_len f_lenB rfl T.z_len (by decide +kernel) (a_cons (r_var (i := 4) rfl (by first | exact .inl rfl | exact .inr (.inl rfl) | exact .inr (.inr rfl))) a_nil)) r_int (nomark _)) (w_and1 (PW.pt (w_or (r_cmpT (op_ltA hr.units0) f_lt (r_var (i := 5) rfl (by first | exact .inl rfl | exact .inr (.inl rfl) | exact .inr (.inr rfl))) r_int (nomark _)) (w_or1 (r_cmpT (op_eqB hv) f_eqB (r_var (i := 3) rfl (by first | exact .inl rfl | exact .inr (.inl rfl) | exact .inr (.inr rfl))) r_int (nomark _)))))))) (s_one (s_ret (r_tup (a_cons r_str (a_cons (j_call T.c__law_pick (ar__law_pick _) hr (Nat.le_succ _) rfl (a_cons (r_var (i := 0) rfl (by first | exact .inl rfl | exact .inr (.inl rfl) | exact .inr (.inr rfl))) (a_cons (r_new (r_callB cr_sortedS f_sortS rfl T.z_sorted (by decide +kernel) (a_cons (r_var (i := 4) rfl (by first | exact .inl rfl | exact .inr (.inl rfl) | exact .inr (.inr rfl))) a_nil))) a_nil))) a_nil))))) s_nil) (s_cons (s_if (r_cmpT (op_eqB hv) f_eqB (r_var (i := 5) rfl (by first | exact .inl rfl | exact .inr (.inl rfl) | exact .inr (.inr rfl))) r_int (nomark _)) (s_one (s_ret (r_tup (a_cons r_str (a_cons r_str (a_cons (j_call T.c__law_pick (ar__law_pick _) hr (Nat.le_succ _) rfl (a_cons (r_var (i := 0) rfl (by first | exact .inl rfl | exact .inr (.inl rfl) | exact .inr (.inr rfl))) (a_cons (r_new (r_lst (a_cons r_str (a_cons r_str a_nil)))) a_nil))) (a_cons (r_var (i := 2) rfl (by first | exact .inl rfl | exact .inr (.inl rfl) | exact .inr (.inr rfl))) a_nil))))))) s_nil) (s_cons (s_if (PW.pt (w_and (r_cmpT (op_eqB hv) f_eqB (r_var (i := 5) rfl (by first | exact .inl rfl | exact .inr (.inl rfl) | exact .inr (.inr rfl))) r_int (nomark _)) (w_and1 (r_cmpT op_gtA f_gt (r_var (i := 3) rfl (by first | exact .inl rfl | exact .inr (.inl rfl) | exact .inr (.inr rfl))) r_int (nomark _))))) (s_one (s_ret (r_tup (a_cons r_str (a_cons r_str (a_cons r_str (a_cons (j_call T.c__law_typed (ar__law_typed _) hr (Nat.le_succ _) rfl (a_cons (r_var (i := 0) rfl (by first | exact .inl rfl | exact .inr (.inl rfl) | exact .inr (.inr rfl))) (a_cons (r_var (i := 1) rfl (by first | exact .inl rfl | exact .inr (.inl rfl) | exact .inr (.inr rfl))) (a_cons (j_call T.c__law_pick (ar__law_pick _) hr (Nat.le_succ _) rfl (a_cons (r_var (i := 0) rfl (by first | exact .inl rfl | exact .inr (.inl rfl) | exact .inr (.inr rfl))) (a_cons (r_new (r_lst (a_cons r_str (a_cons r_str a_nil)))) a_nil))) (a_cons (r_op op_subI f_sub (r_var (i := 3) rfl (by first | exact .inl rfl | exact .inr (.inl rfl) | exact .inr (.inr rfl))) r_int) a_nil))))) (a_cons (r_var (i := 2) rfl (by first | exact .inl rfl | exact .inr (.inl rfl) | exact .inr (.inr rfl))) a_nil)))))))) s_nil) (s_cons (s_if (PW.pt (w_and (r_cmpT (op_eqB hv) f_eqB (r_var (i := 5) rfl (by first | exact .inl rfl | exact .inr (.inl rfl) | exact .inr (.inr rfl))) r_int (nomark _)) (w_and1 (r_cmpT op_gtA f_gt (r_var (i := 3) rfl (by first | exact .inl rfl | exact .inr (.inl rfl) | exact .inr (.inr rfl))) r_int (nomark _))))) (s_cons (s_set (i := 8) nd rfl (by first | exact .inl rfl | exact .inr rfl) (r_tup (a_cons r_str (a_cons (r_var (i := 2) rfl (by first | exact .inl rfl | exact .inr (.inl rfl) | exact .inr (.inr rfl))) (a_cons (r_new (r_lc (own := [("k", 10)]) rfl nd (i_range1 rfl T.z_range (a_cons (j_call T.c__law_draw (ar__law_draw _) hr (Nat.le_succ _) rfl (a_cons (r_var (i := 0) rfl (by first | exact .inl rfl | exact .inr (.inl rfl) | exact .inr (.inr rfl))) (a_cons r_int a_nil))) a_nil)) (by first | exact blkOk_by (N := ["state", "names", "kind", "deep", "row", "pick", "many", "found", "inner", "name", "k"]) (sc := C8.fnScope s__law_typed) (by decide +kernel) | exact blkOk_by rfl | exact blkOk_by (by with_unfolding_all rfl)) (by decide) (fun _ _ _ _ _ => (g_name (i := 10) nd rfl (by first | exact .inl rfl | exact .inr rfl))) (fun _ _ _ _ _ => t_yes) (fun _ _ _ _ _ => (j_call T.c__law_typed (ar__law_typed _) hr (Nat.le_succ _) rfl (a_cons (r_var (i := 0) rfl (by first | exact .inl rfl | exact .inr (.inl rfl) | exact .inr (.inr rfl))) (a_cons (r_var (i := 1) rfl (by first | exact .inl rfl | exact .inr (.inl rfl) | exact .inr (.inr rfl))) (a_cons (r_var (i := 2) rfl (by first | exact .inl rfl | exact .inr (.inl rfl) | exact .inr (.inr rfl))) (a_cons (r_op op_subI f_sub (r_var (i := 3) rfl (by first | exact .inl rfl | exact .inr (.inl rfl) | exact .inr (.inr rfl))) r_int) a_nil)))))))) a_nil))))) (s_one (s_ret (r_tup (a_cons r_str (a_cons (r_var (i := 8) rfl (by first | exact .inl rfl | exact .inr (.inl rfl) | exact .inr (.inr rfl))) (a_cons (j_call T.c__law_typed (ar__law_typed _) hr (Nat.le_succ _) rfl (a_cons (r_var (i := 0) rfl (by first | exact .inl rfl | exact .inr (.inl rfl) | exact .inr (.inr rfl))) (a_cons (r_var (i := 1) rfl (by first | exact .inl rfl | exact .inr (.inl rfl) | exact .inr (.inr rfl))) (a_cons r_str (a_cons (r_op op_subI f_sub (r_var (i := 3) rfl (by first | exact .inl rfl | exact .inr (.inl rfl) | exact .inr (.inr rfl))) r_int) a_nil))))) a_nil))))))) s_nil) (s_cons (s_if (r_cmpT (op_eqB hv) f_eqB (r_var (i := 2) rfl (by first | exact .inl rfl | exact .inr (.inl rfl) | exact .inr (.inr rfl))) r_str (nomark _)) (s_one (s_ret (j_call T.c__law_typed_int (ar__law_typed_int _) hr (Nat.le_succ _) rfl (a_cons (r_var (i := 0) rfl (by first | exact .inl rfl | exact .inr (.inl rfl) | exact .inr (.inr rfl))) (a_cons (r_var (i := 1) rfl (by first | exact .inl rfl | exact .inr (.inl rfl) | exact .inr (.inr rfl))) (a_cons (r_var (i := 3) rfl (by first | exact .inl rfl | exact .inr (.inl rfl) | exact .inr (.inr rfl))) a_nil)))))) s_nil) (s_cons (s_if (r_cmpT (op_eqB hv) f_eqB (r_var (i := 2) rfl (by first | exact .inl rfl | exact .inr (.inl rfl) | exact .inr (.inr rfl))) r_str (nomark _)) (s_one (s_ret (j_call T.c__law_typed_bool (ar__law_typed_bool _) hr (Nat.le_succ _) rfl (a_cons (r_var (i := 0) rfl (by first | exact .inl rfl | exact .inr (.inl rfl) | exact .inr (.inr rfl))) (a_cons (r_var (i := 1) rfl (by first | exact .inl rfl | exact .inr (.inl rfl) | exact .inr (.inr rfl))) (a_cons (r_var (i := 3) rfl (by first | exact .inl rfl | exact .inr (.inl rfl) | exact .inr (.inr rfl))) a_nil)))))) s_nil) (s_cons (s_if (r_cmpT (op_eqB hv) f_eqB (r_var (i := 2) rfl (by first | exact .inl rfl | exact .inr (.inl rfl) | exact .inr (.inr rfl))) r_str (nomark _)) (s_cons (s_if (PW.pt (w_or (r_cmpT (op_eqB hv) f_eqB (r_var (i := 3) rfl (by first | exact .inl rfl | exact .inr (.inl rfl) | exact .inr (.inr rfl))) r_int (nomark _)) (w_or1 (r_cmpT (op_eqB hv) f_eqB (r_var (i := 5) rfl (by first | exact .inl rfl | exact .inr (.inl rfl) | exact .inr (.inr rfl))) r_int (nomark _))))) (s_one (s_ret (r_tup (a_cons r_str (a_cons (j_call T.c__law_pick (ar__law_pick _) hr (Nat.le_succ _) rfl (a_cons (r_var (i := 0) rfl (by first | exact .inl rfl | exact .inr (.inl rfl) | exact .inr (.inr rfl))) (a_cons (r_new (r_lst (a_cons r_str (a_cons r_str (a_cons r_str a_nil))))) a_nil))) a_nil))))) s_nil) (s_cons (s_if (r_cmpT (op_ltA hr.units0) f_lt (r_var (i := 5) rfl (by first | exact .inl rfl | exact .inr (.inl rfl) | exact .inr (.inr rfl))) r_int (nomark _)) (s_one (s_ret (r_tup (a_cons r_str (a_cons r_str (a_cons (j_call T.c__law_typed (ar__law_typed _) hr (Nat.le_succ _) rfl (a_cons (r_var (i := 0) rfl (by first | exact .inl rfl | exact .inr (.inl rfl) | exact .inr (.inr rfl))) (a_cons (r_var (i := 1) rfl (by first | exact .inl rfl | exact .inr (.inl rfl) | exact .inr (.inr rfl))) (a_cons r_str (a_cons (r_op op_subI f_sub (r_var (i := 3) rfl (by first | exact .inl rfl | exact .inr (.inl rfl) | exact .inr (.inr rfl))) r_int) a_nil))))) (a_cons (j_call T.c__law_typed (ar__law_typed _) hr (Nat.le_succ _) rfl (a_cons (r_var (i := 0) rfl (by first | exact .inl rfl | exact .inr (.inl rfl) | exact .inr (.inr rfl))) (a_cons (r_var (i := 1) rfl (by first | exact .inl rfl | exact .inr (.inl rfl) | exact .inr (.inr rfl))) (a_cons r_str (a_cons (r_op op_subI f_sub (r_var (i := 3) rfl (by first | exact .inl rfl | exact .inr (.inl rfl) | exact .inr (.inr rfl))) r_int) a_nil))))) a_nil))))))) s_nil) (s_one (s_ret (r_tup (a_cons r_str (a_cons (j_call T.c__law_typed (ar__law_typed _) hr (Nat.le_succ _) rfl (a_cons (r_var (i := 0) rfl (by first | exact .inl rfl | exact .inr (.inl rfl) | exact .inr (.inr rfl))) (a_cons (r_var (i := 1) rfl (by first | exact .inl rfl | exact .inr (.inl rfl) | exact .inr (.inr rfl))) (a_cons (j_call T.c__law_pick (ar__law_pick _) hr (Nat.le_succ _) rfl (a_cons (r_var (i := 0) rfl (by first | exact .inl rfl | exact .inr (.inl rfl) | exact .inr (.inr rfl))) (a_cons (r_new (r_lst (a_cons r_str (a_cons r_str a_nil)))) a_nil))) (a_cons (r_op op_subI f_sub (r_var (i := 3) rfl (by first | exact .inl rfl | exact .inr (.inl rfl) | exact .inr (.inr rfl))) r_int) a_nil))))) a_nil))))))) s_nil) (s_cons (s_if (r_cmpT (op_eqB hv) f_eqB (r_var (i := 2) rfl (by first | exact .inl rfl | exact .inr (.inl rfl) | exact .inr (.inr rfl))) r_str (nomark _)) (s_cons (s_if (PW.pt (w_and (r_cmpT op_gtA f_gt (r_var (i := 3) rfl (by first | exact .inl rfl | exact .inr (.inl rfl) | exact .inr (.inr rfl))) r_int (nomark _)) (w_and1 (r_cmpT op_gtA f_gt (r_var (i := 5) rfl (by first | exact .inl rfl | exact .inr (.inl rfl) | exact .inr (.inr rfl))) r_int (nomark _))))) (s_one (s_ret (r_tup (a_cons r_str (a_cons r_str (a_cons (j_call T.c__law_typed (ar__law_typed _) hr (Nat.le_succ _) rfl (a_cons (r_var (i := 0) rfl (by first | exact .inl rfl | exact .inr (.inl rfl) | exact .inr (.inr rfl))) (a_cons (r_var (i := 1) rfl (by first | exact .inl rfl | exact .inr (.inl rfl) | exact .inr (.inr rfl))) (a_cons r_str (a_cons (r_op op_subI f_sub (r_var (i := 3) rfl (by first | exact .inl rfl | exact .inr (.inl rfl) | exact .inr (.inr rfl))) r_int) a_nil))))) a_nil)))))) s_nil) (s_one (s_ret (r_tup (a_cons r_str a_nil))))) s_nil) (s_cons (s_set (i := 6) nd rfl (by first | exact .inl rfl | exact .inr rfl) (r_ifExp (r_cmpT (op_eqB hv) f_eqB (r_var (i := 3) rfl (by first | exact .inl rfl | exact .inr (.inl rfl) | exact .inr (.inr rfl))) r_int (nomark _)) r_int (j_call T.c__law_draw (ar__law_draw _) hr (Nat.le_succ _) rfl (a_cons (r_var (i := 0) rfl (by first | exact .inl rfl | exact .inr (.inl rfl) | exact .inr (.inr rfl))) (a_cons r_int a_nil))))) (s_cons (s_set (i := 7) nd rfl (by first | exact .inl rfl | exact .inr rfl) (r_tup (a_cons r_str (a_cons (r_subB hu (r_var (i := 2) rfl (by first | exact .inl rfl | exact .inr (.inl rfl) | exact .inr (.inr rfl))) r_int (fun _ _ => rfl)) (a_cons (r_new (r_lc (own := [("k", 10)]) rfl nd (i_range1 rfl T.z_range (a_cons (r_var (i := 6) rfl (by first | exact .inl rfl | exact .inr (.inl rfl) | exact .inr (.inr rfl))) a_nil)) (by first | exact blkOk_by (N := ["state", "names", "kind", "deep", "row", "pick", "many", "found", "inner", "name", "k"]) (sc := C8.fnScope s__law_typed) (by decide +kernel) | exact blkOk_by rfl | exact blkOk_by (by with_unfolding_all rfl)) (by decide) (fun _ _ _ _ _ => (g_name (i := 10) nd rfl (by first | exact .inl rfl | exact .inr rfl))) (fun _ _ _ _ _ => t_yes) (fun _ _ _ _ _ => (j_call T.c__law_typed (ar__law_typed _) hr (Nat.le_succ _) rfl (a_cons (r_var (i := 0) rfl (by first | exact .inl rfl | exact .inr (.inl rfl) | exact .inr (.inr rfl))) (a_cons (r_var (i := 1) rfl (by first | exact .inl rfl | exact .inr (.inl rfl) | exact .inr (.inr rfl))) (a_cons (r_subB hu (r_var (i := 2) rfl (by first | exact .inl rfl | exact .inr (.inl rfl) | exact .inr (.inr rfl))) r_int (fun _ _ => rfl)) (a_cons (r_op op_subI f_sub (r_var (i := 3) rfl (by first | exact .inl rfl | exact .inr (.inl rfl) | exact .inr (.inr rfl))) r_int) a_nil)))))))) a_nil))))) (s_cons (s_if (PW.pt (w_and (r_cmpT op_gtA f_gt (r_var (i := 3) rfl (by first | exact .inl rfl | exact .inr (.inl rfl) | exact .inr (.inr rfl))) r_int (nomark _)) (w_and1 (r_cmpT (op_eqB hv) f_eqB (r_var (i := 5) rfl (by first | exact .inl rfl | exact .inr (.inl rfl) | exact .inr (.inr rfl))) r_int (nomark _))))) (s_one (s_ret (r_tup (a_cons r_str (a_cons r_str (a_cons (r_var (i := 7) rfl (by first | exact .inl rfl | exact .inr (.inl rfl) | exact .inr (.inr rfl))) (a_cons (j_call T.c__law_typed (ar__law_typed _) hr (Nat.le_succ _) rfl (a_cons (r_var (i := 0) rfl (by first | exact .inl rfl | exact .inr (.inl rfl) | exact .inr (.inr rfl))) (a_cons (r_var (i := 1) rfl (by first | exact .inl rfl | exact .inr (.inl rfl) | exact .inr (.inr rfl))) (a_cons (r_var (i := 2) rfl (by first | exact .inl rfl | exact .inr (.inl rfl) | exact .inr (.inr rfl))) (a_cons (r_op op_subI f_sub (r_var (i := 3) rfl (by first | exact .inl rfl | exact .inr (.inl rfl) | exact .inr (.inr rfl))) r_int) a_nil))))) a_nil))))))) s_nil) (s_one (s_ret (r_var (i := 7) rfl (by first | exact .inl rfl | exact .inr (.inl rfl) | exact .inr (.inr rfl))))))))))))))))))
theorem k__law_typed_int (T : Tb P w K mg base n) {f : Addr} (cdv : Value) (A : Around) (outer : List PySem.Env) (s : Shared) (H : Hp) (E : XK) (hr : Room (2 * n + 3) (A.deeper (envOfC "_law_typed_int" (C8.fnScope s__law_typed_int) s.heap.objs.size f cdv))) :
    PSs (cxOf CX0 P w K mg base ["state", "names", "deep", "pick", "sign", "args"] "_law_typed_int" (C8.fnScope s__law_typed_int) f cdv A outer s H E).nox (C8.fnBody s__law_typed_int) (tIS K W0 (b__law_typed_int (FF n) (GG n))) :=
  have nd := sc__law_typed_int.nd
  have hu := hu_of hr
  have hv : (A.deeper (envOfC "_law_typed_int" (C8.fnScope s__law_typed_int) s.heap.objs.size f cdv)).units + 65 < cLine := by have := hr.un; omega
  (s_cons (s_set (i := 3) nd rfl (by first | exact .inl rfl | exact .inr rfl) (j_call T.c__law_draw (ar__law_draw _) hr (Nat.le_succ _) rfl (a_cons (r_var (i := 0) rfl (by first | exact .inl rfl | exact .inr (.inl rfl) | exact .inr (.inr rfl))) (a_cons r_int a_nil)))) (s_cons (s_if (PW.pt (w_or (r_cmpT (op_eqB hv) f_eqB (r_var (i := 2) rfl (by first | exact .inl rfl | exact .inr (.inl rfl) | exact .inr (.inr rfl))) r_int (nomark _)) (w_or1 (r_cmpT (op_ltA hr.units0) f_lt (r_var (i := 3) rfl (by first | exact .inl rfl | exact .inr (.inl rfl) | exact .inr (.inr rfl))) r_int (nomark _))))) (s_one (s_ret (r_tup (a_cons r_str (a_cons (j_call T.c__law_pick (ar__law_pick _) hr (Nat.le_succ _) rfl (a_cons (r_var (i := 0) rfl (by first | exact .inl rfl | exact .inr (.inl rfl) | exact .inr (.inr rfl))) (a_cons (r_new (r_lst (a_cons r_int (a_cons r_int (a_cons r_int (a_cons r_int a_nil)))))) a_nil))) a_nil))))) s_nil) (s_cons (s_if (r_cmpT (op_ltA hr.units0) f_lt (r_var (i := 3) rfl (by first | exact .inl rfl | exact .inr (.inl rfl) | exact .inr (.inr rfl))) r_int (nomark _)) (s_cons (s_set (i := 4) nd rfl (by first | exact .inl rfl | exact .inr rfl) (j_call T.c__law_pick (ar__law_pick _) hr (Nat.le_succ _) rfl (a_cons (r_var (i := 0) rfl (by first | exact .inl rfl | exact .inr (.inl rfl) | exact .inr (.inr rfl))) (a_cons (r_new (r_lst (a_cons r_str (a_cons r_str (a_cons r_str (a_cons r_str a_nil)))))) a_nil)))) (s_one (s_ret (r_tup (a_cons r_str (a_cons (r_var (i := 4) rfl (by first | exact .inl rfl | exact .inr (.inl rfl) | exact .inr (.inr rfl))) (a_cons (j_call T.c__law_typed (ar__law_typed _) hr (Nat.le_succ _) rfl (a_cons (r_var (i := 0) rfl (by first | exact .inl rfl | exact .inr (.inl rfl) | exact .inr (.inr rfl))) (a_cons (r_var (i := 1) rfl (by first | exact .inl rfl | exact .inr (.inl rfl) | exact .inr (.inr rfl))) (a_cons r_str (a_cons (r_op op_subI f_sub (r_var (i := 2) rfl (by first | exact .inl rfl | exact .inr (.inl rfl) | exact .inr (.inr rfl))) r_int) a_nil))))) (a_cons (j_call T.c__law_typed (ar__law_typed _) hr (Nat.le_succ _) rfl (a_cons (r_var (i := 0) rfl (by first | exact .inl rfl | exact .inr (.inl rfl) | exact .inr (.inr rfl))) (a_cons (r_var (i := 1) rfl (by first | exact .inl rfl | exact .inr (.inl rfl) | exact .inr (.inr rfl))) (a_cons r_str (a_cons (r_op op_subI f_sub (r_var (i := 2) rfl (by first | exact .inl rfl | exact .inr (.inl rfl) | exact .inr (.inr rfl))) r_int) a_nil))))) a_nil)))))))) s_nil) (s_cons (s_if (r_cmpT (op_eqB hv) f_eqB (r_var (i := 3) rfl (by first | exact .inl rfl | exact .inr (.inl rfl) | exact .inr (.inr rfl))) r_int (nomark _)) (s_one (s_ret (r_tup (a_cons (j_call T.c__law_pick (ar__law_pick _) hr (Nat.le_succ _) rfl (a_cons (r_var (i := 0) rfl (by first | exact .inl rfl | exact .inr (.inl rfl) | exact .inr (.inr rfl))) (a_cons (r_new (r_lst (a_cons r_str (a_cons r_str a_nil)))) a_nil))) (a_cons (j_call T.c__law_typed (ar__law_typed _) hr (Nat.le_succ _) rfl (a_cons (r_var (i := 0) rfl (by first | exact .inl rfl | exact .inr (.inl rfl) | exact .inr (.inr rfl))) (a_cons (r_var (i := 1) rfl (by first | exact .inl rfl | exact .inr (.inl rfl) | exact .inr (.inr rfl))) (a_cons r_str (a_cons (r_op op_subI f_sub (r_var (i := 2) rfl (by first | exact .inl rfl | exact .inr (.inl rfl) | exact .inr (.inr rfl))) r_int) a_nil))))) a_nil))))) s_nil) (s_cons (s_if (r_cmpT (op_eqB hv) f_eqB (r_var (i := 3) rfl (by first | exact .inl rfl | exact .inr (.inl rfl) | exact .inr (.inr rfl))) r_int (nomark _)) (s_one (s_ret (r_tup (a_cons r_str (a_cons (j_call T.c__law_typed (ar__law_typed _) hr (Nat.le_succ _) rfl (a_cons (r_var (i := 0) rfl (by first | exact .inl rfl | exact .inr (.inl rfl) | exact .inr (.inr rfl))) (a_cons (r_var (i := 1) rfl (by first | exact .inl rfl | exact .inr (.inl rfl) | exact .inr (.inr rfl))) (a_cons (j_call T.c__law_pick (ar__law_pick _) hr (Nat.le_succ _) rfl (a_cons (r_var (i := 0) rfl (by first | exact .inl rfl | exact .inr (.inl rfl) | exact .inr (.inr rfl))) (a_cons (r_new (r_lst (a_cons r_str (a_cons (r_tup (a_cons r_str (a_cons r_str a_nil))) a_nil)))) a_nil))) (a_cons (r_op op_subI f_sub (r_var (i := 2) rfl (by first | exact .inl rfl | exact .inr (.inl rfl) | exact .inr (.inr rfl))) r_int) a_nil))))) a_nil))))) s_nil) (s_cons (s_if (r_cmpT (op_eqB hv) f_eqB (r_var (i := 3) rfl (by first | exact .inl rfl | exact .inr (.inl rfl) | exact .inr (.inr rfl))) r_int (nomark _)) (s_cons (s_set (i := 5) nd rfl (by first | exact .inl rfl | exact .inr rfl) (r_new (r_lst (a_cons (j_call T.c__law_typed (ar__law_typed _) hr (Nat.le_succ _) rfl (a_cons (r_var (i := 0) rfl (by first | exact .inl rfl | exact .inr (.inl rfl) | exact .inr (.inr rfl))) (a_cons (r_var (i := 1) rfl (by first | exact .inl rfl | exact .inr (.inl rfl) | exact .inr (.inr rfl))) (a_cons r_str (a_cons (r_op op_subI f_sub (r_var (i := 2) rfl (by first | exact .inl rfl | exact .inr (.inl rfl) | exact .inr (.inr rfl))) r_int) a_nil))))) a_nil)))) (s_one (s_ret (j_call T.c__law_pick (ar__law_pick _) hr (Nat.le_succ _) rfl (a_cons (r_var (i := 0) rfl (by first | exact .inl rfl | exact .inr (.inl rfl) | exact .inr (.inr rfl))) (a_cons (r_new (r_lst (a_cons (r_tup (a_cons r_str (a_cons r_str (a_cons (r_var (i := 5) rfl (by first | exact .inl rfl | exact .inr (.inl rfl) | exact .inr (.inr rfl))) a_nil)))) (a_cons (r_tup (a_cons r_str (a_cons r_str (a_cons r_str (a_cons (r_var (i := 5) rfl (by first | exact .inl rfl | exact .inr (.inl rfl) | exact .inr (.inr rfl))) a_nil))))) a_nil)))) a_nil)))))) s_nil) (s_one (s_ret (r_tup (a_cons r_str a_nil))))))))))
theorem k__law_typed_bool (T : Tb P w K mg base n) {f : Addr} (cdv : Value) (A : Around) (outer : List PySem.Env) (s : Shared) (H : Hp) (E : XK) (hr : Room (2 * n + 3) (A.deeper (envOfC "_law_typed_bool" (C8.fnScope s__law_typed_bool) s.heap.objs.size f cdv))) :
    PSs (cxOf CX0 P w K mg base ["state", "names", "deep", "pick", "kind", "sign"] "_law_typed_bool" (C8.fnScope s__law_typed_bool) f cdv A outer s H E).nox (C8.fnBody s__law_typed_bool) (tIS K W0 (b__law_typed_bool (FF n) (GG n))) :=
  have nd := sc__law_typed_bool.nd
  have hu := hu_of hr
  have hv : (A.deeper (envOfC "_law_typed_bool" (C8.fnScope s__law_typed_bool) s.heap.objs.size f cdv)).units + 65 < cLine := by have := hr.un; omega
  (s_cons (s_set (i := 3) nd rfl (by first | exact .inl rfl | exact .inr rfl) (j_call T.c__law_draw (ar__law_draw _) hr (Nat.le_succ _) rfl (a_cons (r_var (i := 0) rfl (by first | exact .inl rfl | exact .inr (.inl rfl) | exact .inr (.inr rfl))) (a_cons r_int a_nil)))) (s_cons (s_if (PW.pt (w_or (r_cmpT (op_eqB hv) f_eqB (r_var (i := 2) rfl (by first | exact .inl rfl | exact .inr (.inl rfl) | exact .inr (.inr rfl))) r_int (nomark _)) (w_or1 (r_cmpT (op_ltA hr.units0) f_lt (r_var (i := 3) rfl (by first | exact .inl rfl | exact .inr (.inl rfl) | exact .inr (.inr rfl))) r_int (nomark _))))) (s_one (s_ret (r_tup (a_cons r_str (a_cons (r_cmp (op_eqB hv) f_eqB (j_call T.c__law_draw (ar__law_draw _) hr (Nat.le_succ _) rfl (a_cons (r_var (i := 0) rfl (by first | exact .inl rfl | exact .inr (.inl rfl) | exact .inr (.inr rfl))) (a_cons r_int a_nil))) r_int (nomark _)) a_nil))))) s_nil) (s_cons (s_if (r_cmpT (op_ltA hr.units0) f_lt (r_var (i := 3) rfl (by first | exact .inl rfl | exact .inr (.inl rfl) | exact .inr (.inr rfl))) r_int (nomark _)) (s_cons (s_set (i := 5) nd rfl (by first | exact .inl rfl | exact .inr rfl) (j_call T.c__law_pick (ar__law_pick _) hr (Nat.le_succ _) rfl (a_cons (r_var (i := 0) rfl (by first | exact .inl rfl | exact .inr (.inl rfl) | exact .inr (.inr rfl))) (a_cons (r_new (r_lst (a_cons r_str (a_cons r_str a_nil)))) a_nil)))) (s_one (s_ret (r_tup (a_cons r_str (a_cons (r_var (i := 5) rfl (by first | exact .inl rfl | exact .inr (.inl rfl) | exact .inr (.inr rfl))) (a_cons (j_call T.c__law_typed (ar__law_typed _) hr (Nat.le_succ _) rfl (a_cons (r_var (i := 0) rfl (by first | exact .inl rfl | exact .inr (.inl rfl) | exact .inr (.inr rfl))) (a_cons (r_var (i := 1) rfl (by first | exact .inl rfl | exact .inr (.inl rfl) | exact .inr (.inr rfl))) (a_cons r_str (a_cons (r_op op_subI f_sub (r_var (i := 2) rfl (by first | exact .inl rfl | exact .inr (.inl rfl) | exact .inr (.inr rfl))) r_int) a_nil))))) (a_cons (j_call T.c__law_typed (ar__law_typed _) hr (Nat.le_succ _) rfl (a_cons (r_var (i := 0) rfl (by first | exact .inl rfl | exact .inr (.inl rfl) | exact .inr (.inr rfl))) (a_cons (r_var (i := 1) rfl (by first | exact .inl rfl | exact .inr (.inl rfl) | exact .inr (.inr rfl))) (a_cons r_str (a_cons (r_op op_subI f_sub (r_var (i := 2) rfl (by first | exact .inl rfl | exact .inr (.inl rfl) | exact .inr (.inr rfl))) r_int) a_nil))))) a_nil)))))))) s_nil) (s_cons (s_if (r_cmpT (op_eqB hv) f_eqB (r_var (i := 3) rfl (by first | exact .inl rfl | exact .inr (.inl rfl) | exact .inr (.inr rfl))) r_int (nomark _)) (s_one (s_ret (r_tup (a_cons r_str (a_cons (j_call T.c__law_typed (ar__law_typed _) hr (Nat.le_succ _) rfl (a_cons (r_var (i := 0) rfl (by first | exact .inl rfl | exact .inr (.inl rfl) | exact .inr (.inr rfl))) (a_cons (r_var (i := 1) rfl (by first | exact .inl rfl | exact .inr (.inl rfl) | exact .inr (.inr rfl))) (a_cons r_str (a_cons (r_op op_subI f_sub (r_var (i := 2) rfl (by first | exact .inl rfl | exact .inr (.inl rfl) | exact .inr (.inr rfl))) r_int) a_nil))))) a_nil))))) s_nil) (s_cons (s_if (r_cmpT (op_eqB hv) f_eqB (r_var (i := 3) rfl (by first | exact .inl rfl | exact .inr (.inl rfl) | exact .inr (.inr rfl))) r_int (nomark _)) (s_one (s_ret (r_tup (a_cons r_str (a_cons r_str (a_cons (r_new (r_lst (a_cons (j_call T.c__law_typed (ar__law_typed _) hr (Nat.le_succ _) rfl (a_cons (r_var (i := 0) rfl (by first | exact .inl rfl | exact .inr (.inl rfl) | exact .inr (.inr rfl))) (a_cons (r_var (i := 1) rfl (by first | exact .inl rfl | exact .inr (.inl rfl) | exact .inr (.inr rfl))) (a_cons r_str (a_cons (r_op op_subI f_sub (r_var (i := 2) rfl (by first | exact .inl rfl | exact .inr (.inl rfl) | exact .inr (.inr rfl))) r_int) a_nil))))) (a_cons (j_call T.c__law_typed (ar__law_typed _) hr (Nat.le_succ _) rfl (a_cons (r_var (i := 0) rfl (by first | exact .inl rfl | exact .inr (.inl rfl) | exact .inr (.inr rfl))) (a_cons (r_var (i := 1) rfl (by first | exact .inl rfl | exact .inr (.inl rfl) | exact .inr (.inr rfl))) (a_cons r_str (a_cons (r_op op_subI f_sub (r_var (i := 2) rfl (by first | exact .inl rfl | exact .inr (.inl rfl) | exact .inr (.inr rfl))) r_int) a_nil))))) a_nil)))) a_nil)))))) s_nil) (s_cons (s_if (r_cmpT (op_eqB hv) f_eqB (r_var (i := 3) rfl (by first | exact .inl rfl | exact .inr (.inl rfl) | exact .inr (.inr rfl))) r_int (nomark _)) (s_cons (s_set (i := 4) nd rfl (by first | exact .inl rfl | exact .inr rfl) (j_call T.c__law_pick (ar__law_pick _) hr (Nat.le_succ _) rfl (a_cons (r_var (i := 0) rfl (by first | exact .inl rfl | exact .inr (.inl rfl) | exact .inr (.inr rfl))) (a_cons (r_new (r_lst (a_cons r_str (a_cons r_str (a_cons (r_tup (a_cons r_str (a_cons r_str a_nil))) a_nil))))) a_nil)))) (s_one (s_ret (r_tup (a_cons r_str (a_cons (j_call T.c__law_pick (ar__law_pick _) hr (Nat.le_succ _) rfl (a_cons (r_var (i := 0) rfl (by first | exact .inl rfl | exact .inr (.inl rfl) | exact .inr (.inr rfl))) (a_cons (r_new (r_lst (a_cons r_str (a_cons r_str a_nil)))) a_nil))) (a_cons (j_call T.c__law_typed (ar__law_typed _) hr (Nat.le_succ _) rfl (a_cons (r_var (i := 0) rfl (by first | exact .inl rfl | exact .inr (.inl rfl) | exact .inr (.inr rfl))) (a_cons (r_var (i := 1) rfl (by first | exact .inl rfl | exact .inr (.inl rfl) | exact .inr (.inr rfl))) (a_cons (r_var (i := 4) rfl (by first | exact .inl rfl | exact .inr (.inl rfl) | exact .inr (.inr rfl))) (a_cons (r_op op_subI f_sub (r_var (i := 2) rfl (by first | exact .inl rfl | exact .inr (.inl rfl) | exact .inr (.inr rfl))) r_int) a_nil))))) (a_cons (j_call T.c__law_typed (ar__law_typed _) hr (Nat.le_succ _) rfl (a_cons (r_var (i := 0) rfl (by first | exact .inl rfl | exact .inr (.inl rfl) | exact .inr (.inr rfl))) (a_cons (r_var (i := 1) rfl (by first | exact .inl rfl | exact .inr (.inl rfl) | exact .inr (.inr rfl))) (a_cons (r_var (i := 4) rfl (by first | exact .inl rfl | exact .inr (.inl rfl) | exact .inr (.inr rfl))) (a_cons (r_op op_subI f_sub (r_var (i := 2) rfl (by first | exact .inl rfl | exact .inr (.inl rfl) | exact .inr (.inr rfl))) r_int) a_nil))))) a_nil)))))))) s_nil) (s_cons (s_set (i := 4) nd rfl (by first | exact .inl rfl | exact .inr rfl) (j_call T.c__law_pick (ar__law_pick _) hr (Nat.le_succ _) rfl (a_cons (r_var (i := 0) rfl (by first | exact .inl rfl | exact .inr (.inl rfl) | exact .inr (.inr rfl))) (a_cons (r_new (r_lst (a_cons r_str (a_cons r_str a_nil)))) a_nil)))) (s_cons (s_set (i := 5) nd rfl (by first | exact .inl rfl | exact .inr rfl) (j_call T.c__law_pick (ar__law_pick _) hr (Nat.le_succ _) rfl (a_cons (r_var (i := 0) rfl (by first | exact .inl rfl | exact .inr (.inl rfl) | exact .inr (.inr rfl))) (a_cons (r_new (r_lst (a_cons r_str (a_cons r_str (a_cons r_str (a_cons r_str a_nil)))))) a_nil)))) (s_one (s_ret (r_tup (a_cons r_str (a_cons (r_var (i := 5) rfl (by first | exact .inl rfl | exact .inr (.inl rfl) | exact .inr (.inr rfl))) (a_cons (j_call T.c__law_typed (ar__law_typed _) hr (Nat.le_succ _) rfl (a_cons (r_var (i := 0) rfl (by first | exact .inl rfl | exact .inr (.inl rfl) | exact .inr (.inr rfl))) (a_cons (r_var (i := 1) rfl (by first | exact .inl rfl | exact .inr (.inl rfl) | exact .inr (.inr rfl))) (a_cons (r_var (i := 4) rfl (by first | exact .inl rfl | exact .inr (.inl rfl) | exact .inr (.inr rfl))) (a_cons (r_op op_subI f_sub (r_var (i := 2) rfl (by first | exact .inl rfl | exact .inr (.inl rfl) | exact .inr (.inr rfl))) r_int) a_nil))))) (a_cons (j_call T.c__law_typed (ar__law_typed _) hr (Nat.le_succ _) rfl (a_cons (r_var (i := 0) rfl (by first | exact .inl rfl | exact .inr (.inl rfl) | exact .inr (.inr rfl))) (a_cons (r_var (i := 1) rfl (by first | exact .inl rfl | exact .inr (.inl rfl) | exact .inr (.inr rfl))) (a_cons (r_var (i := 4) rfl (by first | exact .inl rfl | exact .inr (.inl rfl) | exact .inr (.inr rfl))) (a_cons (r_op op_subI f_sub (r_var (i := 2) rfl (by first | exact .inl rfl | exact .inr (.inl rfl) | exact .inr (.inr rfl))) r_int) a_nil))))) a_nil)))))))))))))))
theorem k__law_with (T : Tb P w K mg base n) {f : Addr} (cdv : Value) (A : Around) (outer : List PySem.Env) (s : Shared) (H : Hp) (E : XK) (hr : Room (2 * n + 3) (A.deeper (envOfC "_law_with" (C8.fnScope s__law_with) s.heap.objs.size f cdv))) :
    PSs (cxOf CX0 P w K mg base ["tree", "parts", "kind"] "_law_with" (C8.fnScope s__law_with) f cdv A outer s H E).nox (C8.fnBody s__law_with) (tIS K W0 (b__law_with (FF n) (GG n))) :=
  have nd := sc__law_with.nd
  have hu := hu_of hr
  have hv : (A.deeper (envOfC "_law_with" (C8.fnScope s__law_with) s.heap.objs.size f cdv)).units + 65 < cLine := by have := hr.un; omega
  (s_cons (s_set (i := 2) nd rfl (by first | exact .inl rfl | exact .inr rfl) (r_subB hu (r_var (i := 0) rfl (by first | exact .inl rfl | exact .inr (.inl rfl) | exact .inr (.inr rfl))) r_int (fun _ _ => rfl))) (s_cons (s_if (r_cmpT (op_eqB hv) f_eqB (r_var (i := 2) rfl (by first | exact .inl rfl | exact .inr (.inl rfl) | exact .inr (.inr rfl))) r_str (nomark _)) (s_one (s_ret (r_tup (a_cons r_str (a_cons (r_subB hu (r_var (i := 0) rfl (by first | exact .inl rfl | exact .inr (.inl rfl) | exact .inr (.inr rfl))) r_int (fun _ _ => rfl)) (a_cons (r_subB hu (r_var (i := 1) rfl (by first | exact .inl rfl | exact .inr (.inl rfl) | exact .inr (.inr rfl))) r_int (fun _ _ => rfl)) (a_cons (r_subB hu (r_var (i := 1) rfl (by first | exact .inl rfl | exact .inr (.inl rfl) | exact .inr (.inr rfl))) r_int (fun _ _ => rfl)) a_nil))))))) s_nil) (s_cons (s_if (r_cmpT (op_eqB hv) f_eqB (r_var (i := 2) rfl (by first | exact .inl rfl | exact .inr (.inl rfl) | exact .inr (.inr rfl))) r_str (nomark _)) (s_one (s_ret (r_tup (a_cons r_str (a_cons (r_subB hu (r_var (i := 1) rfl (by first | exact .inl rfl | exact .inr (.inl rfl) | exact .inr (.inr rfl))) r_int (fun _ _ => rfl)) (a_cons (r_subB hu (r_var (i := 1) rfl (by first | exact .inl rfl | exact .inr (.inl rfl) | exact .inr (.inr rfl))) r_int (fun _ _ => rfl)) a_nil)))))) s_nil) (s_cons (s_if (r_cmpT (op_inE hv) f_inE (r_var (i := 2) rfl (by first | exact .inl rfl | exact .inr (.inl rfl) | exact .inr (.inr rfl))) (r_tup (a_cons r_str (a_cons r_str a_nil))) (by with_unfolding_all rfl)) (s_one (s_ret (r_tup (a_cons (r_var (i := 2) rfl (by first | exact .inl rfl | exact .inr (.inl rfl) | exact .inr (.inr rfl))) (a_cons (r_subB hu (r_var (i := 0) rfl (by first | exact .inl rfl | exact .inr (.inl rfl) | exact .inr (.inr rfl))) r_int (fun _ _ => rfl)) (a_cons (r_var (i := 1) rfl (by first | exact .inl rfl | exact .inr (.inl rfl) | exact .inr (.inr rfl))) a_nil)))))) s_nil) (s_cons (s_if (r_cmpT (op_eqB hv) f_eqB (r_var (i := 2) rfl (by first | exact .inl rfl | exact .inr (.inl rfl) | exact .inr (.inr rfl))) r_str (nomark _)) (s_one (s_ret (r_get2 hu (r_new (r_dict (.cons (.cons (.cons .nil))) (pps_cons r_str (r_op op_addI f_add (r_op op_addI f_add (r_slice sl_any f_sl (r_var (i := 0) rfl (by first | exact .inl rfl | exact .inr (.inl rfl) | exact .inr (.inr rfl))) o_none (o_some r_int)) (r_callTy call_tuple_of f_tuple rfl T.z_tuple (by decide +kernel) (a_cons (r_var (i := 1) rfl (by first | exact .inl rfl | exact .inr (.inl rfl) | exact .inr (.inr rfl))) a_nil))) (r_slice sl_any f_sl (r_var (i := 0) rfl (by first | exact .inl rfl | exact .inr (.inl rfl) | exact .inr (.inr rfl))) (o_some r_int) o_none)) (pps_cons r_str (r_op op_addI f_add (r_slice sl_any f_sl (r_var (i := 0) rfl (by first | exact .inl rfl | exact .inr (.inl rfl) | exact .inr (.inr rfl))) o_none (o_some r_int)) (r_callTy call_tuple_of f_tuple rfl T.z_tuple (by decide +kernel) (a_cons (r_var (i := 1) rfl (by first | exact .inl rfl | exact .inr (.inl rfl) | exact .inr (.inr rfl))) a_nil))) (pps_cons r_str (r_op op_addI f_add (r_slice sl_any f_sl (r_var (i := 0) rfl (by first | exact .inl rfl | exact .inr (.inl rfl) | exact .inr (.inr rfl))) o_none (o_some r_int)) (r_tup (a_cons (r_var (i := 1) rfl (by first | exact .inl rfl | exact .inr (.inl rfl) | exact .inr (.inr rfl))) a_nil))) pps_nil))) rfl rfl (by simp) (by decide))) (r_subB hu (r_var (i := 0) rfl (by first | exact .inl rfl | exact .inr (.inl rfl) | exact .inr (.inr rfl))) r_int (fun _ _ => rfl)) (r_var (i := 0) rfl (by first | exact .inl rfl | exact .inr (.inl rfl) | exact .inr (.inr rfl))) ⟨rfl, rfl, rfl, rfl⟩))) s_nil) (s_one (s_ret (r_ifExp (r_cmpT op_gtA f_gt (r_callB cr_len f_lenB rfl T.z_len (by decide +kernel) (a_cons (r_var (i := 1) rfl (by first | exact .inl rfl | exact .inr (.inl rfl) | exact .inr (.inr rfl))) a_nil)) r_int (nomark _)) (r_op op_addI f_add (r_tup (a_cons (r_var (i := 2) rfl (by first | exact .inl rfl | exact .inr (.inl rfl) | exact .inr (.inr rfl))) a_nil)) (r_callTy call_tuple_of f_tuple rfl T.z_tuple (by decide +kernel) (a_cons (r_var (i := 1) rfl (by first | exact .inl rfl | exact .inr (.inl rfl) | exact .inr (.inr rfl))) a_nil))) (r_var (i := 0) rfl (by first | exact .inl rfl | exact .inr (.inl rfl) | exact .inr (.inr rfl)))))))))))
theorem k__law_turned (T : Tb P w K mg base n) {f : Addr} (cdv : Value) (A : Around) (outer : List PySem.Env) (s : Shared) (H : Hp) (E : XK) (hr : Room (2 * n + 3) (A.deeper (envOfC "_law_turned" (C8.fnScope s__law_turned) s.heap.objs.size f cdv))) :
    PSs (cxOf CX0 P w K mg base ["state", "names", "tree", "parts", "kind", "k"] "_law_turned" (C8.fnScope s__law_turned) f cdv A outer s H E).nox (C8.fnBody s__law_turned) (tIS K W0 (b__law_turned (FF n) (GG n))) :=
  have nd := sc__law_turned.nd
  have hu := hu_of hr
  have hv : (A.deeper (envOfC "_law_turned" (C8.fnScope s__law_turned) s.heap.objs.size f cdv)).units + 65 < cLine := by have := hr.un; omega
  (s_cons (s_set (i := 3) nd rfl (by first | exact .inl rfl | exact .inr rfl) (j_call T.c__law_parts (ar__law_parts _) hr (Nat.le_succ _) rfl (a_cons (r_var (i := 2) rfl (by first | exact .inl rfl | exact .inr (.inl rfl) | exact .inr (.inr rfl))) a_nil))) (s_cons (s_if (PW.pt (w_and (r_cmpT op_gtA f_gt (r_callB cr_len f_lenB rfl T.z_len (by decide +kernel) (a_cons (r_var (i := 3) rfl (by first | exact .inl rfl | exact .inr (.inl rfl) | exact .inr (.inr rfl))) a_nil)) r_int (nomark _)) (w_and1 (r_cmpT op_gtA f_gt (j_call T.c__law_draw (ar__law_draw _) hr (Nat.le_succ _) rfl (a_cons (r_var (i := 0) rfl (by first | exact .inl rfl | exact .inr (.inl rfl) | exact .inr (.inr rfl))) (a_cons r_int a_nil))) r_int (nomark _))))) (s_cons (s_set (i := 5) nd rfl (by first | exact .inl rfl | exact .inr rfl) (j_call T.c__law_draw (ar__law_draw _) hr (Nat.le_succ _) rfl (a_cons (r_var (i := 0) rfl (by first | exact .inl rfl | exact .inr (.inl rfl) | exact .inr (.inr rfl))) (a_cons (r_callB cr_len f_lenB rfl T.z_len (by decide +kernel) (a_cons (r_var (i := 3) rfl (by first | exact .inl rfl | exact .inr (.inl rfl) | exact .inr (.inr rfl))) a_nil)) a_nil)))) (s_cons (s_setIx (set_any hu) f_setA (r_var (i := 3) rfl (by first | exact .inl rfl | exact .inr (.inl rfl) | exact .inr (.inr rfl))) (r_var (i := 5) rfl (by first | exact .inl rfl | exact .inr (.inl rfl) | exact .inr (.inr rfl))) (j_call T.c__law_turned (ar__law_turned _) hr (Nat.le_succ _) rfl (a_cons (r_var (i := 0) rfl (by first | exact .inl rfl | exact .inr (.inl rfl) | exact .inr (.inr rfl))) (a_cons (r_var (i := 1) rfl (by first | exact .inl rfl | exact .inr (.inl rfl) | exact .inr (.inr rfl))) (a_cons (r_subB hu (r_var (i := 3) rfl (by first | exact .inl rfl | exact .inr (.inl rfl) | exact .inr (.inr rfl))) (r_var (i := 5) rfl (by first | exact .inl rfl | exact .inr (.inl rfl) | exact .inr (.inr rfl))) (fun _ _ => rfl)) a_nil))))) (s_one (s_ret (j_call T.c__law_with (ar__law_with _) hr (Nat.le_succ _) rfl (a_cons (r_var (i := 2) rfl (by first | exact .inl rfl | exact .inr (.inl rfl) | exact .inr (.inr rfl))) (a_cons (r_frz (r_var (i := 3) rfl (by first | exact .inl rfl | exact .inr (.inl rfl) | exact .inr (.inr rfl)))) a_nil))))))) s_nil) (s_cons (s_if (PW.pt (w_and (r_cmpT (op_eqB hv) f_eqB (r_subB hu (r_var (i := 2) rfl (by first | exact .inl rfl | exact .inr (.inl rfl) | exact .inr (.inr rfl))) r_int (fun _ _ => rfl)) r_str (nomark _)) (w_and1 (r_cmpT (op_eqB hv) f_eqB (j_call T.c__law_draw (ar__law_draw _) hr (Nat.le_succ _) rfl (a_cons (r_var (i := 0) rfl (by first | exact .inl rfl | exact .inr (.inl rfl) | exact .inr (.inr rfl))) (a_cons r_int a_nil))) r_int (nomark _))))) (s_one (s_ret (r_op op_addI f_add (r_tup (a_cons r_str (a_cons (j_call T.c__law_pick (ar__law_pick _) hr (Nat.le_succ _) rfl (a_cons (r_var (i := 0) rfl (by first | exact .inl rfl | exact .inr (.inl rfl) | exact .inr (.inr rfl))) (a_cons (r_new (r_lst (a_cons r_str (a_cons r_str (a_cons r_str (a_cons r_str (a_cons r_str a_nil))))))) a_nil))) a_nil))) (r_slice sl_any f_sl (r_var (i := 2) rfl (by first | exact .inl rfl | exact .inr (.inl rfl) | exact .inr (.inr rfl))) (o_some r_int) o_none)))) s_nil) (s_cons (s_if (PW.pt (w_and (r_cmpT (op_eqB hv) f_eqB (r_subB hu (r_var (i := 2) rfl (by first | exact .inl rfl | exact .inr (.inl rfl) | exact .inr (.inr rfl))) r_int (fun _ _ => rfl)) r_str (nomark _)) (w_and1 (r_cmpT (op_eqB hv) f_eqB (j_call T.c__law_draw (ar__law_draw _) hr (Nat.le_succ _) rfl (a_cons (r_var (i := 0) rfl (by first | exact .inl rfl | exact .inr (.inl rfl) | exact .inr (.inr rfl))) (a_cons r_int a_nil))) r_int (nomark _))))) (s_one (s_ret (r_tup (a_cons r_str (a_cons (j_call T.c__law_pick (ar__law_pick _) hr (Nat.le_succ _) rfl (a_cons (r_var (i := 0) rfl (by first | exact .inl rfl | exact .inr (.inl rfl) | exact .inr (.inr rfl))) (a_cons (r_new (r_lst (a_cons r_str (a_cons r_str (a_cons r_str a_nil))))) a_nil))) (a_cons (r_new (r_slice sl_any f_sl (r_subB hu (r_var (i := 2) rfl (by first | exact .inl rfl | exact .inr (.inl rfl) | exact .inr (.inr rfl))) r_int (fun _ _ => rfl)) (o_some r_int) o_none)) a_nil)))))) s_nil) (s_cons (s_set (i := 4) nd rfl (by first | exact .inl rfl | exact .inr rfl) (j_call T.c__law_pick (ar__law_pick _) hr (Nat.le_succ _) rfl (a_cons (r_var (i := 0) rfl (by first | exact .inl rfl | exact .inr (.inl rfl) | exact .inr (.inr rfl))) (a_cons (r_new (r_lst (a_cons r_str (a_cons r_str (a_cons r_str (a_cons r_str (a_cons (r_tup (a_cons r_str (a_cons r_str a_nil))) (a_cons r_str a_nil)))))))) a_nil)))) (s_one (s_ret (r_ifExp (r_cmpT (op_eqB hv) f_eqB (r_var (i := 4) rfl (by first | exact .inl rfl | exact .inr (.inl rfl) | exact .inr (.inr rfl))) r_str (nomark _)) (r_tup (a_cons r_str (a_cons r_str a_nil))) (j_call T.c__law_typed (ar__law_typed _) hr (Nat.le_succ _) rfl (a_cons (r_var (i := 0) rfl (by first | exact .inl rfl | exact .inr (.inl rfl) | exact .inr (.inr rfl))) (a_cons (r_var (i := 1) rfl (by first | exact .inl rfl | exact .inr (.inl rfl) | exact .inr (.inr rfl))) (a_cons (r_var (i := 4) rfl (by first | exact .inl rfl | exact .inr (.inl rfl) | exact .inr (.inr rfl))) (a_cons r_int a_nil)))))))))))))
theorem k_law (T : Tb P w K mg base n) {f : Addr} (cdv : Value) (A : Around) (outer : List PySem.Env) (s : Shared) (H : Hp) (E : XK) (hr : Room (2 * n + 3) (A.deeper (envOfC "law" (C8.fnScope s_law) s.heap.objs.size f cdv))) (hG : (A.deeper (envOfC "law" (C8.fnScope s_law) s.heap.objs.size f cdv)).guards = some []) :
    PSs (cxOf CX0 P w K mg base ["script", "state", "names", "program", "heads", "k", "kind", "tree", "turn", "kept", "due", "told", "e"] "law" (C8.fnScope s_law) f cdv A outer s H E).nox (C8.fnBody s_law) (tIS K W0 (b_law (FF n) (GG n))) :=
  have nd := sc_law.nd
  have hu := hu_of hr
  have hv : (A.deeper (envOfC "law" (C8.fnScope s_law) s.heap.objs.size f cdv)).units + 65 < cLine := by have := hr.un; omega
  (s_cons (s_set (i := 1) nd rfl (by first | exact .inl rfl | exact .inr rfl) (j_call T.c__law_state (ar__law_state _) hr (Nat.le_succ _) rfl (a_cons (r_var (i := 0) rfl (by first | exact .inl rfl | exact .inr (.inl rfl) | exact .inr (.inr rfl))) a_nil))) (s_cons (s_set (i := 2) nd rfl (by first | exact .inl rfl | exact .inr rfl) (r_new (r_dict (.cons (.cons (.cons (.cons (.cons .nil))))) (pps_cons r_str r_str (pps_cons r_str r_str (pps_cons r_str (r_tup (a_cons r_str (a_cons r_str a_nil))) (pps_cons r_str r_str (pps_cons r_str (r_tup (a_cons r_str (a_cons (r_tup (a_cons r_str (a_cons r_str a_nil))) a_nil))) pps_nil))))) rfl rfl (by simp) (by decide)))) (s_cons (s_set (i := 3) nd rfl (by first | exact .inl rfl | exact .inr rfl) (r_new (r_lst (a_cons (r_tup (a_cons r_str (a_cons r_str (a_cons (r_new (r_lst (a_cons (r_tup (a_cons r_str (a_cons r_str a_nil))) a_nil))) (a_cons r_str (a_cons (r_new (r_lst a_nil)) a_nil)))))) (a_cons (r_tup (a_cons r_str (a_cons r_str (a_cons (r_new (r_lst (a_cons (r_tup (a_cons r_str (a_cons r_str a_nil))) (a_cons (r_tup (a_cons r_str (a_cons r_str a_nil))) a_nil)))) (a_cons r_str (a_cons (r_new (r_lst a_nil)) a_nil)))))) a_nil))))) (s_cons (s_set (i := 4) nd rfl (by first | exact .inl rfl | exact .inr rfl) (r_new (r_dict (.cons (.cons .nil)) (pps_cons r_str (r_tup (a_cons (r_new (r_lst (a_cons r_str a_nil))) (a_cons r_str a_nil))) (pps_cons r_str (r_tup (a_cons (r_new (r_lst (a_cons r_str (a_cons r_str a_nil)))) (a_cons r_str a_nil))) pps_nil)) rfl rfl (by simp) (by decide)))) (s_cons (s_for PassesOwn.never rfl (i_range1 rfl T.z_range (a_cons r_int a_nil)) (g_name (i := 5) nd rfl (by first | exact .inl rfl | exact .inr rfl)) (s_cons (s_set (i := 6) nd rfl (by first | exact .inl rfl | exact .inr rfl) (j_call T.c__law_pick (ar__law_pick _) hr (Nat.le_succ _) rfl (a_cons (r_var (i := 1) rfl (by first | exact .inl rfl | exact .inr (.inl rfl) | exact .inr (.inr rfl))) (a_cons (r_new (r_lst (a_cons r_str (a_cons r_str (a_cons r_str (a_cons r_str (a_cons (r_tup (a_cons r_str (a_cons r_str a_nil))) (a_cons (r_tup (a_cons r_str (a_cons (r_tup (a_cons r_str (a_cons r_str a_nil))) a_nil))) a_nil)))))))) a_nil)))) (s_cons (s_set (i := 7) nd rfl (by first | exact .inl rfl | exact .inr rfl) (j_call T.c__law_typed (ar__law_typed _) hr (Nat.le_succ _) rfl (a_cons (r_var (i := 1) rfl (by first | exact .inl rfl | exact .inr (.inl rfl) | exact .inr (.inr rfl))) (a_cons (r_var (i := 2) rfl (by first | exact .inl rfl | exact .inr (.inl rfl) | exact .inr (.inr rfl))) (a_cons (r_var (i := 6) rfl (by first | exact .inl rfl | exact .inr (.inl rfl) | exact .inr (.inr rfl))) (a_cons r_int a_nil)))))) (s_cons (s_for PassesOwn.never rfl (i_range1 rfl T.z_range (a_cons (j_call T.c__law_draw (ar__law_draw _) hr (Nat.le_succ _) rfl (a_cons (r_var (i := 1) rfl (by first | exact .inl rfl | exact .inr (.inl rfl) | exact .inr (.inr rfl))) (a_cons r_int a_nil))) a_nil)) (g_name (i := 8) nd rfl (by first | exact .inl rfl | exact .inr rfl)) (s_one (s_set (i := 7) nd rfl (by first | exact .inl rfl | exact .inr rfl) (j_call T.c__law_turned (ar__law_turned _) hr (Nat.le_succ _) rfl (a_cons (r_var (i := 1) rfl (by first | exact .inl rfl | exact .inr (.inl rfl) | exact .inr (.inr rfl))) (a_cons (r_var (i := 2) rfl (by first | exact .inl rfl | exact .inr (.inl rfl) | exact .inr (.inr rfl))) (a_cons (r_var (i := 7) rfl (by first | exact .inl rfl | exact .inr (.inl rfl) | exact .inr (.inr rfl))) a_nil))))))) (s_cons (s_set (i := 9) nd rfl (by first | exact .inl rfl | exact .inr rfl) (r_callB (cr_reprF hG hr.units) f_reprE rfl T.z_repr (by decide +kernel) (a_cons (r_new (r_lst (a_cons (r_var (i := 3) rfl (by first | exact .inl rfl | exact .inr (.inl rfl) | exact .inr (.inr rfl))) (a_cons (r_var (i := 2) rfl (by first | exact .inl rfl | exact .inr (.inl rfl) | exact .inr (.inr rfl))) (a_cons (r_var (i := 7) rfl (by first | exact .inl rfl | exact .inr (.inl rfl) | exact .inr (.inr rfl))) a_nil))))) a_nil))) (s_cons (s_set (i := 10) nd rfl (by first | exact .inl rfl | exact .inr rfl) (j_call T.c__law_type_of (ar__law_type_of _) hr (Nat.le_succ _) rfl (a_cons (r_var (i := 4) rfl (by first | exact .inl rfl | exact .inr (.inl rfl) | exact .inr (.inr rfl))) (a_cons (r_var (i := 2) rfl (by first | exact .inl rfl | exact .inr (.inl rfl) | exact .inr (.inr rfl))) (a_cons (r_var (i := 7) rfl (by first | exact .inl rfl | exact .inr (.inl rfl) | exact .inr (.inr rfl))) (a_cons (r_tup (a_cons r_int a_nil)) a_nil)))))) (s_cons (s_catch (X := (cxOf CX0 P w K mg base ["script", "state", "names", "program", "heads", "k", "kind", "tree", "turn", "kept", "due", "told", "e"] "law" (C8.fnScope s_law) f cdv A outer s H E).nox) (i := 12) rfl rfl nd rfl rfl T.h_CheckError rfl (fun V pl out tk => (s_one (s_setX (i := 11) nd rfl (by first | exact .inl rfl | exact .inr rfl) (x_tup (x_cons (x_ok r_str) (x_cons (x_call T.c_type_of_expression (ar_type_of_expression _) hr (Nat.le_succ _) rfl tk (a_cons (r_var (i := 3) rfl (by first | exact .inl rfl | exact .inr (.inl rfl) | exact .inr (.inr rfl))) (a_cons (r_var (i := 2) rfl (by first | exact .inl rfl | exact .inr (.inl rfl) | exact .inr (.inr rfl))) (a_cons (r_var (i := 7) rfl (by first | exact .inl rfl | exact .inr (.inl rfl) | exact .inr (.inr rfl))) a_nil)))) (x_oks a_nil))))))) (fun C x ox d pl fs hC hz hf => j_one (j_set (i := 11) nd rfl (by first | exact .inl rfl | exact .inr rfl) (j_ifExp xj_keeps (j_truth (j_is T.is_CheckError_FlowError hC hz.zc hf (i := 12) rfl (by first | exact .inl rfl | exact .inr (.inl rfl) | exact .inr (.inr rfl)) rfl T.z_isinstance rfl) (by intro _; rfl)) (j_tup (j_cons xj_keeps (j_e r_str) (j_cons xj_keeps (j_at T.at_CheckError_place hC hz.zc hf (i := 12) rfl (by first | exact .inl rfl | exact .inr (.inl rfl) | exact .inr (.inr rfl))) (j_a a_nil)))) (j_e r_non)))) s_nil) (s_one (s_if (PW.pt (w_or (r_cmpT (op_neB hv) f_neB (r_var (i := 11) rfl (by first | exact .inl rfl | exact .inr (.inl rfl) | exact .inr (.inr rfl))) (r_var (i := 10) rfl (by first | exact .inl rfl | exact .inr (.inl rfl) | exact .inr (.inr rfl))) (nomark _)) (w_or1 (r_cmpT (op_neB hv) f_neB (r_callB (cr_reprF hG hr.units) f_reprE rfl T.z_repr (by decide +kernel) (a_cons (r_new (r_lst (a_cons (r_var (i := 3) rfl (by first | exact .inl rfl | exact .inr (.inl rfl) | exact .inr (.inr rfl))) (a_cons (r_var (i := 2) rfl (by first | exact .inl rfl | exact .inr (.inl rfl) | exact .inr (.inr rfl))) (a_cons (r_var (i := 7) rfl (by first | exact .inl rfl | exact .inr (.inl rfl) | exact .inr (.inr rfl))) a_nil))))) a_nil)) (r_var (i := 9) rfl (by first | exact .inl rfl | exact .inr (.inl rfl) | exact .inr (.inr rfl))) (nomark _))))) (s_one (s_ret r_bl)) s_nil))))))))) (s_one (s_ret r_bl)))))))
theorem t_parts_of {f : Addr} {fd : FuncData} (F : C8.Def K mg "parts_of" s_parts_of f fd) (b : Binds K fd ["tree"] []) (T : Tb P w K mg base n) : CalJ P w K mg base (2 * (n + 1) + 2) "parts_of" 1 (FF (n + 1) I_parts_of) := cal_J F b sc_parts_of (k_parts_of T)
theorem t__awaited_parts {f : Addr} {fd : FuncData} (F : C8.Def K mg "_awaited_parts" s__awaited_parts f fd) (b : Binds K fd ["tree"] []) (T : Tb P w K mg base n) : CalJ P w K mg base (2 * (n + 1) + 2) "_awaited_parts" 1 (FF (n + 1) I__awaited_parts) := cal_J F b sc__awaited_parts (k__awaited_parts T)
theorem t_signatures {f : Addr} {fd : FuncData} (F : C8.Def K mg "signatures" s_signatures f fd) (b : Binds K fd ["program"] []) (T : Tb P w K mg base n) : CalJ P w K mg base (2 * (n + 1) + 2) "signatures" 1 (FF (n + 1) I_signatures) := cal_J F b sc_signatures (k_signatures T)
theorem t_is_list_kind {f : Addr} {fd : FuncData} (F : C8.Def K mg "is_list_kind" s_is_list_kind f fd) (b : Binds K fd ["kind"] []) (T : Tb P w K mg base n) : CalJ P w K mg base (2 * (n + 1) + 2) "is_list_kind" 1 (FF (n + 1) I_is_list_kind) := cal_J F b sc_is_list_kind (k_is_list_kind T)
theorem t_made_by_sign {f : Addr} {fd : FuncData} (F : C8.Def K mg "made_by_sign" s_made_by_sign f fd) (b : Binds K fd ["sign", "one", "other"] []) (T : Tb P w K mg base n) : CalJ P w K mg base (2 * (n + 1) + 2) "made_by_sign" 3 (FF (n + 1) I_made_by_sign) := cal_J F b sc_made_by_sign (k_made_by_sign T)
theorem t_made_by_word {f : Addr} {fd : FuncData} (F : C8.Def K mg "made_by_word" s_made_by_word f fd) (b : Binds K fd ["word", "kinds"] []) (T : Tb P w K mg base n) : CalJ P w K mg base (2 * (n + 1) + 2) "made_by_word" 2 (FF (n + 1) I_made_by_word) := cal_J F b sc_made_by_word (k_made_by_word T)
theorem t_called {f : Addr} {fd : FuncData} (F : C8.Def K mg "called" s_called f fd) (b : Binds K fd ["name", "kinds", "signatures"] []) (T : Tb P w K mg base n) : CalJ P w K mg base (2 * (n + 1) + 2) "called" 3 (FF (n + 1) I_called) := cal_J F b sc_called (k_called T)
theorem t_listed {f : Addr} {fd : FuncData} (F : C8.Def K mg "listed" s_listed f fd) (b : Binds K fd ["kind", "kinds"] []) (T : Tb P w K mg base n) : CalJ P w K mg base (2 * (n + 1) + 2) "listed" 2 (FF (n + 1) I_listed) := cal_J F b sc_listed (k_listed T)
theorem t_type_of_expression {f : Addr} {fd : FuncData} (F : C8.Def K mg "type_of_expression" s_type_of_expression f fd) (b : Binds K fd ["program", "names", "tree"] []) (T : Tb P w K mg base n) : CalX P w K mg base (2 * (n + 1) + 2) "type_of_expression" 3 (GG (n + 1) I_type_of_expression) := cal_X F b sc_type_of_expression (k_type_of_expression T)
theorem t__kind_of {f : Addr} {fd : FuncData} (F : C8.Def K mg "_kind_of" s__kind_of f fd) (b : Binds K fd ["sorts", "names", "tree", "place"] []) (T : Tb P w K mg base n) : CalX P w K mg base (2 * (n + 1) + 2) "_kind_of" 4 (GG (n + 1) I__kind_of) := cal_X F b sc__kind_of (k__kind_of T)
theorem t__made_kind {f : Addr} {fd : FuncData} (F : C8.Def K mg "_made_kind" s__made_kind f fd) (b : Binds K fd ["sorts", "tree", "kinds"] []) (T : Tb P w K mg base n) : CalJ P w K mg base (2 * (n + 1) + 2) "_made_kind" 3 (FF (n + 1) I__made_kind) := cal_J F b sc__made_kind (k__made_kind T)
theorem t__kind_by_sign {f : Addr} {fd : FuncData} (F : C8.Def K mg "_kind_by_sign" s__kind_by_sign f fd) (b : Binds K fd ["sign", "kinds"] []) (T : Tb P w K mg base n) : CalJ P w K mg base (2 * (n + 1) + 2) "_kind_by_sign" 2 (FF (n + 1) I__kind_by_sign) := cal_J F b sc__kind_by_sign (k__kind_by_sign T)
theorem t__awaited_kind {f : Addr} {fd : FuncData} (F : C8.Def K mg "_awaited_kind" s__awaited_kind f fd) (b : Binds K fd ["sorts", "tree", "kinds"] []) (T : Tb P w K mg base n) : CalJ P w K mg base (2 * (n + 1) + 2) "_awaited_kind" 3 (FF (n + 1) I__awaited_kind) := cal_J F b sc__awaited_kind (k__awaited_kind T)
theorem t__law_state {f : Addr} {fd : FuncData} (F : C8.Def K mg "_law_state" s__law_state f fd) (b : Binds K fd ["script"] []) (T : Tb P w K mg base n) : CalJ P w K mg base (2 * (n + 1) + 2) "_law_state" 1 (FF (n + 1) I__law_state) := cal_J F b sc__law_state (k__law_state T)
theorem t__law_draw {f : Addr} {fd : FuncData} (F : C8.Def K mg "_law_draw" s__law_draw f fd) (b : Binds K fd ["state", "many"] []) (T : Tb P w K mg base n) : CalJ P w K mg base (2 * (n + 1) + 2) "_law_draw" 2 (FF (n + 1) I__law_draw) := cal_J F b sc__law_draw (k__law_draw T)
theorem t__law_pick {f : Addr} {fd : FuncData} (F : C8.Def K mg "_law_pick" s__law_pick f fd) (b : Binds K fd ["state", "row"] []) (T : Tb P w K mg base n) : CalJ P w K mg base (2 * (n + 1) + 2) "_law_pick" 2 (FF (n + 1) I__law_pick) := cal_J F b sc__law_pick (k__law_pick T)
theorem t__law_parts {f : Addr} {fd : FuncData} (F : C8.Def K mg "_law_parts" s__law_parts f fd) (b : Binds K fd ["tree"] []) (T : Tb P w K mg base n) : CalJ P w K mg base (2 * (n + 1) + 2) "_law_parts" 1 (FF (n + 1) I__law_parts) := cal_J F b sc__law_parts (k__law_parts T)
theorem t__law_is_list {f : Addr} {fd : FuncData} (F : C8.Def K mg "_law_is_list" s__law_is_list f fd) (b : Binds K fd ["kind"] []) (T : Tb P w K mg base n) : CalJ P w K mg base (2 * (n + 1) + 2) "_law_is_list" 1 (FF (n + 1) I__law_is_list) := cal_J F b sc__law_is_list (k__law_is_list T)
theorem t__law_type_of {f : Addr} {fd : FuncData} (F : C8.Def K mg "_law_type_of" s__law_type_of f fd) (b : Binds K fd ["heads", "names", "tree", "place"] []) (T : Tb P w K mg base n) : CalJ P w K mg base (2 * (n + 1) + 2) "_law_type_of" 4 (FF (n + 1) I__law_type_of) := cal_J F b sc__law_type_of (k__law_type_of T)
theorem t__law_rule {f : Addr} {fd : FuncData} (F : C8.Def K mg "_law_rule" s__law_rule f fd) (b : Binds K fd ["heads", "names", "tree", "kinds"] []) (T : Tb P w K mg base n) : CalJ P w K mg base (2 * (n + 1) + 2) "_law_rule" 4 (FF (n + 1) I__law_rule) := cal_J F b sc__law_rule (k__law_rule T)
theorem t__law_sign_rule {f : Addr} {fd : FuncData} (F : C8.Def K mg "_law_sign_rule" s__law_sign_rule f fd) (b : Binds K fd ["sign", "kinds"] []) (T : Tb P w K mg base n) : CalJ P w K mg base (2 * (n + 1) + 2) "_law_sign_rule" 2 (FF (n + 1) I__law_sign_rule) := cal_J F b sc__law_sign_rule (k__law_sign_rule T)
theorem t__law_typed {f : Addr} {fd : FuncData} (F : C8.Def K mg "_law_typed" s__law_typed f fd) (b : Binds K fd ["state", "names", "kind", "deep"] []) (T : Tb P w K mg base n) : CalJ P w K mg base (2 * (n + 1) + 2) "_law_typed" 4 (FF (n + 1) I__law_typed) := cal_J F b sc__law_typed (k__law_typed T)
theorem t__law_typed_int {f : Addr} {fd : FuncData} (F : C8.Def K mg "_law_typed_int" s__law_typed_int f fd) (b : Binds K fd ["state", "names", "deep"] []) (T : Tb P w K mg base n) : CalJ P w K mg base (2 * (n + 1) + 2) "_law_typed_int" 3 (FF (n + 1) I__law_typed_int) := cal_J F b sc__law_typed_int (k__law_typed_int T)
theorem t__law_typed_bool {f : Addr} {fd : FuncData} (F : C8.Def K mg "_law_typed_bool" s__law_typed_bool f fd) (b : Binds K fd ["state", "names", "deep"] []) (T : Tb P w K mg base n) : CalJ P w K mg base (2 * (n + 1) + 2) "_law_typed_bool" 3 (FF (n + 1) I__law_typed_bool) := cal_J F b sc__law_typed_bool (k__law_typed_bool T)
theorem t__law_with {f : Addr} {fd : FuncData} (F : C8.Def K mg "_law_with" s__law_with f fd) (b : Binds K fd ["tree", "parts"] []) (T : Tb P w K mg base n) : CalJ P w K mg base (2 * (n + 1) + 2) "_law_with" 2 (FF (n + 1) I__law_with) := cal_J F b sc__law_with (k__law_with T)
theorem t__law_turned {f : Addr} {fd : FuncData} (F : C8.Def K mg "_law_turned" s__law_turned f fd) (b : Binds K fd ["state", "names", "tree"] []) (T : Tb P w K mg base n) : CalJ P w K mg base (2 * (n + 1) + 2) "_law_turned" 3 (FF (n + 1) I__law_turned) := cal_J F b sc__law_turned (k__law_turned T)
theorem i_CheckError {C CF f : Addr} {fd : FuncData} {mc : Value} (F : C8.Fun K "__init__" "CheckError.__init__" s_CheckError___init__ f fd) (b : Binds K fd ["self", "place"] []) (hC : ClsAt K "CheckError" C) (hm : mg "CheckError" = some (.ref C)) (T : OexC K C) (iC : PySem.W.findIn K (.ref C) "__init__" = some (some (.ref f))) (tI : PySem.W.typeIn K (.ref f) = some (.type "function")) (hB : mg "FlowError" = some (.ref CF)) (sp : PySem.W.specialIn K (.ref CF) "__getattribute__" = some (some (.builtin "type.__getattribute__"))) (rd : PySem.W.readsIn K CF mc = true) (vV : PySem.W.findCls K (.ref CF) mc "__init__" = some (.val (.builtin "ValueError.__init__"))) (hno : PySem.W.findIn K (.ref C) "place" = some none) : RaiH P w K mg base 1 "CheckError" "place" (okTup K) :=
  ⟨C, f, fd, hC, hm, T, iC, tI, C8.fn0 F sc_CheckError___init__ (fun vs H Q E h => by obtain ⟨a, v, rfl, _⟩ := h; rfl) (fun cdv A outer s H vs Q E hr h => by
    obtain ⟨a, v, rfl, ea, ok, q⟩ := h
    exact ⟨_, init_bH (n := "place") (B := "FlowError") rfl rfl (by first | exact .inl rfl | exact .inr (.inl rfl) | exact .inr (.inr rfl)) (by first | exact .inl rfl | exact .inr (.inl rfl) | exact .inr (.inr rfl)) rfl rfl rfl hB sp rd vV T hno (pe_joined (.cons pe_str (.cons (pe_fmtI hr (pe_var (i := 1) rfl (by first | exact .inl rfl | exact .inr (.inl rfl) | exact .inr (.inr rfl)))) .nil))) (fmt2_tup (by decide)), ⟨a, v, rfl, rfl, ea, ok, q⟩⟩), b⟩
end
end J20

/-! the law's draws -/
namespace J20
open PySem PySem.Spec PyProof.Rows L2 IL SX
structure LS (st : Sto) (s c : Nat) : Prop where
  ne : s ≠ c
  ex : ∃ (a : Int) (cells : List Int), st[s]? = some (.lst [.ref c, .int a]) ∧ st[c]? = some (.lst (cells.map .int)) ∧ (∀ x ∈ cells, 0 ≤ x) ∧ cells.length ≤ 63
structure Mv (s c : Nat) (st st' : Sto) : Prop where
  len : st'.length = st.length
  eq : ∀ i, i ≠ s → i ≠ c → st'[i]? = st[i]?
  ls : LS st' s c
section
variable {n s c : Nat} {st st1 st2 : Sto}
theorem Mv.refl (h : LS st s c) : Mv s c st st := ⟨rfl, fun _ _ _ => rfl, h⟩
theorem Mv.trans (a : Mv s c st st1) (b : Mv s c st1 st2) : Mv s c st st2 := ⟨b.len.trans a.len, fun i h k => (b.eq i h k).trans (a.eq i h k), b.ls⟩
theorem at_set {d : Nat} {o o' : SO} (h : st[d]? = some o) : (st.set d o')[d]? = some o' := List.getElem?_set_self (lt_of_at h)
theorem set_same {d : Nat} {o : SO} (h : st[d]? = some o) : st.set d o = st := by
  apply List.ext_getElem?
  intro i
  by_cases e : d = i
  · subst e
    rw [List.getElem?_set_self (lt_of_at h), h]
  · rw [List.getElem?_set_ne e]
noncomputable def dC : IT := (iAnd (iTestB (iBin fGt (iCall (a1 fLenB) (iCons (iVar 2) iNil)) (iC (.int 0)))) (iTestB (iBin fEqB (iBin fSubB (iVar 2) (iC (.int 0))) (iC (.int 0)))))
noncomputable def dB : IS := (iDrop (iPop0 (iVar 2) (iC (.int 0))))
theorem pops {mm : Int} {o3 o4 : Option PV} : ∀ (cells : List Int) (m : Nat) (st : Sto), st[c]? = some (.lst (cells.map .int)) →
    wloop dC dB (m + cells.length + 1) [some (.ref s), some (.int mm), some (.ref c), o3, o4] st
      = some (.nx [some (.ref s), some (.int mm), some (.ref c), o3, o4] (st.set c (.lst ((cells.dropWhile fun x => x == 0).map .int))))
  | [], m, st, h => by
    have hl := fLenB_l h
    have hs : st.set c (.lst ((([] : List Int).dropWhile fun x => x == 0).map .int)) = st := set_same h
    rw [hs]
    simp at hl
    unfold wloop
    simp [dC, hl]
  | x :: xs, m, st, h => by
    have hl := fLenB_l h
    have h0 := fSubB_l (i := 0) h
    have hp : (0 : Int) < ((xs.length : Int) + 1) := by omega
    by_cases hx : x = 0
    · subst hx
      have ih := pops (mm := mm) (o3 := o3) (o4 := o4) xs m (st.set c (.lst (xs.map .int))) (at_set h)
      rw [List.set_set] at ih
      simp at hl h0 h
      show wloop _ _ (m + xs.length + 1 + 1) _ _ = _
      conv => lhs; unfold wloop
      simp [dC, dB, hl, h0, hp, iPop0, h]
      exact ih
    · have hx2 : (x == 0) = false := by simpa using hx
      have hd : (x :: xs).dropWhile (fun x => x == 0) = x :: xs := by simp [List.dropWhile_cons, hx2]
      rw [hd, set_same h]
      simp at hl h0
      show wloop _ _ (m + xs.length + 1 + 1) _ _ = _
      conv => lhs; unfold wloop
      simp [dC, hl, h0, hp, hx2]
theorem e_draw (m : Int) (hm : 1 ≤ m) (hm2 : m ≤ 1000000000) (L : LS st s c) : ∃ r st', FF (n + 1) I__law_draw [.ref s, .int m] st = some (.int r, st') ∧ 0 ≤ r ∧ r < m ∧ Mv s c st st' := by
  rw [e__law_draw]
  obtain ⟨ne, a, cells, h1, h2, h3, h4⟩ := L
  obtain ⟨k, hw⟩ := iWhile_at (cells.length + 1) (by omega)
  have hp := pops (s := s) (mm := m) (o3 := none) (o4 := none) cells k st h2
  have hsub : ∀ x ∈ cells.dropWhile (fun x => x == 0), 0 ≤ x := fun x hx => h3 x ((List.dropWhile_sublist _).mem hx)
  have hlen : (cells.dropWhile (fun x => x == 0)).length ≤ 63 := Nat.le_trans (List.dropWhile_sublist _).length_le h4
  generalize hq : cells.dropWhile (fun x => x == 0) = cs at *
  have b1 : (st.set c (.lst (cs.map .int)))[s]? = some (.lst [.ref c, .int a]) := by rw [List.getElem?_set_ne (fun e => ne e.symm)]; exact h1
  have b2 : (st.set c (.lst (cs.map PV.int)))[c]? = some (.lst (cs.map .int)) := at_set h2
  have hF1 : (st.set c (.lst (cs.map .int))).length = st.length := by simp
  have hF2 : ∀ i, i ≠ s → i ≠ c → (st.set c (.lst (cs.map .int)))[i]? = st[i]? := fun i _ hi => List.getElem?_set_ne (Ne.symm hi)
  generalize hs1 : st.set c (.lst (cs.map PV.int)) = s1 at *
  have e0 := fSubB_l (i := 0) h1
  have e1 := fSubB_l (i := 1) b1
  have e2 := fLenB_l b2
  have m1 : ¬ m < 1 := by omega
  have m0 : m ≠ 0 := by omega
  have hd : ∀ v : Int, cDiv v m = true := fun v => by
    unfold cDiv
    simp only [Bool.and_eq_true, decide_eq_true_eq]
    omega
  simp only [Nat.add_assoc] at hp
  unfold dC dB at hp
  cases cs with
  | nil =>
    have hmul : cMul a 48271 = true := by
      unfold cMul
      simp
    have h64 : ∀ v : Int, cDiv v 64 = true := fun v => by
      unfold cDiv
      simp
    obtain ⟨r0, r1⟩ := fmod_b (a := ((a * 48271 + 12345).fmod 2147483647).fdiv 64) (b := m) (by omega)
    have hset := fSetA_l (k := 1) (v := .int ((a * 48271 + 12345).fmod 2147483647)) b1 (ixN_in (by omega) (by simp))
    refine ⟨_, s1.set s (.lst [.ref c, .int ((a * 48271 + 12345).fmod 2147483647)]), def_same rfl ?_ (by simp [hF1]), r0, r1, ⟨by simp [hF1], fun i hi hi2 => ?_, ⟨ne, _, [], at_set b1, by rw [List.getElem?_set_ne ne]; exact b2, by simp, by simp⟩⟩⟩
    · simp at e0 e1 e2 hset
      simp [b__law_draw, m1, e0, hw, hp, e2, e1, hmul, hset, h64, m0]
    · rw [List.getElem?_set_ne (Ne.symm hi)]
      exact hF2 i hi hi2
  | cons v vs =>
    have e3 := fSubB_l (i := 0) b2
    obtain ⟨r0, r1⟩ := fmod_b (a := v) (b := m) (by omega)
    have v0 := hsub v List.mem_cons_self
    have hset := fSetA_l (k := 0) (v := .int (v.fdiv m)) b2 (ixN_in (by omega) (by simp))
    have hl : (0 : Int) < (vs.length : Int) + 1 := by omega
    have hdv : 0 ≤ v.fdiv m := by
      rw [Int.fdiv_eq_ediv_of_nonneg v (by omega)]
      exact Int.ediv_nonneg v0 (by omega)
    refine ⟨_, s1.set c (.lst ((v.fdiv m :: vs).map .int)), def_same rfl ?_ (by simp [hF1]), r0, r1, ⟨by simp [hF1], fun i hi hi2 => ?_, ⟨ne, a, v.fdiv m :: vs, by rw [List.getElem?_set_ne (fun e => ne e.symm)]; exact b1, at_set b2, ?_, hlen⟩⟩⟩
    · simp at e0 e1 e2 e3 hset
      simp [b__law_draw, m1, e0, hw, hp, e2, e3, hset, hd, m0, hl]
    · rw [List.getElem?_set_ne (Ne.symm hi2)]
      exact hF2 i hi hi2
    · intro x hx
      rcases List.mem_cons.mp hx with rfl | hx
      · exact hdv
      · exact hsub x (List.mem_cons_of_mem _ hx)
theorem e_pick {xs : List PV} (h1 : xs ≠ []) (h2 : xs.length ≤ 1000) (hx : nrs xs = true) (L : LS st s c) : ∃ x st', FF (n + 2) I__law_pick [.ref s, .frz xs] st = some (x, st') ∧ x ∈ xs ∧ Mv s c st st' := by
  rw [e__law_pick]
  have hl : 0 < xs.length := List.length_pos_iff.mpr h1
  obtain ⟨r, st', e, r0, r1, M⟩ := e_draw (n := n) (xs.length : Int) (by omega) (by omega) L
  obtain ⟨x, hx, ha⟩ := atI_in (xs := xs) r0 r1
  refine ⟨x, st', def_same rfl ?_ M.len, hx, M⟩
  simp [b__law_pick, e, ha]
end
end J20

/-! comprehensions that draw; the state at first -/
namespace J20
open PySem PySem.Spec PyProof.Rows L2 IL SX
theorem nrs_map {α : Type} {f : α → PV} : ∀ {xs : List α}, (∀ x ∈ xs, nr (f x) = true) → nrs (xs.map f) = true := fun {xs} h => nrs_all fun y hy => by
  obtain ⟨x, hx, rfl⟩ := List.mem_map.mp hy
  exact h x hx
section
variable {st : Sto}
theorem asg_seq {i : Nat} {ie : IE} {env : PEnv} {x : PV} {q : IS} {s2 : Sto} (h : ie env st = some (x, s2)) : iSeq (iAsg (gN i) ie) q env st = q (env.set i (some x)) s2 := by
  rw [iSeq_e, iAsg_e, h]
  rfl
end
section
variable {n s c : Nat} {st st1 st2 : Sto}
theorem LS.lt (h : LS st s c) : s < st.length ∧ c < st.length := by
  obtain ⟨a, cells, h1, h2, _⟩ := h.ex
  exact ⟨lt_of_at h1, lt_of_at h2⟩
theorem LS.of_eq (h : LS st s c) (hs : st1[s]? = st[s]?) (hc : st1[c]? = st[c]?) : LS st1 s c := by
  obtain ⟨a, cells, h1, h2, h3⟩ := h.ex
  exact ⟨h.ne, a, cells, by rw [hs]; exact h1, by rw [hc]; exact h2, h3⟩
theorem Mv.old {l : Sto} (M : Mv s c st st1) : ∀ i so, i < st.length → (st1 ++ l)[i]? = some so → st[i]? = some so ∨ rltO st.length so := fun i so hi e => by
  rw [List.getElem?_append_left (by rw [M.len]; exact hi)] at e
  obtain ⟨a, cells, g1, g2, _⟩ := M.ls.ex
  by_cases h1 : i = s
  · subst h1
    rw [g1] at e; cases e
    have := lt_of_at g2
    rw [M.len] at this
    exact .inr ⟨this, trivial, trivial⟩
  · by_cases h2 : i = c
    · subst h2
      rw [g2] at e; cases e
      exact .inr (rlts_nr _ (nrs_map fun x _ => by simp [nr]))
    · exact .inl (by rw [← M.eq i h1 h2]; exact e)
/-- a new list, whose making draws -/
theorem new_draw {ia : IE} {env : PEnv} {xs : List PV} {l : Sto} (M : Mv s c st st1) (h : ia env st = some (.ref st1.length, st1 ++ [.lst xs] ++ l)) (hx : nrs xs = true) : iNew ia env st = some (.frz xs, st1) := by
  rw [new_ch h at_mid (by rw [M.len]; exact Nat.le_refl _) hx (by rw [List.append_assoc]; exact M.old), List.append_assoc, ← M.len, List.take_left']
  rfl
structure LI (s c d N : Nat) (P : Nat → PV → Prop) (s1 : Sto) (i : Nat) (acc : List PV) (S : Sto) : Prop where
  len : S.length = s1.length + 1
  eq : ∀ j, j < s1.length → j ≠ s → j ≠ c → S[j]? = s1[j]?
  ls : LS S s c
  at_ : S[s1.length]? = some (.lst acc)
  al : acc.length = i
  p : ∀ y ∈ acc, ∃ k, k < N ∧ P k y
theorem lc_draw {N : Nat} {it : Nat → PV} {src : Src} {ii : II} {ig : IG} {t : IT} {e : IE} {vs : List Nat} {env : PEnv} (P : Nat → PV → Prop) (hP : ∀ i y, P i y → nr y = true) (hi : ii env st = some (src, st1)) (M : Mv s c st st1) (hn : src.n = N) (hN : N ≤ 1000) (h1 : ∀ S i, i < N → src.at_ S i = some (some (it i))) (h2 : ∀ S, src.at_ S N = some none)
    (step : ∀ i, i < N → ∀ S, LS S s c → ∃ env1 y S', ig (it i) (wipeE env vs) S = some env1 ∧ t env1 S = some (true, S) ∧ e env1 S = some (y, S') ∧ Mv s c S S' ∧ P i y) :
    ∃ ys st', iNew (iLc ii ig t e vs) env st = some (.frz ys, st') ∧ Mv s c st st' ∧ ys.length = N ∧ ∀ y ∈ ys, ∃ k, k < N ∧ P k y := by
  obtain ⟨ls1, lc1⟩ := M.ls.lt
  obtain ⟨acc, S, hl, I⟩ := lc_inv (at_ := src.at_) (ig := ig) (t := t) (e := e) (d := st1.length) (envw := wipeE env vs) (LI s c st1.length N P st1) N (fun acc S _ => h2 S) (fun i acc S hi I => by
    obtain ⟨env1, y, S', g1, g2, g3, M2, p⟩ := step i hi S I.ls
    have hd : S'[st1.length]? = some (.lst acc) := by rw [M2.eq _ (by omega) (by omega)]; exact I.at_
    refine ⟨it i, env1, y, S', h1 S i hi, g1, g2, g3, hd, by rw [I.al]; omega, ?_⟩
    refine ⟨by rw [List.length_set, M2.len]; exact I.len, fun j hj hs hc => ?_, ?_, at_set hd, by rw [List.length_append, I.al]; rfl, fun z hz => ?_⟩
    · rw [List.getElem?_set_ne (by omega), M2.eq j hs hc]; exact I.eq j hj hs hc
    · exact M2.ls.of_eq (List.getElem?_set_ne (by omega)) (List.getElem?_set_ne (by omega))
    · rcases List.mem_append.mp hz with hz | hz
      · exact I.p z hz
      · rw [List.mem_singleton] at hz; subst hz; exact ⟨i, hi, p⟩) (N + 1) 0 [] (st1 ++ [.lst []])
    ⟨by simp, fun j hj _ _ => List.getElem?_append_left hj, M.ls.of_eq (List.getElem?_append_left ls1) (List.getElem?_append_left lc1), new_at, rfl, fun y hy => by cases hy⟩ (Nat.zero_le _) (by omega)
  have hlc : iLc ii ig t e vs env st = some (.ref st1.length, S) := by
    unfold iLc
    rw [hi, ob_s, hn, hl]; rfl
  have hLS : LS (S.take st.length) s c := I.ls.of_eq (by rw [List.getElem?_take_of_lt (by rw [← M.len]; exact ls1)]) (by rw [List.getElem?_take_of_lt (by rw [← M.len]; exact lc1)])
  have hMv : Mv s c st (S.take st.length) := by
    refine ⟨by rw [List.length_take, I.len, M.len]; omega, fun i hs hc => ?_, hLS⟩
    by_cases hi : i < st.length
    · rw [List.getElem?_take_of_lt hi, I.eq i (by rw [M.len]; exact hi) hs hc, M.eq i hs hc]
    · rw [List.getElem?_eq_none (by rw [List.length_take]; omega), List.getElem?_eq_none (by omega)]
  refine ⟨acc, S.take st.length, ?_, hMv, I.al, I.p⟩
  refine new_ch hlc I.at_ (by rw [M.len]; exact Nat.le_refl _) (nrs_all fun y hy => by
    obtain ⟨k, _, hp⟩ := I.p y hy
    exact hP k y hp) fun i so hi e => hMv.old (l := []) i so hi (by rw [List.append_nil, List.getElem?_take_of_lt hi]; exact e)
noncomputable def sB : IS := (iAsg (gN 1) (iBin fMod (iCall (a1 fIntS) (iCons (iBin fAdd (iBin fMulA (iVar 1) (iC (.int 31))) (iVar 2)) iNil)) (iC (.int 1000003))))
theorem seed_fold {q0 : Option PV} : ∀ (ns : List Int) (a : Int) (x2 : Option PV), ∃ a' x2', foldT (gN 2) sB (ns.map .int) [q0, some (.int a), x2] st = some (.nx [q0, some (.int a'), x2'] st)
  | [], a, x2 => ⟨a, x2, rfl⟩
  | m :: ns, a, x2 => by
    have hb : sB [q0, some (.int a), some (.int m)] st = some (.nx [q0, some (.int ((a * 31 + m).fmod 1000003)), some (.int m)] st) := by
      have hc : cMul a 31 = true := by
        unfold cMul
        simp
      simp [sB, hc]
    obtain ⟨a', x2', ih⟩ := seed_fold (q0 := q0) ns ((a * 31 + m).fmod 1000003) (some (.int m))
    refine ⟨a', x2', ?_⟩
    show foldT (gN 2) sB (PV.int m :: ns.map .int) _ st = _
    unfold foldT
    rw [show gN 2 (PV.int m) [q0, some (.int a), x2] st = some [q0, some (.int a), some (.int m)] from rfl]
    simp only [hb]
    exact ih
theorem e_state {ns : List Int} (hn : ns.length ≤ 63) : ∃ (s c : Nat) (st' : Sto), FF (n + 1) I__law_state [.frz (ns.map .int)] [] = some (.ref s, st') ∧ LS st' s c := by
  rw [e__law_state]
  obtain ⟨a, x2, hf⟩ := seed_fold (st := []) (q0 := some (.frz (ns.map .int))) ns 7 none
  obtain ⟨l, hlc⟩ := iLc_frzm (xs := ns) (f := .int) (g := fun x => .int (if x < 0 then -x else x)) (p := fun _ => true) (ie := iVar 0) (e := iCall (a1 fAbs) (iCons (iVar 2) iNil)) (ig := gN 2) (t := iYes) (vs := [2]) (env := [some (.frz (ns.map .int)), some (.int a), x2]) (st := []) (s1 := []) rfl (by omega) (fun x _ s => ⟨[some (.frz (ns.map .int)), some (.int a), some (.int x)], rfl, rfl, fun _ => ⟨[], by simp⟩⟩)
  rw [filter_yes] at hlc
  obtain ⟨S, hS⟩ : ∃ S : Sto, S = [] ++ [SO.lst (ns.map fun x => .int (if x < 0 then -x else x))] ++ l := ⟨_, rfl⟩
  rw [← hS] at hlc
  have h0 : S[0]? = some (.lst ((ns.map fun x : Int => if x < 0 then -x else x).map .int)) := by rw [hS, List.map_map]; rfl
  have hl : 0 < S.length := lt_of_at h0
  refine ⟨S.length, 0, S ++ [.lst [.ref 0, .int (a + 1)]], ?_, by omega, a + 1, ns.map fun x => if x < 0 then -x else x, new_at, by rw [List.getElem?_append_left hl]; exact h0, fun x hx => ?_, by rw [List.length_map]; exact hn⟩
  · have hb : b__law_state (FF n) (GG n) ([PV.frz (ns.map .int)].map some ++ List.replicate (3 - 1) none) [] = some (.rt (.ref S.length) (S ++ [.lst [.ref 0, .int (a + 1)]])) := by
      show iSeq _ _ [some (.frz (ns.map .int)), none, none] [] = _
      rw [asg_seq (x := .int 7) rfl]
      show iSeq (iFor (iWalk (iVar 0)) (gN 2) sB) _ [some (.frz (ns.map .int)), some (.int 7), none] [] = _
      rw [iSeq_e, iFor_frz (xs := ns.map .int) rfl, hf]
      simp only
      have hlc' : iLc (iWalk (iVar 0)) (gN 2) iYes (iCall (a1 fAbs) (iCons (iVar 2) iNil)) [2] [some (.frz (ns.map .int)), some (.int a), x2] [] = some (.ref 0, S) := hlc
      rw [iRet_e, iLst_e, iCons_e, hlc']
      simp
    rw [def_rt (n := 1) rfl hb]
    unfold gcS
    rw [if_neg]
    rintro ⟨h, _⟩
    unfold rlt at h
    exact absurd h (by simp)
  · obtain ⟨z, _, rfl⟩ := List.mem_map.mp hx
    split <;> omega
/-! ### a text is changed -/
end
end J20

/-! kinds -/
namespace J20
open PySem PySem.Spec PyProof.Rows L2 IL SX
inductive Kd where
  | int | bool | text | nothing
  | list (k : Kd)
  deriving DecidableEq
def pk : Kd → PV
  | .int => .str S_int
  | .bool => .str S_bool
  | .text => .str S_text
  | .nothing => .str S_nothing
  | .list k => .tup [.str S_list, pk k]
def kd : Kd → Nat
  | .list k => kd k + 1
  | _ => 0
def opk : Option Kd → PV
  | some k => pk k
  | none => .non
theorem gd_pk : ∀ (k : Kd) (m : Nat), kd k ≤ m → gd (pk k) m = true
  | .int, m, _ => by simp [pk, gd]
  | .bool, m, _ => by simp [pk, gd]
  | .text, m, _ => by simp [pk, gd]
  | .nothing, m, _ => by simp [pk, gd]
  | .list k, m, h => by
    unfold kd at h
    have := gd_pk k (m - 1) (by omega)
    simp [pk, gd, gds, this]
    omega
theorem nr_pk : ∀ k : Kd, nr (pk k) = true
  | .int => by simp [pk, nr]
  | .bool => by simp [pk, nr]
  | .text => by simp [pk, nr]
  | .nothing => by simp [pk, nr]
  | .list k => by simp [pk, nr, nrs, nr_pk k]
theorem eqv_pk : ∀ a b : Kd, PyData.eqv (datP (pk a)) (datP (pk b)) = decide (a = b)
  | .list a, .list b => by
    have := eqv_pk a b
    simp [pk, datP, datPs, PyData.eqv, PyData.eqvAll, this]
  | .int, b => by cases b <;> simp [pk, datP, datPs, PyData.eqv]
  | .bool, b => by cases b <;> simp [pk, datP, datPs, PyData.eqv]
  | .text, b => by cases b <;> simp [pk, datP, datPs, PyData.eqv]
  | .nothing, b => by cases b <;> simp [pk, datP, datPs, PyData.eqv]
  | .list a, .int => by simp [pk, datP, datPs, PyData.eqv]
  | .list a, .bool => by simp [pk, datP, datPs, PyData.eqv]
  | .list a, .text => by simp [pk, datP, datPs, PyData.eqv]
  | .list a, .nothing => by simp [pk, datP, datPs, PyData.eqv]
section
variable {st : Sto} {a b : Kd}
theorem eqP_pk (ha : kd a ≤ 40) (hb : kd b ≤ 40) : eqP st (pk a) (pk b) = some (decide (a = b)) := by
  rw [eqP_gd (gd_pk a 60 (by omega)) (gd_pk b 60 (by omega)), eqv_pk]
theorem pairs_pk : pairsOf st (pk a) = none := by cases a <;> rfl
theorem eqB_pk (ha : kd a ≤ 40) (hb : kd b ≤ 40) : eqB st (pk a) (pk b) = some (decide (a = b)) := by
  unfold eqB
  rw [pairs_pk]
  exact eqP_pk ha hb
theorem fEq_pk (ha : kd a ≤ 40) (hb : kd b ≤ 40) : fEqB (pk a) (pk b) st = some (.bl (decide (a = b)), st) := by
  unfold fEqB; rw [eqB_pk ha hb]; rfl
theorem fNe_pk (ha : kd a ≤ 40) (hb : kd b ≤ 40) : fNeB (pk a) (pk b) st = some (.bl (!decide (a = b)), st) := by
  unfold fNeB; rw [eqB_pk ha hb]; rfl
theorem fEq_int (ha : kd a ≤ 40) : fEqB (pk a) (.str S_int) st = some (.bl (decide (a = .int)), st) := fEq_pk (b := .int) ha (by decide)
theorem fEq_bool (ha : kd a ≤ 40) : fEqB (pk a) (.str S_bool) st = some (.bl (decide (a = .bool)), st) := fEq_pk (b := .bool) ha (by decide)
theorem fEq_text (ha : kd a ≤ 40) : fEqB (pk a) (.str S_text) st = some (.bl (decide (a = .text)), st) := fEq_pk (b := .text) ha (by decide)
def isLk : Kd → Bool
  | .list _ => true
  | _ => false
theorem isP_pk (k : Kd) : isP st (pk k) (.ty "tuple") = some (isLk k) := by cases k <;> simp [pk, isLk]
theorem fIs_pk : fIs (pk a) .non st = some (.bl false, st) := by cases a <;> simp [pk]
theorem in_listT {k : Kd} {b c : Str} (hk : kd k ≤ 40) (hb : PyData.strOk b = true) (hc : PyData.strOk c = true) : inC st (pk (.list k)) (.tup [.str b, .str c]) = some false := by
  have g1 := gd_pk (.list k) 60 (by show kd k + 1 ≤ 60; omega)
  have g2 : gd (.tup [.str b, .str c]) 60 = true := by simp [gd, gds, hb, hc]
  have e0 : inB st (pk (.list k)) (.tup [.str b, .str c]) = none := rfl
  unfold inC
  rw [e0]
  show inT st _ _ = _
  unfold inT
  rw [(gd_dat (st := st) _ 60 70 g1 (by omega)).1, (gd_dat (st := st) _ 60 70 g2 (by omega)).1]
  have s1 := gd_shaped g1
  have s2 := gd_shaped g2
  have e2 : datP (.tup [.str b, .str c]) = .tuple [.str b, .str c] := by simp [datP, datPs]
  rw [e2] at s2 ⊢
  show (if SeqAt.shaped (datP (pk (.list k))) && SeqAt.shaped (.tuple [.str b, .str c]) then some ([PyData.str b, PyData.str c].any fun z => PyData.eqv z (datP (pk (.list k)))) else none) = _
  rw [s1, s2]
  simp [pk, datP, PyData.eqv]
theorem in_it (ha : kd a ≤ 40) : inC st (pk a) (.tup [.str S_int, .str S_text]) = some (decide (a = .int) || decide (a = .text)) := by
  cases a with
  | list k => exact in_listT (by unfold kd at ha; omega) (by simp) (by simp)
  | _ => simp [pk, inC, mapO, flatP, inV, eqV]
theorem in_ib (ha : kd a ≤ 40) : inC st (pk a) (.tup [.str S_int, .str S_bool]) = some (decide (a = .int) || decide (a = .bool)) := by
  cases a with
  | list k => exact in_listT (by unfold kd at ha; omega) (by simp) (by simp)
  | _ => simp [pk, inC, mapO, flatP, inV, eqV]
theorem in_listL {k : Kd} {ys : List Str} (hk : kd k ≤ 40) (hy : ∀ y ∈ ys, PyData.strOk y = true) : inE st (pk (.list k)) (.frz (ys.map .str)) = some false := by
  have g1 := gd_pk (.list k) 60 (by show kd k + 1 ≤ 60; omega)
  have g0 : ∀ ys : List Str, (∀ y ∈ ys, PyData.strOk y = true) → gds (ys.map .str) 59 = true := fun ys => by
    induction ys with
    | nil => intro _; rfl
    | cons y ys ih => intro h; simp [gds, gd, h y (by simp), ih fun z hz => h z (by simp [hz])]
  have g2 : gd (.frz (ys.map .str)) 60 = true := by simp [gd, g0 ys hy]
  have e0 : inC st (pk (.list k)) (.frz (ys.map .str)) = none := by
    have e1 : inB st (pk (.list k)) (.frz (ys.map .str)) = none := rfl
    unfold inC
    rw [e1]
    show inT st _ _ = _
    unfold inT
    rw [(gd_dat (st := st) _ 60 70 g2 (by omega)).1]
    have e2 : datP (.frz (ys.map .str)) = .list (datPs (ys.map .str)) := by simp [datP]
    rw [e2]
    split
    · rename_i h; cases h
    · rfl
  unfold inE
  rw [e0]
  show inL st _ _ = _
  unfold inL
  rw [(gd_dat (st := st) _ 60 70 g1 (by omega)).1, (gd_dat (st := st) _ 60 70 g2 (by omega)).1]
  have s1 := gd_shaped g1
  have s2 := gd_shaped g2
  have e2 : datP (.frz (ys.map .str)) = .list (datPs (ys.map .str)) := by simp [datP]
  rw [e2] at s2 ⊢
  show (if SeqAt.shaped (datP (pk (.list k))) && SeqAt.shaped (.list (datPs (ys.map .str))) then some ((datPs (ys.map .str)).any fun z => PyData.eqv z (datP (pk (.list k)))) else none) = _
  rw [s1, s2]
  show some ((datPs (ys.map .str)).any fun z => PyData.eqv z (datP (pk (.list k)))) = some false
  congr 1
  rw [List.any_eq_false]
  intro z hz
  have : ∀ ys : List Str, ∀ z ∈ datPs (ys.map .str), ∃ s, z = .str s := fun ys => by
    induction ys with
    | nil => intro z hz; simp [datPs] at hz
    | cons y ys ih =>
      intro z hz
      simp only [List.map_cons, datPs, List.mem_cons, datP] at hz
      exact hz.elim (fun e => ⟨y, e⟩) (ih z)
  obtain ⟨s, rfl⟩ := this ys z hz
  simp [pk, datP, PyData.eqv]
theorem in_l1 {x : Kd} (hx : x = .int ∨ x = .bool) (ha : kd a ≤ 40) : inE st (pk a) (.frz [pk x]) = some (decide (a = x)) := by
  cases a with
  | list k =>
    have := in_listL (st := st) (k := k) (ys := [if x = .int then S_int else S_bool]) (by unfold kd at ha; omega) (by intro y hy; simp at hy; subst hy; split <;> simp)
    rcases hx with rfl | rfl <;> simpa [pk] using this
  | _ => rcases hx with rfl | rfl <;> simp [pk, inE, inC, mapO, flatP, inV, eqV]
theorem in_l2 (ha : kd a ≤ 40) : inE st (pk a) (.frz [.str S_int, .str S_bool]) = some (decide (a = .int) || decide (a = .bool)) := by
  cases a with
  | list k => exact in_listL (ys := [S_int, S_bool]) (by unfold kd at ha; omega) (by intro y hy; simp at hy; rcases hy with rfl | rfl <;> simp)
  | _ => simp [pk, inE, inC, mapO, flatP, inV, eqV]
end
end J20

/-! trees, their parts, what their kind is -/
namespace J20
open PySem PySem.Spec PyProof.Rows L2 IL SX
inductive Tr where
  | lit (w : Nat) (xs : List PV)
  | var (s : Nat)
  | op (i : Nat) (a b : Tr)
  | un (i : Nat) (a : Tr)
  | item (a b : Tr)
  | list (k : Kd) (xs : List Tr)
  | call (f : Nat) (xs : List Tr)
  | flow (f : Nat) (xs : List Tr)
  | act (a : Tr) (k : Kd)
  | timer (a : Tr)
  | signal (s : Nat) (k : Kd)
  | now
mutual
def pt : Tr → PV
  | .lit w xs => .tup (.str (Sx w) :: xs)
  | .var s => .tup [.str S_var, .str (Sx s)]
  | .op i a b => .tup [.str S_op, .str (Sx i), pt a, pt b]
  | .un i a => .tup [.str (Sx i), pt a]
  | .item a b => .tup [.str S_item, pt a, pt b]
  | .list k xs => .tup [.str S_list, pk k, .frz (pts xs)]
  | .call f xs => .tup [.str S_call, .str (Sx f), .frz (pts xs)]
  | .flow f xs => .tup [.str S_await, .str S_flow, .str (Sx f), .frz (pts xs)]
  | .act a k => .tup [.str S_await, .str S_act, .str S_pay, pt a, pk k]
  | .timer a => .tup [.str S_await, .str S_timer, pt a]
  | .signal s k => .tup [.str S_await, .str S_signal, .str (Sx s), pk k]
  | .now => .tup [.str S_now]
def pts : List Tr → List PV
  | [] => []
  | x :: xs => pt x :: pts xs
end
theorem pts_map : ∀ xs : List Tr, pts xs = xs.map pt
  | [] => rfl
  | x :: xs => by simp [pts, pts_map xs]
def parts : Tr → List Tr
  | .op _ a b => [a, b]
  | .un _ a => [a]
  | .item a b => [a, b]
  | .list _ xs => xs
  | .call _ xs => xs
  | .flow _ xs => xs
  | .act a _ => [a]
  | .timer a => [a]
  | _ => []
def signs : List Nat := [8, 9, 10, 11, 13, 15, 16, 31, 32, 33, 34]
def ones : List Nat := [18, 19, 20, 21, 26]
/-- a node as it should be -/
def okN : Tr → Prop
  | .lit w xs => w ∈ [12, 17, 14, 28] ∧ nrs xs = true ∧ gds xs 1 = true ∧ wts xs ≤ 100
  | .var s => s < 53
  | .op i _ _ => i ∈ signs
  | .un i _ => i ∈ ones
  | .list k _ => kd k ≤ 4
  | .call f _ => f ∈ [41, 42, 43]
  | .flow f _ => f ∈ [41, 42, 43]
  | .act _ k => kd k ≤ 4
  | .signal s k => s < 53 ∧ kd k ≤ 4
  | _ => True
/-- trees, so deep at most -/
inductive Wf : Nat → Tr → Prop
  | mk {d : Nat} {t : Tr} (h : okN t) (hl : (parts t).length ≤ 2) (hp : ∀ p ∈ parts t, Wf d p) : Wf (d + 1) t
@[simp] theorem inE_s {st : Sto} {a : Str} {ys : List PV} {ws : List V} (h : mapO flatP ys = some ws) : inE st (.str a) (.tup ys) = some (inV (.str a) ws) := inE_C (inC_s h)
@[simp] theorem inE_sf {st : Sto} {a : Str} {ys : List PV} {ws : List V} (h : mapO flatP ys = some ws) : inE st (.str a) (.frz ys) = some (inV (.str a) ws) := inE_C (inC_B (by rw [inB_sf, h]; rfl))
theorem Wf.ok {d : Nat} {t : Tr} (h : Wf d t) : okN t := by cases h; assumption
theorem Wf.len2 {d : Nat} {t : Tr} (h : Wf d t) : (parts t).length ≤ 2 := by cases h; assumption
theorem Wf.len {d : Nat} {t : Tr} (h : Wf d t) : (parts t).length ≤ 4 := Nat.le_trans h.len2 (by decide)
theorem Wf.up {d e : Nat} {t : Tr} (h : Wf d t) (he : d ≤ e) : Wf e t := by
  induction h generalizing e with
  | mk h hl _ ih =>
    obtain ⟨e', rfl⟩ : ∃ e', e = e' + 1 := ⟨e - 1, by omega⟩
    exact .mk h hl fun p hp => ih p hp (by omega)
theorem nrs_pts {xs : List Tr} (h : ∀ x ∈ xs, nr (pt x) = true) : nrs (pts xs) = true := by
  rw [pts_map]
  exact nrs_map h
theorem nr_pt {d : Nat} {t : Tr} (h : Wf d t) : nr (pt t) = true := by
  induction h with
  | mk h hl hp ih =>
    rename_i d t
    cases t with
    | lit w xs => simp [pt, nr, nrs, h.2.1]
    | var s => simp [pt, nr, nrs]
    | op i a b => simp [pt, nr, nrs, ih a (by simp [parts]), ih b (by simp [parts])]
    | un i a => simp [pt, nr, nrs, ih a (by simp [parts])]
    | item a b => simp [pt, nr, nrs, ih a (by simp [parts]), ih b (by simp [parts])]
    | list k xs => simp [pt, nr, nrs, nr_pk, nrs_pts (xs := xs) fun x hx => ih x hx]
    | call f xs => simp [pt, nr, nrs, nrs_pts (xs := xs) fun x hx => ih x hx]
    | flow f xs => simp [pt, nr, nrs, nrs_pts (xs := xs) fun x hx => ih x hx]
    | act a k => simp [pt, nr, nrs, nr_pk, ih a (by simp [parts])]
    | timer a => simp [pt, nr, nrs, ih a (by simp [parts])]
    | signal s k => simp [pt, nr, nrs, nr_pk]
    | now => simp [pt, nr, nrs]
theorem nr_parts {d : Nat} {t : Tr} (h : Wf d t) : nrs (pts (parts t)) = true := by
  cases h with
  | mk _ _ hp => exact nrs_pts fun x hx => nr_pt (hp x hx)
section
variable {n : Nat} {st : Sto} {d : Nat}
theorem e_awp {t : Tr} (h : (∃ f xs, t = .flow f xs) ∨ (∃ a k, t = .act a k) ∨ (∃ a, t = .timer a) ∨ ∃ s k, t = .signal s k) (hn : nrs (pts (parts t)) = true) : FF (n + 1) I__awaited_parts [pt t] st = some (.frz (pts (parts t)), st) := by
  rw [e__awaited_parts]
  refine def_same rfl ?_ rfl
  rcases h with ⟨f, xs, rfl⟩ | ⟨a, k, rfl⟩ | ⟨a, rfl⟩ | ⟨s, k, rfl⟩
  · simp only [parts] at hn ⊢
    have h0 : iNew (iCall (a1 fList) (iCons (iBin fSubB (iVar 0) (iC (.int 3))) iNil)) [some (.tup [.str S_await, .str S_flow, .str (Sx f), .frz (pts xs)])] st = some (.frz (pts xs), st) := new_l (by simp) hn
    simp [b__awaited_parts, pt, h0]
  · simp only [parts] at hn ⊢
    have h0 : iNew (iLst (iCons (iBin fSubB (iVar 0) (iC (.int 3))) iNil)) [some (.tup [.str S_await, .str S_act, .str S_pay, pt a, pk k])] st = some (.frz (pts [a]), st) := new_l (by simp [pts]) hn
    simp [b__awaited_parts, pt, h0]
  · simp only [parts] at hn ⊢
    have h0 : iNew (iLst (iCons (iBin fSubB (iVar 0) (iC (.int 2))) iNil)) [some (.tup [.str S_await, .str S_timer, pt a])] st = some (.frz (pts [a]), st) := new_l (by simp [pts]) hn
    simp [b__awaited_parts, pt, h0]
  · have h0 : iNew (iLst iNil) [some (.tup [.str S_await, .str S_signal, .str (Sx s), pk k])] st = some (.frz [], st) := new_l (by simp) (by simp [nrs])
    simp [b__awaited_parts, pt, h0, parts, pts]
theorem e_parts {t : Tr} (w : Wf d t) : FF (n + 2) I_parts_of [pt t] st = some (.frz (pts (parts t)), st) := by
  have hn := nr_parts w
  have ho := w.ok
  rw [e_parts_of]
  refine def_same rfl ?_ rfl
  have hnil : ∀ env : PEnv, iNew (iLst iNil) env st = some (.frz [], st) := fun env => new_l (by simp) (by simp [nrs])
  cases t with
  | lit w xs =>
    simp only [okN, List.mem_cons, List.not_mem_nil, or_false] at ho
    obtain ⟨ho, _⟩ := ho
    rcases ho with rfl | rfl | rfl | rfl <;> simp [b_parts_of, pt, parts, pts, hnil, c_OF_ONE_PART, mapO, flatP, inV, eqV]
  | var s => simp [b_parts_of, pt, parts, pts, hnil, c_OF_ONE_PART, mapO, flatP, inV, eqV]
  | now => simp [b_parts_of, pt, parts, pts, hnil, c_OF_ONE_PART, mapO, flatP, inV, eqV]
  | op i a b =>
    simp only [parts] at hn ⊢
    have h0 : ∀ x, iNew (iLst (iCons (iBin fSubB (iVar 0) (iC (.int 2))) (iCons (iBin fSubB (iVar 0) (iC (.int 3))) iNil))) [some (.tup [.str S_op, .str (Sx i), pt a, pt b]), x] st = some (.frz (pts [a, b]), st) := fun x => new_l (by simp [pts]) hn
    simp [b_parts_of, pt, h0, c_OF_ONE_PART, mapO, flatP, inV, eqV]
  | item a b =>
    simp only [parts] at hn ⊢
    have h0 : ∀ x, iNew (iLst (iCons (iBin fSubB (iVar 0) (iC (.int 1))) (iCons (iBin fSubB (iVar 0) (iC (.int 2))) iNil))) [some (.tup [.str S_item, pt a, pt b]), x] st = some (.frz (pts [a, b]), st) := fun x => new_l (by simp [pts]) hn
    simp [b_parts_of, pt, h0, c_OF_ONE_PART, mapO, flatP, inV, eqV]
  | un i a =>
    simp only [parts] at hn ⊢
    have h0 : ∀ x, iNew (iLst (iCons (iBin fSubB (iVar 0) (iC (.int 1))) iNil)) [some (.tup [.str (Sx i), pt a]), x] st = some (.frz (pts [a]), st) := fun x => new_l (by simp [pts]) hn
    simp only [okN, ones, List.mem_cons, List.not_mem_nil, or_false] at ho
    rcases ho with rfl | rfl | rfl | rfl | rfl <;> simp [b_parts_of, pt, h0, c_OF_ONE_PART, mapO, flatP, inV, eqV]
  | list k xs =>
    simp only [parts] at hn ⊢
    have h0 : ∀ x, iNew (iCall (a1 fList) (iCons (iBin fSubB (iVar 0) (iC (.int 2))) iNil)) [some (.tup [.str S_list, pk k, .frz (pts xs)]), x] st = some (.frz (pts xs), st) := fun x => new_l (by simp) hn
    simp [b_parts_of, pt, h0, c_OF_ONE_PART, mapO, flatP, inV, eqV]
  | call f xs =>
    simp only [parts] at hn ⊢
    have h0 : ∀ x, iNew (iCall (a1 fList) (iCons (iBin fSubB (iVar 0) (iC (.int 2))) iNil)) [some (.tup [.str S_call, .str (Sx f), .frz (pts xs)]), x] st = some (.frz (pts xs), st) := fun x => new_l (by simp) hn
    simp [b_parts_of, pt, h0, c_OF_ONE_PART, mapO, flatP, inV, eqV]
  | flow f xs =>
    have h0 := e_awp (n := n) (st := st) (t := .flow f xs) (.inl ⟨f, xs, rfl⟩) hn
    simp only [pt] at h0
    simp [b_parts_of, pt, h0, c_OF_ONE_PART, mapO, flatP, inV, eqV]
  | act a k =>
    have h0 := e_awp (n := n) (st := st) (t := .act a k) (.inr (.inl ⟨a, k, rfl⟩)) hn
    simp only [pt] at h0
    simp [b_parts_of, pt, h0, c_OF_ONE_PART, mapO, flatP, inV, eqV]
  | timer a =>
    have h0 := e_awp (n := n) (st := st) (t := .timer a) (.inr (.inr (.inl ⟨a, rfl⟩))) hn
    simp only [pt] at h0
    simp [b_parts_of, pt, h0, c_OF_ONE_PART, mapO, flatP, inV, eqV]
  | signal s k =>
    have h0 := e_awp (n := n) (st := st) (t := .signal s k) (.inr (.inr (.inr ⟨s, k, rfl⟩))) hn
    simp only [pt] at h0
    simp [b_parts_of, pt, h0, c_OF_ONE_PART, mapO, flatP, inV, eqV]
end
end J20

/-! the rules of kinds, the program's -/
namespace J20
open PySem PySem.Spec PyProof.Rows L2 IL SX
def signK (i : Nat) (x y : Kd) : Option Kd :=
  if i ∈ [8, 9, 10, 11] then (if x = .int ∧ y = .int then some .int else none)
  else if i ∈ [31, 32] then (if x = .bool ∧ y = .bool then some .bool else none)
  else if x ≠ y then none
  else if i = 13 then (if x = .text ∨ isLk x = true then some x else none)
  else if i ∈ [15, 16] then (if x = .int ∨ x = .text then some .bool else none)
  else some .bool
def unK (i : Nat) (x : Kd) : Option Kd :=
  if i = 18 then (if x = .bool then some .bool else none)
  else if i = 19 then (if x = .int then some .int else none)
  else if i = 20 then (if x = .text ∨ isLk x = true then some .int else none)
  else if i = 21 then (if x = .int ∨ x = .bool then some .text else none)
  else (if x = .int then some .int else none)
def callK (f : Nat) (ks : List Kd) : Option Kd :=
  if f = 41 then (if ks = [.int] then some .int else none)
  else if f = 42 then (if ks = [.text, .bool] then some .bool else none)
  else none
def nameK (s : Nat) : Option Kd := if s = 39 then some .int else if s = 49 then some .text else if s = 48 then some (.list .int) else if s = 47 then some .bool else if s = 46 then some (.list (.list .text)) else none
def itemK : Kd → Kd → Option Kd
  | .list k, .int => some k
  | _, _ => none
def litK (w : Nat) : Kd := if w = 12 then .int else if w = 17 then .bool else if w = 14 then .text else .nothing
def rule : Tr → List Kd → Option Kd
  | .lit w _, _ => some (litK w)
  | .var s, _ => nameK s
  | .op i _ _, [x, y] => signK i x y
  | .un i _, [x] => unK i x
  | .item _ _, [x, y] => itemK x y
  | .list k _, ks => if ks.all (fun x => decide (x = k)) = true then some (.list k) else none
  | .call f _, ks => callK f ks
  | .flow f _, ks => callK f ks
  | .act _ k, _ => some k
  | .timer _, [x] => if x = .int then some .nothing else none
  | .signal _ k, _ => some k
  | .now, _ => some .int
  | _, _ => none
/-- the names, the functions -/
abbrev NM : PV := .fdk [.inr S_a, .inr S_b, .inr S_c, .inr S_d, .inr S_e] [.str S_int, .str S_text, .tup [.str S_list, .str S_int], .str S_bool, .tup [.str S_list, .tup [.str S_list, .str S_text]]]
abbrev HD : PV := .fdk [.inr S_f, .inr S_g] [.tup [.frz [.str S_int], .str S_int], .tup [.frz [.str S_text, .str S_bool], .str S_bool]]
section
variable {n : Nat} {st : Sto} {x y k : Kd} {ks ls : List Kd}
theorem gds_ks (h : ∀ k ∈ ks, kd k ≤ 40) : gds (ks.map pk) 59 = true := by
  induction ks with
  | nil => rfl
  | cons k ks ih => simp [gds, gd_pk k 59 (by have := h k (by simp); omega), ih fun z hz => h z (by simp [hz])]
theorem eqv_ks : ∀ ks ls : List Kd, PyData.eqvAll (datPs (ks.map pk)) (datPs (ls.map pk)) = decide (ks = ls)
  | [], [] => by simp [datPs, PyData.eqvAll]
  | [], l :: ls => by simp [datPs, PyData.eqvAll]
  | k :: ks, [] => by simp [datPs, PyData.eqvAll]
  | k :: ks, l :: ls => by simp [datPs, PyData.eqvAll, eqv_pk, eqv_ks ks ls]
theorem eqP_ks (h : ∀ k ∈ ks, kd k ≤ 40) (h2 : ∀ k ∈ ls, kd k ≤ 40) : eqP st (.frz (ks.map pk)) (.frz (ls.map pk)) = some (decide (ks = ls)) := by
  rw [eqP_gd (by simp [gd, gds_ks h]) (by simp [gd, gds_ks h2])]
  simp [datP, PyData.eqv, eqv_ks]
theorem fEq_ks (h : ∀ k ∈ ks, kd k ≤ 40) (h2 : ∀ k ∈ ls, kd k ≤ 40) : fEqB (.frz (ks.map pk)) (.frz (ls.map pk)) st = some (.bl (decide (ks = ls)), st) := by
  unfold fEqB eqB
  show (eqP st _ _).map _ = _
  rw [eqP_ks h h2]; rfl
theorem fNe_ks (h : ∀ k ∈ ks, kd k ≤ 40) (h2 : ∀ k ∈ ls, kd k ≤ 40) : fNeB (.frz (ks.map pk)) (.frz (ls.map pk)) st = some (.bl (!decide (ks = ls)), st) := by
  unfold fNeB eqB
  show (eqP st _ _).map _ = _
  rw [eqP_ks h h2]; rfl
theorem e_isl : FF (n + 1) I_is_list_kind [pk k] st = some (.bl (isLk k), st) := by
  rw [e_is_list_kind]
  refine def_same rfl ?_ rfl
  simp [b_is_list_kind, isP_pk]
theorem eqP_pks (hx : kd x ≤ 40) : eqP st (pk x) (.str (Sx 12)) = some (decide (x = .int)) ∧ eqP st (pk x) (.str (Sx 17)) = some (decide (x = .bool)) ∧ eqP st (pk x) (.str (Sx 14)) = some (decide (x = .text)) :=
  ⟨eqP_pk (b := .int) hx (by decide), eqP_pk (b := .bool) hx (by decide), eqP_pk (b := .text) hx (by decide)⟩
theorem opk_if {c : Prop} [Decidable c] {k : Kd} : opk (if c then some k else none) = if c then pk k else .non := by split <;> rfl
theorem e_bysign {i : Nat} (hi : i ∈ [8, 9, 10, 11, 13, 15, 16, 33, 34]) (hx : kd x ≤ 40) (hy : kd y ≤ 40) : FF (n + 2) I_made_by_sign [.str (Sx i), pk x, pk y] st = some (opk (signK i x y), st) := by
  rw [e_made_by_sign]
  refine def_same rfl ?_ rfl
  have h1 := eqB_pk (st := st) hx hy
  obtain ⟨a1, a2, a3⟩ := eqP_pks (st := st) (x := y) hy
  obtain ⟨b1, b2, b3⟩ := eqP_pks (st := st) (x := x) hx
  have h2 := fEq_pk (st := st) hx hy
  have h3 := fEq_int (st := st) hy
  have h4 := fNe_pk (st := st) hx hy
  have h5 := fEq_text (st := st) hx
  have h6 := e_isl (n := n) (st := st) (k := x)
  have h7 := inE_C (in_it (st := st) hx)
  simp only [List.mem_cons, List.not_mem_nil, or_false] at hi
  by_cases hxy : x = y
  · subst hxy
    by_cases e1 : x = .int
    · subst e1
      rcases hi with rfl | rfl | rfl | rfl | rfl | rfl | rfl | rfl | rfl <;> (simp [b_made_by_sign, mapO, flatP, inV, eqV, h1, a1, a2, a3, b1, b2, b3, h6, h7, signK, opk, isLk] <;> rfl)
    · by_cases e2 : x = .text
      · subst e2
        rcases hi with rfl | rfl | rfl | rfl | rfl | rfl | rfl | rfl | rfl <;> (simp [b_made_by_sign, mapO, flatP, inV, eqV, h1, a1, a2, a3, b1, b2, b3, h6, h7, signK, opk, isLk] <;> rfl)
      · cases hl : isLk x <;> rcases hi with rfl | rfl | rfl | rfl | rfl | rfl | rfl | rfl | rfl <;> (simp [b_made_by_sign, mapO, flatP, inV, eqV, h1, a1, a2, a3, b1, b2, b3, h6, h7, signK, opk, hl, e1, e2] <;> rfl)
  · have hn : ¬ (x = .int ∧ y = .int) := fun e => hxy (e.1.trans e.2.symm)
    rcases hi with rfl | rfl | rfl | rfl | rfl | rfl | rfl | rfl | rfl <;> (simp [b_made_by_sign, mapO, flatP, inV, eqV, h1, a1, a2, a3, b1, b2, b3, h6, h7, signK, opk, hxy, hn] <;> rfl)
theorem e_kbs {i : Nat} (hi : i ∈ signs) (hx : kd x ≤ 40) (hy : kd y ≤ 40) : FF (n + 3) I__kind_by_sign [.str (Sx i), .frz [pk x, pk y]] st = some (opk (signK i x y), st) := by
  rw [e__kind_by_sign]
  refine def_same rfl ?_ rfl
  have hb : ∀ env, iNew (iLst (iCons (iC (.str S_bool)) (iCons (iC (.str S_bool)) iNil))) env st = some (.frz [.str S_bool, .str S_bool], st) := fun env => new_l (by simp) (by simp [nr, nrs])
  have he : eqB st (.frz [pk x, pk y]) (.frz [.str S_bool, .str S_bool]) = some (decide ([x, y] = [.bool, .bool])) := eqP_ks (ks := [x, y]) (ls := [.bool, .bool]) (by simp [hx, hy]) (by simp [kd])
  by_cases h2 : i = 31 ∨ i = 32
  · by_cases hb2 : x = .bool ∧ y = .bool
    · obtain ⟨rfl, rfl⟩ := hb2
      rcases h2 with rfl | rfl <;> (simp [b__kind_by_sign, c_TRUTH_SIGNS, mapO, flatP, inV, eqV, hb, he, signK, opk] <;> rfl)
    · have hb3 : ¬ (x = .bool ∧ y = .bool) := hb2
      rcases h2 with rfl | rfl <;> simp [b__kind_by_sign, c_TRUTH_SIGNS, mapO, flatP, inV, eqV, hb, he, signK, opk, hb3]
  · have h3 : i ∈ [8, 9, 10, 11, 13, 15, 16, 33, 34] := by simp only [signs, List.mem_cons, List.not_mem_nil, or_false] at hi ⊢; omega
    have h4 := e_bysign (n := n) (st := st) h3 hx hy
    simp only [List.mem_cons, List.not_mem_nil, or_false] at h3
    rcases h3 with rfl | rfl | rfl | rfl | rfl | rfl | rfl | rfl | rfl <;> simp [b__kind_by_sign, c_TRUTH_SIGNS, mapO, flatP, inV, eqV, h4]
theorem e_unw {i : Nat} (hi : i ∈ [18, 19, 20, 21]) (hx : kd x ≤ 40) : FF (n + 2) I_made_by_word [.str (Sx i), .frz [pk x]] st = some (opk (unK i x), st) := by
  rw [e_made_by_word]
  refine def_same rfl ?_ rfl
  obtain ⟨b1, b2, b3⟩ := eqP_pks (st := st) (x := x) hx
  have h6 := e_isl (n := n) (st := st) (k := x)
  have h7 := inE_C (in_ib (st := st) hx)
  simp only [List.mem_cons, List.not_mem_nil, or_false] at hi
  rcases hi with rfl | rfl | rfl | rfl
  · by_cases e : x = .bool
    · subst e
      simp [b_made_by_word, b1, b2, b3, unK, opk] <;> rfl
    · simp [b_made_by_word, b1, b2, b3, unK, opk, e]
  · by_cases e : x = .int
    · subst e
      simp [b_made_by_word, b1, b2, b3, unK, opk] <;> rfl
    · simp [b_made_by_word, b1, b2, b3, unK, opk, e]
  · by_cases e : x = .text
    · subst e
      simp [b_made_by_word, b1, b2, b3, unK, opk] <;> rfl
    · cases hl : isLk x <;> simp [b_made_by_word, b1, b2, b3, h6, unK, opk, e, hl, pk]
  · by_cases e : x = .int
    · subst e
      simp [b_made_by_word, b1, b2, b3, h7, unK, opk] <;> rfl
    · by_cases e2 : x = .bool
      · subst e2
        simp [b_made_by_word, b1, b2, b3, h7, unK, opk] <;> rfl
      · simp [b_made_by_word, b1, b2, b3, h7, unK, opk, e, e2]
theorem e_itemw (hx : kd x ≤ 40) (hy : kd y ≤ 40) : FF (n + 2) I_made_by_word [.str S_item, .frz [pk x, pk y]] st = some (opk (itemK x y), st) := by
  rw [e_made_by_word]
  refine def_same rfl ?_ rfl
  obtain ⟨b1, b2, b3⟩ := eqP_pks (st := st) (x := y) hy
  have h6 := e_isl (n := n) (st := st) (k := x)
  cases hl : isLk x with
  | false =>
    have : itemK x y = none := by cases x <;> simp [isLk] at hl <;> rfl
    simp [b_made_by_word, h6, hl, this, opk]
  | true =>
    cases x <;> simp only [isLk, Bool.false_eq_true] at hl
    rename_i k
    have h8 : FF (n + 1) I_is_list_kind [.tup [.str S_list, pk k]] st = some (.bl true, st) := h6
    by_cases e : y = .int
    · subst e
      have b4 : eqP st (.str S_int) (.str S_int) = some true := b1
      simp [b_made_by_word, h8, itemK, opk, pk]
    · have : itemK (.list k) y = none := by cases y <;> first | rfl | exact absurd rfl e
      simp [b_made_by_word, h6, isLk, b1, e, this, opk]
theorem find_hd {f : Nat} (hf : f ∈ [41, 42, 43]) : inB st (.str (Sx f)) HD = some (decide (f = 41) || decide (f = 42)) := by
  simp only [List.mem_cons, List.not_mem_nil, or_false] at hf
  rcases hf with rfl | rfl | rfl <;> simp [inB, IL.pairsOf, keyP, findP]
theorem m_called {f : Nat} (hf : f ∈ [41, 42, 43]) (h : ∀ k ∈ ks, kd k ≤ 40) : FF (n + 1) I_called [.str (Sx f), .frz (ks.map pk), HD] st = some (opk (callK f ks), st) := by
  rw [e_called]
  refine def_same rfl ?_ rfl
  have h0 : iNew (iCall (a1 fList) (iCons (iVar 1) iNil)) [some (.str (Sx f)), some (.frz (ks.map pk)), some HD] st = some (.frz (ks.map pk), st) := new_l (by simp) (nrs_map fun k _ => nr_pk k)
  have h1 := find_hd (st := st) hf
  have e1 : eqB st (.frz [.str S_int]) (.frz (ks.map pk)) = some (decide ([.int] = ks)) := eqP_ks (ks := [.int]) (ls := ks) (by simp [kd]) h
  have e2 : eqB st (.frz [.str S_text, .str S_bool]) (.frz (ks.map pk)) = some (decide ([.text, .bool] = ks)) := eqP_ks (ks := [.text, .bool]) (ls := ks) (by simp [kd]) h
  generalize ks.map pk = zs at h0 e1 e2 ⊢
  simp only [List.mem_cons, List.not_mem_nil, or_false] at hf
  rcases hf with rfl | rfl | rfl
  · have g1 : fSubB HD (.str (Sx 41)) st = some (.tup [.frz [.str S_int], .str S_int], st) := by simp [fSubB, IL.pairsOf, keyP, findP]
    by_cases c : [Kd.int] = ks
    · subst c
      simp [b_called, h1, h0, g1, e1, callK, opk] <;> rfl
    · have c' : ¬ ks = [.int] := fun e => c e.symm
      simp [b_called, h1, h0, g1, e1, callK, opk, c, c']
  · have g1 : fSubB HD (.str (Sx 42)) st = some (.tup [.frz [.str S_text, .str S_bool], .str S_bool], st) := by simp [fSubB, IL.pairsOf, keyP, findP]
    by_cases c : [Kd.text, .bool] = ks
    · subst c
      simp [b_called, h1, h0, g1, e2, callK, opk] <;> rfl
    · have c' : ¬ ks = [.text, .bool] := fun e => c e.symm
      simp [b_called, h1, h0, g1, e2, callK, opk, c, c']
  · simp [b_called, h1, callK, opk]
theorem m_listed (hk : kd k ≤ 4) (h : ∀ x ∈ ks, kd x ≤ 40) (hl : ks.length ≤ 100) : FF (n + 1) I_listed [pk k, .frz (ks.map pk)] st = some (opk (if ks.all (fun x => decide (x = k)) = true then some (.list k) else none), st) := by
  rw [e_listed]
  refine def_same rfl ?_ rfl
  obtain ⟨l, hlc⟩ := iLc_frzm (xs := ks) (f := pk) (g := fun x => .bl (decide (x = k))) (p := fun _ => true) (ie := iVar 1) (e := iBin fEqB (iVar 2) (iVar 0)) (ig := gN 2) (t := iYes) (vs := [2]) (env := [some (pk k), some (.frz (ks.map pk)), none]) (st := st) (s1 := st) (by simp) (by omega) (fun x hx s => ⟨[some (pk k), some (.frz (ks.map pk)), some (pk x)], rfl, rfl, fun _ => ⟨[], by
    have := eqB_pk (st := s) (h x hx) (by omega : kd k ≤ 40)
    simp [this]⟩⟩)
  rw [filter_yes] at hlc
  have h0 : iNew (iLc (iWalk (iVar 1)) (gN 2) iYes (iBin fEqB (iVar 2) (iVar 0)) [2]) [some (pk k), some (.frz (ks.map pk)), none] st = some (.frz (ks.map fun x => .bl (decide (x = k))), st) :=
    new_at_ (l := [SO.lst (ks.map fun x => .bl (decide (x = k)))] ++ l) hlc at_mid (Nat.le_refl _) (List.append_assoc ..) (rlts_nr _ (nrs_map fun x _ => by simp [nr]))
  have h1 : blsOf st (.frz (ks.map fun x => .bl (decide (x = k)))) = some (ks.map fun x => decide (x = k)) := by
    have : ∀ ks : List Kd, mapO isBl (ks.map fun x => PV.bl (decide (x = k))) = some (ks.map fun x => decide (x = k)) := fun ks => by
      induction ks with
      | nil => rfl
      | cons x ks ih => simp [mapO, ih, isBl]
    exact this ks
  have h2 : (ks.map fun x => decide (x = k)).all id = ks.all fun x => decide (x = k) := by rw [List.all_map]; rfl
  have h3 : a1 fAll [.frz (ks.map fun x => .bl (decide (x = k)))] st = some (.bl (ks.all fun x => decide (x = k)), st) := by
    show fAll _ st = _
    rw [fAll_e, h1]
    show some (PV.bl _, st) = _
    rw [h2]
  show b_listed _ _ [some (pk k), some (.frz (ks.map pk)), none] st = _
  cases hb : ks.all fun x => decide (x = k) with
  | true =>
    rw [hb] at h3
    simp only [b_listed, iRet_e, iIf_e, iTest_e, iCall_e, iCons_e, iNil_e, h0, ob_s, h3]
    simp [opk, pk]
  | false =>
    rw [hb] at h3
    simp only [b_listed, iRet_e, iIf_e, iTest_e, iCall_e, iCons_e, iNil_e, h0, ob_s, h3]
    simp [opk]
theorem at4 {a b c d e : PV} {r : List PV} : atI (a :: b :: c :: d :: e :: r) 4 = some e := at_nat (i := 4) rfl
/-- the words of nodes -/
theorem e_awk (t : Tr) (ho : okN t) (h : (∃ f xs, t = .flow f xs) ∨ (∃ a k, t = .act a k) ∨ (∃ a, t = .timer a) ∨ ∃ s k, t = .signal s k) (hk : ∀ x ∈ ks, kd x ≤ 40) (hl : ks.length = (parts t).length) : FF (n + 2) I__awaited_kind [HD, pt t, .frz (ks.map pk)] st = some (opk (rule t ks), st) := by
  rw [e__awaited_kind]
  refine def_same rfl ?_ rfl
  rcases h with ⟨f, xs, rfl⟩ | ⟨a, k, rfl⟩ | ⟨a, rfl⟩ | ⟨s, k, rfl⟩
  · have h1 := m_called (n := n) (st := st) (f := f) ho hk
    generalize ks.map pk = zs at h1 ⊢
    simp [b__awaited_kind, pt, h1, rule]
  · simp [b__awaited_kind, pt, rule, opk, at4]
  · obtain ⟨x, rfl⟩ : ∃ x, ks = [x] := by
      cases ks with
      | nil => simp [parts] at hl
      | cons x r => cases r with
        | nil => exact ⟨x, rfl⟩
        | cons y r => simp [parts] at hl
    obtain ⟨b1, b2, b3⟩ := eqP_pks (st := st) (x := x) (hk x (by simp))
    by_cases e : x = .int
    · subst e
      simp [b__awaited_kind, pt, b1, rule, opk] <;> rfl
    · simp [b__awaited_kind, pt, b1, rule, opk, e]
  · simp [b__awaited_kind, pt, rule, opk]
end
end J20

/-! the program's rule of every node; its walk -/
namespace J20
open PySem PySem.Spec PyProof.Rows L2 IL SX
section
variable {n : Nat} {st : Sto} {x y k : Kd} {ks ls : List Kd}
theorem one_of (hl : ks.length = 1) : ∃ x, ks = [x] := by
  cases ks with
  | nil => simp at hl
  | cons x r => cases r with
    | nil => exact ⟨x, rfl⟩
    | cons y r => simp at hl
theorem two_of (hl : ks.length = 2) : ∃ x y, ks = [x, y] := by
  cases ks with
  | nil => simp at hl
  | cons x r =>
    obtain ⟨y, rfl⟩ := one_of (ks := r) (by simpa using hl)
    exact ⟨x, y, rfl⟩
def isVar : Tr → Bool
  | .var _ => true
  | _ => false
theorem e_made (t : Tr) (ho : okN t) (hv : isVar t = false) (hl : ks.length = (parts t).length) (hl2 : (parts t).length ≤ 4) (hk : ∀ x ∈ ks, kd x ≤ 40) : FF (n + 4) I__made_kind [HD, pt t, .frz (ks.map pk)] st = some (opk (rule t ks), st) := by
  rw [e__made_kind]
  refine def_same rfl ?_ rfl
  cases t with
  | var s => cases hv
  | lit w xs =>
    obtain ⟨ho, _⟩ := ho
    simp only [List.mem_cons, List.not_mem_nil, or_false] at ho
    rcases ho with rfl | rfl | rfl | rfl <;> (simp [b__made_kind, c_LITERALS, pt, mapO, flatP, inV, eqV, rule, litK, opk] <;> rfl)
  | now =>
    simp [b__made_kind, c_LITERALS, pt, mapO, flatP, inV, eqV, rule, opk] <;> rfl
  | op i a b =>
    obtain ⟨x, y, rfl⟩ := two_of hl
    have h := e_kbs (n := n) (st := st) ho (hk x (by simp)) (hk y (by simp))
    simp [b__made_kind, c_LITERALS, pt, mapO, flatP, inV, eqV, rule, h]
  | item a b =>
    obtain ⟨x, y, rfl⟩ := two_of hl
    have h := e_itemw (n := n + 1) (st := st) (hk x (by simp)) (hk y (by simp))
    simp [b__made_kind, c_LITERALS, pt, mapO, flatP, inV, eqV, rule, h]
  | un i a =>
    obtain ⟨x, rfl⟩ := one_of hl
    simp only [okN, ones, List.mem_cons, List.not_mem_nil, or_false] at ho
    by_cases hr : i = 26
    · subst hr
      obtain ⟨b1, b2, b3⟩ := eqP_pks (st := st) (x := x) (hk x (by simp))
      by_cases e : x = .int
      · subst e
        simp [b__made_kind, c_LITERALS, pt, mapO, flatP, inV, eqV, rule, unK, b1, opk] <;> rfl
      · simp [b__made_kind, c_LITERALS, pt, mapO, flatP, inV, eqV, rule, unK, b1, opk, e]
    · have h := e_unw (n := n + 1) (st := st) (i := i) (x := x) (by simp only [List.mem_cons, List.not_mem_nil, or_false]; omega) (hk x (by simp))
      have ho : i = 18 ∨ i = 19 ∨ i = 20 ∨ i = 21 := by omega
      rcases ho with rfl | rfl | rfl | rfl <;> simp [b__made_kind, c_LITERALS, pt, mapO, flatP, inV, eqV, rule, h]
  | list k xs =>
    have h := m_listed (n := n + 2) (st := st) ho hk (by omega)
    have hr : rule (.list k xs) ks = if ks.all (fun x => decide (x = k)) = true then some (.list k) else none := by rfl
    rw [hr]
    generalize ks.map pk = zs at h ⊢
    simp [b__made_kind, c_LITERALS, pt, mapO, flatP, inV, eqV, h]
  | call f xs =>
    have h := m_called (n := n + 2) (st := st) (f := f) ho hk
    have hr : rule (.call f xs) ks = callK f ks := by rfl
    rw [hr]
    generalize ks.map pk = zs at h ⊢
    simp [b__made_kind, c_LITERALS, pt, mapO, flatP, inV, eqV, h]
  | flow f xs =>
    have h := e_awk (n := n + 1) (st := st) (.flow f xs) ho (.inl ⟨f, xs, rfl⟩) hk hl
    generalize ks.map pk = zs at h ⊢
    simp only [pt] at h
    simp [b__made_kind, c_LITERALS, pt, mapO, flatP, inV, eqV, h]
  | act a k =>
    have h := e_awk (n := n + 1) (st := st) (.act a k) ho (.inr (.inl ⟨a, k, rfl⟩)) hk hl
    generalize ks.map pk = zs at h ⊢
    simp only [pt] at h
    simp [b__made_kind, c_LITERALS, pt, mapO, flatP, inV, eqV, h]
  | timer a =>
    have h := e_awk (n := n + 1) (st := st) (.timer a) ho (.inr (.inr (.inl ⟨a, rfl⟩))) hk hl
    generalize ks.map pk = zs at h ⊢
    simp only [pt] at h
    simp [b__made_kind, c_LITERALS, pt, mapO, flatP, inV, eqV, h]
  | signal s k =>
    have h := e_awk (n := n + 1) (st := st) (.signal s k) ho (.inr (.inr (.inr ⟨s, k, rfl⟩))) hk hl
    generalize ks.map pk = zs at h ⊢
    simp only [pt] at h
    simp [b__made_kind, c_LITERALS, pt, mapO, flatP, inV, eqV, h]
theorem get_nm {s : Nat} {ia ib : IE} {env : PEnv} (hs : s < 53) (ha : ia env st = some (NM, st)) (hb : ib env st = some (.str (Sx s), st)) : iGet1 ia ib env st = some (opk (nameK s), st) := by
  unfold iGet1
  rw [ha, ob_s]
  simp only [IL.pairsOf]
  rw [if_pos (by rfl), hb]
  simp only [ob_s, if_pos (show [Sum.inr S_a, Sum.inr S_b, Sum.inr S_c, Sum.inr S_d, (Sum.inr S_e : Key)].length = [PV.str S_int, PV.str S_text, .tup [.str S_list, .str S_int], .str S_bool, .tup [.str S_list, .tup [.str S_list, .str S_text]]].length from rfl), keyP, Option.map_some]
  have key : ∀ i : Nat, i < 53 → ((Sum.inr (Sx i) : Key) = Sum.inr (Sx s)) = (i = s) := fun i hi => by simp [hi, hs]
  simp only [List.zip_cons_cons, List.zip_nil_left, findP, key 39 (by decide), key 49 (by decide), key 48 (by decide), key 47 (by decide), key 46 (by decide), nameK, eq_comm (b := s)]
  by_cases h1 : s = 39
  · simp [h1, opk, pk]
  by_cases h2 : s = 49
  · simp [h2, opk, pk]
  by_cases h3 : s = 48
  · simp [h3, opk, pk]
  by_cases h4 : s = 47
  · simp [h4, opk, pk]
  by_cases h5 : s = 46
  · simp [h5, opk, pk]
  simp [h1, h2, h3, h4, h5, opk]
end
end J20

/-! the program's walk over a tree -/
namespace J20
open PySem PySem.Spec PyProof.Rows L2 IL SX
inductive Rs where
  | ok (k : Kd) | er (p : List Int)
inductive Rl where
  | ok (ks : List Kd) | er (p : List Int)
def tyL (f : Tr → List Int → Rs) (pl : List Int) : Nat → List Tr → Rl
  | _, [] => .ok []
  | i, x :: xs => match f x (pl ++ [(i : Int)]) with
    | .er p => .er p
    | .ok k => match tyL f pl (i + 1) xs with
      | .ok ks => .ok (k :: ks)
      | .er p => .er p
/-- the kind of a tree, or the place of its first fault -/
def ty : Nat → Tr → List Int → Rs
  | 0, _, pl => .er pl
  | d + 1, t, pl => match tyL (ty d) pl 0 (parts t) with
    | .er p => .er p
    | .ok ks => match rule t ks with
      | some k => .ok k
      | none => .er pl
def plP (p : List Int) : PV := .tup (p.map .int)
def Kp (r : Rs) (st : Sto) (o : Option (RX × Sto)) : Prop := match r with
  | .ok k => o = some (.ok (pk k), st)
  | .er p => ∃ l, o = some (.er S_CheckError [(S_place, plP p)], st ++ l)
def KL (r : Rl) (acc : List Kd) (st : Sto) (o : Option (RX × Sto)) : Prop := match r with
  | .ok ks => o = some (.ok (.ref st.length), st ++ [.lst ((acc ++ ks).map pk)])
  | .er p => ∃ l, o = some (.er S_CheckError [(S_place, plP p)], st ++ l)
section
variable {n : Nat} {st : Sto} {ks : List Kd} {pl : List Int}
noncomputable def itE (n : Nat) : IX := (iCallX (GG n I__kind_of) (iCons (iVar 0) (iCons (iVar 1) (iCons (iVar 7) (iCons (iBin fAdd (iVar 3) (iTup (iCons (iVar 6) iNil))) iNil)))))
theorem kind_loop {f : Tr → List Int → Rs} {all : List Tr} {tv : PV} (hl : pl.length ≤ 1000) (hA : all.length ≤ 1000) (hf : ∀ x ∈ all, ∀ (j : Nat) (S : Sto), j < all.length → Kp (f x (pl ++ [(j : Int)])) S (GG n I__kind_of [HD, NM, pt x, plP (pl ++ [(j : Int)])] S)) : ∀ (rest pre : List Tr) (acc : List Kd) (m : Nat), all = pre ++ rest → acc.length = pre.length → rest.length < m →
    KL (tyL f pl pre.length rest) acc st (lcLoopX (srcEF (pts all)).at_ (gT 2 (gCs (gN 6) (gCs (gN 7) gNs))) iYes (itE n) st.length [some HD, some NM, some tv, some (plP pl), none, none, none, none] m pre.length (st ++ [.lst (acc.map pk)]))
  | [], pre, acc, m, e, ha, hm => by
    obtain ⟨m, rfl⟩ : ∃ k, m = k + 1 := ⟨m - 1, by simp at hm; omega⟩
    have h1 : (pts all)[pre.length]? = none := by rw [pts_map, List.getElem?_eq_none]; simp [e]
    unfold lcLoopX
    simp only [srcEF, h1, Option.map_none, tyL, KL, List.append_nil]
  | x :: rest, pre, acc, m, e, ha, hm => by
    obtain ⟨m, rfl⟩ : ∃ k, m = k + 1 := ⟨m - 1, by simp at hm; omega⟩
    have h1 : (pts all)[pre.length]? = some (pt x) := by rw [pts_map, e]; simp
    have hx : x ∈ all := by rw [e]; simp
    have hj : pre.length < all.length := by rw [e]; simp
    have h2 := hf x hx pre.length (st ++ [.lst (acc.map pk)]) hj
    have ih := kind_loop (tv := tv) hl hA hf rest (pre ++ [x])
    have h3 : itE n [some HD, some NM, some tv, some (plP pl), none, none, some (.int (pre.length : Int)), some (pt x)] (st ++ [.lst (acc.map pk)]) = GG n I__kind_of [HD, NM, pt x, plP (pl ++ [(pre.length : Int)])] (st ++ [.lst (acc.map pk)]) := by
      unfold itE iCallX
      have ha : fAdd (plP pl) (.tup [.int (pre.length : Int)]) (st ++ [.lst (acc.map pk)]) = some (plP (pl ++ [(pre.length : Int)]), st ++ [.lst (acc.map pk)]) := by
        unfold plP
        simp
        omega
      simp [ha]
    unfold lcLoopX
    have hig : gT 2 (gCs (gN 6) (gCs (gN 7) gNs)) (.tup [.int (pre.length : Int), pt x]) [some HD, some NM, some tv, some (plP pl), none, none, none, none] (st ++ [.lst (acc.map pk)]) = some [some HD, some NM, some tv, some (plP pl), none, none, some (.int (pre.length : Int)), some (pt x)] := by simp
    have hat : (srcEF (pts all)).at_ (st ++ [.lst (acc.map pk)]) pre.length = some (some (.tup [.int (pre.length : Int), pt x])) := by simp only [srcEF, h1, Option.map_some]
    simp only [hat, hig, iYes_e, h3]
    unfold tyL
    cases hr : f x (pl ++ [(pre.length : Int)]) with
    | er p =>
      rw [hr] at h2
      obtain ⟨l, h2⟩ := h2
      rw [h2]
      exact ⟨[.lst (acc.map pk)] ++ l, by simp⟩
    | ok k =>
      rw [hr] at h2
      have h2 : _ = _ := h2
      rw [h2]
      simp only [new_at]
      have hlen : (acc.map pk).length < 9000000 := by rw [List.length_map, ha]; omega
      rw [if_pos hlen, set_last]
      have e2 : acc.map pk ++ [pk k] = (acc ++ [k]).map pk := by simp
      have z := ih (acc ++ [k]) m (by simp [e]) (by simp [ha]) (by simp at hm; omega)
      rw [List.length_append, List.length_singleton] at z
      rw [e2]
      cases hq : tyL f pl (pre.length + 1) rest with
      | ok ks =>
        rw [hq] at z
        have z : _ = _ := z
        show _ = _
        rw [z]
        simp
      | er p =>
        rw [hq] at z
        exact z
end
end J20

/-! the program's kind of a tree -/
namespace J20
open PySem PySem.Spec PyProof.Rows L2 IL SX
section
variable {n : Nat} {st : Sto} {ks : List Kd} {pl : List Int} {t : Tr} {k : Kd}
theorem signK_kd {i : Nat} {x y : Kd} (hx : kd x ≤ 21) (h : signK i x y = some k) : kd k ≤ 21 := by
  unfold signK at h
  split at h
  · split at h <;> cases h; decide
  · split at h
    · split at h <;> cases h; decide
    · split at h
      · cases h
      · split at h
        · split at h <;> cases h; exact hx
        · split at h
          · split at h <;> cases h; decide
          · cases h; decide
theorem unK_kd {i : Nat} {x : Kd} (h : unK i x = some k) : kd k ≤ 21 := by
  unfold unK at h
  repeat' split at h
  all_goals first | (cases h; decide) | cases h
theorem callK_kd {f : Nat} (h : callK f ks = some k) : kd k ≤ 21 := by
  unfold callK at h
  repeat' split at h
  all_goals first | (cases h; decide) | cases h
theorem nameK_kd {s : Nat} (h : nameK s = some k) : kd k ≤ 21 := by
  unfold nameK at h
  repeat' split at h
  all_goals first | (cases h; decide) | cases h
theorem itemK_kd {x y : Kd} (hx : kd x ≤ 21) (h : itemK x y = some k) : kd k ≤ 21 := by
  unfold itemK at h
  split at h
  · cases h
    unfold kd at hx
    omega
  · cases h
theorem rule_kd (ho : okN t) (hk : ∀ x ∈ ks, kd x ≤ 21) (h : rule t ks = some k) : kd k ≤ 21 := by
  unfold rule at h
  split at h
  · cases h
    unfold litK
    repeat' split
    all_goals decide
  · exact nameK_kd h
  · exact signK_kd (hk _ (by simp)) h
  · exact unK_kd h
  · exact itemK_kd (hk _ (by simp)) h
  · split at h
    · cases h
      have : kd _ ≤ 4 := ho
      show kd _ + 1 ≤ 21
      omega
    · cases h
  · exact callK_kd h
  · exact callK_kd h
  · cases h
    have : kd _ ≤ 4 := ho
    omega
  · split at h <;> cases h; decide
  · cases h
    have : kd _ ≤ 4 := ho.2
    omega
  · cases h; decide
  · cases h
theorem tyL_all {f : Tr → List Int → Rs} : ∀ (xs : List Tr) (i : Nat) (ks : List Kd), (∀ x ∈ xs, ∀ p k, f x p = .ok k → kd k ≤ 21) → tyL f pl i xs = .ok ks → ks.length = xs.length ∧ ∀ k ∈ ks, kd k ≤ 21
  | [], i, ks, _, h => by
    cases h
    exact ⟨rfl, by simp⟩
  | x :: xs, i, ks, hf, h => by
    unfold tyL at h
    split at h
    · cases h
    · rename_i k hk
      split at h
      · rename_i ks' h2
        cases h
        obtain ⟨a, b⟩ := tyL_all xs (i + 1) ks' (fun y hy => hf y (by simp [hy])) h2
        exact ⟨by simp [a], fun z hz => by
          rcases List.mem_cons.mp hz with e | hz
          · subst e; exact hf x (by simp) _ _ hk
          · exact b z hz⟩
      · cases h
theorem ty_kd : ∀ (d : Nat) (t : Tr) (pl : List Int) (k : Kd), Wf d t → ty d t pl = .ok k → kd k ≤ 21
  | 0, t, pl, k, w, h => by cases w
  | d + 1, t, pl, k, w, h => by
    cases w with
    | mk ho hl hp =>
      unfold ty at h
      split at h
      · cases h
      · rename_i ks h2
        obtain ⟨_, b⟩ := tyL_all (parts t) 0 ks (fun x hx p k h => ty_kd d x p k (hp x hx) h) h2
        split at h
        · rename_i k' h3
          cases h
          exact rule_kd ho b h3
        · cases h
theorem hd_var (ho : okN t) {a b c d e f g : Option PV} : iTestB (iBin fEqB (iBin fSubB (iVar 2) (iC (.int 0))) (iC (.str S_var))) [a, b, some (pt t), c, d, e, f, g] st = some (isVar t, st) := by
  cases t with
  | lit w xs =>
    obtain ⟨ho, _⟩ := ho
    simp only [List.mem_cons, List.not_mem_nil, or_false] at ho
    rcases ho with rfl | rfl | rfl | rfl <;> simp [pt, isVar]
  | un i a =>
    simp only [okN, ones, List.mem_cons, List.not_mem_nil, or_false] at ho
    rcases ho with rfl | rfl | rfl | rfl | rfl <;> simp [pt, isVar]
  | _ => simp [pt, isVar]
theorem okPT_pl (h : pl.length ≤ 1000) (hs : ∀ i ∈ pl, i.natAbs < 1000) : okPT (plP pl) = true := by
  have : ∀ pl : List Int, intsP (pl.map .int) = some pl := fun pl => by
    induction pl with
    | nil => rfl
    | cons i pl ih => simp [intsP, ih]
  show (match intsP (pl.map .int) with
    | some l => decide (l.length ≤ 1000) && l.all fun i => decide (i.natAbs < 10 ^ 30)
    | none => false) = true
  rw [this]
  show (decide (pl.length ≤ 1000) && pl.all fun i => decide (i.natAbs < 10 ^ 30)) = true
  rw [Bool.and_eq_true, decide_eq_true_eq, List.all_eq_true]
  exact ⟨h, fun i hi => decide_eq_true (Nat.lt_of_lt_of_le (hs i hi) (by decide))⟩
theorem k_step {m : Nat} (ho : okN t) (hl : (parts t).length ≤ 4) (klen : ks.length = (parts t).length) (kall : ∀ k ∈ ks, kd k ≤ 21) : iIf (iTestB (iBin fEqB (iBin fSubB (iVar 2) (iC (.int 0))) (iC (.str S_var)))) (iGet1 (iVar 1) (iBin fSubB (iVar 2) (iC (.int 1)))) (iCall (FF (m + 4) I__made_kind) (iCons (iVar 0) (iCons (iVar 2) (iCons (iVar 4) iNil)))) [some HD, some NM, some (pt t), some (plP pl), some (.frz (ks.map pk)), none, none, none] st = some (opk (rule t ks), st) := by
  rw [iIf_e, hd_var ho, ob_s]
  cases hv : isVar t with
  | true =>
    cases t with
    | var s => exact get_nm (s := s) ho (by simp) (by simp [pt])
    | _ => cases hv
  | false =>
    have := e_made (n := m) (st := st) t ho hv klen hl (fun x hx => Nat.le_trans (kall x hx) (by decide))
    simp [this]
theorem e_kind : ∀ (d n : Nat) (t : Tr) (pl : List Int) (st : Sto), Wf d t → pl.length + d ≤ 1000 → (∀ i ∈ pl, i.natAbs < 1000) → Kp (ty d t pl) st (GG (n + d + 4) I__kind_of [HD, NM, pt t, plP pl] st)
  | 0, n, t, pl, st, w, _, _ => by cases w
  | d + 1, n, t, pl, st, w, hpl, hsm => by
    have w0 := w
    cases w with
    | mk ho hl hp =>
      have hnr := nr_parts w0
      show Kp _ _ (GG ((n + d + 4) + 1) I__kind_of [HD, NM, pt t, plP pl] st)
      rw [e__kind_of]
      have hpa := e_parts (n := n + d + 2) (st := st) w0
      have hlo := kind_loop (n := n + d + 4) (st := st) (pl := pl) (f := ty d) (all := parts t) (tv := pt t) (by omega) (by omega) (fun x hx j S hj => e_kind d n x (pl ++ [(j : Int)]) S (hp x hx) (by simp; omega) (fun i hi => by
        rcases List.mem_append.mp hi with h | h
        · exact hsm i h
        · simp at h; omega)) (parts t) [] [] ((pts (parts t)).length + 1) rfl rfl (by rw [pts_map, List.length_map]; omega)
      simp only [List.length_nil, List.map_nil] at hlo
      have hsrc : iLcX (iEnumL (iCons (iCall (FF (n + d + 4) I_parts_of) (iCons (iVar 2) iNil)) iNil)) (gT 2 (gCs (gN 6) (gCs (gN 7) gNs))) iYes (itE (n + d + 4)) [6, 7] [some HD, some NM, some (pt t), some (plP pl), none, none, none, none] st
          = lcLoopX (srcEF (pts (parts t))).at_ (gT 2 (gCs (gN 6) (gCs (gN 7) gNs))) iYes (itE (n + d + 4)) st.length [some HD, some NM, some (pt t), some (plP pl), none, none, none, none] ((pts (parts t)).length + 1) 0 (st ++ [.lst []]) := by
        unfold iLcX iEnumL
        simp [hpa, IL.enumSrc, srcEF, wipeE]
      unfold ty
      cases hq : tyL (ty d) pl 0 (parts t) with
      | er p =>
        rw [hq] at hlo
        obtain ⟨l, hlo⟩ := hlo
        refine ⟨l, ?_⟩
        have h1 : iNewX (iLcX (iEnumL (iCons (iCall (FF (n + d + 4) I_parts_of) (iCons (iVar 2) iNil)) iNil)) (gT 2 (gCs (gN 6) (gCs (gN 7) gNs))) iYes (itE (n + d + 4)) [6, 7]) [some HD, some NM, some (pt t), some (plP pl), none, none, none, none] st = some (.er S_CheckError [(S_place, plP p)], st ++ l) := by
          unfold iNewX
          rw [hsrc, hlo]
        refine defX_er (e := [some HD, some NM, some (pt t), some (plP pl), none, none, none, none]) rfl ?_
        show b__kind_of _ _ [some HD, some NM, some (pt t), some (plP pl), none, none, none, none] st = _
        unfold b__kind_of
        rw [iSeq_e]
        unfold iAsgX
        rw [show (iCallX (GG (n + d + 4) I__kind_of) (iCons (iVar 0) (iCons (iVar 1) (iCons (iVar 7) (iCons (iBin fAdd (iVar 3) (iTup (iCons (iVar 6) iNil))) iNil))))) = itE (n + d + 4) from rfl, h1]
        rfl
      | ok ks =>
        rw [hq] at hlo
        have hlo : _ = _ := hlo
        obtain ⟨klen, kall⟩ := tyL_all (parts t) 0 ks (fun x hx p k h => ty_kd d x p k (hp x hx) h) hq
        have h1 : iNewX (iLcX (iEnumL (iCons (iCall (FF (n + d + 4) I_parts_of) (iCons (iVar 2) iNil)) iNil)) (gT 2 (gCs (gN 6) (gCs (gN 7) gNs))) iYes (itE (n + d + 4)) [6, 7]) [some HD, some NM, some (pt t), some (plP pl), none, none, none, none] st = some (.ok (.frz (ks.map pk)), st) := by
          unfold iNewX
          rw [hsrc, hlo]
          have h2 : iNew (fun _ _ => some (.ref st.length, st ++ [.lst (([] ++ ks).map pk)])) [some HD, some NM, some (pt t), some (plP pl), none, none, none, none] st = some (.frz (ks.map pk), st) := new_l (by simp) (nrs_map fun k _ => nr_pk k)
          simp only [h2, Option.map_some]
        have h3 : iIf (iTestB (iBin fEqB (iBin fSubB (iVar 2) (iC (.int 0))) (iC (.str S_var)))) (iGet1 (iVar 1) (iBin fSubB (iVar 2) (iC (.int 1)))) (iCall (FF (n + d + 4) I__made_kind) (iCons (iVar 0) (iCons (iVar 2) (iCons (iVar 4) iNil)))) [some HD, some NM, some (pt t), some (plP pl), some (.frz (ks.map pk)), none, none, none] st = some (opk (rule t ks), st) := by
          exact k_step ho (Nat.le_trans hl (by decide)) klen kall
        have hb : b__kind_of (FF (n + d + 4)) (GG (n + d + 4)) [some HD, some NM, some (pt t), some (plP pl), none, none, none, none] st = match rule t ks with
            | some k => some (.rt (pk k) st)
            | none => some (.er [some HD, some NM, some (pt t), some (plP pl), some (.frz (ks.map pk)), some .non, none, none] S_CheckError [(S_place, plP pl)] st) := by
          unfold b__kind_of
          rw [iSeq_e]
          unfold iAsgX
          rw [show (iCallX (GG (n + d + 4) I__kind_of) (iCons (iVar 0) (iCons (iVar 1) (iCons (iVar 7) (iCons (iBin fAdd (iVar 3) (iTup (iCons (iVar 6) iNil))) iNil))))) = itE (n + d + 4) from rfl, h1]
          simp only [ob_s, gN_e, List.set_cons_succ, List.set_cons_zero]
          rw [asg_seq h3]
          cases hr : rule t ks with
          | some k =>
            have : isNone (pk k) = false := by cases k <;> rfl
            simp [opk, this]
          | none =>
            have := okPT_pl (pl := pl) (by omega) hsm
            simp [opk, iRaise, this]
        show Kp (match rule t ks with
          | some k => Rs.ok k
          | none => Rs.er pl) st _
        cases hr : rule t ks with
        | some k =>
          rw [hr] at hb
          exact defX_pure0 rfl hb (nr_pk k)
        | none =>
          rw [hr] at hb
          exact ⟨[], by rw [List.append_nil]; exact defX_er rfl hb⟩
end
end J20

/-! the law's rules -/
namespace J20
open PySem PySem.Spec PyProof.Rows L2 IL SX
section
variable {n : Nat} {st : Sto} {x y k : Kd} {ks ls : List Kd} {t : Tr}
theorem l_isl : FF (n + 1) I__law_is_list [pk k] st = some (.bl (isLk k), st) := by
  rw [e__law_is_list]
  refine def_same rfl ?_ rfl
  simp [b__law_is_list, isP_pk]
theorem gc_refR {s : Sto} {i : Nat} (h : st.length ≤ i) : gcS st s (.ref i) = s := by
  unfold gcS
  rw [if_neg]
  rintro ⟨g1, _⟩
  unfold rlt at g1
  omega
theorem l_parts (w : Wf d t) : FF (n + 1) I__law_parts [pt t] st = some (.ref st.length, st ++ [.lst (pts (parts t))]) := by
  have ho := w.ok
  have hb : ∀ F G, b__law_parts F G [some (pt t), none] st = some (.rt (.ref st.length) (st ++ [.lst (pts (parts t))])) := fun F G => by
    cases t with
    | lit w xs =>
      obtain ⟨ho, _⟩ := ho
      simp only [List.mem_cons, List.not_mem_nil, or_false] at ho
      rcases ho with rfl | rfl | rfl | rfl <;> simp [b__law_parts, pt, parts, pts, mapO, flatP, inV, eqV]
    | un i a =>
      simp only [okN, ones, List.mem_cons, List.not_mem_nil, or_false] at ho
      rcases ho with rfl | rfl | rfl | rfl | rfl <;> simp [b__law_parts, pt, parts, pts, mapO, flatP, inV, eqV]
    | _ => simp [b__law_parts, pt, parts, pts, mapO, flatP, inV, eqV]
  rw [e__law_parts, def_rt (n := 1) (nN := 2) rfl (hb _ _), gc_refR (Nat.le_refl _)]
theorem l_sign {i : Nat} {kinds : Nat} (hi : i ∈ signs) (hx : kd x ≤ 40) (hy : kd y ≤ 40) (hs : st[kinds]? = some (.lst [pk x, pk y])) : FF (n + 2) I__law_sign_rule [.str (Sx i), .ref kinds] st = some (opk (signK i x y), st) := by
  rw [e__law_sign_rule]
  refine def_same rfl ?_ rfl
  have hg : gU 2 (gCs (gN 2) (gCs (gN 3) gNs)) (.ref kinds) [some (.str (Sx i)), some (.ref kinds), none, none] st = some [some (.str (Sx i)), some (.ref kinds), some (pk x), some (pk y)] := by
    unfold gU
    have : IL.listOf st (.ref kinds) = some [pk x, pk y] := by
      show (match st[kinds]? with
        | some (.lst xs) => some xs
        | _ => none) = _
      rw [hs]
    simp [this]
  have h1 := eqB_pk (st := st) hx hy
  obtain ⟨b1, b2, b3⟩ := eqP_pks (st := st) (x := x) hx
  have h6 := l_isl (n := n) (st := st) (k := x)
  have h7 := inE_C (in_it (st := st) hx)
  show b__law_sign_rule _ _ [some (.str (Sx i)), some (.ref kinds), none, none] st = _
  unfold b__law_sign_rule
  rw [iSeq_e, iAsg_e]
  simp only [iVar_e, List.getElem?_cons_zero, List.getElem?_cons_succ, ob_s, hg]
  simp only [signs, List.mem_cons, List.not_mem_nil, or_false] at hi
  by_cases hxy : x = y
  · subst hxy
    by_cases e1 : x = .int
    · subst e1
      rcases hi with rfl | rfl | rfl | rfl | rfl | rfl | rfl | rfl | rfl | rfl | rfl <;> (simp [mapO, flatP, inV, eqV, h1, b1, b2, b3, h6, h7, signK, opk, isLk] <;> rfl)
    · by_cases e2 : x = .text
      · subst e2
        rcases hi with rfl | rfl | rfl | rfl | rfl | rfl | rfl | rfl | rfl | rfl | rfl <;> (simp [mapO, flatP, inV, eqV, h1, b1, b2, b3, h6, h7, signK, opk, isLk] <;> rfl)
      · by_cases e3 : x = .bool
        · subst e3
          rcases hi with rfl | rfl | rfl | rfl | rfl | rfl | rfl | rfl | rfl | rfl | rfl <;> (simp [mapO, flatP, inV, eqV, h1, b1, b2, b3, h6, h7, signK, opk, isLk] <;> rfl)
        · cases hl : isLk x <;> rcases hi with rfl | rfl | rfl | rfl | rfl | rfl | rfl | rfl | rfl | rfl | rfl <;> (simp [mapO, flatP, inV, eqV, h1, b1, b2, b3, h6, h7, signK, opk, hl, e1, e2, e3] <;> rfl)
  · have hn : ¬ (x = .int ∧ y = .int) := fun e => hxy (e.1.trans e.2.symm)
    have hn2 : ¬ (x = .bool ∧ y = .bool) := fun e => hxy (e.1.trans e.2.symm)
    rcases hi with rfl | rfl | rfl | rfl | rfl | rfl | rfl | rfl | rfl | rfl | rfl <;> simp [mapO, flatP, inV, eqV, h1, signK, opk, hxy, hn, hn2]
end
end J20

/-! the law's rule of every node -/
namespace J20
open PySem PySem.Spec PyProof.Rows L2 IL SX
section
variable {n m : Nat} {st : Sto} {x y k : Kd} {ks ls : List Kd} {t : Tr}
theorem toD_ref {f : Nat} {xs : List PV} (h : st[m]? = some (.lst xs)) : toD st (f + 1) (.ref m) = toD st (f + 1) (.frz xs) := by simp only [toD, h]
theorem eqB_kr (hs : st[m]? = some (.lst (ks.map pk))) (h : ∀ k ∈ ks, kd k ≤ 40) (h2 : ∀ k ∈ ls, kd k ≤ 40) : eqB st (.frz (ls.map pk)) (.ref m) = some (decide (ls = ks)) := by
  have e : eqP st (.frz (ls.map pk)) (.ref m) = eqP st (.frz (ls.map pk)) (.frz (ks.map pk)) := by
    unfold eqP
    rw [toD_ref (f := 69) hs]
  have e2 : eqB st (.frz (ls.map pk)) (.ref m) = eqP st (.frz (ls.map pk)) (.ref m) := rfl
  rw [e2, e, eqP_ks h2 h]
abbrev rB : PV := .frz [.frz [.str S_bool], .str S_bool]
abbrev rI : PV := .frz [.frz [.str S_int], .str S_int]
abbrev rT : PV := .frz [.frz [.str S_int, .str S_bool], .str S_text]
abbrev rA : PV := .frz [.frz [.str S_int], .str S_nothing]
theorem new1 {env : PEnv} {a b : Str} : iNew (iLst (iCons (iNew (iLst (iCons (iC (.str a)) iNil))) (iCons (iC (.str b)) iNil))) env st = some (.frz [.frz [.str a], .str b], st) := by
  have h : iNew (iLst (iCons (iC (.str a)) iNil)) env st = some (.frz [.str a], st) := new_l (by simp) (by simp [nr, nrs])
  exact new_l (by simp [h]) (by simp [nr, nrs])
theorem new2 {env : PEnv} {a c b : Str} : iNew (iLst (iCons (iNew (iLst (iCons (iC (.str a)) (iCons (iC (.str c)) iNil)))) (iCons (iC (.str b)) iNil))) env st = some (.frz [.frz [.str a, .str c], .str b], st) := by
  have h : iNew (iLst (iCons (iC (.str a)) (iCons (iC (.str c)) iNil))) env st = some (.frz [.str a, .str c], st) := new_l (by simp) (by simp [nr, nrs])
  exact new_l (by simp [h]) (by simp [nr, nrs])
abbrev kvs4 : List (Key × PV) := [(.inr S_not, rB), (.inr S_neg, rI), (.inr S_random, rI), (.inr S_textx20of, rT)]
def kvs5 : List (Key × PV) := kvs4 ++ [(.inr S_await, rA)]
theorem rows4 {env : PEnv} : iDict (iPCons (iC (.str S_not)) (iNew (iLst (iCons (iNew (iLst (iCons (iC (.str S_bool)) iNil))) (iCons (iC (.str S_bool)) iNil)))) (iPCons (iC (.str S_neg)) (iNew (iLst (iCons (iNew (iLst (iCons (iC (.str S_int)) iNil))) (iCons (iC (.str S_int)) iNil)))) (iPCons (iC (.str S_random)) (iNew (iLst (iCons (iNew (iLst (iCons (iC (.str S_int)) iNil))) (iCons (iC (.str S_int)) iNil)))) (iPCons (iC (.str S_textx20of)) (iNew (iLst (iCons (iNew (iLst (iCons (iC (.str S_int)) (iCons (iC (.str S_bool)) iNil)))) (iCons (iC (.str S_text)) iNil)))) iPNil)))) env st
    = some (.ref st.length, st ++ [.dK kvs4]) := by
  unfold iDict iPCons
  simp [new1, new2, iPCons, iPNil, keysP, keyP, mergeP, putP, set_last]
end
end J20

/-! the law's rule of every node -/
namespace J20
open PySem PySem.Spec PyProof.Rows L2 IL SX
section
variable {n m : Nat} {st : Sto} {x y k : Kd} {ks ls : List Kd} {t : Tr}
theorem get_hd {s : Nat} {ia ib : IE} {env : PEnv} (hs : s ∈ [41, 42, 43]) (ha : ia env st = some (HD, st)) (hb : ib env st = some (.str (Sx s), st)) : iGet1 ia ib env st = some (if s = 41 then .tup [.frz [.str S_int], .str S_int] else if s = 42 then .tup [.frz [.str S_text, .str S_bool], .str S_bool] else .non, st) := by
  unfold iGet1
  rw [ha, ob_s]
  simp only [IL.pairsOf]
  rw [if_pos (by rfl), hb]
  simp only [ob_s, keyP, Option.map_some]
  simp only [List.mem_cons, List.not_mem_nil, or_false] at hs
  rcases hs with rfl | rfl | rfl <;> simp [findP]
/-- the rule's text -/
theorem lr {r : PV} {l : Sto} (h : b__law_rule (FF (n + 3)) (GG (n + 3)) [some HD, some NM, some (pt t), some (.ref m), none, none, none, none] st = some (.rt r (st ++ l))) (hr : nr r = true) : FF (n + 4) I__law_rule [HD, NM, pt t, .ref m] st = some (r, st) := by
  rw [e__law_rule]
  exact def_pure (l := l) rfl h hr
theorem lr0 {r : PV} (h : b__law_rule (FF (n + 3)) (GG (n + 3)) [some HD, some NM, some (pt t), some (.ref m), none, none, none, none] st = some (.rt r st)) (hr : nr r = true) : FF (n + 4) I__law_rule [HD, NM, pt t, .ref m] st = some (r, st) := lr (l := []) (by rw [h, List.append_nil]) hr
theorem nr_opk : ∀ o : Option Kd, nr (opk o) = true
  | none => by simp [opk, nr]
  | some k => nr_pk k
theorem lr_call {f : Nat} {xs : List Tr} (ho : okN (.call f xs)) (hk : ∀ x ∈ ks, kd x ≤ 40) (hs : st[m]? = some (.lst (ks.map pk))) : FF (n + 4) I__law_rule [HD, NM, pt (.call f xs), .ref m] st = some (opk (rule (.call f xs) ks), st) := by
  refine lr0 ?_ (nr_opk _)
  have hr : rule (.call f xs) ks = callK f ks := by rfl
  rw [hr]
  have hg := fun (a b c : Option PV) => get_hd (st := st) (s := f) (ia := iVar 0) (ib := iIf (iTestB (iBin fEqB (iVar 4) (iC (.str S_call)))) (iBin fSubB (iVar 2) (iC (.int 1))) (iBin fSubB (iVar 2) (iC (.int 2)))) (env := [some HD, some NM, some (pt (.call f xs)), some (.ref m), some (.str S_call), a, b, c]) ho (by simp) (by simp [pt])
  have e1 := eqB_kr (st := st) (ls := [.int]) hs hk (by simp [kd])
  have e2 := eqB_kr (st := st) (ls := [.text, .bool]) hs hk (by simp [kd])
  simp only [List.map_cons, List.map_nil, pk] at e1 e2
  have ho : f ∈ [41, 42, 43] := ho
  simp only [pt] at hg ⊢
  simp only [List.mem_cons, List.not_mem_nil, or_false] at ho
  rcases ho with rfl | rfl | rfl
  · by_cases c : [Kd.int] = ks
    · have c' : ks = [.int] := c.symm
      simp [b__law_rule, mapO, flatP, inV, eqV, hg, e1, c', callK, opk] <;> rfl
    · have c' : ¬ ks = [.int] := fun e => c e.symm
      simp [b__law_rule, mapO, flatP, inV, eqV, hg, e1, c, c', callK, opk]
  · by_cases c : [Kd.text, .bool] = ks
    · have c' : ks = [.text, .bool] := c.symm
      simp [b__law_rule, mapO, flatP, inV, eqV, hg, e2, c', callK, opk] <;> rfl
    · have c' : ¬ ks = [.text, .bool] := fun e => c e.symm
      simp [b__law_rule, mapO, flatP, inV, eqV, hg, e2, c, c', callK, opk]
  · simp [b__law_rule, mapO, flatP, inV, eqV, hg, callK, opk]
theorem lr_flow {f : Nat} {xs : List Tr} (ho : okN (.flow f xs)) (hk : ∀ x ∈ ks, kd x ≤ 40) (hs : st[m]? = some (.lst (ks.map pk))) : FF (n + 4) I__law_rule [HD, NM, pt (.flow f xs), .ref m] st = some (opk (rule (.flow f xs) ks), st) := by
  refine lr0 ?_ (nr_opk _)
  have hr : rule (.flow f xs) ks = callK f ks := by rfl
  rw [hr]
  have hg := fun (a b c : Option PV) => get_hd (st := st) (s := f) (ia := iVar 0) (ib := iIf (iTestB (iBin fEqB (iVar 4) (iC (.str S_call)))) (iBin fSubB (iVar 2) (iC (.int 1))) (iBin fSubB (iVar 2) (iC (.int 2)))) (env := [some HD, some NM, some (pt (.flow f xs)), some (.ref m), some (.str S_await), a, b, c]) ho (by simp) (by simp [pt])
  have e1 := eqB_kr (st := st) (ls := [.int]) hs hk (by simp [kd])
  have e2 := eqB_kr (st := st) (ls := [.text, .bool]) hs hk (by simp [kd])
  simp only [List.map_cons, List.map_nil, pk] at e1 e2
  have ho : f ∈ [41, 42, 43] := ho
  simp only [pt] at hg ⊢
  simp only [List.mem_cons, List.not_mem_nil, or_false] at ho
  rcases ho with rfl | rfl | rfl
  · by_cases c : [Kd.int] = ks
    · have c' : ks = [.int] := c.symm
      simp [b__law_rule, mapO, flatP, inV, eqV, hg, e1, c', callK, opk] <;> rfl
    · have c' : ¬ ks = [.int] := fun e => c e.symm
      simp [b__law_rule, mapO, flatP, inV, eqV, hg, e1, c, c', callK, opk]
  · by_cases c : [Kd.text, .bool] = ks
    · have c' : ks = [.text, .bool] := c.symm
      simp [b__law_rule, mapO, flatP, inV, eqV, hg, e2, c', callK, opk] <;> rfl
    · have c' : ¬ ks = [.text, .bool] := fun e => c e.symm
      simp [b__law_rule, mapO, flatP, inV, eqV, hg, e2, c, c', callK, opk]
  · simp [b__law_rule, mapO, flatP, inV, eqV, hg, callK, opk]
end
end J20

/-! the law's rule of every node, the rest -/
namespace J20
open PySem PySem.Spec PyProof.Rows L2 IL SX
section
variable {n m : Nat} {st : Sto} {x y k : Kd} {ks ls : List Kd} {t : Tr}
theorem lr_flat (ho : okN t) (h : (∃ w xs, t = .lit w xs) ∨ (∃ s, t = .var s) ∨ (∃ a k, t = .act a k) ∨ ∃ s k, t = .signal s k) : FF (n + 4) I__law_rule [HD, NM, pt t, .ref m] st = some (opk (rule t ks), st) := by
  refine lr0 ?_ (nr_opk _)
  rcases h with ⟨w, xs, rfl⟩ | ⟨s, rfl⟩ | ⟨a, k, rfl⟩ | ⟨s, k, rfl⟩
  · obtain ⟨ho, _⟩ := ho
    simp only [List.mem_cons, List.not_mem_nil, or_false] at ho
    rcases ho with rfl | rfl | rfl | rfl <;> (simp [b__law_rule, pt, mapO, flatP, inV, eqV, rule, litK, opk] <;> rfl)
  · have hg := fun (a b c : Option PV) => get_nm (st := st) (s := s) (ia := iVar 1) (ib := iBin fSubB (iVar 2) (iC (.int 1))) (env := [some HD, some NM, some (pt (.var s)), some (.ref m), some (.str S_var), a, b, c]) ho (by simp) (by simp [pt])
    simp only [pt] at hg ⊢
    simp [b__law_rule, mapO, flatP, inV, eqV, rule, hg]
  · simp [b__law_rule, pt, mapO, flatP, inV, eqV, rule, opk, at4]
  · simp [b__law_rule, pt, mapO, flatP, inV, eqV, rule, opk]
theorem setA : fSetA (.ref st.length) (.str S_await) rA (st ++ [.dK kvs4]) = some (st ++ [.dK kvs5]) := by
  rw [fSetA_d new_at rfl (by simp [nodupK]) (by simp), set_last]
  simp [kvs5, putP]
theorem lr_now : FF (n + 4) I__law_rule [HD, NM, pt .now, .ref m] st = some (opk (rule .now ks), st) := by
  refine lr (l := [.dK kvs5]) ?_ (nr_opk _)
  simp [b__law_rule, pt, mapO, flatP, inV, eqV, rule, opk, rows4, new1, setA] <;> rfl
theorem row_at {q : Key} {y v : PV} (hq : keyP y = some q) (h : findP kvs5 q = some v) : fSubB (.ref st.length) y (st ++ [.dK kvs5]) = some (v, st ++ [.dK kvs5]) := by
  rw [fSubB_d new_at hq, h]; rfl
theorem lr_un {i : Nat} {a : Tr} (ho : okN (.un i a)) (hx : kd x ≤ 40) (hs : st[m]? = some (.lst [pk x])) : FF (n + 4) I__law_rule [HD, NM, pt (.un i a), .ref m] st = some (opk (rule (.un i a) [x]), st) := by
  refine lr (l := [.dK kvs5]) ?_ (nr_opk _)
  have hr : rule (.un i a) [x] = unK i x := by rfl
  rw [hr]
  have g0 : fSubB (.ref m) (.int 0) (st ++ [.dK kvs5]) = some (pk x, st ++ [.dK kvs5]) := by rw [fSubB_l (old_at hs)]; simp
  obtain ⟨b1, b2, b3⟩ := eqP_pks (st := st ++ [.dK kvs5]) (x := x) hx
  have h6 := l_isl (n := n + 2) (st := st ++ [.dK kvs5]) (k := x)
  have iB : inE (st ++ [.dK kvs5]) (pk x) (.frz [.str S_bool]) = some (decide (x = .bool)) := in_l1 (x := .bool) (.inr rfl) hx
  have iI : inE (st ++ [.dK kvs5]) (pk x) (.frz [.str S_int]) = some (decide (x = .int)) := in_l1 (x := .int) (.inl rfl) hx
  have iT := in_l2 (st := st ++ [.dK kvs5]) hx
  have ho : i ∈ ones := ho
  simp only [ones, List.mem_cons, List.not_mem_nil, or_false] at ho
  rcases ho with rfl | rfl | rfl | rfl | rfl
  · have r := row_at (st := st) (y := .str (Sx 18)) (q := .inr (Sx 18)) (v := rB) rfl (by simp [kvs5, findP])
    by_cases e : x = .bool
    · subst e
      simp [b__law_rule, pt, mapO, flatP, inV, eqV, rows4, new1, setA, g0, r, iB, unK, opk] <;> rfl
    · simp [b__law_rule, pt, mapO, flatP, inV, eqV, rows4, new1, setA, g0, r, iB, unK, opk, e]
  · have r := row_at (st := st) (y := .str (Sx 19)) (q := .inr (Sx 19)) (v := rI) rfl (by simp [kvs5, findP])
    by_cases e : x = .int
    · subst e
      simp [b__law_rule, pt, mapO, flatP, inV, eqV, rows4, new1, setA, g0, r, iI, unK, opk] <;> rfl
    · simp [b__law_rule, pt, mapO, flatP, inV, eqV, rows4, new1, setA, g0, r, iI, unK, opk, e]
  · by_cases e : x = .text
    · subst e
      simp [b__law_rule, pt, mapO, flatP, inV, eqV, rows4, new1, setA, g0, b3, unK, opk] <;> rfl
    · cases hl : isLk x <;> simp [b__law_rule, pt, mapO, flatP, inV, eqV, rows4, new1, setA, g0, b3, h6, unK, opk, e, hl, pk]
  · have r := row_at (st := st) (y := .str (Sx 21)) (q := .inr (Sx 21)) (v := rT) rfl (by simp [kvs5, findP])
    by_cases e : x = .int
    · subst e
      simp [b__law_rule, pt, mapO, flatP, inV, eqV, rows4, new1, setA, g0, r, iT, unK, opk] <;> rfl
    · by_cases e2 : x = .bool
      · subst e2
        simp [b__law_rule, pt, mapO, flatP, inV, eqV, rows4, new1, setA, g0, r, iT, unK, opk] <;> rfl
      · simp [b__law_rule, pt, mapO, flatP, inV, eqV, rows4, new1, setA, g0, r, iT, unK, opk, e, e2]
  · have r := row_at (st := st) (y := .str (Sx 26)) (q := .inr (Sx 26)) (v := rI) rfl (by simp [kvs5, findP])
    by_cases e : x = .int
    · subst e
      simp [b__law_rule, pt, mapO, flatP, inV, eqV, rows4, new1, setA, g0, r, iI, unK, opk] <;> rfl
    · simp [b__law_rule, pt, mapO, flatP, inV, eqV, rows4, new1, setA, g0, r, iI, unK, opk, e]
theorem lr_timer {a : Tr} (hx : kd x ≤ 40) (hs : st[m]? = some (.lst [pk x])) : FF (n + 4) I__law_rule [HD, NM, pt (.timer a), .ref m] st = some (opk (rule (.timer a) [x]), st) := by
  refine lr (l := [.dK kvs5]) ?_ (nr_opk _)
  have g0 : fSubB (.ref m) (.int 0) (st ++ [.dK kvs5]) = some (pk x, st ++ [.dK kvs5]) := by rw [fSubB_l (old_at hs)]; simp
  have iI : inE (st ++ [.dK kvs5]) (pk x) (.frz [.str S_int]) = some (decide (x = .int)) := in_l1 (x := .int) (.inl rfl) hx
  have r := row_at (st := st) (y := .str (Sx 4)) (q := .inr (Sx 4)) (v := rA) rfl (by simp [kvs5, findP])
  by_cases e : x = .int
  · subst e
    simp [b__law_rule, pt, mapO, flatP, inV, eqV, rows4, new1, setA, g0, r, iI, rule, opk] <;> rfl
  · simp [b__law_rule, pt, mapO, flatP, inV, eqV, rows4, new1, setA, g0, r, iI, rule, opk, e]
theorem lr_op {i : Nat} {a b : Tr} (ho : okN (.op i a b)) (hx : kd x ≤ 40) (hy : kd y ≤ 40) (hs : st[m]? = some (.lst [pk x, pk y])) : FF (n + 4) I__law_rule [HD, NM, pt (.op i a b), .ref m] st = some (opk (rule (.op i a b) [x, y]), st) := by
  refine lr0 ?_ (nr_opk _)
  have h := l_sign (n := n + 1) (st := st) (i := i) (kinds := m) ho hx hy hs
  simp [b__law_rule, pt, mapO, flatP, inV, eqV, rule, h]
theorem lr_item {a b : Tr} (hx : kd x ≤ 40) (hy : kd y ≤ 40) (hs : st[m]? = some (.lst [pk x, pk y])) : FF (n + 4) I__law_rule [HD, NM, pt (.item a b), .ref m] st = some (opk (rule (.item a b) [x, y]), st) := by
  refine lr0 ?_ (nr_opk _)
  have h6 := l_isl (n := n + 2) (st := st) (k := x)
  obtain ⟨b1, _, _⟩ := eqP_pks (st := st) (x := y) hy
  have g0 : fSubB (.ref m) (.int 0) st = some (pk x, st) := by rw [fSubB_l hs]; simp
  have g1 : fSubB (.ref m) (.int 1) st = some (pk y, st) := by rw [fSubB_l hs]; simp
  cases hl : isLk x with
  | false =>
    have : itemK x y = none := by cases x <;> simp [isLk] at hl <;> rfl
    simp [b__law_rule, pt, mapO, flatP, inV, eqV, rule, g0, h6, hl, this, opk]
  | true =>
    cases x <;> simp only [isLk, Bool.false_eq_true] at hl
    rename_i k
    have h8 : FF (n + 3) I__law_is_list [.tup [.str S_list, pk k]] st = some (.bl true, st) := h6
    have g0 : fSubB (.ref m) (.int 0) st = some (.tup [.str S_list, pk k], st) := g0
    by_cases e : y = .int
    · subst e
      have b4 : eqP st (.str S_int) (.str S_int) = some true := b1
      have g1 : fSubB (.ref m) (.int 1) st = some (.str S_int, st) := g1
      simp [b__law_rule, pt, mapO, flatP, inV, eqV, rule, g0, g1, h8, itemK, opk]
    · have : itemK (.list k) y = none := by cases y <;> first | rfl | exact absurd rfl e
      simp [b__law_rule, pt, mapO, flatP, inV, eqV, rule, g0, g1, h8, b1, e, this, opk]
theorem lr_list {k : Kd} {xs : List Tr} (ho : okN (.list k xs)) (hk : ∀ x ∈ ks, kd x ≤ 40) (hl : ks.length ≤ 100) (hs : st[m]? = some (.lst (ks.map pk))) : FF (n + 4) I__law_rule [HD, NM, pt (.list k xs), .ref m] st = some (opk (rule (.list k xs) ks), st) := by
  refine lr0 ?_ (nr_opk _)
  have ho : kd k ≤ 4 := ho
  have hr : rule (.list k xs) ks = if ks.all (fun x => decide (x = k)) = true then some (.list k) else none := by rfl
  rw [hr]
  have h0 : ∀ a b c : Option PV, iNew (iLc (iWalk (iVar 3)) (gN 7) iYes (iBin fEqB (iVar 7) (iBin fSubB (iVar 2) (iC (.int 1)))) [7]) [some HD, some NM, some (.tup [.str S_list, pk k, .frz (pts xs)]), some (.ref m), a, b, c, none] st = some (.frz (ks.map fun x => .bl (decide (x = k))), st) := fun a b c => by
    obtain ⟨l, hlc⟩ := iLc_refm (xs := ks) (f := pk) (g := fun x => .bl (decide (x = k))) (p := fun _ => true) (r := m) (ie := iVar 3) (e := iBin fEqB (iVar 7) (iBin fSubB (iVar 2) (iC (.int 1)))) (ig := gN 7) (t := iYes) (vs := [7]) (env := [some HD, some NM, some (.tup [.str S_list, pk k, .frz (pts xs)]), some (.ref m), a, b, c, none]) (st := st) (s1 := st) (by simp) hs (by omega) (fun x hx s => ⟨[some HD, some NM, some (.tup [.str S_list, pk k, .frz (pts xs)]), some (.ref m), a, b, c, some (pk x)], rfl, rfl, fun _ => ⟨[], by
      have := eqB_pk (st := s) (hk x hx) (by omega : kd k ≤ 40)
      simp [this]⟩⟩)
    rw [filter_yes] at hlc
    exact new_at_ (l := [SO.lst (ks.map fun x => .bl (decide (x = k)))] ++ l) hlc at_mid (Nat.le_refl _) (List.append_assoc ..) (rlts_nr _ (nrs_map fun x _ => by simp [nr]))
  have h1 : inB st (.bl false) (.frz (ks.map fun x => .bl (decide (x = k)))) = some (!ks.all fun x => decide (x = k)) := by
    have e1 : ∀ ks : List Kd, mapO flatP (ks.map fun x => PV.bl (decide (x = k))) = some (ks.map fun x => V.bl (decide (x = k))) := fun ks => by
      induction ks with
      | nil => rfl
      | cons x ks ih => simp [mapO, ih, flatP]
    have e2 := inV_bls (fun x => decide (x = k)) ks
    show (match flatP (.bl false), itemsOf st (.frz (ks.map fun x => PV.bl (decide (x = k)))) with
      | some v, some ys => (mapO flatP ys).map fun ws => inV v ws
      | _, _ => none) = _
    show (mapO flatP (ks.map fun x => PV.bl (decide (x = k)))).map (fun ws => inV (.bl false) ws) = _
    rw [e1, Option.map_some, e2]
  cases hb : ks.all fun x => decide (x = k) with
  | true =>
    rw [hb] at h1
    simp [b__law_rule, pt, mapO, flatP, inV, eqV, h0, h1, opk, pk]
  | false =>
    rw [hb] at h1
    simp [b__law_rule, pt, mapO, flatP, inV, eqV, h0, h1, opk, pk]
end
end J20

/-! the law's kind of a tree -/
namespace J20
open PySem PySem.Spec PyProof.Rows L2 IL SX
def ltv : Rs → PV
  | .ok k => .tup [.str S_type, pk k]
  | .er p => .tup [.str S_fault, plP p]
theorem nr_plP (p : List Int) : nr (plP p) = true := by
  have : ∀ p : List Int, nrs (p.map PV.int) = true := fun p => nrs_map fun x _ => by simp [nr]
  simp [plP, nr, this]
theorem nr_ltv (r : Rs) : nr (ltv r) = true := by cases r <;> simp [ltv, nr, nrs, nr_pk, nr_plP]
section
variable {n m : Nat} {st : Sto} {ks : List Kd} {pl : List Int}
theorem l_rule {t : Tr} (ho : okN t) (hl : ks.length = (parts t).length) (hl2 : (parts t).length ≤ 4) (hk : ∀ x ∈ ks, kd x ≤ 40) (hs : st[m]? = some (.lst (ks.map pk))) : FF (n + 4) I__law_rule [HD, NM, pt t, .ref m] st = some (opk (rule t ks), st) := by
  cases t with
  | lit w xs => exact lr_flat ho (.inl ⟨w, xs, rfl⟩)
  | var s => exact lr_flat ho (.inr (.inl ⟨s, rfl⟩))
  | act a k => exact lr_flat ho (.inr (.inr (.inl ⟨a, k, rfl⟩)))
  | signal s k => exact lr_flat ho (.inr (.inr (.inr ⟨s, k, rfl⟩)))
  | now => exact lr_now
  | op i a b =>
    obtain ⟨x, y, rfl⟩ := two_of hl
    exact lr_op ho (hk x (by simp)) (hk y (by simp)) hs
  | item a b =>
    obtain ⟨x, y, rfl⟩ := two_of hl
    exact lr_item (hk x (by simp)) (hk y (by simp)) hs
  | un i a =>
    obtain ⟨x, rfl⟩ := one_of hl
    exact lr_un ho (hk x (by simp)) hs
  | timer a =>
    obtain ⟨x, rfl⟩ := one_of hl
    exact lr_timer (hk x (by simp)) hs
  | list k xs => exact lr_list ho hk (by omega) hs
  | call f xs => exact lr_call ho hk hs
  | flow f xs => exact lr_flow ho hk hs
abbrev SS (st : Sto) (acc : List Kd) : Sto := st ++ [.lst (acc.map pk), .gone]
theorem if_no {c : IT} {a b : IS} {env : PEnv} {s s2 : Sto} (h : c env s = some (false, s2)) : iIfS c a b env s = b env s2 := by simp [h]
theorem ss_at {acc : List Kd} : (SS st acc)[st.length]? = some (.lst (acc.map pk)) := by
  unfold SS
  rw [List.getElem?_append_right (Nat.le_refl _)]; simp
theorem ss_set {acc : List Kd} {x : PV} : (SS st acc).set st.length (.lst (acc.map pk ++ [x])) = st ++ [.lst (acc.map pk ++ [x]), .gone] := by
  unfold SS
  rw [List.set_append_right _ _ (Nat.le_refl _)]; simp
noncomputable def bdE (n : Nat) : IS := (iSeq (iAsg (gN 8) (iCall (FF n I__law_type_of) (iCons (iVar 0) (iCons (iVar 1) (iCons (iBin fSubB (iVar 5) (iVar 6)) (iCons (iBin fAdd (iVar 3) (iTup (iCons (iVar 6) iNil))) iNil)))))) (iSeq (iIfS (iTestB (iBin fEqB (iBin fSubB (iVar 8) (iC (.int 0))) (iC (.str S_fault)))) (iRet (iVar 8)) iSkip) (iDrop (iAppend (iVar 4) (iBin fSubB (iVar 8) (iC (.int 1)))))))
def LL (r : Rl) (acc : List Kd) (st : Sto) (tv pv : PV) (all : PV) (o : Option Fl) : Prop := match r with
  | .ok ks => ∃ z6 z8, o = some (.nx [some HD, some NM, some tv, some pv, some (.ref st.length), some all, z6, none, z8] (SS st (acc ++ ks)))
  | .er p => ∃ l, o = some (.rt (ltv (.er p)) (st ++ l))
theorem law_loop {f : Tr → List Int → Rs} {all : List Tr} {tv : PV} (hl : pl.length ≤ 1000) (hA : all.length ≤ 1000) (hf : ∀ x ∈ all, ∀ (j : Nat) (S : Sto), j < all.length → FF n I__law_type_of [HD, NM, pt x, plP (pl ++ [(j : Int)])] S = some (ltv (f x (pl ++ [(j : Int)])), S)) : ∀ (rest pre : List Tr) (acc : List Kd) (m : Nat) (z6 z8 : Option PV), all = pre ++ rest → acc.length = pre.length → rest.length < m →
    LL (tyL f pl pre.length rest) acc st tv (plP pl) (.frz (pts all)) (loop (srcR 0 all.length).at_ (gN 6) (bdE n) m pre.length [some HD, some NM, some tv, some (plP pl), some (.ref st.length), some (.frz (pts all)), z6, none, z8] (SS st acc))
  | [], pre, acc, m, z6, z8, e, ha, hm => by
    obtain ⟨m, rfl⟩ : ∃ k, m = k + 1 := ⟨m - 1, by simp at hm; omega⟩
    have h1 : ¬ pre.length < all.length := by rw [e]; simp
    unfold loop
    simp only [srcR, if_neg h1, tyL]
    exact ⟨z6, z8, by rw [List.append_nil]⟩
  | x :: rest, pre, acc, m, z6, z8, e, ha, hm => by
    obtain ⟨m, rfl⟩ : ∃ k, m = k + 1 := ⟨m - 1, by simp at hm; omega⟩
    have hj : pre.length < all.length := by rw [e]; simp
    have hx : x ∈ all := by rw [e]; simp
    have h2 := hf x hx pre.length (SS st acc) hj
    have ih := law_loop (tv := tv) hl hA hf rest (pre ++ [x])
    obtain ⟨J, hJ⟩ : ∃ J : Int, J = (pre.length : Int) := ⟨_, rfl⟩
    have hat : (srcR 0 all.length).at_ (SS st acc) pre.length = some (some (.int J)) := by simp only [srcR, if_pos hj, Int.zero_add, hJ]
    have hp : atI (pts all) J = some (pt x) := by
      rw [hJ]
      exact at_nat (by rw [pts_map, e]; simp)
    have h3 : iCall (FF n I__law_type_of) (iCons (iVar 0) (iCons (iVar 1) (iCons (iBin fSubB (iVar 5) (iVar 6)) (iCons (iBin fAdd (iVar 3) (iTup (iCons (iVar 6) iNil))) iNil)))) [some HD, some NM, some tv, some (plP pl), some (.ref st.length), some (.frz (pts all)), some (.int J), none, z8] (SS st acc) = some (ltv (f x (pl ++ [(pre.length : Int)])), SS st acc) := by
      have ha : fAdd (plP pl) (.tup [.int J]) (SS st acc) = some (plP (pl ++ [(pre.length : Int)]), SS st acc) := by
        unfold plP
        simp [hJ]
        omega
      simp [ha, hp, h2]
    unfold loop
    simp only [hat, gN_e, List.set_cons_succ, List.set_cons_zero]
    unfold bdE
    rw [asg_seq h3]
    unfold tyL
    cases hr : f x (pl ++ [(pre.length : Int)]) with
    | er p =>
      refine ⟨[.lst (acc.map pk), .gone], ?_⟩
      simp [ltv, iSeq_e]
    | ok k =>
      have hlen : (acc.map pk).length < 9000000 := by rw [List.length_map, ha]; omega
      have hap : iAppend (iVar 4) (iBin fSubB (iVar 8) (iC (.int 1))) [some HD, some NM, some tv, some (plP pl), some (.ref st.length), some (.frz (pts all)), some (.int J), none, some (.tup [.str S_type, pk k])] (SS st acc) = some (.non, SS st (acc ++ [k])) := by
        unfold iAppend
        simp only [iVar_e, List.getElem?_cons_succ, List.getElem?_cons_zero, ob_s, ss_at, iBin_e, iC_e, fSubB_t, atI_1, Option.map_some, if_pos hlen, ss_set]
        simp
      have z := ih (acc ++ [k]) m (some (.int J)) (some (.tup [.str S_type, pk k])) (by simp [e]) (by simp [ha]) (by simp at hm; omega)
      rw [List.length_append, List.length_singleton] at z
      have hstep : (iSeq (iIfS (iTestB (iBin fEqB (iBin fSubB (iVar 8) (iC (.int 0))) (iC (.str S_fault)))) (iRet (iVar 8)) iSkip) (iDrop (iAppend (iVar 4) (iBin fSubB (iVar 8) (iC (.int 1)))))) [some HD, some NM, some tv, some (plP pl), some (.ref st.length), some (.frz (pts all)), some (.int J), none, some (.tup [.str S_type, pk k])] (SS st acc) = some (.nx [some HD, some NM, some tv, some (plP pl), some (.ref st.length), some (.frz (pts all)), some (.int J), none, some (.tup [.str S_type, pk k])] (SS st (acc ++ [k]))) := by
        have hne : iTestB (iBin fEqB (iBin fSubB (iVar 8) (iC (.int 0))) (iC (.str S_fault))) [some HD, some NM, some tv, some (plP pl), some (.ref st.length), some (.frz (pts all)), some (.int J), none, some (.tup [.str S_type, pk k])] (SS st acc) = some (false, SS st acc) := by simp
        rw [iSeq_e, if_no hne]
        simp only [iSkip_e, iDrop_e, hap, ob_s]
      simp only [ltv, List.set_cons_succ, List.set_cons_zero]
      rw [hstep]
      cases hq : tyL f pl (pre.length + 1) rest with
      | ok ks =>
        rw [hq] at z
        obtain ⟨a, b, z⟩ := z
        refine ⟨a, b, ?_⟩
        have z2 := z
        rw [List.append_assoc] at z2
        exact z2
      | er p =>
        rw [hq] at z
        exact z
end
end J20

/-! the law's kind of a tree, whole -/
namespace J20
open PySem PySem.Spec PyProof.Rows L2 IL SX
section
variable {st : Sto} {ks : List Kd} {pl : List Int}
def endR (pl : List Int) : Option Kd → Rs
  | some k => .ok k
  | none => .er pl
theorem tail_e {n : Nat} {F : Nat → FA} {o : Option Kd} {tv kv all : PV} {z6 z8 : Option PV} {s : Sto} (h : F I__law_rule [HD, NM, tv, kv] s = some (opk o, s)) :
    (iSeq (iAsg (gN 7) (iCall (F I__law_rule) (iCons (iVar 0) (iCons (iVar 1) (iCons (iVar 2) (iCons (iVar 4) iNil)))))) (iRet (iIf (iTestB (iBin fIs (iVar 7) (iC .non))) (iTup (iCons (iC (.str S_fault)) (iCons (iVar 3) iNil))) (iTup (iCons (iC (.str S_type)) (iCons (iVar 7) iNil)))))) [some HD, some NM, some tv, some (plP pl), some kv, some all, z6, none, z8] s
      = some (.rt (ltv (endR pl o)) s) := by
  have h1 : iCall (F I__law_rule) (iCons (iVar 0) (iCons (iVar 1) (iCons (iVar 2) (iCons (iVar 4) iNil)))) [some HD, some NM, some tv, some (plP pl), some kv, some all, z6, none, z8] s = some (opk o, s) := by simp [h]
  rw [asg_seq h1]
  cases o with
  | none => simp [opk, ltv, endR]
  | some k =>
    have : isNone (pk k) = false := by cases k <;> rfl
    simp [opk, ltv, this, endR]
theorem e_ltype : ∀ (d n : Nat) (t : Tr) (pl : List Int) (st : Sto), Wf d t → pl.length + d ≤ 1000 → FF (n + d + 4) I__law_type_of [HD, NM, pt t, plP pl] st = some (ltv (ty d t pl), st)
  | 0, n, t, pl, st, w, _ => by cases w
  | d + 1, n, t, pl, st, w, hpl => by
    have w0 := w
    cases w with
    | mk ho hl hp =>
      show FF ((n + d + 4) + 1) I__law_type_of [HD, NM, pt t, plP pl] st = _
      rw [e__law_type_of]
      have hpa := l_parts (n := n + d + 3) (st := st ++ [.lst []]) w0
      rw [List.length_append, List.length_singleton] at hpa
      have hlo := law_loop (n := n + d + 4) (st := st) (pl := pl) (f := ty d) (all := parts t) (tv := pt t) (by omega) (by omega) (fun x hx j S hj => e_ltype d n x (pl ++ [(j : Int)]) S (hp x hx) (by simp; omega)) (parts t) [] [] ((parts t).length + 1) none none rfl rfl (by omega)
      simp only [List.length_nil] at hlo
      have hfrz : iFrz (iCall (FF (n + d + 4) I__law_parts) (iCons (iVar 2) iNil)) [some HD, some NM, some (pt t), some (plP pl), some (.ref st.length), none, none, none, none] (st ++ [.lst []]) = some (.frz (pts (parts t)), SS st []) := by
        unfold iFrz
        simp only [iCall_e, iCons_e, iVar_e, iNil_e, List.getElem?_cons_succ, List.getElem?_cons_zero, ob_s, hpa]
        have hat : (st ++ [SO.lst []] ++ [SO.lst (pts (parts t))])[st.length + 1]? = some (.lst (pts (parts t))) := by
          rw [List.getElem?_append_right (by simp)]; simp
        unfold frzV
        simp only [hat]
        congr 2
        rw [List.set_append_right _ _ (by simp)]
        simp
      obtain ⟨J, hJ⟩ : ∃ J : Int, J = ((parts t).length : Int) := ⟨_, rfl⟩
      have hfor : iFor (iRange1 (iCons (iCall (a1 fLenB) (iCons (iVar 5) iNil)) iNil)) (gN 6) (bdE (n + d + 4)) [some HD, some NM, some (pt t), some (plP pl), some (.ref st.length), some (.frz (pts (parts t))), none, none, none] (SS st [])
          = loop (srcR 0 (parts t).length).at_ (gN 6) (bdE (n + d + 4)) ((parts t).length + 1) 0 [some HD, some NM, some (pt t), some (plP pl), some (.ref st.length), some (.frz (pts (parts t))), none, none, none] (SS st []) := by
        have hin : iCons (iCall (a1 fLenB) (iCons (iVar 5) iNil)) iNil [some HD, some NM, some (pt t), some (plP pl), some (.ref st.length), some (.frz (pts (parts t))), none, none, none] (SS st []) = some ([.int J], SS st []) := by
          have : (pts (parts t)).length = (parts t).length := by rw [pts_map, List.length_map]
          simp [this, hJ]
        have hb : big J = true := by
          unfold big
          rw [Bool.and_eq_true, decide_eq_true_eq, decide_eq_true_eq]
          omega
        unfold iFor iRange1
        simp only [hin, ob_s, hb, if_true]
        have : J.toNat = (parts t).length := by omega
        rw [this]
        rfl
      have hb0 : b__law_type_of (FF (n + d + 4)) (GG (n + d + 4)) [some HD, some NM, some (pt t), some (plP pl), none, none, none, none, none] st = iSeq (iFor (iRange1 (iCons (iCall (a1 fLenB) (iCons (iVar 5) iNil)) iNil)) (gN 6) (bdE (n + d + 4))) (iSeq (iAsg (gN 7) (iCall (FF (n + d + 4) I__law_rule) (iCons (iVar 0) (iCons (iVar 1) (iCons (iVar 2) (iCons (iVar 4) iNil)))))) (iRet (iIf (iTestB (iBin fIs (iVar 7) (iC .non))) (iTup (iCons (iC (.str S_fault)) (iCons (iVar 3) iNil))) (iTup (iCons (iC (.str S_type)) (iCons (iVar 7) iNil)))))) [some HD, some NM, some (pt t), some (plP pl), some (.ref st.length), some (.frz (pts (parts t))), none, none, none] (SS st []) := by
        unfold b__law_type_of
        have h1 : iLst iNil [some HD, some NM, some (pt t), some (plP pl), none, none, none, none, none] st = some (.ref st.length, st ++ [.lst []]) := by simp
        rw [asg_seq h1]
        simp only [List.set_cons_succ, List.set_cons_zero]
        rw [asg_seq hfrz]
        rfl
      unfold ty
      cases hq : tyL (ty d) pl 0 (parts t) with
      | er p =>
        rw [hq] at hlo
        obtain ⟨l, hlo⟩ := hlo
        refine def_pure (l := l) rfl ?_ (nr_ltv _)
        show b__law_type_of _ _ [some HD, some NM, some (pt t), some (plP pl), none, none, none, none, none] st = _
        rw [hb0, iSeq_e, hfor, hlo]
      | ok ks =>
        rw [hq] at hlo
        obtain ⟨z6, z8, hlo⟩ := hlo
        obtain ⟨klen, kall⟩ := tyL_all (parts t) 0 ks (fun x hx p k h => ty_kd d x p k (hp x hx) h) hq
        refine def_pure (l := [.lst (ks.map pk), .gone]) rfl ?_ (nr_ltv _)
        show b__law_type_of _ _ [some HD, some NM, some (pt t), some (plP pl), none, none, none, none, none] st = some (.rt (ltv (match rule t ks with
          | some k => .ok k
          | none => .er pl)) (st ++ [.lst (ks.map pk), .gone]))
        rw [hb0, iSeq_e, hfor, hlo]
        have hr := l_rule (n := n + d) (m := st.length) (st := SS st ([] ++ ks)) (ks := ks) ho klen (Nat.le_trans hl (by decide)) (fun x hx => Nat.le_trans (kall x hx) (by decide)) ss_at
        have z := tail_e (n := n) (F := FF (n + d + 4)) (pl := pl) (all := .frz (pts (parts t))) (z6 := z6) (z8 := z8) hr
        cases h2 : rule t ks with
        | some k =>
          rw [h2] at z
          exact z
        | none =>
          rw [h2] at z
          exact z
end
end J20

/-! the functions' heads; the program's answer -/
namespace J20
open PySem PySem.Spec PyProof.Rows L2 IL SX
/-- a function with these parameters, of that kind -/
def fnP (x : Str) (ps : List (Str × Kd)) (k : Kd) : PV := .tup [.str S_fn, .str x, .frz (ps.map fun p => .tup [.str p.1, pk p.2]), pk k, .frz []]
def fns : List (Str × List (Str × Kd) × Kd) := [(S_f, [(S_x, .int)], .int), (S_g, [(S_x, .text), (S_y, .bool)], .bool)]
def PROG : PV := .frz (fns.map fun q => fnP q.1 q.2.1 q.2.2)
section
variable {n : Nat} {st : Sto}
theorem inner {env : PEnv} {ps : List (Str × Kd)} {x : Str} {k : Kd} {a : Option PV} (hl : ps.length ≤ 100) : iNew (iLc (iWalk (iBin fSubB (iVar 1) (iC (.int 2)))) (gT 2 (gCs (gN 2) (gCs (gN 3) gNs))) iYes (iVar 3) [2, 3]) [a, some (fnP x ps k), none, none] st = some (.frz ((ps.map (·.2)).map pk), st) := by
  obtain ⟨l, hlc⟩ := iLc_frzm (xs := ps) (f := fun p => .tup [.str p.1, pk p.2]) (g := fun p => pk p.2) (p := fun _ => true) (ie := iBin fSubB (iVar 1) (iC (.int 2))) (e := iVar 3) (ig := gT 2 (gCs (gN 2) (gCs (gN 3) gNs))) (t := iYes) (vs := [2, 3]) (env := [a, some (fnP x ps k), none, none]) (st := st) (s1 := st) (by simp [fnP]) (by omega) (fun p hp s => ⟨[a, some (fnP x ps k), some (.str p.1), some (pk p.2)], by simp [wipeE], rfl, fun _ => ⟨[], by simp⟩⟩)
  rw [filter_yes] at hlc
  have := new_at_ (l := [SO.lst (ps.map fun p => pk p.2)] ++ l) hlc at_mid (Nat.le_refl _) (List.append_assoc ..) (rlts_nr _ (nrs_map fun x _ => nr_pk _))
  rw [this, List.map_map]
  rfl
theorem e_sig : FF (n + 1) I_signatures [PROG] st = some (HD, st) := by
  rw [e_signatures]
  refine def_same rfl ?_ rfl
  have h := dc_new (xs := fns) (f := fun q => fnP q.1 q.2.1 q.2.2) (ie := iVar 0) (vs := [1]) (env := [some PROG, none, none, none]) (st := st) (ig := gN 1) (t := iYes) (ek := iBin fSubB (iVar 1) (iC (.int 1))) (e := iTup (iCons (iNew (iLc (iWalk (iBin fSubB (iVar 1) (iC (.int 2)))) (gT 2 (gCs (gN 2) (gCs (gN 3) gNs))) iYes (iVar 3) [2, 3])) (iCons (iBin fSubB (iVar 1) (iC (.int 3))) iNil)))
    (key := fun q => .inr q.1) (val := fun q => .tup [.frz ((q.2.1.map (·.2)).map pk), pk q.2.2]) (by simp [PROG]) (by simp [fns]) (fun q hq s => ⟨[some PROG, some (fnP q.1 q.2.1 q.2.2), none, none], .str q.1, by simp [wipeE], rfl, by simp [fnP], by
      have hl : q.2.1.length ≤ 100 := by
        simp only [fns, List.mem_cons, List.not_mem_nil, or_false] at hq
        rcases hq with rfl | rfl <;> simp
      have := inner (st := s) (env := []) (a := some PROG) (x := q.1) (ps := q.2.1) (k := q.2.2) hl
      simp only [iTup_e, iCons_e, this, ob_s]
      simp [fnP], rfl⟩) (by simp [fns, putAllP, putP, nr, nrs, pk])
  show b_signatures _ _ [some PROG, none, none, none] st = _
  unfold b_signatures
  rw [iRet_e, h, ob_s]
  simp [fns, putAllP, putP, pk]
theorem e_toe {d : Nat} {t : Tr} (w : Wf d t) (hd : d ≤ 900) : Kp (ty d t [0]) st (GG (n + d + 5) I_type_of_expression [PROG, NM, pt t] st) := by
  have hk := e_kind d n t [0] st w (by simp; omega) (by simp)
  show Kp _ _ (GG ((n + d + 4) + 1) I_type_of_expression [PROG, NM, pt t] st)
  rw [e_type_of_expression]
  have hs := e_sig (n := n + d + 3) (st := st)
  have hp : plP [0] = .tup [.int 0] := rfl
  rw [hp] at hk
  have hc : iCallX (GG (n + d + 4) I__kind_of) (iCons (iCall (FF (n + d + 4) I_signatures) (iCons (iVar 0) iNil)) (iCons (iVar 1) (iCons (iVar 2) (iCons (iTup (iCons (iC (.int 0)) iNil)) iNil)))) [some PROG, some NM, some (pt t)] st = GG (n + d + 4) I__kind_of [HD, NM, pt t, .tup [.int 0]] st := by
    unfold iCallX
    simp [hs]
  cases hr : ty d t [0] with
  | ok k =>
    rw [hr] at hk
    have hk : _ = _ := hk
    refine defX_pure0 rfl ?_ (nr_pk k)
    show b_type_of_expression _ _ [some PROG, some NM, some (pt t)] st = _
    unfold b_type_of_expression iRetX
    rw [hc, hk, ob_s]
  | er p =>
    rw [hr] at hk
    obtain ⟨l, hk⟩ := hk
    refine ⟨l, defX_er (e := [some PROG, some NM, some (pt t)]) rfl ?_⟩
    show b_type_of_expression _ _ [some PROG, some NM, some (pt t)] st = _
    unfold b_type_of_expression iRetX
    rw [hc, hk, ob_s]
end
end J20

/-! the row of names of a kind -/
namespace J20
open PySem PySem.Spec PyProof.Rows L2 IL SX
def nameIs : List Nat := [39, 49, 48, 47, 46]
def rowN (k : Kd) : List Nat := nameIs.filter fun i => decide (nameK i = some k)
theorem rowN_le (k : Kd) : rowN k = [] ∨ ∃ i, i ∈ nameIs ∧ rowN k = [i] := by
  by_cases h1 : k = .int
  · subst h1; exact .inr ⟨39, by decide, by decide⟩
  by_cases h2 : k = .text
  · subst h2; exact .inr ⟨49, by decide, by decide⟩
  by_cases h3 : k = .list .int
  · subst h3; exact .inr ⟨48, by decide, by decide⟩
  by_cases h4 : k = .bool
  · subst h4; exact .inr ⟨47, by decide, by decide⟩
  by_cases h5 : k = .list (.list .text)
  · subst h5; exact .inr ⟨46, by decide, by decide⟩
  refine .inl ?_
  have : ∀ a b : Kd, ¬ b = a → ¬ a = b := fun a b h e => h e.symm
  simp [rowN, nameIs, nameK, this _ _ h1, this _ _ h2, this _ _ h3, this _ _ h4, this _ _ h5]
section
variable {n : Nat} {st : Sto} {k : Kd}
theorem nm_at {i : Nat} (hi : i ∈ nameIs) : ∃ x, nameK i = some x ∧ kd x ≤ 2 ∧ fSubB NM (.str (Sx i)) st = some (pk x, st) := by
  simp only [nameIs, List.mem_cons, List.not_mem_nil, or_false] at hi
  rcases hi with rfl | rfl | rfl | rfl | rfl
  · exact ⟨.int, rfl, by decide, by simp [fSubB, IL.pairsOf, keyP, findP] <;> rfl⟩
  · exact ⟨.text, rfl, by decide, by simp [fSubB, IL.pairsOf, keyP, findP] <;> rfl⟩
  · exact ⟨.list .int, rfl, by decide, by simp [fSubB, IL.pairsOf, keyP, findP] <;> rfl⟩
  · exact ⟨.bool, rfl, by decide, by simp [fSubB, IL.pairsOf, keyP, findP] <;> rfl⟩
  · exact ⟨.list (.list .text), rfl, by decide, by simp [fSubB, IL.pairsOf, keyP, findP] <;> rfl⟩
theorem e_row {a : Option PV} {dv : PV} (hk : kd k ≤ 40) : iNew (iLcK 1 (gN 9) (iTestB (iBin fEqB (iBin fSubB (iVar 1) (iVar 9)) (iVar 2))) (iVar 9) [9]) [a, some NM, some (pk k), some dv, none, none, none, none, none, none, none] st = some (.frz ((rowN k).map fun i => .str (Sx i)), st) := by
  obtain ⟨l, hr⟩ := lc_garm (all := nameIs) (f := fun i => PV.str (Sx i)) (g := fun i => PV.str (Sx i)) (p := fun i => decide (nameK i = some k)) (ig := gN 9) (t := iTestB (iBin fEqB (iBin fSubB (iVar 1) (iVar 9)) (iVar 2))) (e := iVar 9) (st := st) (envw := [a, some NM, some (pk k), some dv, none, none, none, none, none, none, none]) (by decide) (fun i hi s => ⟨[a, some NM, some (pk k), some dv, none, none, none, none, none, some (.str (Sx i)), none], by simp, by
      obtain ⟨x, h1, h2, h3⟩ := nm_at (st := s) hi
      have h4 := eqB_pk (st := s) (a := x) (b := k) (by omega) hk
      simp [h3, h4, h1], fun _ => ⟨[], by simp⟩⟩) nameIs [] [] rfl
  have hlc : iLcK 1 (gN 9) (iTestB (iBin fEqB (iBin fSubB (iVar 1) (iVar 9)) (iVar 2))) (iVar 9) [9] [a, some NM, some (pk k), some dv, none, none, none, none, none, none, none] st = some (.ref st.length, st ++ [.lst ((rowN k).map fun i => .str (Sx i))] ++ l) := by
    unfold iLcK
    simp only [List.getElem?_cons_succ, List.getElem?_cons_zero]
    have e1 : ([.inr S_a, .inr S_b, .inr S_c, .inr S_d, .inr S_e] : List Key).map kPV = nameIs.map fun i => PV.str (Sx i) := rfl
    rw [e1]
    simp only [List.filter_nil, List.map_nil, List.append_nil, List.length_nil] at hr
    have e2 : wipeE [a, some NM, some (pk k), some dv, none, none, none, none, none, none, none] [9] = [a, some NM, some (pk k), some dv, none, none, none, none, none, none, none] := by simp [wipeE]
    rw [e2]
    show (lcLoop _ _ _ _ _ _ (nameIs.length + 1) 0 _).map _ = _
    rw [hr]
    rfl
  exact new_at_ (l := [SO.lst ((rowN k).map fun i => .str (Sx i))] ++ l) hlc at_mid (Nat.le_refl _) (List.append_assoc ..) (rlts_nr _ (nrs_map fun x _ => by simp [nr]))
theorem e_sort {ie : IE} {env : PEnv} (h : ie env st = some (.frz ((rowN k).map fun i => .str (Sx i)), st)) : iNew (iCall (a1 fSortS) (iCons ie iNil)) env st = some (.frz ((rowN k).map fun i => .str (Sx i)), st) := by
  have hf : fSortS (.frz ((rowN k).map fun i => .str (Sx i))) st = some (.ref st.length, st ++ [.lst ((rowN k).map fun i => .str (Sx i))]) := by
    rcases rowN_le k with e | ⟨i, hi, e⟩
    · rw [e]; rfl
    · rw [e]; rfl
  have hc : iCall (a1 fSortS) (iCons ie iNil) env st = fSortS (.frz ((rowN k).map fun i => .str (Sx i))) st := by
    simp only [iCall_e, iCons_e, h, ob_s, iNil_e]
    rfl
  exact new_l (by rw [hc, hf]) (nrs_map fun x _ => by simp [nr])
end
end J20

/-! drawn trees: of ints -/
namespace J20
open PySem PySem.Spec PyProof.Rows L2 IL SX
/-- trees of every kind are drawn at that level with that int -/
def TdP (s c : Nat) (N : Nat) (D : Int) (w : Nat) : Prop := ∀ (k : Kd) (st : Sto), kd k ≤ 3 → LS st s c → ∃ t st', FF N I__law_typed [.ref s, NM, pk k, .int D] st = some (pt t, st') ∧ Mv s c st st' ∧ Wf w t
section
variable {m s c w : Nat} {st : Sto} {D : Int}
theorem Wf.lit {d v : Nat} {xs : List PV} (h : v ∈ [12, 17, 14, 28]) (hx : nrs xs = true) (hg : gds xs 1 = true) (hw : wts xs ≤ 100) : Wf (d + 1) (.lit v xs) := .mk ⟨h, hx, hg, hw⟩ (by simp [parts]) (by simp [parts])
theorem pick_strs {is : List Nat} {ie : IE} {env : PEnv} (h0 : is ≠ []) (hl : is.length ≤ 100) (h : ie env st = some (.frz (is.map fun i => .str (Sx i)), st)) {q : Nat} (he : env[0]? = some (some (.ref s))) (L : LS st s c) : ∃ i st', i ∈ is ∧ iCall (FF (m + 2) I__law_pick) (iCons (iVar 0) (iCons ie iNil)) env st = some (.str (Sx i), st') ∧ Mv s c st st' := by
  obtain ⟨x, st', e1, e2, M⟩ := e_pick (n := m) (xs := is.map fun i => PV.str (Sx i)) (by simpa using h0) (by rw [List.length_map]; omega) (nrs_map fun x _ => by simp [nr]) L
  obtain ⟨i, hi, rfl⟩ := List.mem_map.mp e2
  refine ⟨i, st', hi, ?_, M⟩
  simp [he, h, e1]
theorem ty_int (hD : 0 ≤ D) (L : LS st s c) (ih : 1 ≤ D → TdP s c (m + 2) (D - 1) w) (hw : 1 ≤ w) : ∃ t st', FF (m + 3) I__law_typed_int [.ref s, NM, .int D] st = some (pt t, st') ∧ Mv s c st st' ∧ Wf (w + 1) t := by
  rw [e__law_typed_int]
  obtain ⟨r, s1, d1, r0, r1, M1⟩ := e_draw (n := m + 1) 9 (by omega) (by omega) L
  by_cases h1 : D = 0 ∨ r < 2
  · have hn : ∀ env, iNew (iLst (iCons (iC (.int 0)) (iCons (iC (.int 1)) (iCons (iC (.int 2)) (iCons (iC (.int 9)) iNil))))) env s1 = some (.frz [.int 0, .int 1, .int 2, .int 9], s1) := fun env => new_l (by simp) (by simp [nr, nrs])
    obtain ⟨x, s2, e1, e2, M2⟩ := e_pick (n := m) (xs := [.int 0, .int 1, .int 2, .int 9]) (by simp) (by simp) (by simp [nr, nrs]) M1.ls
    have hx : nr x = true ∧ gd x 1 = true ∧ wt x ≤ 31 := by
      simp only [List.mem_cons, List.not_mem_nil, or_false] at e2
      rcases e2 with rfl | rfl | rfl | rfl <;> simp [nr, gd, wt]
    refine ⟨.lit 12 [x], s2, def_same rfl ?_ (M1.trans M2).len, M1.trans M2, Wf.lit (by decide) (by simp [nrs, hx]) (by simp [gds, hx]) (by have := hx.2.2; simp only [wts]; omega)⟩
    by_cases h2 : D = 0
    · subst h2
      simp [b__law_typed_int, d1, hn, e1, pt]
    · have h3 : r < 2 := h1.resolve_left h2
      have hb : (D == 0) = false := beq_eq_false_iff_ne.mpr h2
      simp [b__law_typed_int, d1, hn, e1, pt, hb, h3]
  have n1 : ¬ D = 0 := fun e => h1 (.inl e)
  have n2 : ¬ r < 2 := fun e => h1 (.inr e)
  have n3 : (D == 0) = false := beq_eq_false_iff_ne.mpr n1
  have ih := ih (by omega)
  by_cases h5 : r < 5
  · have hn : ∀ env, iNew (iLst (iCons (iC (.str S_x2b)) (iCons (iC (.str S_x2d)) (iCons (iC (.str S_x2a)) (iCons (iC (.str S_x2f)) iNil))))) env s1 = some (.frz ([8, 9, 10, 11].map fun i => .str (Sx i)), s1) := fun env => new_l (by simp) (by simp [nr, nrs])
    obtain ⟨x, s2, e1, e2, M2⟩ := e_pick (n := m) (xs := [8, 9, 10, 11].map fun i => PV.str (Sx i)) (by simp) (by simp) (nrs_map fun x _ => by simp [nr]) M1.ls
    obtain ⟨i, hi, rfl⟩ := List.mem_map.mp e2
    obtain ⟨a, s3, f1, M3, w1⟩ := ih .int s2 (by decide) M2.ls
    obtain ⟨b, s4, f2, M4, w2⟩ := ih .int s3 (by decide) M3.ls
    simp only [pk] at f1 f2
    have M := ((M1.trans M2).trans M3).trans M4
    refine ⟨.op i a b, s4, def_same rfl ?_ M.len, M, .mk (by simp only [okN, signs, List.mem_cons, List.not_mem_nil, or_false] at hi ⊢; omega) (by simp [parts]) (by simp [parts, w1, w2])⟩
    simp only [List.map_cons, List.map_nil] at e1 hn
    simp [b__law_typed_int, d1, hn, pt, n3, n2, h5, e1, f1, f2]
  by_cases h6 : r = 5
  · subst h6
    have hn : ∀ env, iNew (iLst (iCons (iC (.str S_neg)) (iCons (iC (.str S_random)) iNil))) env s1 = some (.frz [.str (Sx 19), .str (Sx 26)], s1) := fun env => new_l (by simp) (by simp [nr, nrs])
    obtain ⟨x, s2, e1, e2, M2⟩ := e_pick (n := m) (xs := [19, 26].map fun i => PV.str (Sx i)) (by simp) (by simp) (nrs_map fun x _ => by simp [nr]) M1.ls
    obtain ⟨i, hi, rfl⟩ := List.mem_map.mp e2
    obtain ⟨a, s3, f1, M3, w1⟩ := ih .int s2 (by decide) M2.ls
    simp only [pk] at f1
    have M := (M1.trans M2).trans M3
    refine ⟨.un i a, s3, def_same rfl ?_ M.len, M, .mk (by simp only [okN, ones, List.mem_cons, List.not_mem_nil, or_false] at hi ⊢; omega) (by simp [parts]) (by simp [parts, w1])⟩
    simp only [List.map_cons, List.map_nil] at e1
    simp [b__law_typed_int, d1, hn, pt, n3, e1, f1]
  by_cases h7 : r = 6
  · subst h7
    have hn : ∀ env, iNew (iLst (iCons (iC (.str S_text)) (iCons (iTup (iCons (iC (.str S_list)) (iCons (iC (.str S_int)) iNil))) iNil))) env s1 = some (.frz [.str S_text, .tup [.str S_list, .str S_int]], s1) := fun env => new_l (by simp) (by simp [nr, nrs])
    obtain ⟨x, s2, e1, e2, M2⟩ := e_pick (n := m) (xs := [Kd.text, .list .int].map pk) (by simp) (by simp) (nrs_map fun x _ => nr_pk x) M1.ls
    obtain ⟨k, hk, rfl⟩ := List.mem_map.mp e2
    have hk3 : kd k ≤ 3 := by
      simp only [List.mem_cons, List.not_mem_nil, or_false] at hk
      rcases hk with rfl | rfl <;> decide
    obtain ⟨a, s3, f1, M3, w1⟩ := ih k s2 hk3 M2.ls
    have M := (M1.trans M2).trans M3
    refine ⟨.un 20 a, s3, def_same rfl ?_ M.len, M, .mk (by simp [okN, ones]) (by simp [parts]) (by simp [parts, w1])⟩
    simp only [List.map_cons, List.map_nil, pk] at e1
    simp [b__law_typed_int, d1, hn, pt, n3, e1, f1]
  by_cases h8 : r = 7
  · subst h8
    obtain ⟨a, s2, f1, M2, w1⟩ := ih .int s1 (by decide) M1.ls
    simp only [pk] at f1
    have hn : ∀ x, iNew (iLst (iCons (iCall (FF (m + 2) I__law_typed) (iCons (iVar 0) (iCons (iVar 1) (iCons (iC (.str S_int)) (iCons (iBin fSub (iVar 2) (iC (.int 1))) iNil))))) iNil)) [some (.ref s), some NM, some (.int D), some (.int 7), x, none] s1 = some (.frz [pt a], s2) := fun x => new_draw (l := []) M2 (by simp [f1]) (by simp [nrs, nr_pt w1])
    have hn2 : ∀ env : PEnv, env[5]? = some (some (.frz [pt a])) → iNew (iLst (iCons (iTup (iCons (iC (.str S_call)) (iCons (iC (.str S_f)) (iCons (iVar 5) iNil)))) (iCons (iTup (iCons (iC (.str S_await)) (iCons (iC (.str S_flow)) (iCons (iC (.str S_f)) (iCons (iVar 5) iNil))))) iNil))) env s2 = some (.frz [pt (.call 41 [a]), pt (.flow 41 [a])], s2) := fun env he => new_l (by simp [he, pt, pts]) (by simp [nr, nrs, pt, pts, nr_pt w1])
    obtain ⟨x, s3, e1, e2, M3⟩ := e_pick (n := m) (xs := [pt (.call 41 [a]), pt (.flow 41 [a])]) (by simp) (by simp) (by simp [nr, nrs, pt, pts, nr_pt w1]) M2.ls
    have M := (M1.trans M2).trans M3
    have hb : b__law_typed_int (FF (m + 2)) (GG (m + 2)) [some (.ref s), some NM, some (.int D), none, none, none] st = some (.rt x s3) := by
      have hn2 := hn2 [some (.ref s), some NM, some (.int D), some (.int 7), none, some (.frz [pt a])] rfl
      simp [b__law_typed_int, d1, hn, n3, hn2, e1]
    simp only [List.mem_cons, List.not_mem_nil, or_false] at e2
    rcases e2 with rfl | rfl
    · exact ⟨.call 41 [a], s3, def_same rfl hb M.len, M, .mk (by simp [okN]) (by simp [parts]) (by simp [parts, w1])⟩
    · exact ⟨.flow 41 [a], s3, def_same rfl hb M.len, M, .mk (by simp [okN]) (by simp [parts]) (by simp [parts, w1])⟩
  · have h9 : r = 8 := by omega
    subst h9
    refine ⟨.now, s1, def_same rfl ?_ M1.len, M1, .mk trivial (by simp [parts]) (by simp [parts])⟩
    simp [b__law_typed_int, d1, pt, n3]
end
end J20

/-! drawn trees: of truths -/
namespace J20
open PySem PySem.Spec PyProof.Rows L2 IL SX
section
variable {m s c w : Nat} {st : Sto} {D : Int}
/-- one of some texts -/
theorem pick_s (is : List Nat) (h0 : is ≠ []) (hl : is.length ≤ 100) (L : LS st s c) : ∃ i st', i ∈ is ∧ FF (m + 2) I__law_pick [.ref s, .frz (is.map fun i => .str (Sx i))] st = some (.str (Sx i), st') ∧ Mv s c st st' := by
  obtain ⟨x, st', e1, e2, M⟩ := e_pick (n := m) (xs := is.map fun i => PV.str (Sx i)) (by simpa using h0) (by rw [List.length_map]; omega) (nrs_map fun x _ => by simp [nr]) L
  obtain ⟨i, hi, rfl⟩ := List.mem_map.mp e2
  exact ⟨i, st', hi, e1, M⟩
/-- one of some kinds -/
theorem pick_k (ks : List Kd) (h0 : ks ≠ []) (hl : ks.length ≤ 100) (L : LS st s c) : ∃ k st', k ∈ ks ∧ FF (m + 2) I__law_pick [.ref s, .frz (ks.map pk)] st = some (pk k, st') ∧ Mv s c st st' := by
  obtain ⟨x, st', e1, e2, M⟩ := e_pick (n := m) (xs := ks.map pk) (by simpa using h0) (by rw [List.length_map]; omega) (nrs_map fun x _ => nr_pk x) L
  obtain ⟨i, hi, rfl⟩ := List.mem_map.mp e2
  exact ⟨i, st', hi, e1, M⟩
theorem ty_bool (hD : 0 ≤ D) (L : LS st s c) (ih : 1 ≤ D → TdP s c (m + 2) (D - 1) w) : ∃ t st', FF (m + 3) I__law_typed_bool [.ref s, NM, .int D] st = some (pt t, st') ∧ Mv s c st st' ∧ Wf (w + 1) t := by
  rw [e__law_typed_bool]
  obtain ⟨r, s1, d1, r0, r1, M1⟩ := e_draw (n := m + 1) 9 (by omega) (by omega) L
  by_cases h1 : D = 0 ∨ r < 2
  · obtain ⟨q, s2, d2, q0, q1, M2⟩ := e_draw (n := m + 1) 2 (by omega) (by omega) M1.ls
    refine ⟨.lit 17 [.bl (q == 0)], s2, def_same rfl ?_ (M1.trans M2).len, M1.trans M2, Wf.lit (v := 17) (xs := [.bl (q == 0)]) (by decide) (by simp [nr, nrs]) (by simp [gds, gd]) (by simp [wts, wt])⟩
    by_cases h2 : D = 0
    · subst h2
      simp [b__law_typed_bool, d1, d2, pt]
    · have h3 : r < 2 := h1.resolve_left h2
      have hb : (D == 0) = false := beq_eq_false_iff_ne.mpr h2
      simp [b__law_typed_bool, d1, d2, pt, hb, h3]
  have n1 : ¬ D = 0 := fun e => h1 (.inl e)
  have n2 : ¬ r < 2 := fun e => h1 (.inr e)
  have n3 : (D == 0) = false := beq_eq_false_iff_ne.mpr n1
  have ih := ih (by omega)
  by_cases h4 : r < 4
  · have hn : ∀ env, iNew (iLst (iCons (iC (.str S_and)) (iCons (iC (.str S_or)) iNil))) env s1 = some (.frz [.str (Sx 31), .str (Sx 32)], s1) := fun env => new_l (by simp) (by simp [nr, nrs])
    obtain ⟨i, s2, hi, e1, M2⟩ := pick_s (m := m) [31, 32] (by simp) (by simp) M1.ls
    obtain ⟨a, s3, f1, M3, w1⟩ := ih .bool s2 (by decide) M2.ls
    obtain ⟨b, s4, f2, M4, w2⟩ := ih .bool s3 (by decide) M3.ls
    simp only [pk] at f1 f2
    have M := ((M1.trans M2).trans M3).trans M4
    refine ⟨.op i a b, s4, def_same rfl ?_ M.len, M, .mk (by simp only [okN, signs, List.mem_cons, List.not_mem_nil, or_false] at hi ⊢; omega) (by simp [parts]) (by simp [parts, w1, w2])⟩
    simp only [List.map_cons, List.map_nil] at e1
    simp [b__law_typed_bool, d1, hn, pt, n3, n2, h4, e1, f1, f2]
  by_cases h5 : r = 4
  · subst h5
    obtain ⟨a, s3, f1, M3, w1⟩ := ih .bool s1 (by decide) M1.ls
    simp only [pk] at f1
    have M := M1.trans M3
    refine ⟨.un 18 a, s3, def_same rfl ?_ M.len, M, .mk (by simp [okN, ones]) (by simp [parts]) (by simp [parts, w1])⟩
    simp [b__law_typed_bool, d1, pt, n3, f1]
  by_cases h6 : r = 5
  · subst h6
    obtain ⟨a, s2, f1, M2, w1⟩ := ih .text s1 (by decide) M1.ls
    obtain ⟨b, s3, f2, M3, w2⟩ := ih .bool s2 (by decide) M2.ls
    simp only [pk] at f1 f2
    have M := (M1.trans M2).trans M3
    have hn : ∀ x y, iNew (iLst (iCons (iCall (FF (m + 2) I__law_typed) (iCons (iVar 0) (iCons (iVar 1) (iCons (iC (.str S_text)) (iCons (iBin fSub (iVar 2) (iC (.int 1))) iNil))))) (iCons (iCall (FF (m + 2) I__law_typed) (iCons (iVar 0) (iCons (iVar 1) (iCons (iC (.str S_bool)) (iCons (iBin fSub (iVar 2) (iC (.int 1))) iNil))))) iNil))) [some (.ref s), some NM, some (.int D), some (.int 5), x, y] s1 = some (.frz [pt a, pt b], s3) := fun x y => new_draw (l := []) (M2.trans M3) (by simp [f1, f2]) (by simp [nrs, nr_pt w1, nr_pt w2])
    refine ⟨.call 42 [a, b], s3, def_same rfl ?_ M.len, M, .mk (by simp [okN]) (by simp [parts]) (by simp [parts, w1, w2])⟩
    simp [b__law_typed_bool, d1, hn, pt, pts, n3]
  by_cases h7 : r = 6
  · subst h7
    have hn : ∀ env, iNew (iLst (iCons (iC (.str S_bool)) (iCons (iC (.str S_nothing)) (iCons (iTup (iCons (iC (.str S_list)) (iCons (iC (.str S_text)) iNil))) iNil)))) env s1 = some (.frz [.str S_bool, .str S_nothing, .tup [.str S_list, .str S_text]], s1) := fun env => new_l (by simp) (by simp [nr, nrs])
    obtain ⟨k, s2, hk, e1, M2⟩ := pick_k (m := m) [.bool, .nothing, .list .text] (by simp) (by simp) M1.ls
    have hk3 : kd k ≤ 3 := by
      simp only [List.mem_cons, List.not_mem_nil, or_false] at hk
      rcases hk with rfl | rfl | rfl <;> decide
    have hn2 : ∀ env, iNew (iLst (iCons (iC (.str S_x3d)) (iCons (iC (.str S_x21x3d)) iNil))) env s2 = some (.frz [.str (Sx 33), .str (Sx 34)], s2) := fun env => new_l (by simp) (by simp [nr, nrs])
    obtain ⟨i, s3, hi, e2, M3⟩ := pick_s (m := m) [33, 34] (by simp) (by simp) M2.ls
    obtain ⟨a, s4, f1, M4, w1⟩ := ih k s3 hk3 M3.ls
    obtain ⟨b, s5, f2, M5, w2⟩ := ih k s4 hk3 M4.ls
    have M := (((M1.trans M2).trans M3).trans M4).trans M5
    refine ⟨.op i a b, s5, def_same rfl ?_ M.len, M, .mk (by simp only [okN, signs, List.mem_cons, List.not_mem_nil, or_false] at hi ⊢; omega) (by simp [parts]) (by simp [parts, w1, w2])⟩
    simp only [List.map_cons, List.map_nil, pk] at e1 e2
    simp [b__law_typed_bool, d1, hn, hn2, pt, n3, e1, e2, f1, f2]
  have n4 : (r == 4) = false := beq_eq_false_iff_ne.mpr h5
  have n5 : (r == 5) = false := beq_eq_false_iff_ne.mpr h6
  have n6 : (r == 6) = false := beq_eq_false_iff_ne.mpr h7
  have hn : ∀ env, iNew (iLst (iCons (iC (.str S_int)) (iCons (iC (.str S_text)) iNil))) env s1 = some (.frz [.str S_int, .str S_text], s1) := fun env => new_l (by simp) (by simp [nr, nrs])
  obtain ⟨k, s2, hk, e1, M2⟩ := pick_k (m := m) [.int, .text] (by simp) (by simp) M1.ls
  have hk3 : kd k ≤ 3 := by
    simp only [List.mem_cons, List.not_mem_nil, or_false] at hk
    rcases hk with rfl | rfl <;> decide
  have hn2 : ∀ env, iNew (iLst (iCons (iC (.str S_x3d)) (iCons (iC (.str S_x3c)) (iCons (iC (.str S_x3cx3d)) (iCons (iC (.str S_x21x3d)) iNil))))) env s2 = some (.frz [.str (Sx 33), .str (Sx 15), .str (Sx 16), .str (Sx 34)], s2) := fun env => new_l (by simp) (by simp [nr, nrs])
  obtain ⟨i, s3, hi, e2, M3⟩ := pick_s (m := m) [33, 15, 16, 34] (by simp) (by simp) M2.ls
  obtain ⟨a, s4, f1, M4, w1⟩ := ih k s3 hk3 M3.ls
  obtain ⟨b, s5, f2, M5, w2⟩ := ih k s4 hk3 M4.ls
  have M := (((M1.trans M2).trans M3).trans M4).trans M5
  refine ⟨.op i a b, s5, def_same rfl ?_ M.len, M, .mk (by simp only [okN, signs, List.mem_cons, List.not_mem_nil, or_false] at hi ⊢; omega) (by simp [parts]) (by simp [parts, w1, w2])⟩
  simp only [List.map_cons, List.map_nil, pk] at e1 e2
  simp [b__law_typed_bool, d1, hn, hn2, pt, n3, n2, h4, n4, n5, n6, e1, e2, f1, f2]
end
end J20

/-! drawn trees: of every kind -/
namespace J20
open PySem PySem.Spec PyProof.Rows L2 IL SX
noncomputable def tyM (F : Nat → FA) : IS := (iSeq (iIfS (iTestB (iBin fEqB (iVar 2) (iC (.str S_int)))) (iRet (iCall (F I__law_typed_int) (iCons (iVar 0) (iCons (iVar 1) (iCons (iVar 3) iNil))))) iSkip) (iSeq (iIfS (iTestB (iBin fEqB (iVar 2) (iC (.str S_bool)))) (iRet (iCall (F I__law_typed_bool) (iCons (iVar 0) (iCons (iVar 1) (iCons (iVar 3) iNil))))) iSkip) (iSeq (iIfS (iTestB (iBin fEqB (iVar 2) (iC (.str S_text)))) (iSeq (iIfS (iOr (iTestB (iBin fEqB (iVar 3) (iC (.int 0)))) (iTestB (iBin fEqB (iVar 5) (iC (.int 6))))) (iRet (iTup (iCons (iC (.str S_text)) (iCons (iCall (F I__law_pick) (iCons (iVar 0) (iCons (iNew (iLst (iCons (iC (.str S_)) (iCons (iC (.str S_a)) (iCons (iC (.str S_bc)) iNil))))) iNil))) iNil)))) iSkip) (iSeq (iIfS (iTestB (iBin fLt (iVar 5) (iC (.int 8)))) (iRet (iTup (iCons (iC (.str S_op)) (iCons (iC (.str S_x26)) (iCons (iCall (F I__law_typed) (iCons (iVar 0) (iCons (iVar 1) (iCons (iC (.str S_text)) (iCons (iBin fSub (iVar 3) (iC (.int 1))) iNil))))) (iCons (iCall (F I__law_typed) (iCons (iVar 0) (iCons (iVar 1) (iCons (iC (.str S_text)) (iCons (iBin fSub (iVar 3) (iC (.int 1))) iNil))))) iNil)))))) iSkip) (iRet (iTup (iCons (iC (.str S_textx20of)) (iCons (iCall (F I__law_typed) (iCons (iVar 0) (iCons (iVar 1) (iCons (iCall (F I__law_pick) (iCons (iVar 0) (iCons (iNew (iLst (iCons (iC (.str S_int)) (iCons (iC (.str S_bool)) iNil)))) iNil))) (iCons (iBin fSub (iVar 3) (iC (.int 1))) iNil))))) iNil)))))) iSkip) (iSeq (iIfS (iTestB (iBin fEqB (iVar 2) (iC (.str S_nothing)))) (iSeq (iIfS (iAnd (iTestB (iBin fGt (iVar 3) (iC (.int 0)))) (iTestB (iBin fGt (iVar 5) (iC (.int 6))))) (iRet (iTup (iCons (iC (.str S_await)) (iCons (iC (.str S_timer)) (iCons (iCall (F I__law_typed) (iCons (iVar 0) (iCons (iVar 1) (iCons (iC (.str S_int)) (iCons (iBin fSub (iVar 3) (iC (.int 1))) iNil))))) iNil))))) iSkip) (iRet (iTup (iCons (iC (.str S_nothing)) iNil)))) iSkip) (iSeq (iAsg (gN 6) (iIf (iTestB (iBin fEqB (iVar 3) (iC (.int 0)))) (iC (.int 0)) (iCall (F I__law_draw) (iCons (iVar 0) (iCons (iC (.int 3)) iNil))))) (iSeq (iAsg (gN 7) (iTup (iCons (iC (.str S_list)) (iCons (iBin fSubB (iVar 2) (iC (.int 1))) (iCons (iNew (iLc (iRange1 (iCons (iVar 6) iNil)) (gN 10) iYes (iCall (F I__law_typed) (iCons (iVar 0) (iCons (iVar 1) (iCons (iBin fSubB (iVar 2) (iC (.int 1))) (iCons (iBin fSub (iVar 3) (iC (.int 1))) iNil))))) [10])) iNil))))) (iSeq (iIfS (iAnd (iTestB (iBin fGt (iVar 3) (iC (.int 0)))) (iTestB (iBin fEqB (iVar 5) (iC (.int 8))))) (iRet (iTup (iCons (iC (.str S_op)) (iCons (iC (.str S_x26)) (iCons (iVar 7) (iCons (iCall (F I__law_typed) (iCons (iVar 0) (iCons (iVar 1) (iCons (iVar 2) (iCons (iBin fSub (iVar 3) (iC (.int 1))) iNil))))) iNil)))))) iSkip) (iRet (iVar 7)))))))))
noncomputable def tyR (F : Nat → FA) : IS := (iSeq (iIfS (iTestB (iBin fEqB (iVar 5) (iC (.int 3)))) (iRet (iTup (iCons (iC (.str S_await)) (iCons (iC (.str S_signal)) (iCons (iCall (F I__law_pick) (iCons (iVar 0) (iCons (iNew (iLst (iCons (iC (.str S_s)) (iCons (iC (.str S_t)) iNil)))) iNil))) (iCons (iVar 2) iNil)))))) iSkip) (iSeq (iIfS (iAnd (iTestB (iBin fEqB (iVar 5) (iC (.int 4)))) (iTestB (iBin fGt (iVar 3) (iC (.int 0))))) (iRet (iTup (iCons (iC (.str S_await)) (iCons (iC (.str S_act)) (iCons (iC (.str S_pay)) (iCons (iCall (F I__law_typed) (iCons (iVar 0) (iCons (iVar 1) (iCons (iCall (F I__law_pick) (iCons (iVar 0) (iCons (iNew (iLst (iCons (iC (.str S_int)) (iCons (iC (.str S_text)) iNil)))) iNil))) (iCons (iBin fSub (iVar 3) (iC (.int 1))) iNil))))) (iCons (iVar 2) iNil))))))) iSkip) (iSeq (iIfS (iAnd (iTestB (iBin fEqB (iVar 5) (iC (.int 5)))) (iTestB (iBin fGt (iVar 3) (iC (.int 0))))) (iSeq (iAsg (gN 8) (iTup (iCons (iC (.str S_list)) (iCons (iVar 2) (iCons (iNew (iLc (iRange1 (iCons (iCall (F I__law_draw) (iCons (iVar 0) (iCons (iC (.int 3)) iNil))) iNil)) (gN 10) iYes (iCall (F I__law_typed) (iCons (iVar 0) (iCons (iVar 1) (iCons (iVar 2) (iCons (iBin fSub (iVar 3) (iC (.int 1))) iNil))))) [10])) iNil))))) (iRet (iTup (iCons (iC (.str S_item)) (iCons (iVar 8) (iCons (iCall (F I__law_typed) (iCons (iVar 0) (iCons (iVar 1) (iCons (iC (.str S_int)) (iCons (iBin fSub (iVar 3) (iC (.int 1))) iNil))))) iNil)))))) iSkip) (tyM F))))
theorem b_typed (F : Nat → FA) (G : Nat → FX) : b__law_typed F G = iSeq (iAsg (gN 4) (iNew (iLcK 1 (gN 9) (iTestB (iBin fEqB (iBin fSubB (iVar 1) (iVar 9)) (iVar 2))) (iVar 9) [9]))) (iSeq (iAsg (gN 5) (iCall (F I__law_draw) (iCons (iVar 0) (iCons (iC (.int 9)) iNil)))) (iSeq (iIfS (iAnd (iTestB (iBin fGt (iCall (a1 fLenB) (iCons (iVar 4) iNil)) (iC (.int 0)))) (iOr (iTestB (iBin fLt (iVar 5) (iC (.int 3)))) (iTestB (iBin fEqB (iVar 3) (iC (.int 0)))))) (iRet (iTup (iCons (iC (.str S_var)) (iCons (iCall (F I__law_pick) (iCons (iVar 0) (iCons (iNew (iCall (a1 fSortS) (iCons (iVar 4) iNil))) iNil))) iNil)))) iSkip) (tyR F))) := rfl
section
variable {st s2 : Sto} {env : PEnv}
theorem ifs_no {t : IT} {p rest : IS} (h : t env st = some (false, s2)) : iSeq (iIfS t p iSkip) rest env st = rest env s2 := by
  rw [iSeq_e, iIfS_e, h]
  rfl
theorem ifs_rt {t : IT} {p q rest : IS} {s3 : Sto} {v : PV} (h : t env st = some (true, s2)) (h2 : p env s2 = some (.rt v s3)) : iSeq (iIfS t p q) rest env st = some (.rt v s3) := by
  have e : iIfS t p q env st = some (.rt v s3) := by
    rw [iIfS_e, h]
    exact h2
  rw [iSeq_e, e]
theorem t_eq {i : Nat} {x y : PV} {b : Bool} (e : env[i]? = some (some x)) (h : fEqB x y st = some (.bl b, st)) : iTestB (iBin fEqB (iVar i) (iC y)) env st = some (b, st) := by
  have e1 : iVar i env st = some (x, st) := by simp [e]
  rw [iTestB_e, iBin_e, e1, ob_s]
  show ob (ob (some (y, st)) fun y s => fEqB x y s) _ = _
  rw [ob_s, h]
  rfl
theorem and_no {r D q : Int} (e5 : env[5]? = some (some (.int r))) (e3 : env[3]? = some (some (.int D))) (h : ¬ (r = q ∧ 0 < D)) : iAnd (iTestB (iBin fEqB (iVar 5) (iC (.int q)))) (iTestB (iBin fGt (iVar 3) (iC (.int 0)))) env st = some (false, st) := by
  by_cases hr : r = q
  · have hd : ¬ 0 < D := fun z => h ⟨hr, z⟩
    subst hr
    simp [e5, e3, hd]
  · have : (r == q) = false := beq_eq_false_iff_ne.mpr hr
    simp [e5, this]
end
theorem range1_i {ir : IA} {env : PEnv} {s st1 : Sto} {j : Int} (h : ir env s = some ([.int j], st1)) (h0 : 0 ≤ j) (h1 : j < 9000000) : iRange1 ir env s = some (srcR 0 j.toNat, st1) := by
  have hb : big j = true := by unfold big; simp only [Bool.and_eq_true, decide_eq_true_eq]; omega
  unfold iRange1
  rw [h, ob_s]
  simp only [hb, if_true]
theorem srcR_at {N : Nat} {i : Nat} {st : Sto} : (srcR 0 N).at_ st i = some (((List.range N).map fun i => PV.int (i : Nat))[i]?) := by
  simp only [srcR, List.getElem?_map, Option.some.injEq]
  by_cases hi : i < N
  · rw [if_pos hi, List.getElem?_range hi]; simp
  · rw [if_neg hi, List.getElem?_eq_none (by simpa using hi)]; rfl
section
variable {m s c w : Nat} {st : Sto} {D : Int}
theorem pick_pt {w : Nat} : ∀ {ys : List PV}, (∀ y ∈ ys, ∃ t, y = pt t ∧ Wf w t) → ∃ ts, ys = pts ts ∧ ∀ t ∈ ts, Wf w t
  | [], _ => ⟨[], rfl, by simp⟩
  | y :: ys, h => by
    obtain ⟨t, rfl, ht⟩ := h y (by simp)
    obtain ⟨ts, rfl, hts⟩ := pick_pt (ys := ys) fun z hz => h z (by simp [hz])
    exact ⟨t :: ts, by simp [pts], by simpa using ⟨ht, hts⟩⟩
theorem pts_len (ts : List Tr) : (pts ts).length = ts.length := by rw [pts_map, List.length_map]
theorem lc_ty {N : Nat} {k : Kd} {j : Int} {ir : IA} {ek : IE} {kv : PV} {a b d e f g : Option PV} {s1 : Sto} (hk : kd k ≤ 3) (ih : 0 < j → TdP s c N (D - 1) w) (hir : ir [some (.ref s), some NM, some kv, some (.int D), a, b, d, e, f, g, none] st = some ([.int j], s1)) (M1 : Mv s c st s1) (h0 : 0 ≤ j) (h3 : j ≤ 2) (hek : ∀ x S, ek [some (.ref s), some NM, some kv, some (.int D), a, b, d, e, f, g, x] S = some (pk k, S)) :
    ∃ ts s2, iNew (iLc (iRange1 ir) (gN 10) iYes (iCall (FF N I__law_typed) (iCons (iVar 0) (iCons (iVar 1) (iCons ek (iCons (iBin fSub (iVar 3) (iC (.int 1))) iNil))))) [10]) [some (.ref s), some NM, some kv, some (.int D), a, b, d, e, f, g, none] st = some (.frz (pts ts), s2) ∧ Mv s c st s2 ∧ ts.length ≤ 2 ∧ ∀ t ∈ ts, Wf w t := by
  have hrg := range1_i hir h0 (by omega)
  obtain ⟨ys, s2, hl, M2, hyl, hy⟩ := lc_draw (N := j.toNat) (it := fun i => .int (i : Nat)) (ig := gN 10) (t := iYes) (e := iCall (FF N I__law_typed) (iCons (iVar 0) (iCons (iVar 1) (iCons ek (iCons (iBin fSub (iVar 3) (iC (.int 1))) iNil))))) (vs := [10]) (fun _ y => ∃ t, y = pt t ∧ Wf w t) (fun i y ⟨t, h, ht⟩ => by rw [h]; exact nr_pt ht) hrg M1 rfl (by omega) (fun S i hi => by rw [srcR_at, List.getElem?_map, List.getElem?_range hi]; rfl) (fun S => by rw [srcR_at, List.getElem?_eq_none (by simp)])
    (fun i hi S hS => by
      obtain ⟨t, S', e1, M3, e2⟩ := ih (by omega) k S hk hS
      exact ⟨[some (.ref s), some NM, some kv, some (.int D), a, b, d, e, f, g, some (.int (i : Nat))], pt t, S', rfl, rfl, by simp [hek, e1], M3, t, rfl, e2⟩)
  obtain ⟨ts, rfl, hts⟩ := pick_pt (w := w) fun y hy' => by
    obtain ⟨i, hi, t, h1, h2⟩ := hy y hy'
    exact ⟨t, h1, h2⟩
  rw [pts_len] at hyl
  exact ⟨ts, s2, hl, M2, by omega, hts⟩
end
end J20

/-! drawn trees: of every kind (2) -/
namespace J20
open PySem PySem.Spec PyProof.Rows L2 IL SX
section
variable {m s c w : Nat} {st : Sto} {D : Int}
theorem wf_list {k : Kd} {ts : List Tr} (hk : kd k ≤ 4) (hl : ts.length ≤ 2) (h : ∀ t ∈ ts, Wf w t) : Wf (w + 1) (.list k ts) := .mk hk (by simp [parts]; omega) (by simpa [parts] using h)
theorem hi3 {i : Nat} (hi : i ∈ [38, 39, 40]) : gds [.str (Sx i)] 1 = true ∧ wts [.str (Sx i)] ≤ 100 := by
  simp only [List.mem_cons, List.not_mem_nil, or_false] at hi
  rcases hi with rfl | rfl | rfl <;> simp [gds, gd, wts, wt, lens]
theorem ty_text {r : Int} {rowv : PV} (hD : 0 ≤ D) (hw : 1 ≤ w) (r0 : 0 ≤ r) (r9 : r < 9) (L : LS st s c) (ih : 1 ≤ D → TdP s c (m + 3) (D - 1) w) :
    ∃ t st', tyM (FF (m + 3)) [some (.ref s), some NM, some (pk .text), some (.int D), some rowv, some (.int r), none, none, none, none, none] st = some (.rt (pt t) st') ∧ Mv s c st st' ∧ Wf (w + 2) t := by
  by_cases h1 : D = 0 ∨ r = 6
  · have hn : ∀ env, iNew (iLst (iCons (iC (.str S_)) (iCons (iC (.str S_a)) (iCons (iC (.str S_bc)) iNil)))) env st = some (.frz [.str (Sx 38), .str (Sx 39), .str (Sx 40)], st) := fun env => new_l (by simp) (by simp [nr, nrs])
    obtain ⟨i, s2, hi, e1, M2⟩ := pick_s (m := m + 1) [38, 39, 40] (by simp) (by simp) L
    refine ⟨.lit 14 [.str (Sx i)], s2, ?_, M2, (Wf.lit (d := w + 1) (by decide) (by simp [nr, nrs]) (hi3 hi).1 (hi3 hi).2)⟩
    simp only [List.map_cons, List.map_nil] at e1
    by_cases h2 : D = 0
    · subst h2
      simp [tyM, pk, hn, e1, pt]
    · have h3 : r = 6 := h1.resolve_left h2
      subst h3
      have hb : (D == 0) = false := beq_eq_false_iff_ne.mpr h2
      simp [tyM, pk, hn, e1, pt, hb]
  have n1 : ¬ D = 0 := fun e => h1 (.inl e)
  have n2 : (r == 6) = false := beq_eq_false_iff_ne.mpr fun e => h1 (.inr e)
  have n3 : (D == 0) = false := beq_eq_false_iff_ne.mpr n1
  have ih := ih (by omega)
  by_cases h8 : r < 8
  · obtain ⟨a, s3, f1, M3, w1⟩ := ih .text st (by decide) L
    obtain ⟨b, s4, f2, M4, w2⟩ := ih .text s3 (by decide) M3.ls
    simp only [pk] at f1 f2
    refine ⟨.op 13 a b, s4, ?_, M3.trans M4, .mk (by simp [okN, signs]) (by simp [parts]) (by simp [parts, w1.up (show w ≤ w + 1 by omega), w2.up (show w ≤ w + 1 by omega)])⟩
    simp [tyM, pk, pt, n2, n3, h8, f1, f2]
  · have hn : ∀ env, iNew (iLst (iCons (iC (.str S_int)) (iCons (iC (.str S_bool)) iNil))) env st = some (.frz [.str S_int, .str S_bool], st) := fun env => new_l (by simp) (by simp [nr, nrs])
    obtain ⟨q, s2, hq, e1, M2⟩ := pick_k (m := m + 1) [.int, .bool] (by simp) (by simp) L
    have hq3 : kd q ≤ 3 := by
      simp only [List.mem_cons, List.not_mem_nil, or_false] at hq
      rcases hq with rfl | rfl <;> decide
    obtain ⟨a, s3, f1, M3, w1⟩ := ih q s2 hq3 M2.ls
    refine ⟨.un 21 a, s3, ?_, M2.trans M3, .mk (by simp [okN, ones]) (by simp [parts]) (by simp [parts, w1.up (show w ≤ w + 1 by omega)])⟩
    simp only [List.map_cons, List.map_nil] at e1
    rw [show ([pk .int, pk .bool] : List PV) = [.str S_int, .str S_bool] from rfl] at e1
    rw [show pk .text = .str S_text from rfl]
    simp [tyM, hn, pt, n2, n3, h8, e1, f1]
theorem ty_nothing {r : Int} {rowv : PV} (hD : 0 ≤ D) (hw : 1 ≤ w) (r0 : 0 ≤ r) (r9 : r < 9) (L : LS st s c) (ih : 1 ≤ D → TdP s c (m + 3) (D - 1) w) :
    ∃ t st', tyM (FF (m + 3)) [some (.ref s), some NM, some (pk .nothing), some (.int D), some rowv, some (.int r), none, none, none, none, none] st = some (.rt (pt t) st') ∧ Mv s c st st' ∧ Wf (w + 2) t := by
  by_cases h1 : 0 < D ∧ 6 < r
  · obtain ⟨h1, h2⟩ := h1
    obtain ⟨a, s3, f1, M3, w1⟩ := ih (by omega) .int st (by decide) L
    simp only [pk] at f1
    refine ⟨.timer a, s3, ?_, M3, .mk trivial (by simp [parts]) (by simp [parts, w1.up (show w ≤ w + 1 by omega)])⟩
    simp [tyM, pk, pt, h1, h2, f1]
  · refine ⟨.lit 28 [], st, ?_, Mv.refl L, (Wf.lit (d := w + 1) (by decide) (by simp [nrs]) (by simp [gds]) (by simp [wts]))⟩
    by_cases h2 : 0 < D
    · have h3 : ¬ 6 < r := fun z => h1 ⟨h2, z⟩
      simp [tyM, pk, pt, h2, h3]
    · simp [tyM, pk, pt, h2]
theorem ty_list {k : Kd} {r : Int} {rowv : PV} (hD : 0 ≤ D) (hk : kd (.list k) ≤ 3) (hw : 1 ≤ w) (r0 : 0 ≤ r) (r9 : r < 9) (L : LS st s c) (ih : 1 ≤ D → TdP s c (m + 3) (D - 1) w) :
    ∃ t st', tyM (FF (m + 3)) [some (.ref s), some NM, some (pk (.list k)), some (.int D), some rowv, some (.int r), none, none, none, none, none] st = some (.rt (pt t) st') ∧ Mv s c st st' ∧ Wf (w + 2) t := by
  have hk0 : kd k ≤ 2 := by unfold kd at hk; omega
  have hk40 : kd (.list k) ≤ 40 := by omega
  have q1 := fun st => fEq_int (st := st) hk40
  have q2 := fun st => fEq_bool (st := st) hk40
  have q3 := fun st => fEq_text (st := st) hk40
  have q4 : ∀ st, fEqB (pk (.list k)) (.str S_nothing) st = some (.bl false, st) := fun st => by
    have := fEq_pk (st := st) (a := .list k) (b := .nothing) hk40 (by decide)
    rw [show decide (Kd.list k = Kd.nothing) = false from rfl] at this
    exact this
  have q5 : ∀ st, fSubB (pk (.list k)) (.int 1) st = some (pk k, st) := fun st => by simp [pk]
  obtain ⟨j, s1, hm, j0, j2, jd, M1⟩ : ∃ j s1, iIf (iTestB (iBin fEqB (iVar 3) (iC (.int 0)))) (iC (.int 0)) (iCall (FF (m + 3) I__law_draw) (iCons (iVar 0) (iCons (iC (.int 3)) iNil))) [some (.ref s), some NM, some (pk (.list k)), some (.int D), some rowv, some (.int r), none, none, none, none, none] st = some (.int j, s1) ∧ 0 ≤ j ∧ j < 3 ∧ (0 < j → 1 ≤ D) ∧ Mv s c st s1 := by
    by_cases h2 : D = 0
    · subst h2
      exact ⟨0, st, by simp, by omega, by omega, by omega, Mv.refl L⟩
    · have hb : (D == 0) = false := beq_eq_false_iff_ne.mpr h2
      obtain ⟨j, s1, d1, j0, j1, M1⟩ := e_draw (n := m + 2) 3 (by omega) (by omega) L
      exact ⟨j, s1, by simp [hb, d1], j0, j1, fun _ => by omega, M1⟩
  obtain ⟨ts, s2, f1, M2, l2, w2⟩ := lc_ty (N := m + 3) (st := s1) (k := k) (j := j) (ir := iCons (iVar 6) iNil) (ek := iBin fSubB (iVar 2) (iC (.int 1))) (kv := pk (.list k)) (a := some rowv) (b := some (.int r)) (d := some (.int j)) (e := none) (f := none) (g := none) (by omega) (fun h => ih (jd h)) (by simp) (Mv.refl M1.ls) j0 (by omega) (fun x S => by simp [q5])
  have M := M1.trans M2
  have wl := wf_list (k := k) (by omega) l2 w2
  have run : tyM (FF (m + 3)) [some (.ref s), some NM, some (pk (.list k)), some (.int D), some rowv, some (.int r), none, none, none, none, none] st = iSeq (iIfS (iAnd (iTestB (iBin fGt (iVar 3) (iC (.int 0)))) (iTestB (iBin fEqB (iVar 5) (iC (.int 8))))) (iRet (iTup (iCons (iC (.str S_op)) (iCons (iC (.str S_x26)) (iCons (iVar 7) (iCons (iCall (FF (m + 3) I__law_typed) (iCons (iVar 0) (iCons (iVar 1) (iCons (iVar 2) (iCons (iBin fSub (iVar 3) (iC (.int 1))) iNil))))) iNil)))))) iSkip) (iRet (iVar 7)) [some (.ref s), some NM, some (pk (.list k)), some (.int D), some rowv, some (.int r), some (.int j), some (pt (.list k ts)), none, none, none] s2 := by
    unfold tyM
    rw [ifs_no (t_eq rfl (q1 st)), ifs_no (t_eq rfl (q2 st)), ifs_no (t_eq rfl (q3 st)), ifs_no (t_eq rfl (q4 st)), asg_seq hm]
    exact asg_seq (by simp [q5, f1, pt])
  rw [run]
  by_cases h1 : 0 < D ∧ r = 8
  · obtain ⟨h1, h2⟩ := h1
    subst h2
    obtain ⟨b, s4, f2, M4, w3⟩ := ih (by omega) (.list k) s2 hk M.ls
    refine ⟨.op 13 (.list k ts) b, s4, ?_, M.trans M4, .mk (by simp [okN, signs]) (by simp [parts]) (by simp [parts, wl, w3.up (show w ≤ w + 1 by omega)])⟩
    simp [h1, f2, pt]
  · refine ⟨.list k ts, s2, ?_, M, wl.up (by omega)⟩
    by_cases h2 : 0 < D
    · have h3 : (r == 8) = false := beq_eq_false_iff_ne.mpr fun e => h1 ⟨h2, e⟩
      simp [h2, h3]
    · simp [h2]
theorem ty_kind {k : Kd} {r : Int} {rowv : PV} (hD : 0 ≤ D) (hk : kd k ≤ 3) (hw : 1 ≤ w) (r0 : 0 ≤ r) (r9 : r < 9) (L : LS st s c) (ih2 : 1 ≤ D → TdP s c (m + 2) (D - 1) w) (ih : 1 ≤ D → TdP s c (m + 3) (D - 1) w) :
    ∃ t st', tyM (FF (m + 3)) [some (.ref s), some NM, some (pk k), some (.int D), some rowv, some (.int r), none, none, none, none, none] st = some (.rt (pt t) st') ∧ Mv s c st st' ∧ Wf (w + 2) t := by
  cases k with
  | int =>
    obtain ⟨t, s1, e1, M, w1⟩ := ty_int (m := m) hD L ih2 hw
    exact ⟨t, s1, by simp [tyM, pk, e1], M, w1.up (by omega)⟩
  | bool =>
    obtain ⟨t, s1, e1, M, w1⟩ := ty_bool (m := m) hD L ih2
    exact ⟨t, s1, by simp [tyM, pk, e1], M, w1.up (by omega)⟩
  | text => exact ty_text hD hw r0 r9 L ih
  | nothing => exact ty_nothing hD hw r0 r9 L ih
  | list k => exact ty_list hD hk hw r0 r9 L ih
theorem ty_rest {k : Kd} {r : Int} {rowv : PV} (hD : 0 ≤ D) (hk : kd k ≤ 3) (hw : 1 ≤ w) (r0 : 0 ≤ r) (r9 : r < 9) (L : LS st s c) (ih2 : 1 ≤ D → TdP s c (m + 2) (D - 1) w) (ih : 1 ≤ D → TdP s c (m + 3) (D - 1) w) :
    ∃ t st', tyR (FF (m + 3)) [some (.ref s), some NM, some (pk k), some (.int D), some rowv, some (.int r), none, none, none, none, none] st = some (.rt (pt t) st') ∧ Mv s c st st' ∧ Wf (w + 2) t := by
  by_cases h3 : r = 3
  · subst h3
    have hn : ∀ env, iNew (iLst (iCons (iC (.str S_s)) (iCons (iC (.str S_t)) iNil))) env st = some (.frz [.str (Sx 35), .str (Sx 36)], st) := fun env => new_l (by simp) (by simp [nr, nrs])
    obtain ⟨i, s2, hi, e1, M2⟩ := pick_s (m := m + 1) [35, 36] (by simp) (by simp) L
    have hi2 : i < 53 := by
      simp only [List.mem_cons, List.not_mem_nil, or_false] at hi
      omega
    refine ⟨.signal i k, s2, ?_, M2, .mk ⟨hi2, by omega⟩ (by simp [parts]) (by simp [parts])⟩
    simp only [List.map_cons, List.map_nil] at e1
    simp [tyR, hn, pt, e1]
  have n3 : (r == 3) = false := beq_eq_false_iff_ne.mpr h3
  by_cases h4 : r = 4 ∧ 0 < D
  · obtain ⟨h4, hp⟩ := h4
    subst h4
    have ih := ih (by omega)
    have hn : ∀ env, iNew (iLst (iCons (iC (.str S_int)) (iCons (iC (.str S_text)) iNil))) env st = some (.frz [.str S_int, .str S_text], st) := fun env => new_l (by simp) (by simp [nr, nrs])
    obtain ⟨q, s2, hq, e1, M2⟩ := pick_k (m := m + 1) [.int, .text] (by simp) (by simp) L
    have hq3 : kd q ≤ 3 := by
      simp only [List.mem_cons, List.not_mem_nil, or_false] at hq
      rcases hq with rfl | rfl <;> decide
    obtain ⟨a, s3, f1, M3, w1⟩ := ih q s2 hq3 M2.ls
    refine ⟨.act a k, s3, ?_, M2.trans M3, .mk (by show kd k ≤ 4; omega) (by simp [parts]) (by simpa [parts] using w1.up (by omega))⟩
    simp only [List.map_cons, List.map_nil, pk] at e1
    simp [tyR, hn, pt, e1, f1, hp]
  by_cases h5 : r = 5 ∧ 0 < D
  · obtain ⟨h5, hp⟩ := h5
    subst h5
    have ih := ih (by omega)
    obtain ⟨j, s1, d1, j0, j1, M1⟩ := e_draw (n := m + 2) 3 (by omega) (by omega) L
    obtain ⟨ts, s2, f1, M2, l2, w2⟩ := lc_ty (N := m + 3) (k := k) (j := j) (ir := iCons (iCall (FF (m + 3) I__law_draw) (iCons (iVar 0) (iCons (iC (.int 3)) iNil))) iNil) (ek := iVar 2) (kv := pk k) (a := some rowv) (b := some (.int 5)) (d := none) (e := none) (f := none) (g := none) hk (fun _ => ih) (by simp [d1]) M1 j0 (by omega) (fun x S => by simp)
    obtain ⟨a, s3, f2, M3, w3⟩ := ih .int s2 (by decide) M2.ls
    simp only [pk] at f2
    refine ⟨.item (.list k ts) a, s3, ?_, M2.trans M3, .mk trivial (by simp [parts]) ?_⟩
    · simp [tyR, f1, f2, hp, pt]
    · simp only [parts, List.mem_cons, List.not_mem_nil, or_false, forall_eq_or_imp, forall_eq]
      exact ⟨wf_list (by omega) l2 w2, w3.up (by omega)⟩
  have hmid : tyR (FF (m + 3)) [some (.ref s), some NM, some (pk k), some (.int D), some rowv, some (.int r), none, none, none, none, none] st = tyM (FF (m + 3)) [some (.ref s), some NM, some (pk k), some (.int D), some rowv, some (.int r), none, none, none, none, none] st := by
    unfold tyR
    rw [ifs_no (s2 := st) (by simp [n3]), ifs_no (and_no rfl rfl h4), ifs_no (and_no rfl rfl h5)]
  rw [hmid]
  clear hmid h4 h5 n3 h3
  exact ty_kind hD hk hw r0 r9 L ih2 ih
end
end J20

/-! drawn trees: of every kind, so deep at most -/
namespace J20
open PySem PySem.Spec PyProof.Rows L2 IL SX
section
variable {m s c w : Nat} {st : Sto} {D : Int}
theorem name_lt {i : Nat} (h : i ∈ nameIs) : i < 53 := by
  simp only [nameIs, List.mem_cons, List.not_mem_nil, or_false] at h
  omega
theorem ty_step {k : Kd} (hD : 0 ≤ D) (hk : kd k ≤ 3) (hw : 1 ≤ w) (L : LS st s c) (ih2 : 1 ≤ D → TdP s c (m + 2) (D - 1) w) (ih : 1 ≤ D → TdP s c (m + 3) (D - 1) w) :
    ∃ t st', FF (m + 4) I__law_typed [.ref s, NM, pk k, .int D] st = some (pt t, st') ∧ Mv s c st st' ∧ Wf (w + 2) t := by
  rw [e__law_typed]
  obtain ⟨r, s1, d1, r0, r9, M1⟩ := e_draw (n := m + 2) 9 (by omega) (by omega) L
  have hrow := e_row (st := st) (k := k) (a := some (.ref s)) (dv := .int D) (by omega)
  have hd : iCall (FF (m + 3) I__law_draw) (iCons (iVar 0) (iCons (iC (.int 9)) iNil)) [some (.ref s), some NM, some (pk k), some (.int D), some (.frz ((rowN k).map fun i => .str (Sx i))), none, none, none, none, none, none] st = some (.int r, s1) := by simp [d1]
  by_cases hc : rowN k ≠ [] ∧ (r < 3 ∨ D = 0)
  · obtain ⟨h1, h2⟩ := hc
    obtain ⟨i, hi, hr⟩ := (rowN_le k).resolve_left h1
    obtain ⟨q, s2, hq, e1, M2⟩ := pick_s (m := m + 1) (rowN k) h1 (by rw [hr]; simp) M1.ls
    rw [hr] at hq
    obtain rfl : q = i := by simpa using hq
    have hs := e_sort (k := k) (st := s1) (ie := iVar 4) (env := [some (.ref s), some NM, some (pk k), some (.int D), some (.frz ((rowN k).map fun i => .str (Sx i))), some (.int r), none, none, none, none, none]) (by simp)
    have M := M1.trans M2
    refine ⟨.var q, s2, def_same rfl ?_ M.len, M, .mk (name_lt hi) (by simp [parts]) (by simp [parts])⟩
    show b__law_typed _ _ [some (.ref s), some NM, some (pk k), some (.int D), none, none, none, none, none, none, none] st = _
    rw [b_typed, asg_seq hrow]
    show iSeq _ _ [some (.ref s), some NM, some (pk k), some (.int D), some (.frz ((rowN k).map fun i => .str (Sx i))), none, none, none, none, none, none] st = _
    rw [asg_seq hd]
    show iSeq _ _ [some (.ref s), some NM, some (pk k), some (.int D), some (.frz ((rowN k).map fun i => .str (Sx i))), some (.int r), none, none, none, none, none] s1 = _
    refine ifs_rt (s2 := s1) ?_ ?_
    · rw [hr]
      by_cases h3 : r < 3
      · simp [h3]
      · have h4 : D = 0 := h2.resolve_left h3
        subst h4
        simp [h3]
    · simp [hs, e1, pt]
  · obtain ⟨t, s2, e2, M2, w2⟩ := ty_rest (m := m) (k := k) (r := r) (rowv := .frz ((rowN k).map fun i => .str (Sx i))) hD hk hw r0 r9 M1.ls ih2 ih
    have M := M1.trans M2
    refine ⟨t, s2, def_same rfl ?_ M.len, M, w2⟩
    show b__law_typed _ _ [some (.ref s), some NM, some (pk k), some (.int D), none, none, none, none, none, none, none] st = _
    rw [b_typed, asg_seq hrow]
    show iSeq _ _ [some (.ref s), some NM, some (pk k), some (.int D), some (.frz ((rowN k).map fun i => .str (Sx i))), none, none, none, none, none, none] st = _
    rw [asg_seq hd]
    show iSeq _ _ [some (.ref s), some NM, some (pk k), some (.int D), some (.frz ((rowN k).map fun i => .str (Sx i))), some (.int r), none, none, none, none, none] s1 = _
    rw [ifs_no (s2 := s1) ?_, e2]
    rcases rowN_le k with hr | ⟨i, hi, hr⟩
    · rw [hr]
      simp
    · have h1 : ¬ (r < 3 ∨ D = 0) := fun z => hc ⟨by rw [hr]; simp, z⟩
      have h2 : ¬ r < 3 := fun z => h1 (.inl z)
      have h3 : (D == 0) = false := beq_eq_false_iff_ne.mpr fun z => h1 (.inr z)
      rw [hr]
      simp [h2, h3]
/-- trees of every kind -/
theorem ty_all : ∀ (d N : Nat), 2 * d + 4 ≤ N → TdP s c N (d : Int) (2 * d + 3)
  | 0, N, h => fun k st hk L => by
    obtain ⟨m, rfl⟩ : ∃ m, N = m + 4 := ⟨N - 4, by omega⟩
    obtain ⟨t, st', e, M, w1⟩ := ty_step (m := m) (w := 1) (D := ((0 : Nat) : Int)) (by omega) hk (by omega) L (fun h => absurd h (by omega)) (fun h => absurd h (by omega))
    exact ⟨t, st', e, M, .up w1 (by omega)⟩
  | d + 1, N, h => fun k st hk L => by
    obtain ⟨m, rfl⟩ : ∃ m, N = m + 4 := ⟨N - 4, by omega⟩
    have e1 : ((d + 1 : Nat) : Int) - 1 = (d : Int) := by omega
    exact ty_step (m := m) (w := 2 * d + 3) (D := ((d + 1 : Nat) : Int)) (by omega) hk (by omega) L (fun _ => by rw [e1]; exact ty_all d (m + 2) (by omega)) (fun _ => by rw [e1]; exact ty_all d (m + 3) (by omega))
end
end J20

/-! a tree with other parts -/
namespace J20
open PySem PySem.Spec PyProof.Rows L2 IL SX
def wth : Tr → List Tr → Tr
  | .op i _ _, [p, q] => .op i p q
  | .un i _, [p] => .un i p
  | .item _ _, [p, q] => .item p q
  | .list k _, ps => .list k ps
  | .call f _, ps => .call f ps
  | .flow f _, ps => .flow f ps
  | .act _ k, [p] => .act p k
  | .timer _, [p] => .timer p
  | t, _ => t
theorem len1 {α : Type} {ps : List α} (h : ps.length = 1) : ∃ p, ps = [p] := by
  match ps, h with
  | [p], _ => exact ⟨p, rfl⟩
theorem len2 {α : Type} {ps : List α} (h : ps.length = 2) : ∃ p q, ps = [p, q] := by
  match ps, h with
  | [p, q], _ => exact ⟨p, q, rfl⟩
theorem wth_parts {t : Tr} {ps : List Tr} (hl : ps.length = (parts t).length) (h0 : ps ≠ []) : parts (wth t ps) = ps := by
  cases t with
  | lit w xs => exact (h0 (List.eq_nil_of_length_eq_zero hl)).elim
  | var s => exact (h0 (List.eq_nil_of_length_eq_zero hl)).elim
  | signal s k => exact (h0 (List.eq_nil_of_length_eq_zero hl)).elim
  | now => exact (h0 (List.eq_nil_of_length_eq_zero hl)).elim
  | op i a b => obtain ⟨p, q, rfl⟩ := len2 hl; rfl
  | item a b => obtain ⟨p, q, rfl⟩ := len2 hl; rfl
  | un i a => obtain ⟨p, rfl⟩ := len1 hl; rfl
  | act a k => obtain ⟨p, rfl⟩ := len1 hl; rfl
  | timer a => obtain ⟨p, rfl⟩ := len1 hl; rfl
  | list k xs => rfl
  | call f xs => rfl
  | flow f xs => rfl
theorem wth_ok {t : Tr} {ps : List Tr} (h : okN t) (hl : ps.length = (parts t).length) (h0 : ps ≠ []) : okN (wth t ps) := by
  cases t with
  | lit w xs => exact (h0 (List.eq_nil_of_length_eq_zero hl)).elim
  | var s => exact (h0 (List.eq_nil_of_length_eq_zero hl)).elim
  | signal s k => exact (h0 (List.eq_nil_of_length_eq_zero hl)).elim
  | now => exact (h0 (List.eq_nil_of_length_eq_zero hl)).elim
  | op i a b => obtain ⟨p, q, rfl⟩ := len2 hl; exact h
  | item a b => obtain ⟨p, q, rfl⟩ := len2 hl; exact h
  | un i a => obtain ⟨p, rfl⟩ := len1 hl; exact h
  | act a k => obtain ⟨p, rfl⟩ := len1 hl; exact h
  | timer a => obtain ⟨p, rfl⟩ := len1 hl; exact h
  | list k xs => exact h
  | call f xs => exact h
  | flow f xs => exact h
section
variable {n d : Nat} {st : Sto}
theorem c5_3 (a b c d e : PV) : cutP [a, b, c, d, e] none (some 3) = [a, b, c] := rfl
theorem c5_4 (a b c d e : PV) : cutP [a, b, c, d, e] (some 4) none = [e] := rfl
theorem c5_2 (a b c d e : PV) : cutP [a, b, c, d, e] none (some 2) = [a, b] := rfl
theorem c4_3 (a b c d : PV) : cutP [a, b, c, d] none (some 3) = [a, b, c] := rfl
theorem c4_4 (a b c d : PV) : cutP [a, b, c, d] (some 4) none = [] := rfl
theorem c4_2 (a b c d : PV) : cutP [a, b, c, d] none (some 2) = [a, b] := rfl
theorem c4_2n (a b c d : PV) : cutP [a, b, c, d] (some 2) none = [c, d] := rfl
theorem c3_3 (a b c : PV) : cutP [a, b, c] none (some 3) = [a, b, c] := rfl
theorem c3_4 (a b c : PV) : cutP [a, b, c] (some 4) none = [] := rfl
theorem c3_2 (a b c : PV) : cutP [a, b, c] none (some 2) = [a, b] := rfl
noncomputable def wE1 : IE := iBin fAdd (iBin fAdd (iSl fSl (iVar 0) iNo (iPart (iC (.int 3)))) (iCall (a1 fTuple) (iCons (iVar 1) iNil))) (iSl fSl (iVar 0) (iPart (iC (.int 4))) iNo)
noncomputable def wE2 : IE := iBin fAdd (iSl fSl (iVar 0) iNo (iPart (iC (.int 2)))) (iCall (a1 fTuple) (iCons (iVar 1) iNil))
noncomputable def wE3 : IE := iBin fAdd (iSl fSl (iVar 0) iNo (iPart (iC (.int 3)))) (iTup (iCons (iVar 1) iNil))
theorem get3 {env : PEnv} {e1 e2 e3 ik ix : IE} {v1 v2 v3 z : PV} {j : Nat} (h1 : ∀ S, e1 env S = some (v1, S)) (h2 : ∀ S, e2 env S = some (v2, S)) (h3 : ∀ S, e3 env S = some (v3, S)) (hn : nrs [v1, v2, v3] = true) (hj : j = 5 ∨ j = 6 ∨ j = 7) (hk : ik env st = some (.str (Sx j), st)) (hx : ix env st = some (z, st)) :
    iGet2 (iNew (iDict (iPCons (iC (.str S_act)) e1 (iPCons (iC (.str S_timer)) e2 (iPCons (iC (.str S_flow)) e3 iPNil))))) ik ix env st = some (if j = 5 then v1 else if j = 6 then v2 else v3, st) := by
  have hd : iNew (iDict (iPCons (iC (.str S_act)) e1 (iPCons (iC (.str S_timer)) e2 (iPCons (iC (.str S_flow)) e3 iPNil)))) env st = some (.fdk [.inr S_act, .inr S_timer, .inr S_flow] [v1, v2, v3], st) := by
    refine new_d (kvs := [(.inr S_act, v1), (.inr S_timer, v2), (.inr S_flow, v3)]) ?_ (by simpa using hn)
    simp [iDict, iPCons, iPNil, h1, h2, h3, keysP, keyP, mergeP, putP]
  unfold iGet2
  rw [hd, ob_s]
  simp only [IL.pairsOf]
  rw [if_pos (by rfl), hk, ob_s, hx, ob_s]
  simp only [keyP, Option.map_some]
  rcases hj with rfl | rfl | rfl <;> simp [findP]
theorem e_with {t : Tr} {ps : List Tr} (w : okN t) (hl : ps.length = (parts t).length) (h0 : ps ≠ []) (hn : nrs (pts ps) = true) (h4 : ps.length ≤ 4) (hq : nrs (pts (parts t)) = true) : FF (n + 1) I__law_with [pt t, .frz (pts ps)] st = some (pt (wth t ps), st) := by
  rw [e__law_with]
  refine def_same rfl ?_ rfl
  cases t with
  | lit w xs => exact (h0 (List.eq_nil_of_length_eq_zero hl)).elim
  | var s => exact (h0 (List.eq_nil_of_length_eq_zero hl)).elim
  | signal s k => exact (h0 (List.eq_nil_of_length_eq_zero hl)).elim
  | now => exact (h0 (List.eq_nil_of_length_eq_zero hl)).elim
  | op i a b =>
    obtain ⟨p, q, rfl⟩ := len2 hl
    simp [b__law_with, pt, pts, wth]
  | item a b =>
    obtain ⟨p, q, rfl⟩ := len2 hl
    simp [b__law_with, pt, pts, wth]
  | un i a =>
    obtain ⟨p, rfl⟩ := len1 hl
    simp only [okN, ones, List.mem_cons, List.not_mem_nil, or_false] at w
    rcases w with rfl | rfl | rfl | rfl | rfl <;> simp [b__law_with, pt, pts, wth, mapO, flatP, inV, eqV]
  | list k xs => simp [b__law_with, pt, wth, mapO, flatP, inV, eqV]
  | call f xs => simp [b__law_with, pt, wth, mapO, flatP, inV, eqV]
  | act a k =>
    obtain ⟨p, rfl⟩ := len1 hl
    have hp : nr (pt p) = true := by simpa [pts, nrs] using hn
    have ha : nr (pt a) = true := by simpa [parts, pts, nrs] using hq
    have hg := get3 (st := st) (env := [some (.tup [.str S_await, .str S_act, .str S_pay, pt a, pk k]), some (.frz [pt p]), some (.str S_await)]) (v1 := .tup [.str S_await, .str S_act, .str S_pay, pt p, pk k]) (v2 := .tup [.str S_await, .str S_act, pt p]) (v3 := .tup [.str S_await, .str S_act, .str S_pay, .frz [pt p]]) (z := .tup [.str S_await, .str S_act, .str S_pay, pt a, pk k]) (j := 5) (e1 := wE1) (e2 := wE2) (e3 := wE3) (ik := iBin fSubB (iVar 0) (iC (.int 1))) (ix := iVar 0)
      (fun S => by simp [wE1, c5_3, c5_4, c5_2, c4_3, c4_4, c4_2, c3_3, c3_4, c3_2]) (fun S => by simp [wE2, c5_3, c5_4, c5_2, c4_3, c4_4, c4_2, c3_3, c3_4, c3_2]) (fun S => by simp [wE3, c5_3, c5_4, c5_2, c4_3, c4_4, c4_2, c3_3, c3_4, c3_2]) (by simp [nr, nrs, hp, ha, nr_pk]) (.inl rfl) (by simp) (by simp)
    unfold wE1 wE2 wE3 at hg
    simp [b__law_with, pt, pts, wth, mapO, flatP, inV, eqV, hg]
  | flow f xs =>
    have hpl : (pts ps).length ≤ 4 := by rw [pts_len]; exact h4
    have hpl2 : (pts ps).length + 1 + 1 + 1 ≤ 9000000 := by omega
    have hpl3 : (pts ps).length + 1 + 1 ≤ 9000000 := by omega
    have hpl4 : 2 + (pts ps).length ≤ 9000000 := by omega
    have hpl5 : 3 + (pts ps).length ≤ 9000000 := by omega
    have hg := get3 (st := st) (env := [some (.tup [.str S_await, .str S_flow, .str (Sx f), .frz (pts xs)]), some (.frz (pts ps)), some (.str S_await)]) (v1 := .tup ([.str S_await, .str S_flow, .str (Sx f)] ++ pts ps)) (v2 := .tup ([.str S_await, .str S_flow] ++ pts ps)) (v3 := .tup [.str S_await, .str S_flow, .str (Sx f), .frz (pts ps)]) (z := .tup [.str S_await, .str S_flow, .str (Sx f), .frz (pts xs)]) (j := 7) (e1 := wE1) (e2 := wE2) (e3 := wE3) (ik := iBin fSubB (iVar 0) (iC (.int 1))) (ix := iVar 0)
      (fun S => by simp [wE1, hpl2, hpl3, hpl4, hpl5, c5_3, c5_4, c5_2, c4_3, c4_4, c4_2, c3_3, c3_4, c3_2]) (fun S => by simp [wE2, hpl2, hpl3, hpl4, hpl5, c5_3, c5_4, c5_2, c4_3, c4_4, c4_2, c3_3, c3_4, c3_2]) (fun S => by simp [wE3, c5_3, c5_4, c5_2, c4_3, c4_4, c4_2, c3_3, c3_4, c3_2]) (by simp [nr, nrs, nrs_append, hn]) (.inr (.inr rfl)) (by simp) (by simp)
    unfold wE1 wE2 wE3 at hg
    simp [b__law_with, pt, wth, mapO, flatP, inV, eqV, hg]
  | timer a =>
    obtain ⟨p, rfl⟩ := len1 hl
    have hp : nr (pt p) = true := by simpa [pts, nrs] using hn
    have ha : nr (pt a) = true := by simpa [parts, pts, nrs] using hq
    have hg := get3 (st := st) (env := [some (.tup [.str S_await, .str S_timer, pt a]), some (.frz [pt p]), some (.str S_await)]) (v1 := .tup [.str S_await, .str S_timer, pt a, pt p]) (v2 := .tup [.str S_await, .str S_timer, pt p]) (v3 := .tup [.str S_await, .str S_timer, pt a, .frz [pt p]]) (z := .tup [.str S_await, .str S_timer, pt a]) (j := 6) (e1 := wE1) (e2 := wE2) (e3 := wE3) (ik := iBin fSubB (iVar 0) (iC (.int 1))) (ix := iVar 0)
      (fun S => by simp [wE1, c5_3, c5_4, c5_2, c4_3, c4_4, c4_2, c3_3, c3_4, c3_2]) (fun S => by simp [wE2, c5_3, c5_4, c5_2, c4_3, c4_4, c4_2, c3_3, c3_4, c3_2]) (fun S => by simp [wE3, c5_3, c5_4, c5_2, c4_3, c4_4, c4_2, c3_3, c3_4, c3_2]) (by simp [nr, nrs, hp, ha]) (.inr (.inl rfl)) (by simp) (by simp)
    unfold wE1 wE2 wE3 at hg
    simp [b__law_with, pt, pts, wth, mapO, flatP, inV, eqV, hg]
end
end J20

/-! turned trees: how great; what is drawn anew -/
namespace J20
open PySem PySem.Spec PyProof.Rows L2 IL SX
noncomputable def tuC1 (F : Nat → FA) : IT := (iAnd (iTestB (iBin fGt (iCall (a1 fLenB) (iCons (iVar 3) iNil)) (iC (.int 0)))) (iTestB (iBin fGt (iCall (F I__law_draw) (iCons (iVar 0) (iCons (iC (.int 4)) iNil))) (iC (.int 0)))))
noncomputable def tuX1 (F : Nat → FA) : IS := (iSeq (iAsg (gN 5) (iCall (F I__law_draw) (iCons (iVar 0) (iCons (iCall (a1 fLenB) (iCons (iVar 3) iNil)) iNil)))) (iSeq (iSetIx fSetA (iVar 3) (iVar 5) (iCall (F I__law_turned) (iCons (iVar 0) (iCons (iVar 1) (iCons (iBin fSubB (iVar 3) (iVar 5)) iNil))))) (iRet (iCall (F I__law_with) (iCons (iVar 2) (iCons (iFrz (iVar 3)) iNil))))))
noncomputable def tuK (F : Nat → FA) : IS := (iSeq (iAsg (gN 4) (iCall (F I__law_pick) (iCons (iVar 0) (iCons (iNew (iLst (iCons (iC (.str S_int)) (iCons (iC (.str S_bool)) (iCons (iC (.str S_text)) (iCons (iC (.str S_nothing)) (iCons (iTup (iCons (iC (.str S_list)) (iCons (iC (.str S_int)) iNil))) (iCons (iC (.str S_name)) iNil)))))))) iNil)))) (iRet (iIf (iTestB (iBin fEqB (iVar 4) (iC (.str S_name)))) (iTup (iCons (iC (.str S_var)) (iCons (iC (.str S_q)) iNil))) (iCall (F I__law_typed) (iCons (iVar 0) (iCons (iVar 1) (iCons (iVar 4) (iCons (iC (.int 1)) iNil))))))))
noncomputable def tuRest (F : Nat → FA) : IS := (iSeq (iIfS (iAnd (iTestB (iBin fEqB (iBin fSubB (iVar 2) (iC (.int 0))) (iC (.str S_op)))) (iTestB (iBin fEqB (iCall (F I__law_draw) (iCons (iVar 0) (iCons (iC (.int 2)) iNil))) (iC (.int 0))))) (iRet (iBin fAdd (iTup (iCons (iC (.str S_op)) (iCons (iCall (F I__law_pick) (iCons (iVar 0) (iCons (iNew (iLst (iCons (iC (.str S_x2b)) (iCons (iC (.str S_x26)) (iCons (iC (.str S_x3d)) (iCons (iC (.str S_x3c)) (iCons (iC (.str S_and)) iNil))))))) iNil))) iNil))) (iSl fSl (iVar 2) (iPart (iC (.int 2))) iNo))) iSkip) (iSeq (iIfS (iAnd (iTestB (iBin fEqB (iBin fSubB (iVar 2) (iC (.int 0))) (iC (.str S_call)))) (iTestB (iBin fEqB (iCall (F I__law_draw) (iCons (iVar 0) (iCons (iC (.int 2)) iNil))) (iC (.int 0))))) (iRet (iTup (iCons (iC (.str S_call)) (iCons (iCall (F I__law_pick) (iCons (iVar 0) (iCons (iNew (iLst (iCons (iC (.str S_f)) (iCons (iC (.str S_g)) (iCons (iC (.str S_h)) iNil))))) iNil))) (iCons (iNew (iSl fSl (iBin fSubB (iVar 2) (iC (.int 2))) (iPart (iC (.int 1))) iNo)) iNil))))) iSkip) (tuK F)))
theorem b_turned (F : Nat → FA) (G : Nat → FX) : b__law_turned F G = iSeq (iAsg (gN 3) (iCall (F I__law_parts) (iCons (iVar 2) iNil))) (iSeq (iIfS (tuC1 F) (tuX1 F) iSkip) (tuRest F)) := rfl
mutual
/-- how many nodes -/
def nd : Tr → Nat
  | .op _ a b => nd a + nd b + 1
  | .un _ a => nd a + 1
  | .item a b => nd a + nd b + 1
  | .list _ xs => nds xs + 1
  | .call _ xs => nds xs + 1
  | .flow _ xs => nds xs + 1
  | .act a _ => nd a + 1
  | .timer a => nd a + 1
  | .lit _ _ => 1
  | .var _ => 1
  | .signal _ _ => 1
  | .now => 1
def nds : List Tr → Nat
  | [] => 0
  | x :: xs => nd x + nds xs
end
theorem nd_parts (t : Tr) : nd t = nds (parts t) + 1 := by
  cases t <;> simp [nd, parts, nds]
theorem nds_le {B : Nat} : ∀ {xs : List Tr}, (∀ x ∈ xs, nd x ≤ B) → nds xs ≤ xs.length * B
  | [], _ => by simp [nds]
  | x :: xs, h => by
    have h1 := h x (List.mem_cons_self ..)
    have h2 := nds_le (xs := xs) fun y hy => h y (List.mem_cons_of_mem _ hy)
    simp only [nds, List.length_cons, Nat.add_mul, Nat.one_mul]
    omega
theorem nd_wf {d : Nat} {t : Tr} (h : Wf d t) : nd t + 1 ≤ 2 ^ d := by
  induction h with
  | @mk d t ho hl hp ih =>
    rw [nd_parts]
    have h1 := nds_le (xs := parts t) (B := 2 ^ d - 1) fun x hx => by have := ih x hx; omega
    have h2 : (parts t).length * (2 ^ d - 1) ≤ 2 * (2 ^ d - 1) := Nat.mul_le_mul_right _ hl
    have h3 : 1 ≤ 2 ^ d := Nat.one_le_two_pow
    rw [Nat.pow_succ]
    omega
theorem nds_set {x : Tr} : ∀ {xs : List Tr} {k : Nat} {y : Tr}, xs[k]? = some y → nds (xs.set k x) + nd y = nds xs + nd x
  | [], _, _, h => by simp at h
  | a :: xs, 0, y, h => by
    simp only [List.getElem?_cons_zero, Option.some.injEq] at h
    subst h
    simp only [List.set_cons_zero, nds]
    omega
  | a :: xs, k + 1, y, h => by
    simp only [List.getElem?_cons_succ] at h
    have := nds_set (x := x) h
    simp only [List.set_cons_succ, nds]
    omega
/-- a tree's first word -/
def hdw : Tr → Nat
  | .lit w _ => w
  | .var _ => 22
  | .op _ _ _ => 0
  | .un i _ => i
  | .item _ _ => 1
  | .list _ _ => 2
  | .call _ _ => 3
  | .now => 25
  | _ => 4
theorem hdw_lt {t : Tr} (h : okN t) : hdw t < 53 := by
  cases t with
  | lit w xs =>
    have := h.1
    simp only [List.mem_cons, List.not_mem_nil, or_false] at this
    simp only [hdw]
    omega
  | un i a =>
    simp only [okN, ones, List.mem_cons, List.not_mem_nil, or_false] at h
    simp only [hdw]
    omega
  | _ => simp [hdw]
theorem hdw_op {t : Tr} (h : okN t) (e : hdw t = 0) : ∃ i a b, t = .op i a b := by
  cases t with
  | op i a b => exact ⟨i, a, b, rfl⟩
  | lit w xs =>
    have := h.1
    simp only [List.mem_cons, List.not_mem_nil, or_false] at this
    simp only [hdw] at e
    omega
  | un i a =>
    simp only [okN, ones, List.mem_cons, List.not_mem_nil, or_false] at h
    simp only [hdw] at e
    omega
  | _ => simp [hdw] at e
theorem hdw_call {t : Tr} (h : okN t) (e : hdw t = 3) : ∃ f xs, t = .call f xs := by
  cases t with
  | call f xs => exact ⟨f, xs, rfl⟩
  | lit w xs =>
    have := h.1
    simp only [List.mem_cons, List.not_mem_nil, or_false] at this
    simp only [hdw] at e
    omega
  | un i a =>
    simp only [okN, ones, List.mem_cons, List.not_mem_nil, or_false] at h
    simp only [hdw] at e
    omega
  | _ => simp [hdw] at e
section
variable {m s c d : Nat} {st : Sto}
theorem pt_hd (t : Tr) : fSubB (pt t) (.int 0) st = some (.str (Sx (hdw t)), st) := by
  cases t <;> simp [pt, hdw]
theorem LS.app {l : Sto} (L : LS st s c) : LS (st ++ l) s c := by
  obtain ⟨h1, h2⟩ := L.lt
  exact L.of_eq (List.getElem?_append_left h1) (List.getElem?_append_left h2)
theorem Mv.split {o : SO} {S : Sto} (L : LS st s c) (M : Mv s c (st ++ [o]) S) : ∃ st1, S = st1 ++ [o] ∧ Mv s c st st1 := by
  obtain ⟨h1, h2⟩ := L.lt
  have hl : S.length = st.length + 1 := by rw [M.len]; simp
  have hn : S[st.length]? = some o := by rw [M.eq _ (by omega) (by omega)]; simp
  refine ⟨S.take st.length, ?_, ?_⟩
  · apply List.ext_getElem?
    intro i
    by_cases hi : i < st.length
    · rw [List.getElem?_append_left (by rw [List.length_take]; omega), List.getElem?_take_of_lt hi]
    · have ht : (S.take st.length).length = st.length := by rw [List.length_take]; omega
      rw [List.getElem?_append_right (by omega), ht]
      by_cases he : i = st.length
      · subst he
        rw [hn, Nat.sub_self]
        rfl
      · rw [List.getElem?_eq_none (by omega)]
        rw [List.getElem?_eq_none (by simp; omega)]
  · refine ⟨by rw [List.length_take]; omega, fun i a b => ?_, ?_⟩
    · by_cases hi : i < st.length
      · rw [List.getElem?_take_of_lt hi, M.eq i a b, List.getElem?_append_left hi]
      · rw [List.getElem?_eq_none (by rw [List.length_take]; omega), List.getElem?_eq_none (by omega)]
    · exact M.ls.of_eq (List.getElem?_take_of_lt h1) (List.getElem?_take_of_lt h2)
theorem def_draw {n nN : Nat} {b : IS} {xs : List PV} {v : PV} {st1 l : Sto} (M : Mv s c st st1) (hl : xs.length = n) (h : b (xs.map some ++ List.replicate (nN - n) none) st = some (.rt v (st1 ++ l))) (hv : nr v = true) : iDef n nN b xs st = some (v, st1) := by
  rw [def_rt hl h, gc_take (rlt_nr _ hv) M.old, ← M.len, List.take_left']
  rfl
theorem eq_name {k : Kd} (hk : k ∈ [Kd.int, .bool, .text, .nothing, .list .int]) : fEqB (pk k) (.str S_name) st = some (.bl false, st) := by
  simp only [List.mem_cons, List.not_mem_nil, or_false] at hk
  rcases hk with rfl | rfl | rfl | rfl | rfl
  · simp [pk]
  · simp [pk]
  · simp [pk]
  · simp [pk]
  · have g1 := gd_pk (.list .int) 60 (by decide)
    have g2 : gd (.str S_name) 60 = true := by simp [gd]
    have e : eqP st (pk (.list .int)) (.str S_name) = some false := by
      rw [eqP_gd g1 g2]
      simp [pk, datP, datPs, PyData.eqv]
    unfold fEqB eqB
    rw [pairs_pk]
    show (eqP st _ _).map _ = _
    rw [e]
    rfl
theorem tu_kind {t : Tr} {pv : PV} (L : LS st s c) : ∃ t' S', tuK (FF (m + 6)) [some (.ref s), some NM, some (pt t), some pv, none, none] st = some (.rt (pt t') S') ∧ Mv s c st S' ∧ Wf 5 t' := by
  have hn : ∀ env, iNew (iLst (iCons (iC (.str S_int)) (iCons (iC (.str S_bool)) (iCons (iC (.str S_text)) (iCons (iC (.str S_nothing)) (iCons (iTup (iCons (iC (.str S_list)) (iCons (iC (.str S_int)) iNil))) (iCons (iC (.str S_name)) iNil))))))) env st = some (.frz [.str S_int, .str S_bool, .str S_text, .str S_nothing, .tup [.str S_list, .str S_int], .str S_name], st) := fun env => new_l (by simp) (by simp [nr, nrs])
  obtain ⟨x, s2, e1, e2, M2⟩ := e_pick (n := m + 4) (xs := [.str S_int, .str S_bool, .str S_text, .str S_nothing, .tup [.str S_list, .str S_int], .str S_name]) (by simp) (by simp) (by simp [nr, nrs]) L
  have hk : (∃ k, k ∈ [Kd.int, .bool, .text, .nothing, .list .int] ∧ x = pk k) ∨ x = .str S_name := by
    simp only [List.mem_cons, List.not_mem_nil, or_false] at e2
    rcases e2 with rfl | rfl | rfl | rfl | rfl | rfl
    · exact .inl ⟨.int, by simp, rfl⟩
    · exact .inl ⟨.bool, by simp, rfl⟩
    · exact .inl ⟨.text, by simp, rfl⟩
    · exact .inl ⟨.nothing, by simp, rfl⟩
    · exact .inl ⟨.list .int, by simp, rfl⟩
    · exact .inr rfl
  rcases hk with ⟨k, hk, rfl⟩ | rfl
  · have h3 : kd k ≤ 3 := by
      simp only [List.mem_cons, List.not_mem_nil, or_false] at hk
      rcases hk with rfl | rfl | rfl | rfl | rfl <;> decide
    obtain ⟨t', s3, f1, M3, w3⟩ := ty_all 1 (m + 6) (by omega) k s2 h3 M2.ls
    have f1 : FF (m + 6) I__law_typed [.ref s, NM, pk k, .int 1] s2 = some (pt t', s3) := f1
    refine ⟨t', s3, ?_, M2.trans M3, w3⟩
    unfold tuK
    rw [asg_seq (x := pk k) (s2 := s2) (by simp [hn, e1])]
    have ht := t_eq (st := s2) (env := [some (.ref s), some NM, some (pt t), some pv, some (pk k), none]) (i := 4) (x := pk k) (y := .str S_name) rfl (eq_name hk)
    show iRet _ [some (.ref s), some NM, some (pt t), some pv, some (pk k), none] s2 = _
    rw [iRet_e, iIf_e, ht]
    simp [f1]
  · refine ⟨.var 45, s2, ?_, M2, .mk (by simp [okN]) (by simp [parts]) (by simp [parts])⟩
    unfold tuK
    rw [asg_seq (x := .str S_name) (s2 := s2) (by simp [hn, e1])]
    simp [pt]
end
end J20

/-! turned trees -/
namespace J20
open PySem PySem.Spec PyProof.Rows L2 IL SX
section
variable {m s c d : Nat} {st : Sto}
theorem nds_drop : ∀ xs : List Tr, nds (xs.drop 1) ≤ nds xs
  | [] => Nat.le_refl _
  | x :: xs => by simp [nds]
theorem cut_1 (xs : List Tr) : cutP (pts xs) (some 1) none = pts (xs.drop 1) := by
  cases xs with
  | nil => rfl
  | cons x xs =>
    have e0 : HT.sIx (pts (x :: xs)).length 0 (some 1) = 1 := by
      have := HT.sIx_nat (pts (x :: xs)).length 0 1
      rw [show ((1 : Nat) : Int) = 1 from rfl] at this
      rw [this]
      simp [pts]
    have e1 : HT.sIx (pts (x :: xs)).length (pts (x :: xs)).length none = (pts (x :: xs)).length := rfl
    unfold cutP
    rw [e0, e1]
    simp [pts]
theorem tu_rest {t : Tr} {pv : PV} (w : Wf d t) (L : LS st s c) : ∃ t' S', tuRest (FF (m + 6)) [some (.ref s), some NM, some (pt t), some pv, none, none] st = some (.rt (pt t') S') ∧ Mv s c st S' ∧ Wf (d + 4) t' ∧ nd t' ≤ nd t + 31 := by
  have kind : ∀ S, LS S s c → Mv s c st S → ∃ t' S', tuK (FF (m + 6)) [some (.ref s), some NM, some (pt t), some pv, none, none] S = some (.rt (pt t') S') ∧ Mv s c st S' ∧ Wf (d + 4) t' ∧ nd t' ≤ nd t + 31 := fun S LS' M => by
    obtain ⟨t', S', e, M2, w2⟩ := tu_kind (m := m) (t := t) (pv := pv) LS'
    have h1 : 1 ≤ d := by cases w; omega
    have h2 := nd_wf w2
    exact ⟨t', S', e, M.trans M2, w2.up (by omega), by omega⟩
  have ho := w.ok
  have hh := hdw_lt ho
  unfold tuRest
  by_cases h0 : hdw t = 0
  · obtain ⟨i, a, b, rfl⟩ := hdw_op ho h0
    obtain ⟨q, s1, d1, q0, q1, M1⟩ := e_draw (n := m + 5) 2 (by omega) (by omega) L
    by_cases hq : q = 0
    · subst hq
      have hn : ∀ env, iNew (iLst (iCons (iC (.str S_x2b)) (iCons (iC (.str S_x26)) (iCons (iC (.str S_x3d)) (iCons (iC (.str S_x3c)) (iCons (iC (.str S_and)) iNil)))))) env s1 = some (.frz [.str (Sx 8), .str (Sx 13), .str (Sx 33), .str (Sx 15), .str (Sx 31)], s1) := fun env => new_l (by simp) (by simp [nr, nrs])
      obtain ⟨j, s2, hj, e1, M2⟩ := pick_s (m := m + 4) [8, 13, 33, 15, 31] (by simp) (by simp) M1.ls
      refine ⟨.op j a b, s2, ?_, M1.trans M2, ?_, by simp [nd]⟩
      · simp only [List.map_cons, List.map_nil] at e1
        refine ifs_rt (s2 := s1) (by simp [pt, d1]) ?_
        simp [pt, hn, e1, c4_2n]
      · cases w with
        | mk h hl hp => exact .mk (by simp only [okN, signs, List.mem_cons, List.not_mem_nil, or_false] at hj ⊢; omega) hl fun p hm => (hp p hm).up (by omega)
    · have hb : (q == 0) = false := beq_eq_false_iff_ne.mpr hq
      obtain ⟨t', S', e, M2, w2, n2⟩ := kind s1 M1.ls M1
      refine ⟨t', S', ?_, M2, w2, n2⟩
      rw [ifs_no (s2 := s1) (by simp [pt, d1, hb]), ifs_no (s2 := s1) (by simp [pt])]
      exact e
  · have p1 : ∀ S, iTestB (iBin fEqB (iBin fSubB (iVar 2) (iC (.int 0))) (iC (.str S_op))) [some (.ref s), some NM, some (pt t), some pv, none, none] S = some (false, S) := fun S => by simp [pt_hd, hh, h0]
    rw [ifs_no (s2 := st) (by simp [pt_hd, hh, h0])]
    by_cases h3 : hdw t = 3
    · obtain ⟨f, xs, rfl⟩ := hdw_call ho h3
      obtain ⟨q, s1, d1, q0, q1, M1⟩ := e_draw (n := m + 5) 2 (by omega) (by omega) L
      by_cases hq : q = 0
      · subst hq
        have hn : ∀ env, iNew (iLst (iCons (iC (.str S_f)) (iCons (iC (.str S_g)) (iCons (iC (.str S_h)) iNil)))) env s1 = some (.frz [.str (Sx 41), .str (Sx 42), .str (Sx 43)], s1) := fun env => new_l (by simp) (by simp [nr, nrs])
        obtain ⟨j, s2, hj, e1, M2⟩ := pick_s (m := m + 4) [41, 42, 43] (by simp) (by simp) M1.ls
        simp only [List.map_cons, List.map_nil] at e1
        have hcut : cutP (pts xs) (some 1) none = pts (xs.drop 1) := by
          exact cut_1 xs
        have hnr : nrs (pts (xs.drop 1)) = true := by
          cases w with
          | mk h hl hp => exact nrs_pts fun x hx => nr_pt (hp x (List.mem_of_mem_drop hx))
        have hsl : iNew (iSl fSl (iBin fSubB (iVar 2) (iC (.int 2))) (iPart (iC (.int 1))) iNo) [some (.ref s), some NM, some (pt (.call f xs)), some pv, none, none] s2 = some (.frz (pts (xs.drop 1)), s2) := new_l (by simp [pt, hcut]) hnr
        refine ⟨.call j (xs.drop 1), s2, ?_, M1.trans M2, ?_, by have := nds_drop xs; simp only [nd]; omega⟩
        · refine ifs_rt (s2 := s1) (by simp [pt, d1]) ?_
          simp only [pt] at hsl
          simp [pt, hn, e1, hsl]
        · cases w with
          | mk h hl hp => exact .mk (by simpa [okN] using hj) (by simp only [parts, List.length_drop] at hl ⊢; omega) fun p hm => (hp p (List.mem_of_mem_drop hm)).up (by omega)
      · have hb : (q == 0) = false := beq_eq_false_iff_ne.mpr hq
        obtain ⟨t', S', e, M2, w2, n2⟩ := kind s1 M1.ls M1
        refine ⟨t', S', ?_, M2, w2, n2⟩
        rw [ifs_no (s2 := s1) (by simp [pt, d1, hb])]
        exact e
    · obtain ⟨t', S', e, M2, w2, n2⟩ := kind st L (Mv.refl L)
      refine ⟨t', S', ?_, M2, w2, n2⟩
      rw [ifs_no (s2 := st) (by simp [pt_hd, hh, h3])]
      exact e
theorem set_pts {ts : List Tr} {k : Nat} {x : Tr} : (pts ts).set k (pt x) = pts (ts.set k x) := by
  rw [pts_map, pts_map, List.map_set]
/-- a turned tree -/
theorem turned : ∀ (d N : Nat) (t : Tr) (st : Sto), Wf d t → d + 6 ≤ N → LS st s c → ∃ t' st', FF N I__law_turned [.ref s, NM, pt t] st = some (pt t', st') ∧ Mv s c st st' ∧ Wf (d + 4) t' ∧ nd t' ≤ nd t + 31
  | 0, _, _, _, w, _, _ => nomatch w
  | d + 1, N, t, st, w, hN, L => by
    obtain ⟨m, rfl⟩ : ∃ m, N = m + 7 := ⟨N - 7, by omega⟩
    rw [show m + 7 = (m + 6) + 1 by rfl, e__law_turned]
    have hpa := l_parts (n := m + 5) (st := st) w
    have ho := w.ok
    have hnp := nr_parts w
    obtain ⟨wl, wp⟩ : (parts t).length ≤ 2 ∧ ∀ p ∈ parts t, Wf d p := by
      cases w with
      | mk h hl hp => exact ⟨hl, hp⟩
    have hA : iCall (FF (m + 6) I__law_parts) (iCons (iVar 2) iNil) [some (.ref s), some NM, some (pt t), none, none, none] st = some (.ref st.length, st ++ [.lst (pts (parts t))]) := by simp [hpa]
    have hb : ∀ (F : IS → Prop), True := fun _ => trivial
    have at0 : ∀ (xs : List PV) (S : Sto), (S ++ [SO.lst xs])[S.length]? = some (.lst xs) := fun xs S => by simp
    have LA : LS (st ++ [.lst (pts (parts t))]) s c := L.app
    have rest : ∀ S1, LS S1 s c → Mv s c st S1 → tuC1 (FF (m + 6)) [some (.ref s), some NM, some (pt t), some (.ref st.length), none, none] (st ++ [.lst (pts (parts t))]) = some (false, S1 ++ [.lst (pts (parts t))]) → ∃ t' st', iDef 3 6 (b__law_turned (FF (m + 6)) (GG (m + 6))) [.ref s, NM, pt t] st = some (pt t', st') ∧ Mv s c st st' ∧ Wf (d + 1 + 4) t' ∧ nd t' ≤ nd t + 31 := fun S1 L1 M1 hc => by
      obtain ⟨t', S', e, M2, w2, n2⟩ := tu_rest (m := m) (pv := .ref st.length) w (L1.app (l := [.lst (pts (parts t))]))
      obtain ⟨S2, rfl, M3⟩ := Mv.split L1 M2
      refine ⟨t', S2, def_draw (l := [.lst (pts (parts t))]) (M1.trans M3) rfl ?_ (nr_pt w2), M1.trans M3, w2, n2⟩
      show b__law_turned _ _ [some (.ref s), some NM, some (pt t), none, none, none] st = _
      rw [b_turned, asg_seq hA]
      show iSeq _ _ [some (.ref s), some NM, some (pt t), some (.ref st.length), none, none] _ = _
      rw [ifs_no hc]
      exact e
    have hlen : fLenB (.ref st.length) (st ++ [.lst (pts (parts t))]) = some (.int (pts (parts t)).length, st ++ [.lst (pts (parts t))]) := fLenB_l (at0 _ _)
    by_cases h0 : parts t = []
    · refine rest st L (Mv.refl L) ?_
      have hl0 : (((pts (parts t)).length : Nat) : Int) = 0 := by rw [h0]; rfl
      rw [hl0] at hlen
      unfold tuC1
      simp [hlen]
    · have hpos : 0 < (pts (parts t)).length := by rw [pts_len]; exact List.length_pos_iff.mpr h0
      have hposi : (0 : Int) < (((pts (parts t)).length : Nat) : Int) := by omega
      obtain ⟨ln, hln⟩ : ∃ ln : Int, ln = (((pts (parts t)).length : Nat) : Int) := ⟨_, rfl⟩
      rw [← hln] at hlen hposi
      obtain ⟨q, S, d1, q0, q1, M1⟩ := e_draw (n := m + 5) 4 (by omega) (by omega) LA
      obtain ⟨s1, rfl, M1'⟩ := Mv.split L M1
      by_cases hq : 0 < q
      · have hc : tuC1 (FF (m + 6)) [some (.ref s), some NM, some (pt t), some (.ref st.length), none, none] (st ++ [.lst (pts (parts t))]) = some (true, s1 ++ [.lst (pts (parts t))]) := by
          unfold tuC1
          simp [hlen, hposi, d1, hq]
        have hs1 : s1.length = st.length := M1'.len
        have hlen1 : fLenB (.ref st.length) (s1 ++ [.lst (pts (parts t))]) = some (.int ln, s1 ++ [.lst (pts (parts t))]) := by
          rw [hln, ← hs1]
          exact fLenB_l (at0 _ _)
        obtain ⟨r, S, d2, r0, r1, M2⟩ := e_draw (n := m + 5) ln (by omega) (by rw [hln, pts_len]; omega) (M1'.ls.app (l := [.lst (pts (parts t))]))
        obtain ⟨s2, rfl, M2'⟩ := Mv.split M1'.ls M2
        have hs2 : s2.length = st.length := by rw [M2'.len, hs1]
        obtain ⟨k, rfl⟩ := Int.eq_ofNat_of_zero_le r0
        have hk : k < (parts t).length := by rw [hln, pts_len] at r1; omega
        obtain ⟨p, hp⟩ : ∃ p, (parts t)[k]? = some p := ⟨_, List.getElem?_eq_getElem hk⟩
        have hat : atI (pts (parts t)) (k : Int) = some (pt p) := at_nat (by rw [pts_map, List.getElem?_map, hp]; rfl)
        have hsub : fSubB (.ref st.length) (.int k) (s2 ++ [.lst (pts (parts t))]) = some (pt p, s2 ++ [.lst (pts (parts t))]) := by
          have := fSubB_l (i := (k : Int)) (at0 (pts (parts t)) s2)
          rw [hs2, hat] at this
          exact this
        obtain ⟨p', S, f1, M3, w3, n3⟩ := turned d (m + 6) p (s2 ++ [.lst (pts (parts t))]) (wp p (List.mem_of_getElem? hp)) (by omega) (M2'.ls.app)
        obtain ⟨s3, rfl, M3'⟩ := Mv.split M2'.ls M3
        have hs3 : s3.length = st.length := by rw [M3'.len, hs2]
        have hset : fSetA (.ref st.length) (.int k) (pt p') (s3 ++ [.lst (pts (parts t))]) = some (s3 ++ [.lst (pts ((parts t).set k p'))]) := by
          have := fSetA_l (k := (k : Int)) (v := pt p') (at0 (pts (parts t)) s3) (ixN_in (by omega) (by rw [pts_len]; omega))
          rw [hs3] at this
          rw [this, ← hs3, List.set_append_right _ _ (Nat.le_refl _), Nat.sub_self, Int.toNat_natCast, set_pts]
          rfl
        have M := (M1'.trans M2').trans M3'
        have hwp : ∀ x ∈ (parts t).set k p', Wf (d + 4) x := fun x hx => by
          rcases List.mem_or_eq_of_mem_set hx with h | h
          · exact (wp x h).up (by omega)
          · rw [h]; exact w3
        have hsl : ((parts t).set k p').length = (parts t).length := List.length_set
        have hsn : (parts t).set k p' ≠ [] := fun e => h0 (List.eq_nil_of_length_eq_zero (by rw [← hsl, e]; rfl))
        have hnr : nrs (pts ((parts t).set k p')) = true := nrs_pts fun x hx => nr_pt (hwp x hx)
        have hw := e_with (n := m + 5) (st := s3 ++ [.gone]) ho hsl hsn hnr (by omega) hnp
        have hfz : frzV (s3 ++ [.lst (pts ((parts t).set k p'))]) (.ref st.length) = (.frz (pts ((parts t).set k p')), s3 ++ [.gone]) := by
          rw [frzV_lst (xs := pts ((parts t).set k p')) (by rw [← hs3]; exact at0 _ _), ← hs3, List.set_append_right _ _ (Nat.le_refl _), Nat.sub_self]
          rfl
        have hnd : nd (wth t ((parts t).set k p')) ≤ nd t + 31 := by
          rw [nd_parts, wth_parts hsl hsn, nd_parts t]
          have := nds_set (x := p') hp
          omega
        have hwf : Wf (d + 1 + 4) (wth t ((parts t).set k p')) := by
          have : Wf ((d + 4) + 1) (wth t ((parts t).set k p')) := .mk (wth_ok ho hsl hsn) (by rw [wth_parts hsl hsn, hsl]; exact wl) (by rw [wth_parts hsl hsn]; exact hwp)
          exact this.up (by omega)
        refine ⟨wth t ((parts t).set k p'), s3, def_draw (l := [.gone]) M rfl ?_ (nr_pt hwf), M, hwf, hnd⟩
        show b__law_turned _ _ [some (.ref s), some NM, some (pt t), none, none, none] st = _
        rw [b_turned, asg_seq hA]
        show iSeq _ _ [some (.ref s), some NM, some (pt t), some (.ref st.length), none, none] _ = _
        refine ifs_rt hc ?_
        unfold tuX1
        rw [asg_seq (x := .int k) (s2 := s2 ++ [.lst (pts (parts t))]) (by simp [hlen1, d2])]
        simp [hsub, f1, hset, hfz, hw]
      · have hq0 : q = 0 := by omega
        subst hq0
        refine rest s1 M1'.ls M1' ?_
        unfold tuC1
        simp [hlen, hposi, d1]
end
end J20

/-! how trees are written: how long, and that it is good for == -/
namespace J20
open PySem PySem.Spec PyProof.Rows L2 IL SX
theorem len10 {i : Nat} (h : i < 53) : (Sx i).length ≤ 10 := by
  rw [Sx_len h]
  exact (by decide : ∀ i : Fin 53, lens.getD i.val 0 ≤ 10) ⟨i, h⟩
theorem gS {i n : Nat} (h : i < 53) : Gd n 110 (.str (Sx i)) := .str (Sx_ok h) (by have := len10 h; omega)
theorem _root_.IL.Gd.cons {n w v : Nat} {x : PV} {xs : List PV} (h : Gd n w x) (t : Gds n v xs) : Gds n (w + 2 + v) (x :: xs) := Gds.cons h t
theorem _root_.IL.Gds.tup {n w : Nat} {xs : List PV} (h : Gds n w xs) : Gd (n + 1) (w + 4) (.tup xs) := Gd.tup h
theorem _root_.IL.Gds.frz {n w : Nat} {xs : List PV} (h : Gds n w xs) : Gd (n + 1) (w + 4) (.frz xs) := Gd.frz h
theorem wt_pk : ∀ k : Kd, wt (pk k) ≤ 80 + 60 * kd k
  | .int => by simp [pk, wt, kd, lens]
  | .bool => by simp [pk, wt, kd, lens]
  | .text => by simp [pk, wt, kd, lens]
  | .nothing => by simp [pk, wt, kd, lens]
  | .list k => by
    have := wt_pk k
    simp [pk, wt, wts, kd, lens]
    omega
theorem gK {k : Kd} {n : Nat} (h : kd k ≤ 4) (hn : 4 ≤ n) : Gd n 400 (pk k) := ⟨gd_pk k n (by omega), nr_pk k, by have := wt_pk k; omega⟩
theorem gT {n : Nat} : ∀ {xs : List Tr}, (∀ x ∈ xs, Gd n (4000 * nd x) (pt x)) → Gds n (4000 * nds xs + 2 * xs.length) (pts xs)
  | [], _ => Gds.nil.mono (Nat.le_refl _) (Nat.zero_le _)
  | x :: xs, h => by
    have h1 := h x (List.mem_cons_self ..)
    have h2 := gT (xs := xs) fun y hy => h y (List.mem_cons_of_mem _ hy)
    exact (h1.cons h2).mono (Nat.le_refl _) (by simp only [nds, List.length_cons]; omega)
theorem gP {d : Nat} {t : Tr} (w : Wf d t) : Gd (2 * d + 5) (4000 * nd t) (pt t) := by
  induction w with
  | @mk d t ho hl hp ih =>
    cases t with
    | lit w xs =>
      have hw : w < 53 := by
        have := ho.1
        simp only [List.mem_cons, List.not_mem_nil, or_false] at this
        omega
      have : Gds 1 100 xs := ⟨ho.2.2.1, ho.2.1, ho.2.2.2⟩
      exact ((gS (n := 1) hw).cons this).tup.mono (by omega) (by simp only [nd]; omega)
    | var s => exact ((gS (i := 22) (n := 1) (by decide)).cons ((gS (n := 1) ho).cons (Gds.nil (w := 0)))).tup.mono (by omega) (by simp only [nd]; omega)
    | op i a b =>
      have hi : i < 53 := by
        simp only [okN, signs, List.mem_cons, List.not_mem_nil, or_false] at ho
        omega
      have ha := ih a (by simp [parts])
      have hb := ih b (by simp [parts])
      exact ((gS (i := 0) (by decide)).cons ((gS hi).cons (ha.cons (hb.cons (Gds.nil (w := 0)))))).tup.mono (by omega) (by simp only [nd]; omega)
    | un i a =>
      have hi : i < 53 := by
        simp only [okN, ones, List.mem_cons, List.not_mem_nil, or_false] at ho
        omega
      have ha := ih a (by simp [parts])
      exact ((gS hi).cons (ha.cons (Gds.nil (w := 0)))).tup.mono (by omega) (by simp only [nd]; omega)
    | item a b =>
      have ha := ih a (by simp [parts])
      have hb := ih b (by simp [parts])
      exact ((gS (i := 1) (by decide)).cons (ha.cons (hb.cons (Gds.nil (w := 0))))).tup.mono (by omega) (by simp only [nd]; omega)
    | list k xs =>
      have hx := (gT (xs := xs) fun x hx => ih x hx).frz
      simp only [parts] at hl
      exact ((gS (i := 2) (n := 2 * d + 6) (by decide)).cons ((gK ho (by omega)).cons (hx.cons (Gds.nil (w := 0))))).tup.mono (by omega) (by simp only [nd]; omega)
    | call f xs =>
      have hf : f < 53 := by
        simp only [okN, List.mem_cons, List.not_mem_nil, or_false] at ho
        omega
      have hx := (gT (xs := xs) fun x hx => ih x hx).frz
      simp only [parts] at hl
      exact ((gS (i := 3) (n := 2 * d + 6) (by decide)).cons ((gS hf).cons (hx.cons (Gds.nil (w := 0))))).tup.mono (by omega) (by simp only [nd]; omega)
    | flow f xs =>
      have hf : f < 53 := by
        simp only [okN, List.mem_cons, List.not_mem_nil, or_false] at ho
        omega
      have hx := (gT (xs := xs) fun x hx => ih x hx).frz
      simp only [parts] at hl
      exact ((gS (i := 4) (n := 2 * d + 6) (by decide)).cons ((gS (i := 7) (by decide)).cons ((gS hf).cons (hx.cons (Gds.nil (w := 0)))))).tup.mono (by omega) (by simp only [nd]; omega)
    | act a k =>
      have ha := ih a (by simp [parts])
      exact ((gS (i := 4) (n := 2 * d + 5) (by decide)).cons ((gS (i := 5) (by decide)).cons ((gS (i := 37) (by decide)).cons (ha.cons ((gK ho (by omega)).cons (Gds.nil (w := 0))))))).tup.mono (by omega) (by simp only [nd]; omega)
    | timer a =>
      have ha := ih a (by simp [parts])
      exact ((gS (i := 4) (n := 2 * d + 5) (by decide)).cons ((gS (i := 6) (by decide)).cons (ha.cons (Gds.nil (w := 0))))).tup.mono (by omega) (by simp only [nd]; omega)
    | signal s k => exact ((gS (i := 4) (n := 2 * d + 5) (by decide)).cons ((gS (i := 27) (by decide)).cons ((gS ho.1).cons ((gK ho.2 (by omega)).cons (Gds.nil (w := 0)))))).tup.mono (by omega) (by simp only [nd]; omega)
    | now => exact ((gS (i := 25) (n := 2 * d + 5) (by decide)).cons (Gds.nil (w := 0))).tup.mono (by omega) (by simp only [nd]; omega)
/-- the names as data -/
def dNM : PyData := .dict (zipK [.inr S_a, .inr S_b, .inr S_c, .inr S_d, .inr S_e] (datPs [.str S_int, .str S_text, .tup [.str S_list, .str S_int], .str S_bool, .tup [.str S_list, .tup [.str S_list, .str S_text]]]))
def dAll (t : Tr) : PyData := .list [datP PROG, dNM, datP (pt t)]
theorem gPROG : Gd 6 2000 PROG := ⟨by simp [PROG, fns, fnP, pk, gd, gds], by simp [PROG, fns, fnP, pk, nr, nrs], by simp [PROG, fns, fnP, pk, wt, wts, lens]⟩
section
variable {st : Sto}
theorem toE_gd {x : PV} {n f : Nat} (h : gd x n = true) (hf : n < f + 1) : toE st (f + 1) x = some (datP x) := by
  unfold toE
  rw [(gd_dat x n (f + 1) h hf).1]
theorem toE_NM : toE st 69 NM = some dNM := by
  have e0 : toD st 69 NM = none := rfl
  unfold toE
  rw [e0]
  have h : mapO (toE st 68) [.str S_int, .str S_text, .tup [.str S_list, .str S_int], .str S_bool, .tup [.str S_list, .tup [.str S_list, .str S_text]]] = some (datPs [.str S_int, .str S_text, .tup [.str S_list, .str S_int], .str S_bool, .tup [.str S_list, .tup [.str S_list, .str S_text]]]) := by
    have g : ∀ x, gd x 9 = true → toE st 68 x = some (datP x) := fun x h => toE_gd (f := 67) h (by omega)
    simp only [mapO, datPs]
    rw [g _ (by simp [gd, gds]), g _ (by simp [gd, gds]), g _ (by simp [gd, gds]), g _ (by simp [gd, gds]), g _ (by simp [gd, gds])]
  show (if _ then _ else _) = _
  rw [if_pos (by rfl), h]
  rfl
theorem toE_all {d : Nat} {t : Tr} (w : Wf d t) (hd : d ≤ 25) : toE st 70 (.frz [PROG, NM, pt t]) = some (dAll t) := by
  have hp := gP w
  have e0 : toD st 70 (.frz [PROG, NM, pt t]) = none := by
    have e1 : toD st 69 NM = none := rfl
    show (mapO (toD st 69) [PROG, NM, pt t]).map PyData.list = none
    simp only [mapO, (gd_dat (st := st) PROG 6 69 gPROG.g (by omega)).1, e1, Option.map_none]
  unfold toE
  rw [e0]
  show (mapO (toE st 69) [PROG, NM, pt t]).map PyData.list = _
  simp only [mapO, toE_gd (st := st) (f := 68) gPROG.g (by omega), toE_NM, toE_gd (st := st) (f := 68) hp.g (by omega), Option.map_some]
  rfl
theorem dNM_ok : dNM.showable = true ∧ dNM.depth ≤ 10 ∧ dNM.shown.length ≤ 300 ∧ PyData.strOk dNM.shown = true := by decide +kernel
theorem okE_all {d : Nat} {t : Tr} (w : Wf d t) (hd : d ≤ 25) (hn : nd t ≤ 3000) : okE (dAll t) = true := by
  have hp := gP w
  have w1 : wt PROG < 10 ^ 9 := Nat.lt_of_le_of_lt gPROG.w (by decide)
  have w2 : wt (pt t) < 10 ^ 9 := Nat.lt_of_le_of_lt hp.w (by omega)
  have s1 := (dat_ok PROG 6 gPROG.g w1).1
  have s2 := (dat_ok (pt t) _ hp.g w2).1
  have l1 := shown_le PROG 6 gPROG.g w1
  have l2 := shown_le (pt t) _ hp.g w2
  have p1 := (gd_dat (st := []) PROG 6 70 gPROG.g (by omega)).2.2
  have p2 := (gd_dat (st := []) (pt t) _ 70 hp.g (by omega)).2.2
  obtain ⟨n1, n2, n3, n4⟩ := dNM_ok
  have v1 := gPROG.w
  have v2 := hp.w
  unfold okE dAll
  simp only [Bool.and_eq_true, decide_eq_true_eq]
  refine ⟨⟨?_, ?_⟩, ?_⟩
  · simp [PyData.showable, PyData.showableAll, s1, s2, n1]
  · simp only [PyData.depth, PyData.depthAll]
    omega
  · show (listText [(datP PROG).shown, dNM.shown, (datP (pt t)).shown]).length ≤ _
    have := listText_le [(datP PROG).shown, dNM.shown, (datP (pt t)).shown]
    simp only [piled_cons, piled_nil] at this
    omega
/-- the law's text of a tree -/
def shT (t : Tr) : Str := (dAll t).shown
theorem e_repr {d : Nat} {t : Tr} (w : Wf d t) (hd : d ≤ 25) (hn : nd t ≤ 3000) : fReprE (.frz [PROG, NM, pt t]) st = some (.str (shT t), st) := by
  show (match toE st 70 (.frz [PROG, NM, pt t]) with
    | some d => if okE d then some (PV.str d.shown, st) else none
    | none => none) = _
  rw [toE_all w hd]
  show (if okE (dAll t) = true then _ else _) = _
  rw [if_pos (okE_all w hd hn)]
  rfl
theorem ep_text {d : Nat} {t : Tr} (w : Wf d t) : eqP st (.str (shT t)) (.str (shT t)) = some true := by
  have ok : PyData.strOk (shT t) = true := by
    show PyData.strOk (listText [(datP PROG).shown, dNM.shown, (datP (pt t)).shown]) = true
    refine ok_app (ok_from _ _ _ (fun x hx => ?_) (ok_of _)) (ok_of _)
    simp only [List.mem_cons, List.not_mem_nil, or_false] at hx
    rcases hx with rfl | rfl | rfl
    · exact shown_ok PROG 6 gPROG.g
    · exact dNM_ok.2.2.2
    · exact shown_ok (pt t) _ (gP w).g
  rw [eqP_s, ok]
  simp
theorem eb_ltv (r : Rs) (h : ∀ k, r = .ok k → kd k ≤ 50) : eqB st (ltv r) (ltv r) = some true := by
  have g : gd (ltv r) 60 = true := by
    cases r with
    | ok k => simp [ltv, gd, gds, gd_pk k 59 (by have := h k rfl; omega)]
    | er p =>
      have : gds (p.map PV.int) 58 = true := gds_all fun x hx => by
        obtain ⟨i, _, rfl⟩ := List.mem_map.mp hx
        simp [gd]
      simp [ltv, plP, gd, gds, this]
  have e : pairsOf st (ltv r) = none := by cases r <;> rfl
  unfold eqB
  rw [e]
  exact eqP_gd_self g
end
end J20

/-! the law -/
namespace J20
open PySem PySem.Spec PyProof.Rows L2 IL SX
noncomputable def lwN : IE := (iNew (iDict (iPCons (iC (.str S_a)) (iC (.str S_int)) (iPCons (iC (.str S_b)) (iC (.str S_text)) (iPCons (iC (.str S_c)) (iTup (iCons (iC (.str S_list)) (iCons (iC (.str S_int)) iNil))) (iPCons (iC (.str S_d)) (iC (.str S_bool)) (iPCons (iC (.str S_e)) (iTup (iCons (iC (.str S_list)) (iCons (iTup (iCons (iC (.str S_list)) (iCons (iC (.str S_text)) iNil))) iNil))) iPNil)))))))
noncomputable def lwP : IE := (iNew (iLst (iCons (iTup (iCons (iC (.str S_fn)) (iCons (iC (.str S_f)) (iCons (iNew (iLst (iCons (iTup (iCons (iC (.str S_x)) (iCons (iC (.str S_int)) iNil))) iNil))) (iCons (iC (.str S_int)) (iCons (iNew (iLst iNil)) iNil)))))) (iCons (iTup (iCons (iC (.str S_fn)) (iCons (iC (.str S_g)) (iCons (iNew (iLst (iCons (iTup (iCons (iC (.str S_x)) (iCons (iC (.str S_text)) iNil))) (iCons (iTup (iCons (iC (.str S_y)) (iCons (iC (.str S_bool)) iNil))) iNil)))) (iCons (iC (.str S_bool)) (iCons (iNew (iLst iNil)) iNil)))))) iNil))))
noncomputable def lwH : IE := (iNew (iDict (iPCons (iC (.str S_f)) (iTup (iCons (iNew (iLst (iCons (iC (.str S_int)) iNil))) (iCons (iC (.str S_int)) iNil))) (iPCons (iC (.str S_g)) (iTup (iCons (iNew (iLst (iCons (iC (.str S_text)) (iCons (iC (.str S_bool)) iNil)))) (iCons (iC (.str S_bool)) iNil))) iPNil))))
noncomputable def lwK (F : Nat → FA) : IE := (iCall (F I__law_pick) (iCons (iVar 1) (iCons (iNew (iLst (iCons (iC (.str S_int)) (iCons (iC (.str S_bool)) (iCons (iC (.str S_text)) (iCons (iC (.str S_nothing)) (iCons (iTup (iCons (iC (.str S_list)) (iCons (iC (.str S_int)) iNil))) (iCons (iTup (iCons (iC (.str S_list)) (iCons (iTup (iCons (iC (.str S_list)) (iCons (iC (.str S_text)) iNil))) iNil))) iNil)))))))) iNil)))
noncomputable def lwT (F : Nat → FA) : IS := (iAsg (gN 7) (iCall (F I__law_turned) (iCons (iVar 1) (iCons (iVar 2) (iCons (iVar 7) iNil)))))
noncomputable def lwTry (G : Nat → FX) : IS := (iCatch S_CheckError (iAsgX (gN 11) (iTupX (iConsX (iOk (iC (.str S_type))) (iConsX (iCallX (G I_type_of_expression) (iCons (iVar 3) (iCons (iVar 2) (iCons (iVar 7) iNil)))) (iOks iNil))))) 12 (fun fs => (iAsg (gN 11) (iIf (iTest (iC (.bl true))) (iTup (iCons (iC (.str S_fault)) (iCons (iExF fs S_place) iNil))) (iC .non)))) iSkip)
noncomputable def lwC (F : Nat → FA) : IT := (iOr (iTestB (iBin fNeB (iVar 11) (iVar 10))) (iTestB (iBin fNeB (iCall (a1 fReprE) (iCons (iNew (iLst (iCons (iVar 3) (iCons (iVar 2) (iCons (iVar 7) iNil))))) iNil)) (iVar 9))))
noncomputable def lwB (F : Nat → FA) (G : Nat → FX) : IS := (iSeq (iAsg (gN 6) (lwK F)) (iSeq (iAsg (gN 7) (iCall (F I__law_typed) (iCons (iVar 1) (iCons (iVar 2) (iCons (iVar 6) (iCons (iC (.int 3)) iNil)))))) (iSeq (iFor (iRange1 (iCons (iCall (F I__law_draw) (iCons (iVar 1) (iCons (iC (.int 4)) iNil))) iNil)) (gN 8) (lwT F)) (iSeq (iAsg (gN 9) (iCall (a1 fReprE) (iCons (iNew (iLst (iCons (iVar 3) (iCons (iVar 2) (iCons (iVar 7) iNil))))) iNil))) (iSeq (iAsg (gN 10) (iCall (F I__law_type_of) (iCons (iVar 4) (iCons (iVar 2) (iCons (iVar 7) (iCons (iTup (iCons (iC (.int 0)) iNil)) iNil)))))) (iSeq (lwTry G) (iIfS (lwC F) (iRet (iC (.bl false))) iSkip)))))))
theorem b_law_e (F : Nat → FA) (G : Nat → FX) : b_law F G = iSeq (iAsg (gN 1) (iCall (F I__law_state) (iCons (iVar 0) iNil))) (iSeq (iAsg (gN 2) lwN) (iSeq (iAsg (gN 3) lwP) (iSeq (iAsg (gN 4) lwH) (iSeq (iFor (iRange1 (iCons (iC (.int 3)) iNil)) (gN 5) (lwB F G)) (iRet (iC (.bl true))))))) := rfl
section
variable {s c : Nat} {st : Sto}
theorem lwN_e {env : PEnv} : lwN env st = some (NM, st) := by
  unfold lwN
  exact new_d (kvs := [(.inr S_a, .str S_int), (.inr S_b, .str S_text), (.inr S_c, .tup [.str S_list, .str S_int]), (.inr S_d, .str S_bool), (.inr S_e, .tup [.str S_list, .tup [.str S_list, .str S_text]])]) (by simp [iDict, iPCons, iPNil, keysP, keyP, mergeP, putP]) (by simp [nr, nrs])
theorem lwP_e {env : PEnv} : lwP env st = some (PROG, st) := by
  unfold lwP
  have h1 : iNew (iLst (iCons (iTup (iCons (iC (.str S_x)) (iCons (iC (.str S_int)) iNil))) iNil)) env st = some (.frz [.tup [.str S_x, .str S_int]], st) := new_l (by simp) (by simp [nr, nrs])
  have h2 : iNew (iLst (iCons (iTup (iCons (iC (.str S_x)) (iCons (iC (.str S_text)) iNil))) (iCons (iTup (iCons (iC (.str S_y)) (iCons (iC (.str S_bool)) iNil))) iNil))) env st = some (.frz [.tup [.str S_x, .str S_text], .tup [.str S_y, .str S_bool]], st) := new_l (by simp) (by simp [nr, nrs])
  have h0 : iNew (iLst iNil) env st = some (.frz [], st) := new_l (by simp) (by simp [nrs])
  exact new_l (by simp [h1, h2, h0, fns, fnP, pk]) (by simp [fns, fnP, pk, nr, nrs])
theorem lwH_e {env : PEnv} : lwH env st = some (HD, st) := by
  unfold lwH
  have h1 : ∀ S, iNew (iLst (iCons (iC (.str S_int)) iNil)) env S = some (.frz [.str S_int], S) := fun S => new_l (by simp) (by simp [nr, nrs])
  have h2 : ∀ S, iNew (iLst (iCons (iC (.str S_text)) (iCons (iC (.str S_bool)) iNil))) env S = some (.frz [.str S_text, .str S_bool], S) := fun S => new_l (by simp) (by simp [nr, nrs])
  exact new_d (kvs := [(.inr S_f, .tup [.frz [.str S_int], .str S_int]), (.inr S_g, .tup [.frz [.str S_text, .str S_bool], .str S_bool])]) (by simp [iDict, iPCons, iPNil, h1, h2, keysP, keyP, mergeP, putP]) (by simp [nr, nrs])
theorem nr_PROG : nr PROG = true := gPROG.r
theorem nr_NM : nr NM = true := by simp [nr, nrs]
def ksL : List Kd := [.int, .bool, .text, .nothing, .list .int, .list (.list .text)]
theorem ks3 {k : Kd} (h : k ∈ ksL) : kd k ≤ 3 := by
  simp only [ksL, List.mem_cons, List.not_mem_nil, or_false] at h
  rcases h with rfl | rfl | rfl | rfl | rfl | rfl <;> decide
theorem lw_pick {x0 x5 x6 x7 x8 x9 x10 x11 : Option PV} (L : LS st s c) : ∃ k s1, k ∈ ksL ∧ lwK (FF 60) [x0, some (.ref s), some NM, some PROG, some HD, x5, x6, x7, x8, x9, x10, x11, none] st = some (pk k, s1) ∧ Mv s c st s1 := by
  have hn : ∀ env, iNew (iLst (iCons (iC (.str S_int)) (iCons (iC (.str S_bool)) (iCons (iC (.str S_text)) (iCons (iC (.str S_nothing)) (iCons (iTup (iCons (iC (.str S_list)) (iCons (iC (.str S_int)) iNil))) (iCons (iTup (iCons (iC (.str S_list)) (iCons (iTup (iCons (iC (.str S_list)) (iCons (iC (.str S_text)) iNil))) iNil))) iNil))))))) env st = some (.frz (ksL.map pk), st) := fun env => new_l (by simp [ksL, pk]) (nrs_map fun k _ => nr_pk k)
  obtain ⟨k, s1, hk, e1, M⟩ := pick_k (m := 58) ksL (by simp [ksL]) (by simp [ksL]) L
  exact ⟨k, s1, hk, by unfold lwK; simp [hn, e1], M⟩
/-- the turns -/
theorem lw_turns {x0 x5 x6 x8 x9 x10 x11 : Option PV} {t : Tr} (w : Wf 9 t) (hn : nd t ≤ 511) (L : LS st s c) : ∃ t' y8 s1, iFor (iRange1 (iCons (iCall (FF 60 I__law_draw) (iCons (iVar 1) (iCons (iC (.int 4)) iNil))) iNil)) (gN 8) (lwT (FF 60)) [x0, some (.ref s), some NM, some PROG, some HD, x5, x6, some (pt t), x8, x9, x10, x11, none] st
      = some (.nx [x0, some (.ref s), some NM, some PROG, some HD, x5, x6, some (pt t'), y8, x9, x10, x11, none] s1) ∧ LS s1 s c ∧ Wf 21 t' ∧ nd t' ≤ 604 := by
  obtain ⟨q, s1, d1, q0, q1, M1⟩ := e_draw (n := 59) 4 (by omega) (by omega) L
  have hrg := range1_i (ir := iCons (iCall (FF 60 I__law_draw) (iCons (iVar 1) (iCons (iC (.int 4)) iNil))) iNil) (env := [x0, some (.ref s), some NM, some PROG, some HD, x5, x6, some (pt t), x8, x9, x10, x11, none]) (s := st) (st1 := s1) (j := q) (by simp [d1]) q0 (by omega)
  obtain ⟨e9, s9, hl, hI⟩ := loop_inv (at_ := (srcR 0 q.toNat).at_) (ig := gN 8) (body := lwT (FF 60))
    (fun i e S => LS S s c ∧ ∃ t' y8, e = [x0, some (.ref s), some NM, some PROG, some HD, x5, x6, some (pt t'), y8, x9, x10, x11, none] ∧ Wf (9 + 4 * i) t' ∧ nd t' ≤ 511 + 31 * i) q.toNat
    (fun e S _ => by rw [srcR_at, List.getElem?_eq_none (by simp)])
    (fun i e S hi ⟨hS, t', y8, he, w', n'⟩ => by
      subst he
      obtain ⟨t2, S2, f1, M2, w2, n2⟩ := turned (9 + 4 * i) 60 t' S w' (by omega) hS
      exact ⟨.int (i : Nat), _, _, S2, by rw [srcR_at, List.getElem?_map, List.getElem?_range hi]; rfl, rfl, .inl (by unfold lwT; simp [f1]), M2.ls, t2, some (.int (i : Nat)), rfl, w2.up (by omega), by omega⟩)
    ((srcR 0 q.toNat).n + 1) 0 [x0, some (.ref s), some NM, some PROG, some HD, x5, x6, some (pt t), x8, x9, x10, x11, none] s1 ⟨M1.ls, t, x8, rfl, w, by omega⟩ (Nat.zero_le _) (by simp [srcR])
  obtain ⟨hS, t', y8, rfl, w', n'⟩ := hI
  refine ⟨t', y8, s9, ?_, hS, w'.up (by omega), by omega⟩
  rw [iFor_e, hrg, ob_s]
  exact hl
theorem lw_body {x0 x5 x6 x7 x8 x9 x10 x11 : Option PV} (L : LS st s c) : ∃ y6 y7 y8 y9 y10 y11 s1, lwB (FF 60) (GG 60) [x0, some (.ref s), some NM, some PROG, some HD, x5, x6, x7, x8, x9, x10, x11, none] st
      = some (.nx [x0, some (.ref s), some NM, some PROG, some HD, x5, y6, y7, y8, y9, y10, y11, none] s1) ∧ LS s1 s c := by
  obtain ⟨k, s1, hk, e1, M1⟩ := lw_pick (x0 := x0) (x5 := x5) (x6 := x6) (x7 := x7) (x8 := x8) (x9 := x9) (x10 := x10) (x11 := x11) L
  obtain ⟨t0, s2, f1, M2, w0⟩ := ty_all 3 60 (by omega) k s1 (ks3 hk) M1.ls
  have f1 : FF 60 I__law_typed [.ref s, NM, pk k, .int 3] s1 = some (pt t0, s2) := f1
  have n0 := nd_wf w0
  obtain ⟨t, y8, s3, f2, L3, w, hn⟩ := lw_turns (x0 := x0) (x5 := x5) (x6 := some (pk k)) (x8 := x8) (x9 := x9) (x10 := x10) (x11 := x11) (w0.up (e := 9) (by omega)) (by have : 2 ^ 9 = 512 := rfl; omega) M2.ls
  have hl : ∀ (S : Sto) (a b c' d e f : Option PV), iNew (iLst (iCons (iVar 3) (iCons (iVar 2) (iCons (iVar 7) iNil)))) [x0, some (.ref s), some NM, some PROG, some HD, x5, a, some (pt t), b, c', d, e, f] S = some (.frz [PROG, NM, pt t], S) := fun S a b c' d e f => new_l (by simp) (by simp only [nrs, nr_PROG, nr_NM, nr_pt w, Bool.and_self])
  have hr : ∀ S, fReprE (.frz [PROG, NM, pt t]) S = some (.str (shT t), S) := fun S => e_repr w (by omega) (by omega)
  have f3 := e_ltype 21 35 t [0] s3 w (by simp)
  have f3 : FF 60 I__law_type_of [HD, NM, pt t, .tup [.int 0]] s3 = some (ltv (ty 21 t [0]), s3) := f3
  have f4 := e_toe (n := 34) (st := s3) w (by omega)
  have hb : ∃ y11 s4, LS s4 s c ∧ y11 = ltv (ty 21 t [0]) ∧ lwTry (GG 60) [x0, some (.ref s), some NM, some PROG, some HD, x5, some (pk k), some (pt t), y8, some (.str (shT t)), some (ltv (ty 21 t [0])), x11, none] s3 = some (.nx [x0, some (.ref s), some NM, some PROG, some HD, x5, some (pk k), some (pt t), y8, some (.str (shT t)), some (ltv (ty 21 t [0])), some y11, none] s4) := by
    cases hty : ty 21 t [0] with
    | ok q =>
      rw [hty] at f4
      have f4 : GG 60 I_type_of_expression [PROG, NM, pt t] s3 = some (.ok (pk q), s3) := f4
      refine ⟨_, s3, L3, rfl, ?_⟩
      unfold lwTry iCatch
      simp [f4, ltv]
    | er p =>
      rw [hty] at f4
      obtain ⟨l, f4⟩ := f4
      have f4 : GG 60 I_type_of_expression [PROG, NM, pt t] s3 = some (.er S_CheckError [(S_place, plP p)], s3 ++ l) := f4
      refine ⟨_, s3 ++ l, L3.app, rfl, ?_⟩
      unfold lwTry iCatch
      simp [f4, ltv]
  obtain ⟨y11, s4, L4, rfl, hb⟩ := hb
  have hne := eb_ltv (st := s4) (ty 21 t [0]) fun q hq => by have := ty_kd 21 t [0] q w hq; omega
  have hnt := ep_text (st := s4) w
  have hc : lwC (FF 60) [x0, some (.ref s), some NM, some PROG, some HD, x5, some (pk k), some (pt t), y8, some (.str (shT t)), some (ltv (ty 21 t [0])), some (ltv (ty 21 t [0])), none] s4 = some (false, s4) := by
    unfold lwC
    simp [hne, hl, hr, hnt]
  refine ⟨some (pk k), some (pt t), y8, some (.str (shT t)), some (ltv (ty 21 t [0])), some (ltv (ty 21 t [0])), s4, ?_, L4⟩
  unfold lwB
  rw [asg_seq e1]
  show iSeq _ _ [x0, some (.ref s), some NM, some PROG, some HD, x5, some (pk k), x7, x8, x9, x10, x11, none] s1 = _
  rw [asg_seq (x := pt t0) (s2 := s2) (by simp [f1])]
  show iSeq _ _ [x0, some (.ref s), some NM, some PROG, some HD, x5, some (pk k), some (pt t0), x8, x9, x10, x11, none] s2 = _
  rw [iSeq_e, f2]
  show iSeq _ _ [x0, some (.ref s), some NM, some PROG, some HD, x5, some (pk k), some (pt t), y8, x9, x10, x11, none] s3 = _
  rw [asg_seq (x := .str (shT t)) (s2 := s3) (by simp [hl, hr])]
  show iSeq _ _ [x0, some (.ref s), some NM, some PROG, some HD, x5, some (pk k), some (pt t), y8, some (.str (shT t)), x10, x11, none] s3 = _
  rw [asg_seq (x := ltv (ty 21 t [0])) (s2 := s3) (by simp [f3])]
  show iSeq _ _ [x0, some (.ref s), some NM, some PROG, some HD, x5, some (pk k), some (pt t), y8, some (.str (shT t)), some (ltv (ty 21 t [0])), x11, none] s3 = _
  rw [iSeq_e, hb]
  show iIfS _ _ _ _ _ = _
  rw [iIfS_e, hc]
  rfl
end
theorem e_all (ns : List Int) (hn : ns.length ≤ 63) : ∃ s', FF 61 I_law [.frz (ns.map .int)] [] = some (.bl true, s') := by
  obtain ⟨s, c, s1, h1, L1⟩ := e_state (n := 59) hn
  obtain ⟨x0, hx0⟩ : ∃ x0 : Option PV, x0 = some (.frz (ns.map .int)) := ⟨_, rfl⟩
  have e1 : iCall (FF 60 I__law_state) (iCons (iVar 0) iNil) [x0, none, none, none, none, none, none, none, none, none, none, none, none] [] = some (.ref s, s1) := by
    rw [hx0]
    simp only [iCall_e, iCons_e, iNil_e, iVar_e, ob_s, List.getElem?_cons_zero]
    exact h1
  obtain ⟨e9, s9, hl, hI⟩ := loop_inv (at_ := (srcR 0 3).at_) (ig := gN 5) (body := lwB (FF 60) (GG 60))
    (fun _ e S => LS S s c ∧ ∃ x5 x6 x7 x8 x9 x10 x11 : Option PV, e = [x0, some (.ref s), some NM, some PROG, some HD, x5, x6, x7, x8, x9, x10, x11, none]) 3
    (fun e S _ => by rw [srcR_at, List.getElem?_eq_none (by simp)])
    (fun i e S hi ⟨hS, x5, x6, x7, x8, x9, x10, x11, he⟩ => by
      subst he
      obtain ⟨y6, y7, y8, y9, y10, y11, S', g1, g2⟩ := lw_body (x0 := x0) (x5 := some (.int (i : Nat))) (x6 := x6) (x7 := x7) (x8 := x8) (x9 := x9) (x10 := x10) (x11 := x11) hS
      exact ⟨.int (i : Nat), _, _, S', by rw [srcR_at, List.getElem?_map, List.getElem?_range hi]; rfl, rfl, .inl g1, g2, some (.int (i : Nat)), y6, y7, y8, y9, y10, y11, rfl⟩)
    4 0 [x0, some (.ref s), some NM, some PROG, some HD, none, none, none, none, none, none, none, none] s1 ⟨L1, none, none, none, none, none, none, none, rfl⟩ (Nat.zero_le _) (by omega)
  have hfor : iFor (iRange1 (iCons (iC (.int 3)) iNil)) (gN 5) (lwB (FF 60) (GG 60)) [x0, some (.ref s), some NM, some PROG, some HD, none, none, none, none, none, none, none, none] s1 = some (.nx e9 s9) := by
    have hrg := range1_i (ir := iCons (iC (.int 3)) iNil) (env := [x0, some (.ref s), some NM, some PROG, some HD, none, none, none, none, none, none, none, none]) (s := s1) (st1 := s1) (j := 3) rfl (by omega) (by omega)
    rw [iFor_e, hrg, ob_s]
    exact hl
  have hb : b_law (FF 60) (GG 60) [x0, none, none, none, none, none, none, none, none, none, none, none, none] [] = some (.rt (.bl true) s9) := by
    rw [b_law_e, asg_seq e1]
    show iSeq _ _ [x0, some (.ref s), none, none, none, none, none, none, none, none, none, none, none] s1 = _
    rw [asg_seq lwN_e]
    show iSeq _ _ [x0, some (.ref s), some NM, none, none, none, none, none, none, none, none, none, none] s1 = _
    rw [asg_seq lwP_e]
    show iSeq _ _ [x0, some (.ref s), some NM, some PROG, none, none, none, none, none, none, none, none, none] s1 = _
    rw [asg_seq lwH_e]
    show iSeq _ _ [x0, some (.ref s), some NM, some PROG, some HD, none, none, none, none, none, none, none, none] s1 = _
    rw [iSeq_e, hfor]
    rfl
  have e := e_law 60
  rw [e]
  rw [hx0] at hb
  exact ⟨_, def_rt (n := 1) rfl hb⟩
end J20

namespace J20
open PySem PySem.Spec PyProof.Rows L2 IL
theorem calX_zero {P : Program} {w : World} {K : PySem.W.Frag} {mg : Str → Option Value} {base : Heap} {k : Nat} {x : Str} {st : Stmt} {f : Addr} {fd : FuncData} {ps : List Str} (F : C8.Def K mg x st f fd) (b : Binds K fd ps []) : CalX P w K mg base k x ps.length (fun _ _ => none) :=
  ⟨f, fd, ps, ⟨fun vs H Q E h => h.1, fun A outer s H args us vs Q E hr e0 hb r h => by obtain ⟨_, _, _, _, _, _, _, q, _⟩ := h; cases q⟩, F.mgf, F.kp, b⟩
/-- what is raised by a class is caught by its name -/
theorem caught_own {K : PySem.W.Frag} {C : Addr} (isC : PySem.W.isClsIn K C = true) (own : PySem.W.subIn K (.ref C) (.ref C) = some true) (exc : PySem.W.subIn K (.ref C) (.type "BaseException") = some true) (ty : PySem.W.typeIn K (.ref C) = some (.type "type")) : PySem.W.exmOne K (.ref C) (.ref C) = some true := by
  have isC' : (PySem.W.clsIn K C).isSome = true := isC
  simp only [PySem.W.exmOne, PySem.W.kitCls, exc, ty, isC', own, beq_self_eq_true, Bool.and_self, if_true]
theorem kit_own {K : PySem.W.Frag} {C D : Addr} (isD : PySem.W.isClsIn K D = true) (ty : PySem.W.typeIn K (.ref D) = some (.type "type")) (sub : PySem.W.subIn K (.ref C) (.ref D) = some true) : PySem.W.kitOne K (.ref C) (.ref D) = some true := by
  have isD' : (PySem.W.clsIn K D).isSome = true := isD
  unfold PySem.W.kitOne
  split
  · rfl
  · simp only [PySem.W.kitCls, ty, isD', sub, beq_self_eq_true, Bool.and_self, if_true]
set_option maxHeartbeats 0 in
theorem all_mk {P : Program} {w : World} {K : PySem.W.Frag} {h : Heap} {mg : Str → Option Value} {fa : Addr} (X : K.In h) (G : h.Ns mainGlobals mg) (hfa : mg "law" = some (.ref fa))
    {f0 f1 f2 f3 f4 f5 f6 f7 f8 f9 f10 f11 f12 f13 f14 f15 f16 f17 f18 f19 f20 f21 f22 f23 f24 f25 f26 C_CheckError B_FlowError fI_CheckError E_FlowError : Addr} {od0 an0 od1 an1 od2 an2 od3 an3 od4 an4 od5 an5 od6 an6 od7 an7 od8 an8 od9 an9 od10 an10 od11 an11 od12 an12 od13 an13 od14 an14 od15 an15 od16 an16 od17 an17 od18 an18 od19 an19 od20 an20 od21 an21 od22 an22 od23 an23 od24 an24 od25 an25 od26 an26 odI_CheckError anI_CheckError : Option Addr} {sl0 sl1 sl2 sl3 sl4 sl5 sl6 sl7 sl8 sl9 sl10 sl11 sl12 sl13 sl14 sl15 sl16 sl17 sl18 sl19 sl20 sl21 sl22 sl23 sl24 sl25 sl26 slI_CheckError : Array (Option Value)} {oc0 kV0 dc0 pm0 cd0 ct0 oc1 kV1 dc1 pm1 cd1 ct1 oc2 kV2 dc2 pm2 cd2 ct2 oc3 kV3 dc3 pm3 cd3 ct3 oc4 kV4 dc4 pm4 cd4 ct4 oc5 kV5 dc5 pm5 cd5 ct5 oc6 kV6 dc6 pm6 cd6 ct6 oc7 kV7 dc7 pm7 cd7 ct7 oc8 kV8 dc8 pm8 cd8 ct8 oc9 kV9 dc9 pm9 cd9 ct9 oc10 kV10 dc10 pm10 cd10 ct10 oc11 kV11 dc11 pm11 cd11 ct11 oc12 kV12 dc12 pm12 cd12 ct12 oc13 kV13 dc13 pm13 cd13 ct13 oc14 kV14 dc14 pm14 cd14 ct14 oc15 kV15 dc15 pm15 cd15 ct15 oc16 kV16 dc16 pm16 cd16 ct16 oc17 kV17 dc17 pm17 cd17 ct17 oc18 kV18 dc18 pm18 cd18 ct18 oc19 kV19 dc19 pm19 cd19 ct19 oc20 kV20 dc20 pm20 cd20 ct20 oc21 kV21 dc21 pm21 cd21 ct21 oc22 kV22 dc22 pm22 cd22 ct22 oc23 kV23 dc23 pm23 cd23 ct23 oc24 kV24 dc24 pm24 cd24 ct24 oc25 kV25 dc25 pm25 cd25 ct25 oc26 kV26 dc26 pm26 cd26 ct26 u_LITERALS u_OF_ONE_PART u_TRUTH_SIGNS mc_FlowError ocI_CheckError kVI_CheckError dcI_CheckError pmI_CheckError cdI_CheckError ctI_CheckError : Value}
    {nm_CheckError q_CheckError : Str} {N_CheckError : Addr} {bs_CheckError bm_CheckError : List Value} {sn_CheckError : List Str} {sub_CheckError : List Value} {ab_CheckError : Bool} {col_CheckError : Option Bool} {dd_CheckError : Option Addr} {m0_CheckError m1_CheckError m2_CheckError m3_CheckError m5_CheckError : Option Value}
    (a0 : PySem.W.nsIn K mainGlobals "parts_of" = some (some (.ref f0)))
    (l0 : K.lookup f0 = some ⟨oc0, od0, .func (PySem.W.fnOf "parts_of" "parts_of" (C8.fnArgs s_parts_of) (C8.fnBody s_parts_of) (C8.fnScope s_parts_of) .none kV0 dc0 pm0 an0 cd0 ct0), sl0⟩) (c0 : PySem.W.codeIn K cd0 "parts_of" = true) (k0 : PySem.W.keepIn K (.ref f0) = true)
    (a1 : PySem.W.nsIn K mainGlobals "_awaited_parts" = some (some (.ref f1)))
    (l1 : K.lookup f1 = some ⟨oc1, od1, .func (PySem.W.fnOf "_awaited_parts" "_awaited_parts" (C8.fnArgs s__awaited_parts) (C8.fnBody s__awaited_parts) (C8.fnScope s__awaited_parts) .none kV1 dc1 pm1 an1 cd1 ct1), sl1⟩) (c1 : PySem.W.codeIn K cd1 "_awaited_parts" = true) (k1 : PySem.W.keepIn K (.ref f1) = true)
    (a2 : PySem.W.nsIn K mainGlobals "signatures" = some (some (.ref f2)))
    (l2 : K.lookup f2 = some ⟨oc2, od2, .func (PySem.W.fnOf "signatures" "signatures" (C8.fnArgs s_signatures) (C8.fnBody s_signatures) (C8.fnScope s_signatures) .none kV2 dc2 pm2 an2 cd2 ct2), sl2⟩) (c2 : PySem.W.codeIn K cd2 "signatures" = true) (k2 : PySem.W.keepIn K (.ref f2) = true)
    (a3 : PySem.W.nsIn K mainGlobals "is_list_kind" = some (some (.ref f3)))
    (l3 : K.lookup f3 = some ⟨oc3, od3, .func (PySem.W.fnOf "is_list_kind" "is_list_kind" (C8.fnArgs s_is_list_kind) (C8.fnBody s_is_list_kind) (C8.fnScope s_is_list_kind) .none kV3 dc3 pm3 an3 cd3 ct3), sl3⟩) (c3 : PySem.W.codeIn K cd3 "is_list_kind" = true) (k3 : PySem.W.keepIn K (.ref f3) = true)
    (a4 : PySem.W.nsIn K mainGlobals "made_by_sign" = some (some (.ref f4)))
    (l4 : K.lookup f4 = some ⟨oc4, od4, .func (PySem.W.fnOf "made_by_sign" "made_by_sign" (C8.fnArgs s_made_by_sign) (C8.fnBody s_made_by_sign) (C8.fnScope s_made_by_sign) .none kV4 dc4 pm4 an4 cd4 ct4), sl4⟩) (c4 : PySem.W.codeIn K cd4 "made_by_sign" = true) (k4 : PySem.W.keepIn K (.ref f4) = true)
    (a5 : PySem.W.nsIn K mainGlobals "made_by_word" = some (some (.ref f5)))
    (l5 : K.lookup f5 = some ⟨oc5, od5, .func (PySem.W.fnOf "made_by_word" "made_by_word" (C8.fnArgs s_made_by_word) (C8.fnBody s_made_by_word) (C8.fnScope s_made_by_word) .none kV5 dc5 pm5 an5 cd5 ct5), sl5⟩) (c5 : PySem.W.codeIn K cd5 "made_by_word" = true) (k5 : PySem.W.keepIn K (.ref f5) = true)
    (a6 : PySem.W.nsIn K mainGlobals "called" = some (some (.ref f6)))
    (l6 : K.lookup f6 = some ⟨oc6, od6, .func (PySem.W.fnOf "called" "called" (C8.fnArgs s_called) (C8.fnBody s_called) (C8.fnScope s_called) .none kV6 dc6 pm6 an6 cd6 ct6), sl6⟩) (c6 : PySem.W.codeIn K cd6 "called" = true) (k6 : PySem.W.keepIn K (.ref f6) = true)
    (a7 : PySem.W.nsIn K mainGlobals "listed" = some (some (.ref f7)))
    (l7 : K.lookup f7 = some ⟨oc7, od7, .func (PySem.W.fnOf "listed" "listed" (C8.fnArgs s_listed) (C8.fnBody s_listed) (C8.fnScope s_listed) .none kV7 dc7 pm7 an7 cd7 ct7), sl7⟩) (c7 : PySem.W.codeIn K cd7 "listed" = true) (k7 : PySem.W.keepIn K (.ref f7) = true)
    (a8 : PySem.W.nsIn K mainGlobals "type_of_expression" = some (some (.ref f8)))
    (l8 : K.lookup f8 = some ⟨oc8, od8, .func (PySem.W.fnOf "type_of_expression" "type_of_expression" (C8.fnArgs s_type_of_expression) (C8.fnBody s_type_of_expression) (C8.fnScope s_type_of_expression) .none kV8 dc8 pm8 an8 cd8 ct8), sl8⟩) (c8 : PySem.W.codeIn K cd8 "type_of_expression" = true) (k8 : PySem.W.keepIn K (.ref f8) = true)
    (a9 : PySem.W.nsIn K mainGlobals "_kind_of" = some (some (.ref f9)))
    (l9 : K.lookup f9 = some ⟨oc9, od9, .func (PySem.W.fnOf "_kind_of" "_kind_of" (C8.fnArgs s__kind_of) (C8.fnBody s__kind_of) (C8.fnScope s__kind_of) .none kV9 dc9 pm9 an9 cd9 ct9), sl9⟩) (c9 : PySem.W.codeIn K cd9 "_kind_of" = true) (k9 : PySem.W.keepIn K (.ref f9) = true)
    (a10 : PySem.W.nsIn K mainGlobals "_made_kind" = some (some (.ref f10)))
    (l10 : K.lookup f10 = some ⟨oc10, od10, .func (PySem.W.fnOf "_made_kind" "_made_kind" (C8.fnArgs s__made_kind) (C8.fnBody s__made_kind) (C8.fnScope s__made_kind) .none kV10 dc10 pm10 an10 cd10 ct10), sl10⟩) (c10 : PySem.W.codeIn K cd10 "_made_kind" = true) (k10 : PySem.W.keepIn K (.ref f10) = true)
    (a11 : PySem.W.nsIn K mainGlobals "_kind_by_sign" = some (some (.ref f11)))
    (l11 : K.lookup f11 = some ⟨oc11, od11, .func (PySem.W.fnOf "_kind_by_sign" "_kind_by_sign" (C8.fnArgs s__kind_by_sign) (C8.fnBody s__kind_by_sign) (C8.fnScope s__kind_by_sign) .none kV11 dc11 pm11 an11 cd11 ct11), sl11⟩) (c11 : PySem.W.codeIn K cd11 "_kind_by_sign" = true) (k11 : PySem.W.keepIn K (.ref f11) = true)
    (a12 : PySem.W.nsIn K mainGlobals "_awaited_kind" = some (some (.ref f12)))
    (l12 : K.lookup f12 = some ⟨oc12, od12, .func (PySem.W.fnOf "_awaited_kind" "_awaited_kind" (C8.fnArgs s__awaited_kind) (C8.fnBody s__awaited_kind) (C8.fnScope s__awaited_kind) .none kV12 dc12 pm12 an12 cd12 ct12), sl12⟩) (c12 : PySem.W.codeIn K cd12 "_awaited_kind" = true) (k12 : PySem.W.keepIn K (.ref f12) = true)
    (a13 : PySem.W.nsIn K mainGlobals "_law_state" = some (some (.ref f13)))
    (l13 : K.lookup f13 = some ⟨oc13, od13, .func (PySem.W.fnOf "_law_state" "_law_state" (C8.fnArgs s__law_state) (C8.fnBody s__law_state) (C8.fnScope s__law_state) .none kV13 dc13 pm13 an13 cd13 ct13), sl13⟩) (c13 : PySem.W.codeIn K cd13 "_law_state" = true) (k13 : PySem.W.keepIn K (.ref f13) = true)
    (a14 : PySem.W.nsIn K mainGlobals "_law_draw" = some (some (.ref f14)))
    (l14 : K.lookup f14 = some ⟨oc14, od14, .func (PySem.W.fnOf "_law_draw" "_law_draw" (C8.fnArgs s__law_draw) (C8.fnBody s__law_draw) (C8.fnScope s__law_draw) .none kV14 dc14 pm14 an14 cd14 ct14), sl14⟩) (c14 : PySem.W.codeIn K cd14 "_law_draw" = true) (k14 : PySem.W.keepIn K (.ref f14) = true)
    (a15 : PySem.W.nsIn K mainGlobals "_law_pick" = some (some (.ref f15)))
    (l15 : K.lookup f15 = some ⟨oc15, od15, .func (PySem.W.fnOf "_law_pick" "_law_pick" (C8.fnArgs s__law_pick) (C8.fnBody s__law_pick) (C8.fnScope s__law_pick) .none kV15 dc15 pm15 an15 cd15 ct15), sl15⟩) (c15 : PySem.W.codeIn K cd15 "_law_pick" = true) (k15 : PySem.W.keepIn K (.ref f15) = true)
    (a16 : PySem.W.nsIn K mainGlobals "_law_parts" = some (some (.ref f16)))
    (l16 : K.lookup f16 = some ⟨oc16, od16, .func (PySem.W.fnOf "_law_parts" "_law_parts" (C8.fnArgs s__law_parts) (C8.fnBody s__law_parts) (C8.fnScope s__law_parts) .none kV16 dc16 pm16 an16 cd16 ct16), sl16⟩) (c16 : PySem.W.codeIn K cd16 "_law_parts" = true) (k16 : PySem.W.keepIn K (.ref f16) = true)
    (a17 : PySem.W.nsIn K mainGlobals "_law_is_list" = some (some (.ref f17)))
    (l17 : K.lookup f17 = some ⟨oc17, od17, .func (PySem.W.fnOf "_law_is_list" "_law_is_list" (C8.fnArgs s__law_is_list) (C8.fnBody s__law_is_list) (C8.fnScope s__law_is_list) .none kV17 dc17 pm17 an17 cd17 ct17), sl17⟩) (c17 : PySem.W.codeIn K cd17 "_law_is_list" = true) (k17 : PySem.W.keepIn K (.ref f17) = true)
    (a18 : PySem.W.nsIn K mainGlobals "_law_type_of" = some (some (.ref f18)))
    (l18 : K.lookup f18 = some ⟨oc18, od18, .func (PySem.W.fnOf "_law_type_of" "_law_type_of" (C8.fnArgs s__law_type_of) (C8.fnBody s__law_type_of) (C8.fnScope s__law_type_of) .none kV18 dc18 pm18 an18 cd18 ct18), sl18⟩) (c18 : PySem.W.codeIn K cd18 "_law_type_of" = true) (k18 : PySem.W.keepIn K (.ref f18) = true)
    (a19 : PySem.W.nsIn K mainGlobals "_law_rule" = some (some (.ref f19)))
    (l19 : K.lookup f19 = some ⟨oc19, od19, .func (PySem.W.fnOf "_law_rule" "_law_rule" (C8.fnArgs s__law_rule) (C8.fnBody s__law_rule) (C8.fnScope s__law_rule) .none kV19 dc19 pm19 an19 cd19 ct19), sl19⟩) (c19 : PySem.W.codeIn K cd19 "_law_rule" = true) (k19 : PySem.W.keepIn K (.ref f19) = true)
    (a20 : PySem.W.nsIn K mainGlobals "_law_sign_rule" = some (some (.ref f20)))
    (l20 : K.lookup f20 = some ⟨oc20, od20, .func (PySem.W.fnOf "_law_sign_rule" "_law_sign_rule" (C8.fnArgs s__law_sign_rule) (C8.fnBody s__law_sign_rule) (C8.fnScope s__law_sign_rule) .none kV20 dc20 pm20 an20 cd20 ct20), sl20⟩) (c20 : PySem.W.codeIn K cd20 "_law_sign_rule" = true) (k20 : PySem.W.keepIn K (.ref f20) = true)
    (a21 : PySem.W.nsIn K mainGlobals "_law_typed" = some (some (.ref f21)))
    (l21 : K.lookup f21 = some ⟨oc21, od21, .func (PySem.W.fnOf "_law_typed" "_law_typed" (C8.fnArgs s__law_typed) (C8.fnBody s__law_typed) (C8.fnScope s__law_typed) .none kV21 dc21 pm21 an21 cd21 ct21), sl21⟩) (c21 : PySem.W.codeIn K cd21 "_law_typed" = true) (k21 : PySem.W.keepIn K (.ref f21) = true)
    (a22 : PySem.W.nsIn K mainGlobals "_law_typed_int" = some (some (.ref f22)))
    (l22 : K.lookup f22 = some ⟨oc22, od22, .func (PySem.W.fnOf "_law_typed_int" "_law_typed_int" (C8.fnArgs s__law_typed_int) (C8.fnBody s__law_typed_int) (C8.fnScope s__law_typed_int) .none kV22 dc22 pm22 an22 cd22 ct22), sl22⟩) (c22 : PySem.W.codeIn K cd22 "_law_typed_int" = true) (k22 : PySem.W.keepIn K (.ref f22) = true)
    (a23 : PySem.W.nsIn K mainGlobals "_law_typed_bool" = some (some (.ref f23)))
    (l23 : K.lookup f23 = some ⟨oc23, od23, .func (PySem.W.fnOf "_law_typed_bool" "_law_typed_bool" (C8.fnArgs s__law_typed_bool) (C8.fnBody s__law_typed_bool) (C8.fnScope s__law_typed_bool) .none kV23 dc23 pm23 an23 cd23 ct23), sl23⟩) (c23 : PySem.W.codeIn K cd23 "_law_typed_bool" = true) (k23 : PySem.W.keepIn K (.ref f23) = true)
    (a24 : PySem.W.nsIn K mainGlobals "_law_with" = some (some (.ref f24)))
    (l24 : K.lookup f24 = some ⟨oc24, od24, .func (PySem.W.fnOf "_law_with" "_law_with" (C8.fnArgs s__law_with) (C8.fnBody s__law_with) (C8.fnScope s__law_with) .none kV24 dc24 pm24 an24 cd24 ct24), sl24⟩) (c24 : PySem.W.codeIn K cd24 "_law_with" = true) (k24 : PySem.W.keepIn K (.ref f24) = true)
    (a25 : PySem.W.nsIn K mainGlobals "_law_turned" = some (some (.ref f25)))
    (l25 : K.lookup f25 = some ⟨oc25, od25, .func (PySem.W.fnOf "_law_turned" "_law_turned" (C8.fnArgs s__law_turned) (C8.fnBody s__law_turned) (C8.fnScope s__law_turned) .none kV25 dc25 pm25 an25 cd25 ct25), sl25⟩) (c25 : PySem.W.codeIn K cd25 "_law_turned" = true) (k25 : PySem.W.keepIn K (.ref f25) = true)
    (a26 : PySem.W.nsIn K mainGlobals "law" = some (some (.ref f26)))
    (l26 : K.lookup f26 = some ⟨oc26, od26, .func (PySem.W.fnOf "law" "law" (C8.fnArgs s_law) (C8.fnBody s_law) (C8.fnScope s_law) .none kV26 dc26 pm26 an26 cd26 ct26), sl26⟩) (c26 : PySem.W.codeIn K cd26 "law" = true) (k26 : PySem.W.keepIn K (.ref f26) = true)
    (z_abs : PySem.W.nsIn K mainGlobals "abs" = some none)
    (z_all : PySem.W.nsIn K mainGlobals "all" = some none)
    (z_enumerate : PySem.W.nsIn K mainGlobals "enumerate" = some none)
    (z_int : PySem.W.nsIn K mainGlobals "int" = some none)
    (z_isinstance : PySem.W.nsIn K mainGlobals "isinstance" = some none)
    (z_len : PySem.W.nsIn K mainGlobals "len" = some none)
    (z_list : PySem.W.nsIn K mainGlobals "list" = some none)
    (z_range : PySem.W.nsIn K mainGlobals "range" = some none)
    (z_repr : PySem.W.nsIn K mainGlobals "repr" = some none)
    (z_sorted : PySem.W.nsIn K mainGlobals "sorted" = some none)
    (z_tuple : PySem.W.nsIn K mainGlobals "tuple" = some none)
    (n_LITERALS : PySem.W.nsIn K mainGlobals "LITERALS" = some (some u_LITERALS)) (v_LITERALS : KVal K u_LITERALS c_LITERALS)
    (n_OF_ONE_PART : PySem.W.nsIn K mainGlobals "OF_ONE_PART" = some (some u_OF_ONE_PART)) (v_OF_ONE_PART : KVal K u_OF_ONE_PART c_OF_ONE_PART)
    (n_TRUTH_SIGNS : PySem.W.nsIn K mainGlobals "TRUTH_SIGNS" = some (some u_TRUTH_SIGNS)) (v_TRUTH_SIGNS : KVal K u_TRUTH_SIGNS c_TRUTH_SIGNS)
    (a_CheckError : ClsAt K "CheckError" C_CheckError) (xl_CheckError : K.lookup C_CheckError = some (excClassObj nm_CheckError q_CheckError C_CheckError N_CheckError bs_CheckError bm_CheckError true sn_CheckError sub_CheckError ab_CheckError col_CheckError dd_CheckError m0_CheckError m1_CheckError m2_CheckError m3_CheckError m5_CheckError "ValueError.__new__")) (xr_CheckError : PySem.HandSPX.refsVE bm_CheckError = true)
    (sa_CheckError : PySem.W.findIn K (.ref C_CheckError) "__setattr__" = some (some (.builtin "object.__setattr__"))) (ga_CheckError : PySem.W.findIn K (.ref C_CheckError) "__getattribute__" = some (some (.builtin "BaseException.__getattribute__"))) (gg_CheckError : PySem.W.findIn K (.ref C_CheckError) "__getattr__" = some none) (ke_CheckError : PySem.W.keepIn K (.ref C_CheckError) = true) (eC_CheckError : PySem.W.subIn K (.ref C_CheckError) (.type "BaseException") = some true) (tC_CheckError : PySem.W.typeIn K (.ref C_CheckError) = some (.type "type")) (hC_CheckError : PySem.W.hasDictIn K C_CheckError = true)
    (no_CheckError_place : PySem.W.findIn K (.ref C_CheckError) "place" = some none)
    (b_FlowError : ClsAt K "FlowError" B_FlowError) (sp_FlowError : PySem.W.specialIn K (.ref B_FlowError) "__getattribute__" = some (some (.builtin "type.__getattribute__"))) (rd_FlowError : PySem.W.readsIn K B_FlowError mc_FlowError = true) (vV_FlowError : PySem.W.findCls K (.ref B_FlowError) mc_FlowError "__init__" = some (.val (.builtin "ValueError.__init__")))
    (aI_CheckError : PySem.W.findIn K (.ref C_CheckError) "__init__" = some (some (.ref fI_CheckError))) (tI_CheckError : PySem.W.typeIn K (.ref fI_CheckError) = some (.type "function")) (lI_CheckError : K.lookup fI_CheckError = some ⟨ocI_CheckError, odI_CheckError, .func (PySem.W.fnOf "__init__" "CheckError.__init__" (C8.fnArgs s_CheckError___init__) (C8.fnBody s_CheckError___init__) (C8.fnScope s_CheckError___init__) .none kVI_CheckError dcI_CheckError pmI_CheckError anI_CheckError cdI_CheckError ctI_CheckError), slI_CheckError⟩) (cI_CheckError : PySem.W.codeIn K cdI_CheckError "CheckError.__init__" = true)
    (is_CheckError : PySem.W.isClsIn K C_CheckError = true) (se_CheckError : PySem.W.subIn K (.ref C_CheckError) (.ref C_CheckError) = some true)
    (cc_CheckError : PySem.W.findIn K (.ref C_CheckError) "__class__" = some (some (.builtin "object.__class__"))) (cm_CheckError : PySem.W.mroIn K C_CheckError (.type "object") = some true)
    (cg : PySem.W.specialIn K (.builtin "object.__class__") "__get__" = some (some (.builtin "getset_descriptor.__get__"))) (ck : PySem.W.takesIn K (.builtin "object.__class__") = some true)
    (e_FlowError : ClsAt K "FlowError" E_FlowError) (ei_FlowError : PySem.W.isClsIn K E_FlowError = true) (et_FlowError : PySem.W.typeIn K (.ref E_FlowError) = some (.type "type"))
    (ek_CheckError_FlowError : PySem.W.subIn K (.ref C_CheckError) (.ref E_FlowError) = some true)
    : ∃ fd : FuncData, (∀ (s : Shared) (v : Value), BindsTo s fd ⟨[v], []⟩ [("script", v)]) ∧ ∀ base : Heap, K.In base → base.Ns mainGlobals mg → LawOk P w K mg base fa fd "script" (spLaw K) := by
  have e := hfa.symm.trans (PySem.W.mg_of X G a26)
  cases e
  have D0 := def_mk (st := s_parts_of) X G a0 l0 c0 k0
  have B0 := D0.fn.binds rfl (ps := ["tree"]) fun _ _ _ _ _ _ us hl => match us, hl with | [_], _ => rfl
  have D1 := def_mk (st := s__awaited_parts) X G a1 l1 c1 k1
  have B1 := D1.fn.binds rfl (ps := ["tree"]) fun _ _ _ _ _ _ us hl => match us, hl with | [_], _ => rfl
  have D2 := def_mk (st := s_signatures) X G a2 l2 c2 k2
  have B2 := D2.fn.binds rfl (ps := ["program"]) fun _ _ _ _ _ _ us hl => match us, hl with | [_], _ => rfl
  have D3 := def_mk (st := s_is_list_kind) X G a3 l3 c3 k3
  have B3 := D3.fn.binds rfl (ps := ["kind"]) fun _ _ _ _ _ _ us hl => match us, hl with | [_], _ => rfl
  have D4 := def_mk (st := s_made_by_sign) X G a4 l4 c4 k4
  have B4 := D4.fn.binds rfl (ps := ["sign", "one", "other"]) fun _ _ _ _ _ _ us hl => match us, hl with | [_, _, _], _ => rfl
  have D5 := def_mk (st := s_made_by_word) X G a5 l5 c5 k5
  have B5 := D5.fn.binds rfl (ps := ["word", "kinds"]) fun _ _ _ _ _ _ us hl => match us, hl with | [_, _], _ => rfl
  have D6 := def_mk (st := s_called) X G a6 l6 c6 k6
  have B6 := D6.fn.binds rfl (ps := ["name", "kinds", "signatures"]) fun _ _ _ _ _ _ us hl => match us, hl with | [_, _, _], _ => rfl
  have D7 := def_mk (st := s_listed) X G a7 l7 c7 k7
  have B7 := D7.fn.binds rfl (ps := ["kind", "kinds"]) fun _ _ _ _ _ _ us hl => match us, hl with | [_, _], _ => rfl
  have D8 := def_mk (st := s_type_of_expression) X G a8 l8 c8 k8
  have B8 := D8.fn.binds rfl (ps := ["program", "names", "tree"]) fun _ _ _ _ _ _ us hl => match us, hl with | [_, _, _], _ => rfl
  have D9 := def_mk (st := s__kind_of) X G a9 l9 c9 k9
  have B9 := D9.fn.binds rfl (ps := ["sorts", "names", "tree", "place"]) fun _ _ _ _ _ _ us hl => match us, hl with | [_, _, _, _], _ => rfl
  have D10 := def_mk (st := s__made_kind) X G a10 l10 c10 k10
  have B10 := D10.fn.binds rfl (ps := ["sorts", "tree", "kinds"]) fun _ _ _ _ _ _ us hl => match us, hl with | [_, _, _], _ => rfl
  have D11 := def_mk (st := s__kind_by_sign) X G a11 l11 c11 k11
  have B11 := D11.fn.binds rfl (ps := ["sign", "kinds"]) fun _ _ _ _ _ _ us hl => match us, hl with | [_, _], _ => rfl
  have D12 := def_mk (st := s__awaited_kind) X G a12 l12 c12 k12
  have B12 := D12.fn.binds rfl (ps := ["sorts", "tree", "kinds"]) fun _ _ _ _ _ _ us hl => match us, hl with | [_, _, _], _ => rfl
  have D13 := def_mk (st := s__law_state) X G a13 l13 c13 k13
  have B13 := D13.fn.binds rfl (ps := ["script"]) fun _ _ _ _ _ _ us hl => match us, hl with | [_], _ => rfl
  have D14 := def_mk (st := s__law_draw) X G a14 l14 c14 k14
  have B14 := D14.fn.binds rfl (ps := ["state", "many"]) fun _ _ _ _ _ _ us hl => match us, hl with | [_, _], _ => rfl
  have D15 := def_mk (st := s__law_pick) X G a15 l15 c15 k15
  have B15 := D15.fn.binds rfl (ps := ["state", "row"]) fun _ _ _ _ _ _ us hl => match us, hl with | [_, _], _ => rfl
  have D16 := def_mk (st := s__law_parts) X G a16 l16 c16 k16
  have B16 := D16.fn.binds rfl (ps := ["tree"]) fun _ _ _ _ _ _ us hl => match us, hl with | [_], _ => rfl
  have D17 := def_mk (st := s__law_is_list) X G a17 l17 c17 k17
  have B17 := D17.fn.binds rfl (ps := ["kind"]) fun _ _ _ _ _ _ us hl => match us, hl with | [_], _ => rfl
  have D18 := def_mk (st := s__law_type_of) X G a18 l18 c18 k18
  have B18 := D18.fn.binds rfl (ps := ["heads", "names", "tree", "place"]) fun _ _ _ _ _ _ us hl => match us, hl with | [_, _, _, _], _ => rfl
  have D19 := def_mk (st := s__law_rule) X G a19 l19 c19 k19
  have B19 := D19.fn.binds rfl (ps := ["heads", "names", "tree", "kinds"]) fun _ _ _ _ _ _ us hl => match us, hl with | [_, _, _, _], _ => rfl
  have D20 := def_mk (st := s__law_sign_rule) X G a20 l20 c20 k20
  have B20 := D20.fn.binds rfl (ps := ["sign", "kinds"]) fun _ _ _ _ _ _ us hl => match us, hl with | [_, _], _ => rfl
  have D21 := def_mk (st := s__law_typed) X G a21 l21 c21 k21
  have B21 := D21.fn.binds rfl (ps := ["state", "names", "kind", "deep"]) fun _ _ _ _ _ _ us hl => match us, hl with | [_, _, _, _], _ => rfl
  have D22 := def_mk (st := s__law_typed_int) X G a22 l22 c22 k22
  have B22 := D22.fn.binds rfl (ps := ["state", "names", "deep"]) fun _ _ _ _ _ _ us hl => match us, hl with | [_, _, _], _ => rfl
  have D23 := def_mk (st := s__law_typed_bool) X G a23 l23 c23 k23
  have B23 := D23.fn.binds rfl (ps := ["state", "names", "deep"]) fun _ _ _ _ _ _ us hl => match us, hl with | [_, _, _], _ => rfl
  have D24 := def_mk (st := s__law_with) X G a24 l24 c24 k24
  have B24 := D24.fn.binds rfl (ps := ["tree", "parts"]) fun _ _ _ _ _ _ us hl => match us, hl with | [_, _], _ => rfl
  have D25 := def_mk (st := s__law_turned) X G a25 l25 c25 k25
  have B25 := D25.fn.binds rfl (ps := ["state", "names", "tree"]) fun _ _ _ _ _ _ us hl => match us, hl with | [_, _, _], _ => rfl
  have D26 := def_mk (st := s_law) X G a26 l26 c26 k26
  have B26 := D26.fn.binds rfl (ps := ["script"]) fun _ _ _ _ _ _ us hl => match us, hl with | [_], _ => rfl
  have DI_CheckError := fun_mk0 (st := s_CheckError___init__) lI_CheckError cI_CheckError
  have BI_CheckError := DI_CheckError.binds rfl (ps := ["self", "place"]) fun _ _ _ _ _ _ us hl => match us, hl with | [_, _], _ => rfl
  have Z_abs := PySem.W.mg_none_of X G z_abs
  have Z_all := PySem.W.mg_none_of X G z_all
  have Z_enumerate := PySem.W.mg_none_of X G z_enumerate
  have Z_int := PySem.W.mg_none_of X G z_int
  have Z_isinstance := PySem.W.mg_none_of X G z_isinstance
  have Z_len := PySem.W.mg_none_of X G z_len
  have Z_list := PySem.W.mg_none_of X G z_list
  have Z_range := PySem.W.mg_none_of X G z_range
  have Z_repr := PySem.W.mg_none_of X G z_repr
  have Z_sorted := PySem.W.mg_none_of X G z_sorted
  have Z_tuple := PySem.W.mg_none_of X G z_tuple
  refine ⟨PySem.W.fnOf "law" "law" (C8.fnArgs s_law) (C8.fnBody s_law) (C8.fnScope s_law) .none kV26 dc26 pm26 an26 cd26 ct26, fun s v => .of_eq rfl, fun base _ _ => ?_⟩
  have all : ∀ n, Tb P w K mg base n := by
    intro n
    induction n with
    | zero => exact ⟨Z_abs, Z_all, Z_enumerate, Z_int, Z_isinstance, Z_len, Z_list, Z_range, Z_repr, Z_sorted, Z_tuple, gc_of X G n_LITERALS v_LITERALS, gc_of X G n_OF_ONE_PART v_OF_ONE_PART, gc_of X G n_TRUTH_SIGNS v_TRUTH_SIGNS, cal_zero D0 B0, cal_zero D1 B1, cal_zero D2 B2, cal_zero D3 B3, cal_zero D4 B4, cal_zero D5 B5, cal_zero D6 B6, cal_zero D7 B7, calX_zero D8 B8, calX_zero D9 B9, cal_zero D10 B10, cal_zero D11 B11, cal_zero D12 B12, cal_zero D13 B13, cal_zero D14 B14, cal_zero D15 B15, cal_zero D16 B16, cal_zero D17 B17, cal_zero D18 B18, cal_zero D19 B19, cal_zero D20 B20, cal_zero D21 B21, cal_zero D22 B22, cal_zero D23 B23, cal_zero D24 B24, cal_zero D25 B25, i_CheckError DI_CheckError BI_CheckError a_CheckError (PySem.W.mg_of X G a_CheckError) ⟨⟨_, _, _, _, _, _, _, _, _, _, _, _, _, _, _, xl_CheckError, xr_CheckError⟩, sa_CheckError, eC_CheckError, tC_CheckError, ke_CheckError⟩ aI_CheckError tI_CheckError (PySem.W.mg_of X G b_FlowError) sp_FlowError rd_FlowError vV_FlowError no_CheckError_place, ⟨C_CheckError, a_CheckError, PySem.W.mg_of X G a_CheckError, caught_own is_CheckError se_CheckError eC_CheckError tC_CheckError⟩, ⟨C_CheckError, a_CheckError, ⟨ga_CheckError, gg_CheckError, eC_CheckError, hC_CheckError⟩, no_CheckError_place⟩, ⟨C_CheckError, E_FlowError, a_CheckError, PySem.W.mg_of X G e_FlowError, kit_own ei_FlowError et_FlowError ek_CheckError_FlowError, ⟨ga_CheckError, gg_CheckError, eC_CheckError, hC_CheckError, cc_CheckError, cg, ck, cm_CheckError⟩⟩⟩
    | succ n T => exact ⟨Z_abs, Z_all, Z_enumerate, Z_int, Z_isinstance, Z_len, Z_list, Z_range, Z_repr, Z_sorted, Z_tuple, gc_of X G n_LITERALS v_LITERALS, gc_of X G n_OF_ONE_PART v_OF_ONE_PART, gc_of X G n_TRUTH_SIGNS v_TRUTH_SIGNS, t_parts_of D0 B0 T, t__awaited_parts D1 B1 T, t_signatures D2 B2 T, t_is_list_kind D3 B3 T, t_made_by_sign D4 B4 T, t_made_by_word D5 B5 T, t_called D6 B6 T, t_listed D7 B7 T, t_type_of_expression D8 B8 T, t__kind_of D9 B9 T, t__made_kind D10 B10 T, t__kind_by_sign D11 B11 T, t__awaited_kind D12 B12 T, t__law_state D13 B13 T, t__law_draw D14 B14 T, t__law_pick D15 B15 T, t__law_parts D16 B16 T, t__law_is_list D17 B17 T, t__law_type_of D18 B18 T, t__law_rule D19 B19 T, t__law_sign_rule D20 B20 T, t__law_typed D21 B21 T, t__law_typed_int D22 B22 T, t__law_typed_bool D23 B23 T, t__law_with D24 B24 T, t__law_turned D25 B25 T, i_CheckError DI_CheckError BI_CheckError a_CheckError (PySem.W.mg_of X G a_CheckError) ⟨⟨_, _, _, _, _, _, _, _, _, _, _, _, _, _, _, xl_CheckError, xr_CheckError⟩, sa_CheckError, eC_CheckError, tC_CheckError, ke_CheckError⟩ aI_CheckError tI_CheckError (PySem.W.mg_of X G b_FlowError) sp_FlowError rd_FlowError vV_FlowError no_CheckError_place, ⟨C_CheckError, a_CheckError, PySem.W.mg_of X G a_CheckError, caught_own is_CheckError se_CheckError eC_CheckError tC_CheckError⟩, ⟨C_CheckError, a_CheckError, ⟨ga_CheckError, gg_CheckError, eC_CheckError, hC_CheckError⟩, no_CheckError_place⟩, ⟨C_CheckError, E_FlowError, a_CheckError, PySem.W.mg_of X G e_FlowError, kit_own ei_FlowError et_FlowError ek_CheckError_FlowError, ⟨ga_CheckError, gg_CheckError, eC_CheckError, hC_CheckError, cc_CheckError, cg, ck, cm_CheckError⟩⟩⟩
  have L := lawOk_of (k := 2 * 60 + 3) (N := N_law) (y := "script") (ib := b_law (FF 60) (GG 60)) ⟨rfl, by decide, by decide⟩ D26.fn sc_law (k_law (all 60))
  exact L.imp fun vs H Q E h => law_sp (fun ns h => (by have e := J20.e_all ns h; rw [J20.e_law 60] at e; exact e)) h
end J20
open PySem PySem.W PyProof.Rows
set_option maxRecDepth 100000 in
set_option maxHeartbeats 0 in
theorem PySem.Challenge.cw_flowreprise_k20_types_of_expressions_holds : PySem.Challenge.rw_flowreprise_k20_types_of_expressions.Holds := by
  w_on; o_law; k_head; (case hw => w_witness2)
  k_fill
  refine IL.walk_J (l := PySem.Challenge.rw_flowreprise_k20_types_of_expressions) (n := 63) (x := "script") (sp := fun w => IL.spLaw _) rfl (by decide) rfl (fun w h Y => PySem.W.kIn_of Y) ?F (fun _ _ a ns hl hS => ⟨a, ns, rfl, hS, hl, fun _ => rfl⟩)
  case F =>
    intro w mg fa h KX G hmg
    refine' J20.all_mk (mc_FlowError := .type "type") KX G hmg ?a0 ?l0 ?c0 ?k0 ?a1 ?l1 ?c1 ?k1 ?a2 ?l2 ?c2 ?k2 ?a3 ?l3 ?c3 ?k3 ?a4 ?l4 ?c4 ?k4 ?a5 ?l5 ?c5 ?k5 ?a6 ?l6 ?c6 ?k6 ?a7 ?l7 ?c7 ?k7 ?a8 ?l8 ?c8 ?k8 ?a9 ?l9 ?c9 ?k9 ?a10 ?l10 ?c10 ?k10 ?a11 ?l11 ?c11 ?k11 ?a12 ?l12 ?c12 ?k12 ?a13 ?l13 ?c13 ?k13 ?a14 ?l14 ?c14 ?k14 ?a15 ?l15 ?c15 ?k15 ?a16 ?l16 ?c16 ?k16 ?a17 ?l17 ?c17 ?k17 ?a18 ?l18 ?c18 ?k18 ?a19 ?l19 ?c19 ?k19 ?a20 ?l20 ?c20 ?k20 ?a21 ?l21 ?c21 ?k21 ?a22 ?l22 ?c22 ?k22 ?a23 ?l23 ?c23 ?k23 ?a24 ?l24 ?c24 ?k24 ?a25 ?l25 ?c25 ?k25 ?a26 ?l26 ?c26 ?k26 ?z_abs ?z_all ?z_enumerate ?z_int ?z_isinstance ?z_len ?z_list ?z_range ?z_repr ?z_sorted ?z_tuple ?n_LITERALS ?v_LITERALS ?n_OF_ONE_PART ?v_OF_ONE_PART ?n_TRUTH_SIGNS ?v_TRUTH_SIGNS ?a_CheckError ?xl_CheckError ?xr_CheckError ?sa_CheckError ?ga_CheckError ?gg_CheckError ?ke_CheckError ?eC_CheckError ?tC_CheckError ?hC_CheckError ?no_CheckError_place ?b_FlowError ?sp_FlowError ?rd_FlowError ?vV_FlowError ?aI_CheckError ?tI_CheckError ?lI_CheckError ?cI_CheckError ?is_CheckError ?se_CheckError ?cc_CheckError ?cm_CheckError ?cg ?ck ?e_FlowError ?ei_FlowError ?et_FlowError ?ek_CheckError_FlowError
    (case a0 => k_is)
    (case l0 => k_is)
    (case c0 => k_is)
    (case k0 => k_is)
    (case a1 => k_is)
    (case l1 => k_is)
    (case c1 => k_is)
    (case k1 => k_is)
    (case a2 => k_is)
    (case l2 => k_is)
    (case c2 => k_is)
    (case k2 => k_is)
    (case a3 => k_is)
    (case l3 => k_is)
    (case c3 => k_is)
    (case k3 => k_is)
    (case a4 => k_is)
    (case l4 => k_is)
    (case c4 => k_is)
    (case k4 => k_is)
    (case a5 => k_is)
    (case l5 => k_is)
    (case c5 => k_is)
    (case k5 => k_is)
    (case a6 => k_is)
    (case l6 => k_is)
    (case c6 => k_is)
    (case k6 => k_is)
    (case a7 => k_is)
    (case l7 => k_is)
    (case c7 => k_is)
    (case k7 => k_is)
    (case a8 => k_is)
    (case l8 => k_is)
    (case c8 => k_is)
    (case k8 => k_is)
    (case a9 => k_is)
    (case l9 => k_is)
    (case c9 => k_is)
    (case k9 => k_is)
    (case a10 => k_is)
    (case l10 => k_is)
    (case c10 => k_is)
    (case k10 => k_is)
    (case a11 => k_is)
    (case l11 => k_is)
    (case c11 => k_is)
    (case k11 => k_is)
    (case a12 => k_is)
    (case l12 => k_is)
    (case c12 => k_is)
    (case k12 => k_is)
    (case a13 => k_is)
    (case l13 => k_is)
    (case c13 => k_is)
    (case k13 => k_is)
    (case a14 => k_is)
    (case l14 => k_is)
    (case c14 => k_is)
    (case k14 => k_is)
    (case a15 => k_is)
    (case l15 => k_is)
    (case c15 => k_is)
    (case k15 => k_is)
    (case a16 => k_is)
    (case l16 => k_is)
    (case c16 => k_is)
    (case k16 => k_is)
    (case a17 => k_is)
    (case l17 => k_is)
    (case c17 => k_is)
    (case k17 => k_is)
    (case a18 => k_is)
    (case l18 => k_is)
    (case c18 => k_is)
    (case k18 => k_is)
    (case a19 => k_is)
    (case l19 => k_is)
    (case c19 => k_is)
    (case k19 => k_is)
    (case a20 => k_is)
    (case l20 => k_is)
    (case c20 => k_is)
    (case k20 => k_is)
    (case a21 => k_is)
    (case l21 => k_is)
    (case c21 => k_is)
    (case k21 => k_is)
    (case a22 => k_is)
    (case l22 => k_is)
    (case c22 => k_is)
    (case k22 => k_is)
    (case a23 => k_is)
    (case l23 => k_is)
    (case c23 => k_is)
    (case k23 => k_is)
    (case a24 => k_is)
    (case l24 => k_is)
    (case c24 => k_is)
    (case k24 => k_is)
    (case a25 => k_is)
    (case l25 => k_is)
    (case c25 => k_is)
    (case k25 => k_is)
    (case a26 => k_is)
    (case l26 => k_is)
    (case c26 => k_is)
    (case k26 => k_is)
    (case z_abs => k_is)
    (case z_all => k_is)
    (case z_enumerate => k_is)
    (case z_int => k_is)
    (case z_isinstance => k_is)
    (case z_len => k_is)
    (case z_list => k_is)
    (case z_range => k_is)
    (case z_repr => k_is)
    (case z_sorted => k_is)
    (case z_tuple => k_is)
    (case n_LITERALS => k_is)
    (case v_LITERALS => exact (IL.kv_tup (by k_is) (.cons (IL.kv_str rfl) (.cons (IL.kv_str rfl) (.cons (IL.kv_str rfl) (.cons (IL.kv_str rfl) .nil))))))
    (case n_OF_ONE_PART => k_is)
    (case v_OF_ONE_PART => exact (IL.kv_tup (by k_is) (.cons (IL.kv_str rfl) (.cons (IL.kv_str rfl) (.cons (IL.kv_str rfl) (.cons (IL.kv_str rfl) (.cons (IL.kv_str rfl) .nil)))))))
    (case n_TRUTH_SIGNS => k_is)
    (case v_TRUTH_SIGNS => exact (IL.kv_tup (by k_is) (.cons (IL.kv_str rfl) (.cons (IL.kv_str rfl) .nil))))
    (case a_CheckError => unfold IL.ClsAt; k_is)
    (case xl_CheckError => k_is)
    (case xr_CheckError => decide +kernel)
    (case sa_CheckError => k_is)
    (case ga_CheckError => k_is)
    (case gg_CheckError => k_is)
    (case ke_CheckError => k_is)
    (case eC_CheckError => k_is)
    (case tC_CheckError => k_is)
    (case hC_CheckError => k_is)
    (case no_CheckError_place => k_is)
    (case b_FlowError => unfold IL.ClsAt; k_is)
    (case sp_FlowError => k_is)
    (case rd_FlowError => k_is)
    (case vV_FlowError => k_is)
    (case aI_CheckError => k_is)
    (case tI_CheckError => k_is)
    (case lI_CheckError => k_is)
    (case cI_CheckError => k_is)
    (case is_CheckError => k_is)
    (case se_CheckError => first | rfl | k_is)
    (case cc_CheckError => k_is)
    (case cm_CheckError => k_is)
    (case cg => k_is)
    (case ck => k_is)
    (case e_FlowError => unfold IL.ClsAt; k_is)
    (case ei_FlowError => k_is)
    (case et_FlowError => k_is)
    (case ek_CheckError_FlowError => first | rfl | k_is)
