import PyProof.Rows.All
import Wide.All
import OpenK.AllK
import Wide.FinOn
import HandS.ForMost
import HandS.Codes
import HandS.TupLe
import HandS.TupAny
import HandS.TupMul
import HandS.Wide
import HandS.IsInst
import HandS.Style
import HandS.Flow
import HandS.Exc
import HandS.TryOnly
import HandS.ExcInit
import HandS.DictComp
import HandS.SortKw
import HandS.Deep
import KE.DatumOrd
import HandS.TryElse
import HandS.TryMany
import HandS.ExcField
import HandS.ExcIs
import HandS.ExcOwn
import HandS.FStr
import HandS.ExcCtx
import KE.KExcIs
import PyProof.Rows.EnumRows
import HandS.ReplaceLit
import PyProof.P3In
import HandS.HotCalls
import HandS.Comp
import PyProof.Walks
import PyProof.ConsumeWalk
import HandS.Rev
import HandS.RaiseMore
import PySem.Challenge.RW_flowreprise_k51_written_data
set_option Elab.async false
set_option linter.all false
set_option maxRecDepth 100000
namespace IL
open PySem PySem.Spec PyProof.Rows L2

/-- a value, data as trees, what may change by its number in the store -/
inductive PV where
  | non | bl (b : Bool) | int (i : Int) | str (x : Str) | tup (xs : List PV) | frz (xs : List PV) | ref (n : Nat) | ty (n : String)
  /-- a dict that nobody writes: its keys, its values -/
  | fdk (ks : List Key) (xs : List PV)
/-- what may change -/
inductive SO where
  | lst (xs : List PV)
  | dK (kvs : List (Key × PV))
  /-- an instance of the program's class of that name -/
  | ins (c : Str) (fs : List (Str × PV))
  /-- a list that is no longer written -/
  | gone
/-- the addresses of what may change; those that are no longer written -/
structure Rho where
  l : List Addr
  d : List Addr
def Rho.add (ρ : Rho) (p : Addr) : Rho := ⟨ρ.l ++ [p], ρ.d⟩
def Rho.Safe (ρ : Rho) (a : Addr) : Prop := a ∉ ρ.l ∨ a ∈ ρ.d
/-- the class of that name -/
def ClsAt (K : PySem.W.Frag) (c : Str) (C : Addr) : Prop := PySem.W.nsIn K mainGlobals c = some (some (.ref C))
abbrev Sto := List SO
abbrev PEnv := List (Option PV)

section
variable (K : PySem.W.Frag) (H : Hp) (ρ : Rho)
/-- a list that nobody writes -/
def FrzAt (a : Addr) (vs : List V) : Prop :=
  (Rd H a (.lst vs) ∧ ρ.Safe a) ∨ ∃ (o : Obj) (its : Array Value) (n : Nat), K.lookup a = some o ∧ o.cls = .type "list" ∧ o.dict = none ∧ o.data = .seq its n ∧ its.size ≤ sizeLine ∧ Vals vs its.toList
/-- a dict that nobody writes -/
def FdkAt (a : Addr) (ks : List Key) (vs : List V) : Prop :=
  ∃ kvs : List (Key × V), Rd H a (.dK kvs) ∧ ρ.Safe a ∧ kvs.map (·.1) = ks ∧ kvs.map (·.2) = vs
mutual
def Rep : PV → V → Prop
  | .non, v => v = .non
  | .bl b, v => v = .bl b
  | .int i, v => v = .int i
  | .str x, v => v = .str x
  | .tup xs, v => ∃ a vs, v = .ref a ∧ SqT K H a vs ∧ Reps xs vs
  | .frz xs, v => ∃ a vs, v = .ref a ∧ FrzAt K H ρ a vs ∧ Reps xs vs
  | .ref n, v => ∃ a, v = .ref a ∧ ρ.l[n]? = some a
  | .ty n, v => v = .ty n
  | .fdk ks xs, v => ∃ a vs, v = .ref a ∧ FdkAt H ρ a ks vs ∧ Reps xs vs
def Reps : List PV → List V → Prop
  | [], vs => vs = []
  | x :: xs, vs => ∃ v r, vs = v :: r ∧ Rep x v ∧ Reps xs r
end
def RepK : List (Key × PV) → List (Key × V) → Prop
  | [], vs => vs = []
  | x :: xs, vs => ∃ v r, vs = (x.1, v) :: r ∧ Rep K H ρ x.2 v ∧ RepK xs r
def RepF : List (Str × PV) → List (Str × V) → Prop
  | [], vs => vs = []
  | x :: xs, vs => ∃ v r, vs = (x.1, v) :: r ∧ Rep K H ρ x.2 v ∧ RepF xs r
def RepO : SO → Addr → Prop
  | .lst xs, a => ∃ vs, H a = some (.lst vs) ∧ Reps K H ρ xs vs
  | .dK kvs, a => ∃ vs, H a = some (.dK vs) ∧ RepK K H ρ kvs vs
  | .ins c fs, a => ∃ C dx vs, ClsAt K c C ∧ H a = some (.ins C dx vs) ∧ RepF K H ρ fs vs
  | .gone, a => (∃ vs, Rd H a (.lst vs)) ∨ ∃ vs, Rd H a (.dK vs)
structure RepS (st : Sto) : Prop where
  len : ρ.l.length = st.length
  nd : ρ.l.Nodup
  at_ : ∀ (n : Nat) (so : SO), st[n]? = some so → ∃ a, ρ.l[n]? = some a ∧ RepO K H ρ so a
  lv : ∀ (n : Nat) (so : SO) (a : Addr), st[n]? = some so → so ≠ .gone → ρ.l[n]? = some a → a ∉ ρ.d
  sd : ∀ a, a ∈ ρ.d → a ∈ ρ.l
structure RepE (env : PEnv) (σ : L2.St) : Prop where
  len : env.length = σ.length
  at_ : ∀ (i : Nat) (x : PV), env[i]? = some (some x) → ∃ v, σ[i]? = some (some v) ∧ Rep K H ρ x v
end
/-- not a thing that is locked -/
def NF : HO → Prop
  | .frz _ _ => False
  | _ => True
structure Grow (H : Hp) (ρ : Rho) (H' : Hp) (ρ' : Rho) : Prop where
  ext : ∃ l, ρ'.l = ρ.l ++ l ∧ ∀ b ∈ l, H b = none
  ded : ∀ b, b ∈ ρ.d → b ∈ ρ'.d
  keep : ∀ b u, NF u → ρ.Safe b → Rd H b u → Rd H' b u
  dom : ∀ b, H' b = none → H b = none
  lck : ∀ b o u, ρ.Safe b → H b = some (.frz o u) → H' b = some (.frz o u)

section
variable {K : PySem.W.Frag} {H H' H1 H2 : Hp} {ρ ρ' ρ1 ρ2 : Rho} {st st' : Sto} {env : PEnv} {σ : L2.St}
theorem Grow.refl : Grow H ρ H ρ := ⟨⟨[], by simp, fun _ h => by simp at h⟩, fun _ h => h, fun _ _ _ _ h => h, fun _ h => h, fun _ _ _ _ h => h⟩
theorem Rd.ne_none {a : Addr} {u : HO} (h : Rd H a u) : H a ≠ none := fun e => by
  rcases h with h | ⟨o, h⟩ <;> (rw [e] at h; cases h)
theorem Grow.safe (a : Grow H ρ H1 ρ1) {x : Addr} (h : H x ≠ none) (s : ρ.Safe x) : ρ1.Safe x := by
  obtain ⟨l1, e1, f1⟩ := a.ext
  rcases s with s | s
  · refine .inl fun hm => ?_
    rw [e1] at hm
    rcases List.mem_append.mp hm with hm | hm
    · exact s hm
    · exact h (f1 x hm)
  · exact .inr (a.ded x s)
theorem Grow.trans (a : Grow H ρ H1 ρ1) (b : Grow H1 ρ1 H2 ρ2) : Grow H ρ H2 ρ2 := by
  obtain ⟨l1, e1, f1⟩ := a.ext
  obtain ⟨l2, e2, f2⟩ := b.ext
  refine ⟨⟨l1 ++ l2, by rw [e2, e1, List.append_assoc], fun x hx => ?_⟩, fun x hx => b.ded x (a.ded x hx), fun x u hu hx ho => ?_, fun x hx => a.dom x (b.dom x hx), fun x o u hx ho => b.lck x o u (a.safe (by rw [ho]; simp) hx) (a.lck x o u hx ho)⟩
  · rcases List.mem_append.mp hx with h | h
    · exact f1 x h
    · exact a.dom x (f2 x h)
  · exact b.keep x u hu (a.safe (Rd.ne_none ho) hx) (a.keep x u hu hx ho)
theorem Grow.ix (g : Grow H ρ H' ρ') {n : Nat} {a : Addr} (h : ρ.l[n]? = some a) : ρ'.l[n]? = some a := by
  obtain ⟨l, e, _⟩ := g.ext
  rw [e, List.getElem?_append_left (List.getElem?_eq_some_iff.mp h).1]
  exact h
theorem RepS.mem (S : RepS K H ρ st) {a : Addr} (h : a ∈ ρ.l) : ∃ (n : Nat) (so : SO), ρ.l[n]? = some a ∧ st[n]? = some so ∧ RepO K H ρ so a := by
  obtain ⟨n, hn, e⟩ := List.mem_iff_getElem.mp h
  have hs : n < st.length := by have := S.len; omega
  obtain ⟨b, hb, r⟩ := S.at_ n st[n] (List.getElem?_eq_getElem hs)
  have e2 : ρ.l[n]? = some a := by rw [List.getElem?_eq_getElem hn, e]
  rw [e2] at hb; cases hb
  exact ⟨n, st[n], e2, List.getElem?_eq_getElem hs, r⟩
theorem RepO.some {so : SO} {a : Addr} (h : RepO K H ρ so a) : (∃ vs, Rd H a (.lst vs)) ∨ (∃ vs, Rd H a (.dK vs)) ∨ ∃ C dx vs, Rd H a (.ins C dx vs) := by
  cases so with
  | lst xs => obtain ⟨vs, h, _⟩ := h; exact .inl ⟨vs, .of h⟩
  | dK xs => obtain ⟨vs, h, _⟩ := h; exact .inr (.inl ⟨vs, .of h⟩)
  | ins c xs => obtain ⟨C, dx, vs, _, h, _⟩ := h; exact .inr (.inr ⟨C, dx, vs, .of h⟩)
  | gone =>
    rcases h with ⟨vs, h⟩ | ⟨vs, h⟩
    · exact .inl ⟨vs, h⟩
    · exact .inr (.inl ⟨vs, h⟩)
theorem RepS.notT (S : RepS K H ρ st) {a : Addr} {vs : List V} (h : Rd H a (.tup vs)) : ρ.Safe a := .inl fun hm => by
  obtain ⟨n, so, _, _, r⟩ := S.mem hm
  rcases r.some with ⟨w, e⟩ | ⟨w, e⟩ | ⟨C, dx, w, e⟩ <;> rcases h with h | ⟨o, h⟩ <;> rcases e with e | ⟨o', e⟩ <;> (rw [e] at h; cases h)
theorem RepS.fresh (S : RepS K H ρ st) {p : Addr} (h : H p = none) : p ∉ ρ.l := fun hm => by
  obtain ⟨n, so, _, _, r⟩ := S.mem hm
  rcases r.some with ⟨w, e⟩ | ⟨w, e⟩ | ⟨C, dx, w, e⟩ <;> exact Rd.ne_none e h
theorem Grow.rd (g : Grow H ρ H' ρ') {a : Addr} {u : HO} (n : ρ.Safe a) (h : Rd H a u) (hu : NF u := by trivial) : Rd H' a u := g.keep a u hu n h
theorem SqT.grow (S : RepS K H ρ st) (g : Grow H ρ H' ρ') {a : Addr} {vs : List V} (h : SqT K H a vs) : SqT K H' a vs := by
  rcases h with h | h
  · exact .inl (g.rd (S.notT h) h)
  · exact .inr h
theorem FrzAt.grow (g : Grow H ρ H' ρ') {a : Addr} {vs : List V} (h : FrzAt K H ρ a vs) : FrzAt K H' ρ' a vs := by
  rcases h with ⟨h, n⟩ | h
  · exact .inl ⟨g.rd n h, g.safe (Rd.ne_none h) n⟩
  · exact .inr h
theorem FdkAt.grow (g : Grow H ρ H' ρ') {a : Addr} {ks : List Key} {vs : List V} (h : FdkAt H ρ a ks vs) : FdkAt H' ρ' a ks vs := by
  obtain ⟨kvs, h, n, e1, e2⟩ := h
  exact ⟨kvs, g.rd n h, g.safe (Rd.ne_none h) n, e1, e2⟩
theorem FrzAt.sq {a : Addr} {vs : List V} (h : FrzAt K H ρ a vs) : SqL K H a vs := by
  rcases h with ⟨h, _⟩ | h
  · exact .inl h
  · exact .inr h
mutual
theorem Rep.grow (S : RepS K H ρ st) (g : Grow H ρ H' ρ') : ∀ (x : PV) (v : V), Rep K H ρ x v → Rep K H' ρ' x v
  | .non, v, h => by unfold Rep at *; exact h
  | .bl b, v, h => by unfold Rep at *; exact h
  | .int i, v, h => by unfold Rep at *; exact h
  | .str x, v, h => by unfold Rep at *; exact h
  | .tup xs, v, h => by
    unfold Rep at *
    obtain ⟨a, vs, e, h1, h2⟩ := h
    exact ⟨a, vs, e, SqT.grow S g h1, Reps.grow S g xs vs h2⟩
  | .frz xs, v, h => by
    unfold Rep at *
    obtain ⟨a, vs, e, h1, h2⟩ := h
    exact ⟨a, vs, e, h1.grow g, Reps.grow S g xs vs h2⟩
  | .ref n, v, h => by
    unfold Rep at *
    obtain ⟨a, e, h1⟩ := h
    exact ⟨a, e, g.ix h1⟩
  | .ty n, v, h => by unfold Rep at *; exact h
  | .fdk ks xs, v, h => by
    unfold Rep at *
    obtain ⟨a, vs, e, h1, h2⟩ := h
    exact ⟨a, vs, e, h1.grow g, Reps.grow S g xs vs h2⟩
theorem Reps.grow (S : RepS K H ρ st) (g : Grow H ρ H' ρ') : ∀ (xs : List PV) (vs : List V), Reps K H ρ xs vs → Reps K H' ρ' xs vs
  | [], vs, h => by unfold Reps at *; exact h
  | x :: xs, vs, h => by
    unfold Reps at *
    obtain ⟨v, r, e, h1, h2⟩ := h
    exact ⟨v, r, e, Rep.grow S g x v h1, Reps.grow S g xs r h2⟩
end
theorem RepK.grow (S : RepS K H ρ st) (g : Grow H ρ H' ρ') : ∀ (xs : List (Key × PV)) (vs : List (Key × V)), RepK K H ρ xs vs → RepK K H' ρ' xs vs
  | [], vs, h => h
  | x :: xs, vs, h => by
    obtain ⟨v, r, e, h1, h2⟩ := h
    exact ⟨v, r, e, Rep.grow S g _ v h1, RepK.grow S g xs r h2⟩
theorem RepF.grow (S : RepS K H ρ st) (g : Grow H ρ H' ρ') : ∀ (xs : List (Str × PV)) (vs : List (Str × V)), RepF K H ρ xs vs → RepF K H' ρ' xs vs
  | [], vs, h => h
  | x :: xs, vs, h => by
    obtain ⟨v, r, e, h1, h2⟩ := h
    exact ⟨v, r, e, Rep.grow S g _ v h1, RepF.grow S g xs r h2⟩
theorem RepE.grow (S : RepS K H ρ st) (g : Grow H ρ H' ρ') (E : RepE K H ρ env σ) : RepE K H' ρ' env σ :=
  ⟨E.len, fun i x h => by
    obtain ⟨v, h1, h2⟩ := E.at_ i x h
    exact ⟨v, h1, Rep.grow S g _ _ h2⟩⟩
theorem Reps.length : ∀ {xs : List PV} {vs : List V}, Reps K H ρ xs vs → xs.length = vs.length
  | [], vs, h => by unfold Reps at h; subst h; rfl
  | x :: xs, vs, h => by
    unfold Reps at h
    obtain ⟨v, r, rfl, _, h2⟩ := h
    simp [Reps.length h2]
theorem Reps.get : ∀ {xs : List PV} {vs : List V} {i : Nat} {x : PV}, Reps K H ρ xs vs → xs[i]? = some x → ∃ v, vs[i]? = some v ∧ Rep K H ρ x v
  | [], _, _, _, _, e => by simp at e
  | y :: ys, vs, 0, x, h, e => by
    unfold Reps at h
    obtain ⟨v, r, rfl, h1, _⟩ := h
    simp at e; subst e
    exact ⟨v, rfl, h1⟩
  | y :: ys, vs, i + 1, x, h, e => by
    unfold Reps at h
    obtain ⟨v, r, rfl, _, h2⟩ := h
    obtain ⟨w, a, b⟩ := Reps.get (i := i) (x := x) h2 (by simpa using e)
    exact ⟨w, by simpa using a, b⟩
theorem Reps.append : ∀ {xs ys : List PV} {vs ws : List V}, Reps K H ρ xs vs → Reps K H ρ ys ws → Reps K H ρ (xs ++ ys) (vs ++ ws)
  | [], _, _, _, h, h' => by unfold Reps at h; subst h; exact h'
  | x :: xs, _, _, _, h, h' => by
    unfold Reps at h
    obtain ⟨v, r, rfl, h1, h2⟩ := h
    show Reps K H ρ (x :: (xs ++ _)) (v :: (r ++ _))
    unfold Reps
    exact ⟨v, _, rfl, h1, Reps.append h2 h'⟩
theorem Reps.drop : ∀ {xs : List PV} {vs : List V} (n : Nat), Reps K H ρ xs vs → Reps K H ρ (xs.drop n) (vs.drop n)
  | _, _, 0, h => h
  | [], _, n + 1, h => by unfold Reps at h; subst h; simp [Reps]
  | x :: xs, _, n + 1, h => by
    unfold Reps at h
    obtain ⟨v, r, rfl, _, h2⟩ := h
    exact Reps.drop n h2
theorem Reps.take : ∀ {xs : List PV} {vs : List V} (n : Nat), Reps K H ρ xs vs → Reps K H ρ (xs.take n) (vs.take n)
  | _, _, 0, h => by simp [Reps]
  | [], _, n + 1, h => by unfold Reps at h; subst h; simp [Reps]
  | x :: xs, _, n + 1, h => by
    unfold Reps at h
    obtain ⟨v, r, rfl, h1, h2⟩ := h
    show Reps K H ρ (x :: xs.take n) (v :: r.take n)
    unfold Reps
    exact ⟨v, _, rfl, h1, Reps.take n h2⟩
theorem Reps.set {y : PV} {w : V} (hy : Rep K H ρ y w) : ∀ {xs : List PV} {vs : List V} (n : Nat), Reps K H ρ xs vs → Reps K H ρ (xs.set n y) (vs.set n w)
  | [], _, n, h => by unfold Reps at h; subst h; simp [Reps]
  | x :: xs, _, 0, h => by
    unfold Reps at h
    obtain ⟨v, r, rfl, h1, h2⟩ := h
    show Reps K H ρ (y :: xs) (w :: r)
    unfold Reps
    exact ⟨w, _, rfl, hy, h2⟩
  | x :: xs, _, n + 1, h => by
    unfold Reps at h
    obtain ⟨v, r, rfl, h1, h2⟩ := h
    show Reps K H ρ (x :: xs.set n y) (v :: r.set n w)
    unfold Reps
    exact ⟨v, _, rfl, h1, Reps.set hy n h2⟩
theorem RepE.set (E : RepE K H ρ env σ) {x : PV} {v : V} (h : Rep K H ρ x v) (i : Nat) : RepE K H ρ (env.set i (some x)) (σ.set i (some v)) := by
  refine ⟨by simpa using E.len, fun j y hj => ?_⟩
  by_cases e : i = j
  · subst e
    by_cases hl : i < env.length
    · rw [List.getElem?_set_self hl] at hj
      cases hj
      exact ⟨v, List.getElem?_set_self (by rw [← E.len]; exact hl), h⟩
    · rw [List.getElem?_eq_none (by simpa using hl)] at hj
      cases hj
  · rw [List.getElem?_set_ne e] at hj
    obtain ⟨w, a, b⟩ := E.at_ j y hj
    exact ⟨w, by rw [List.getElem?_set_ne e]; exact a, b⟩
/-- a new tuple -/
theorem grow_new {p : Addr} {o : HO} (h : H p = none) : Grow H ρ (upd H p o) ρ :=
  ⟨⟨[], by simp, fun _ h => by simp at h⟩, fun _ h => h, fun b u _ _ e => by
    have hb : b ≠ p := fun z => Rd.ne_none e (by rw [z]; exact h)
    unfold Rd at e ⊢
    rw [upd_ne hb]; exact e, fun b e => by
    by_cases hb : b = p
    · subst hb; exact h
    · rw [upd_ne hb] at e; exact e, fun b o u _ e => by
    have hb : b ≠ p := fun z => by rw [z, h] at e; cases e
    rw [upd_ne hb]; exact e⟩
theorem grow_alloc {p : Addr} {o : HO} (h : H p = none) : Grow H ρ (upd H p o) (ρ.add p) :=
  ⟨⟨[p], rfl, fun b hb => by simp at hb; subst hb; exact h⟩, fun _ h => h, (grow_new h (ρ := ρ)).keep, (grow_new h (ρ := ρ)).dom, (grow_new h (ρ := ρ)).lck⟩
theorem grow_write {p : Addr} {o u : HO} (h : H p = some u) (m : p ∈ ρ.l) (nd : p ∉ ρ.d) : Grow H ρ (upd H p o) ρ :=
  ⟨⟨[], by simp, fun _ h => by simp at h⟩, fun _ h => h, fun b w _ nb e => by
    have hb : b ≠ p := fun z => by
      subst z
      rcases nb with nb | nb
      · exact nb m
      · exact nd nb
    unfold Rd at e ⊢
    rw [upd_ne hb]; exact e, fun b e => by
    by_cases hb : b = p
    · subst hb; rw [upd_same] at e; cases e
    · rw [upd_ne hb] at e; exact e, fun b w w2 nb e => by
    have hb : b ≠ p := fun z => by
      subst z
      rcases nb with nb | nb
      · exact nb m
      · exact nd nb
    rw [upd_ne hb]; exact e⟩
/-- the store as it was, one heap on -/
theorem RepO.grow (S : RepS K H ρ st) (g : Grow H ρ H' ρ') {so : SO} {a : Addr} (h : RepO K H ρ so a) (e : H' a = H a) : RepO K H' ρ' so a := by
  cases so with
  | lst xs => obtain ⟨vs, h1, h2⟩ := h; exact ⟨vs, by rw [e]; exact h1, Reps.grow S g _ _ h2⟩
  | dK xs => obtain ⟨vs, h1, h2⟩ := h; exact ⟨vs, by rw [e]; exact h1, RepK.grow S g _ _ h2⟩
  | ins c xs => obtain ⟨C, dx, vs, hc, h1, h2⟩ := h; exact ⟨C, dx, vs, hc, by rw [e]; exact h1, RepF.grow S g _ _ h2⟩
  | gone =>
    rcases h with ⟨vs, h1⟩ | ⟨vs, h1⟩
    · exact .inl ⟨vs, by unfold Rd at h1 ⊢; rw [e]; exact h1⟩
    · exact .inr ⟨vs, by unfold Rd at h1 ⊢; rw [e]; exact h1⟩
theorem RepS.same (S : RepS K H ρ st) (g : Grow H ρ H' ρ) (e : ∀ a ∈ ρ.l, H' a = H a) : RepS K H' ρ st :=
  ⟨S.len, S.nd, fun n so h => by
    obtain ⟨a, h1, h2⟩ := S.at_ n so h
    exact ⟨a, h1, h2.grow S g (e a (List.mem_of_getElem? h1))⟩, S.lv, S.sd⟩
theorem RepS.new {p : Addr} {o : HO} (S : RepS K H ρ st) (h : H p = none) : RepS K (upd H p o) ρ st :=
  S.same (grow_new h) fun a ha => upd_ne fun e => S.fresh h (by rw [← e]; exact ha)
theorem RepS.nodead (S : RepS K H ρ st) {p : Addr} (h : H p = none) : p ∉ ρ.d := fun z => S.fresh h (S.sd p z)
theorem RepS.add {p : Addr} {so : SO} (S : RepS K H ρ st) (g : Grow H ρ H' (ρ.add p)) (h : H p = none) (e : ∀ a ∈ ρ.l, H' a = H a) (r : RepO K H' (ρ.add p) so p) : RepS K H' (ρ.add p) (st ++ [so]) := by
  refine ⟨by simp [Rho.add, S.len], ?_, fun n so' hn => ?_, fun n so' a hn hg ha => ?_, fun a ha => List.mem_append_left _ (S.sd a ha)⟩
  · exact List.nodup_append.mpr ⟨S.nd, by simp, fun a ha b hb => by simp at hb; subst hb; exact fun e => S.fresh h (by rw [← e]; exact ha)⟩
  · by_cases hl : n < st.length
    · rw [List.getElem?_append_left hl] at hn
      obtain ⟨a, h1, h2⟩ := S.at_ n so' hn
      exact ⟨a, g.ix h1, h2.grow S g (e a (List.mem_of_getElem? h1))⟩
    · have e : n = st.length := by
        have := (List.getElem?_eq_some_iff.mp hn).1
        simp at this; omega
      subst e
      rw [List.getElem?_append_right (Nat.le_refl _)] at hn
      simp at hn; subst hn
      exact ⟨p, by show (ρ.l ++ [p])[st.length]? = some p; rw [← S.len, List.getElem?_append_right (Nat.le_refl _)]; simp, r⟩
  · by_cases hl : n < st.length
    · rw [List.getElem?_append_left hl] at hn
      exact S.lv n so' a hn hg (by rw [← ha]; show ρ.l[n]? = (ρ.l ++ [p])[n]?; rw [List.getElem?_append_left (by rw [S.len]; exact hl)])
    · have e : n = st.length := by
        have := (List.getElem?_eq_some_iff.mp hn).1
        simp at this; omega
      subst e
      have ha' : (ρ.l ++ [p])[st.length]? = some a := ha
      rw [← S.len, List.getElem?_append_right (Nat.le_refl _)] at ha'
      simp at ha'; subst ha'
      exact S.nodead h
theorem RepS.alloc {p : Addr} {o : HO} {so : SO} (S : RepS K H ρ st) (h : H p = none) (r : RepO K (upd H p o) (ρ.add p) so p) : RepS K (upd H p o) (ρ.add p) (st ++ [so]) :=
  S.add (grow_alloc h) h (fun a ha => upd_ne fun e => S.fresh h (by rw [← e]; exact ha)) r
theorem RepS.write {p : Addr} {o u : HO} {so : SO} {n : Nat} (S : RepS K H ρ st) (hn : ρ.l[n]? = some p) (nd : p ∉ ρ.d) (h : H p = some u) (r : RepO K (upd H p o) ρ so p) : RepS K (upd H p o) ρ (st.set n so) := by
  have g : Grow H ρ (upd H p o) ρ := grow_write h (List.mem_of_getElem? hn) nd
  refine ⟨by simpa using S.len, S.nd, fun m so' hm => ?_, fun m so' a hm hg ha => ?_, S.sd⟩
  · by_cases e : n = m
    · subst e
      have hl : n < st.length := by have := (List.getElem?_eq_some_iff.mp hn).1; rw [S.len] at this; exact this
      rw [List.getElem?_set_self hl] at hm; cases hm
      exact ⟨p, hn, r⟩
    · rw [List.getElem?_set_ne e] at hm
      obtain ⟨a, h1, h2⟩ := S.at_ m so' hm
      refine ⟨a, h1, h2.grow S g (upd_ne fun z => e ?_)⟩
      subst z
      obtain ⟨l1, e1⟩ := List.getElem?_eq_some_iff.mp hn
      obtain ⟨l2, e2⟩ := List.getElem?_eq_some_iff.mp h1
      exact (List.getElem_inj S.nd).mp (e1.trans e2.symm)
  · by_cases e : n = m
    · subst e
      rw [hn] at ha; cases ha
      exact nd
    · rw [List.getElem?_set_ne e] at hm
      exact S.lv m so' a hm hg ha
/-- a list is let go: nobody writes it from now on -/
theorem grow_die {p : Addr} : Grow H ρ H ⟨ρ.l, p :: ρ.d⟩ := ⟨⟨[], by simp, fun _ h => by simp at h⟩, fun _ h => List.mem_cons_of_mem _ h, fun _ _ _ _ h => h, fun _ h => h, fun _ _ _ _ h => h⟩
theorem RepS.die {p : Addr} {n : Nat} {so : SO} (S : RepS K H ρ st) (hn : ρ.l[n]? = some p) (hs : st[n]? = some so) (hk : RepO K H ρ .gone p) : RepS K H ⟨ρ.l, p :: ρ.d⟩ (st.set n .gone) := by
  have g : Grow H ρ H ⟨ρ.l, p :: ρ.d⟩ := grow_die
  refine ⟨by simpa using S.len, S.nd, fun m so' hm => ?_, fun m so' a hm hg ha => ?_, fun a ha => ?_⟩
  · by_cases e : n = m
    · subst e
      have hl : n < st.length := (List.getElem?_eq_some_iff.mp hs).1
      rw [List.getElem?_set_self hl] at hm; cases hm
      exact ⟨p, hn, hk⟩
    · rw [List.getElem?_set_ne e] at hm
      obtain ⟨a, h1, h2⟩ := S.at_ m so' hm
      exact ⟨a, h1, h2.grow S g rfl⟩
  · by_cases e : n = m
    · subst e
      have hl : n < st.length := (List.getElem?_eq_some_iff.mp hs).1
      rw [List.getElem?_set_self hl] at hm; cases hm
      exact absurd rfl hg
    · rw [List.getElem?_set_ne e] at hm
      refine fun z => ?_
      rcases List.mem_cons.mp z with z | z
      · subst z
        obtain ⟨l1, e1⟩ := List.getElem?_eq_some_iff.mp hn
        obtain ⟨l2, e2⟩ := List.getElem?_eq_some_iff.mp (show ρ.l[m]? = some a from ha)
        exact e ((List.getElem_inj S.nd).mp (e1.trans e2.symm))
      · exact S.lv m so' a hm hg ha z
  · rcases List.mem_cons.mp ha with z | z
    · subst z; exact List.mem_of_getElem? hn
    · exact S.sd a z
theorem RepS.dead {p : Addr} {n : Nat} {xs : List PV} (S : RepS K H ρ st) (hn : ρ.l[n]? = some p) (hs : st[n]? = some (.lst xs)) : Rep K H ⟨ρ.l, p :: ρ.d⟩ (.frz xs) (.ref p) := by
  obtain ⟨a, h1, vs, h2, h3⟩ := S.at_ n _ hs
  rw [hn] at h1; cases h1
  unfold Rep
  exact ⟨p, vs, rfl, .inl ⟨.of h2, .inr (List.mem_cons_self ..)⟩, Reps.grow S grow_die _ _ h3⟩
theorem RepK.vals : ∀ {xs : List (Key × PV)} {vs : List (Key × V)}, RepK K H ρ xs vs → Reps K H ρ (xs.map (·.2)) (vs.map (·.2)) ∧ vs.map (·.1) = xs.map (·.1)
  | [], vs, h => by subst h; exact ⟨by unfold Reps; rfl, rfl⟩
  | x :: xs, vs, h => by
    obtain ⟨v, r, rfl, h1, h2⟩ := h
    obtain ⟨a, b⟩ := RepK.vals h2
    refine ⟨?_, by simp [b]⟩
    rw [List.map_cons, List.map_cons]
    unfold Reps
    exact ⟨v, _, rfl, h1, a⟩
theorem RepS.deadK {p : Addr} {n : Nat} {xs : List (Key × PV)} (S : RepS K H ρ st) (hn : ρ.l[n]? = some p) (hs : st[n]? = some (.dK xs)) : Rep K H ⟨ρ.l, p :: ρ.d⟩ (.fdk (xs.map (·.1)) (xs.map (·.2))) (.ref p) := by
  obtain ⟨a, h1, vs, h2, h3⟩ := S.at_ n _ hs
  rw [hn] at h1; cases h1
  obtain ⟨h4, h5⟩ := h3.vals
  unfold Rep
  exact ⟨p, _, rfl, ⟨vs, .of h2, .inr (List.mem_cons_self ..), h5, rfl⟩, Reps.grow S grow_die _ _ h4⟩
/-- what stands at a number -/
theorem RepS.lst (S : RepS K H ρ st) {n : Nat} {v : V} {xs : List PV} (R : Rep K H ρ (.ref n) v) (e : st[n]? = some (.lst xs)) : ∃ a vs, v = .ref a ∧ ρ.l[n]? = some a ∧ a ∉ ρ.d ∧ H a = some (.lst vs) ∧ Reps K H ρ xs vs := by
  unfold Rep at R
  obtain ⟨a, rfl, i1⟩ := R
  obtain ⟨b, hb, vs, h1, h2⟩ := S.at_ _ _ e
  rw [i1] at hb; cases hb
  exact ⟨a, vs, rfl, i1, S.lv n _ a e (by simp) i1, h1, h2⟩
theorem RepS.dct (S : RepS K H ρ st) {n : Nat} {v : V} {xs : List (Key × PV)} (R : Rep K H ρ (.ref n) v) (e : st[n]? = some (.dK xs)) : ∃ a vs, v = .ref a ∧ ρ.l[n]? = some a ∧ a ∉ ρ.d ∧ H a = some (.dK vs) ∧ RepK K H ρ xs vs := by
  unfold Rep at R
  obtain ⟨a, rfl, i1⟩ := R
  obtain ⟨b, hb, vs, h1, h2⟩ := S.at_ _ _ e
  rw [i1] at hb; cases hb
  exact ⟨a, vs, rfl, i1, S.lv n _ a e (by simp) i1, h1, h2⟩
theorem RepS.inst (S : RepS K H ρ st) {n : Nat} {v : V} {c : Str} {fs : List (Str × PV)} (R : Rep K H ρ (.ref n) v) (e : st[n]? = some (.ins c fs)) : ∃ a C dx vs, v = .ref a ∧ ρ.l[n]? = some a ∧ a ∉ ρ.d ∧ ClsAt K c C ∧ H a = some (.ins C dx vs) ∧ RepF K H ρ fs vs := by
  unfold Rep at R
  obtain ⟨a, rfl, i1⟩ := R
  obtain ⟨b, hb, C, dx, vs, hc, h1, h2⟩ := S.at_ _ _ e
  rw [i1] at hb; cases hb
  exact ⟨a, C, dx, vs, rfl, i1, S.lv n _ a e (by simp) i1, hc, h1, h2⟩
theorem ClsAt.uniq {c : Str} {C C' : Addr} (h : ClsAt K c C) (h' : ClsAt K c C') : C = C' := by
  unfold ClsAt at h h'
  rw [h] at h'
  simpa using h'
/-! ### a dict that is walked is locked -/
theorem SqT.rdk (g : ∀ a u, NF u → Rd H a u → Rd H' a u) {a : Addr} {vs : List V} (h : SqT K H a vs) : SqT K H' a vs := by
  rcases h with h | h
  · exact .inl (g _ _ trivial h)
  · exact .inr h
theorem FrzAt.rdk (g : ∀ a u, NF u → Rd H a u → Rd H' a u) {a : Addr} {vs : List V} (h : FrzAt K H ρ a vs) : FrzAt K H' ρ a vs := by
  rcases h with ⟨h, n⟩ | h
  · exact .inl ⟨g _ _ trivial h, n⟩
  · exact .inr h
theorem FdkAt.rdk (g : ∀ a u, NF u → Rd H a u → Rd H' a u) {a : Addr} {ks : List Key} {vs : List V} (h : FdkAt H ρ a ks vs) : FdkAt H' ρ a ks vs := by
  obtain ⟨kvs, h, r⟩ := h
  exact ⟨kvs, g _ _ trivial h, r⟩
mutual
theorem Rep.rdk (g : ∀ a u, NF u → Rd H a u → Rd H' a u) : ∀ (x : PV) (v : V), Rep K H ρ x v → Rep K H' ρ x v
  | .non, v, h => by unfold Rep at *; exact h
  | .bl b, v, h => by unfold Rep at *; exact h
  | .int i, v, h => by unfold Rep at *; exact h
  | .str x, v, h => by unfold Rep at *; exact h
  | .ty x, v, h => by unfold Rep at *; exact h
  | .ref x, v, h => by unfold Rep at *; exact h
  | .tup xs, v, h => by
    unfold Rep at *
    obtain ⟨a, vs, e, h1, h2⟩ := h
    exact ⟨a, vs, e, SqT.rdk g h1, Reps.rdk g xs vs h2⟩
  | .frz xs, v, h => by
    unfold Rep at *
    obtain ⟨a, vs, e, h1, h2⟩ := h
    exact ⟨a, vs, e, h1.rdk g, Reps.rdk g xs vs h2⟩
  | .fdk ks xs, v, h => by
    unfold Rep at *
    obtain ⟨a, vs, e, h1, h2⟩ := h
    exact ⟨a, vs, e, h1.rdk g, Reps.rdk g xs vs h2⟩
theorem Reps.rdk (g : ∀ a u, NF u → Rd H a u → Rd H' a u) : ∀ (xs : List PV) (vs : List V), Reps K H ρ xs vs → Reps K H' ρ xs vs
  | [], vs, h => by unfold Reps at *; exact h
  | x :: xs, vs, h => by
    unfold Reps at *
    obtain ⟨v, r, e, h1, h2⟩ := h
    exact ⟨v, r, e, Rep.rdk g x v h1, Reps.rdk g xs r h2⟩
end
theorem RepK.rdk (g : ∀ a u, NF u → Rd H a u → Rd H' a u) : ∀ (xs : List (Key × PV)) (vs : List (Key × V)), RepK K H ρ xs vs → RepK K H' ρ xs vs
  | [], vs, h => h
  | x :: xs, vs, h => by
    obtain ⟨v, r, e, h1, h2⟩ := h
    exact ⟨v, r, e, Rep.rdk g _ _ h1, RepK.rdk g xs r h2⟩
theorem RepF.rdk (g : ∀ a u, NF u → Rd H a u → Rd H' a u) : ∀ (xs : List (Str × PV)) (vs : List (Str × V)), RepF K H ρ xs vs → RepF K H' ρ xs vs
  | [], vs, h => h
  | x :: xs, vs, h => by
    obtain ⟨v, r, e, h1, h2⟩ := h
    exact ⟨v, r, e, Rep.rdk g _ _ h1, RepF.rdk g xs r h2⟩
theorem RepE.rdk (g : ∀ a u, NF u → Rd H a u → Rd H' a u) (E : RepE K H ρ env σ) : RepE K H' ρ env σ :=
  ⟨E.len, fun i x h => by
    obtain ⟨v, a, b⟩ := E.at_ i x h
    exact ⟨v, a, Rep.rdk g x v b⟩⟩
/-- what is read as u at a, locked or not -/
theorem RepS.rdk (S : RepS K H ρ st) (g : ∀ a u, NF u → Rd H a u → Rd H' a u) {d : Addr} (sd : ρ.Safe d) (e : ∀ a, a ≠ d → H' a = H a) : RepS K H' ρ st := by
  refine ⟨S.len, S.nd, fun n so h => ?_, S.lv, S.sd⟩
  obtain ⟨a, h1, h2⟩ := S.at_ n so h
  refine ⟨a, h1, ?_⟩
  by_cases hg : so = .gone
  · subst hg
    rcases h2 with ⟨vs, h2⟩ | ⟨vs, h2⟩
    · exact .inl ⟨vs, g _ _ trivial h2⟩
    · exact .inr ⟨vs, g _ _ trivial h2⟩
  · have ha : a ≠ d := fun z => by
      subst z
      rcases sd with sd | sd
      · exact sd (List.mem_of_getElem? h1)
      · exact S.lv n so a h hg h1 sd
    cases so with
    | lst xs => obtain ⟨vs, h3, h4⟩ := h2; exact ⟨vs, by rw [e a ha]; exact h3, Reps.rdk g _ _ h4⟩
    | dK xs => obtain ⟨vs, h3, h4⟩ := h2; exact ⟨vs, by rw [e a ha]; exact h3, RepK.rdk g _ _ h4⟩
    | ins c xs => obtain ⟨C, dx, vs, hc, h3, h4⟩ := h2; exact ⟨C, dx, vs, hc, by rw [e a ha]; exact h3, RepF.rdk g _ _ h4⟩
    | gone => exact absurd rfl hg
end
end IL

namespace IL
open PySem PySem.Spec PyProof.Rows L2

/-! ### what is computed, by plain functions -/
def ob {α β : Type} (m : Option (α × Sto)) (k : α → Sto → Option β) : Option β := match m with
  | some (a, s) => k a s
  | none => none
theorem ob_some {α β : Type} {m : Option (α × Sto)} {k : α → Sto → Option β} {r : β} (h : ob m k = some r) : ∃ a s, m = some (a, s) ∧ k a s = some r := by
  unfold ob at h
  split at h
  · exact ⟨_, _, rfl, h⟩
  · cases h
abbrev IE := PEnv → Sto → Option (PV × Sto)
abbrev IA := PEnv → Sto → Option (List PV × Sto)
abbrev IT := PEnv → Sto → Option (Bool × Sto)
abbrev IO := PEnv → Sto → Option (Option Int × Sto)
inductive Fl where
  | nx (e : PEnv) (s : Sto) | rt (v : PV) (s : Sto) | bk (e : PEnv) (s : Sto) | ct (e : PEnv) (s : Sto)
  /-- an exception of the program's class of that name, with its fields -/
  | er (e : PEnv) (c : Str) (fs : List (Str × PV)) (s : Sto)
abbrev IS := PEnv → Sto → Option Fl
/-- operations on values -/
abbrev F1 := PV → Sto → Option (PV × Sto)
abbrev F2 := PV → PV → Sto → Option (PV × Sto)
abbrev FA := List PV → Sto → Option (PV × Sto)

section
variable (K : PySem.W.Frag)
def tI (i : IE) : TE := fun σ H Q => ∃ env st ρ x st', RepE K H ρ env σ ∧ RepS K H ρ st ∧ i env st = some (x, st') ∧ ∀ v H' ρ', Grow H ρ H' ρ' → RepS K H' ρ' st' → Rep K H' ρ' x v → Q v H'
def tIA (i : IA) : TA := fun σ H Q => ∃ env st ρ x st', RepE K H ρ env σ ∧ RepS K H ρ st ∧ i env st = some (x, st') ∧ ∀ v H' ρ', Grow H ρ H' ρ' → RepS K H' ρ' st' → Reps K H' ρ' x v → Q v H'
def tIT (i : IT) : TT := fun σ H Q => ∃ env st ρ x st', RepE K H ρ env σ ∧ RepS K H ρ st ∧ i env st = some (x, st') ∧ ∀ H' ρ', Grow H ρ H' ρ' → RepS K H' ρ' st' → Q x H'
def tIO (i : IO) : TO := fun σ H Q => ∃ env st ρ x st', RepE K H ρ env σ ∧ RepS K H ρ st ∧ i env st = some (x, st') ∧ ∀ H' ρ', Grow H ρ H' ρ' → RepS K H' ρ' st' → Q x H'
def PostF (W : WX) (D : Ends) (H : Hp) (ρ : Rho) : Fl → Prop
  | .nx e s => ∀ σ' H' ρ', Grow H ρ H' ρ' → RepS K H' ρ' s → RepE K H' ρ' e σ' → D.nx σ' H'
  | .bk e s => ∀ σ' H' ρ', Grow H ρ H' ρ' → RepS K H' ρ' s → RepE K H' ρ' e σ' → D.bk σ' H'
  | .ct e s => ∀ σ' H' ρ', Grow H ρ H' ρ' → RepS K H' ρ' s → RepE K H' ρ' e σ' → D.ct σ' H'
  | .rt x s => ∀ v H' ρ', Grow H ρ H' ρ' → RepS K H' ρ' s → Rep K H' ρ' x v → D.rt v H'
  | .er e c fs s => ∀ C d σ' H' ρ' vs, ClsAt K c C → Grow H ρ H' ρ' → RepS K H' ρ' s → RepE K H' ρ' e σ' → RepF K H' ρ' fs vs → H' d = some (.xd vs) → W (.ref C) (some d) σ' H'
def tIS (W : WX) (i : IS) : TS := fun D σ H => ∃ env st ρ f, RepE K H ρ env σ ∧ RepS K H ρ st ∧ i env st = some f ∧ PostF K W D H ρ f
/-- an operation's reading does what the function does -/
def OpI (r : R2) (f : F2) : Prop := ∀ H ρ st x y vx vy z st' (Q : VK), RepS K H ρ st → Rep K H ρ x vx → Rep K H ρ y vy → f x y st = some (z, st') → (∀ v H' ρ', Grow H ρ H' ρ' → RepS K H' ρ' st' → Rep K H' ρ' z v → Q v H') → r vx vy H Q
def UnI (r : V → Hp → VK → Prop) (f : F1) : Prop := ∀ H ρ st x vx z st' (Q : VK), RepS K H ρ st → Rep K H ρ x vx → f x st = some (z, st') → (∀ v H' ρ', Grow H ρ H' ρ' → RepS K H' ρ' st' → Rep K H' ρ' z v → Q v H') → r vx H Q
def CallI (r : List V → Hp → VK → Prop) (f : FA) : Prop := ∀ H ρ st xs vs z st' (Q : VK), RepS K H ρ st → Reps K H ρ xs vs → f xs st = some (z, st') → (∀ v H' ρ', Grow H ρ H' ρ' → RepS K H' ρ' st' → Rep K H' ρ' z v → Q v H') → r vs H Q
end
section
variable {X : Cx} {e : Expr}
theorem PE.imp {t t' : TE} (h : PE X e t) (m : ∀ σ H Q, t' σ H Q → t σ H Q) : PE X e t' := ⟨fun pins s σ H Q I q => h.run pins s σ H Q I (m σ H Q q)⟩
theorem PT.imp {t t' : TT} (h : PT X e t) (m : ∀ σ H Q, t' σ H Q → t σ H Q) : PT X e t' := ⟨fun pins s σ H Q I q => h.run pins s σ H Q I (m σ H Q q)⟩
theorem PA.imp {es : List Expr} {t t' : TA} (h : PA X es t) (m : ∀ σ H Q, t' σ H Q → t σ H Q) : PA X es t' := ⟨fun pos pins s σ H Q I q => h.run pos pins s σ H Q I (m σ H Q q)⟩
theorem PO.imp {e : Option Expr} {t t' : TO} (h : PO X e t) (m : ∀ σ H Q, t' σ H Q → t σ H Q) : PO X e t' := ⟨fun pins s σ H Q I q => h.run pins s σ H Q I (m σ H Q q)⟩
theorem PS.imp {st : Stmt} {t t' : TS} (h : PS X st t) (m : ∀ D σ H, t' D σ H → t D σ H) : PS X st t' := ⟨fun pins s σ H D I q => h.run pins s σ H D I (m D σ H q)⟩
theorem PSs.imp {st : List Stmt} {t t' : TS} (h : PSs X st t) (m : ∀ D σ H, t' D σ H → t D σ H) : PSs X st t' := ⟨fun pins s σ H D I q => h.run pins s σ H D I (m D σ H q)⟩
theorem OpR.or {f : Value → Value → Sem Value} {r r' : R2} (h : OpR X f r) (h' : OpR X f r') : OpR X f (fun x y H Q => r x y H Q ∨ r' x y H Q) := fun pins s σ H x y v u Q I rx ry q =>
  q.elim (h pins s σ H x y v u Q I rx ry) (h' pins s σ H x y v u Q I rx ry)
theorem CallR.or {f : Value} {r r' : List V → Hp → VK → Prop} (h : CallR X f r) (h' : CallR X f r') : CallR X f (fun x H Q => r x H Q ∨ r' x H Q) := fun pins s σ H xs us Q I rx q =>
  q.elim (h pins s σ H xs us Q I rx) (h' pins s σ H xs us Q I rx)
theorem SlR.or {r r' : V → Option Int → Option Int → Hp → VK → Prop} (h : SlR X r) (h' : SlR X r') : SlR X (fun x a b H Q => r x a b H Q ∨ r' x a b H Q) := fun pins s σ H x v vl vu lo hi sl Q I rx hs pl pu q =>
  q.elim (h pins s σ H x v vl vu lo hi sl Q I rx hs pl pu) (h' pins s σ H x v vl vu lo hi sl Q I rx hs pl pu)
end

section
variable {X : Cx} {a b c e : Expr} {es rest : List Expr} {pos : Pos} {ia ib ic : IE} {ta tb : IT}
/-! ### names, constants -/
def iVar (i : Nat) : IE := fun env st => match env[i]? with
  | some (some v) => some (v, st)
  | _ => none
theorem r_var {i : Nat} {x : Str} (hN : X.N[i]? = some x) (hv : Vis X.env.scope x) (hd : (x == ("__debug__" : Str)) = false := by decide) (hcd : (x == ("__classdict__" : Str)) = false := by decide) : PE X (.Name x pos) (tI X.K (iVar i)) :=
  PE.imp (pe_var hN hv hd hcd) fun σ H Q ⟨env, st, ρ, x, st', E, S, h, q⟩ => by
    unfold iVar at h
    split at h
    · rename_i v e
      cases h
      obtain ⟨w, h1, h2⟩ := E.at_ i _ e
      exact ⟨w, h1, q w H ρ Grow.refl S h2⟩
    · cases h
def iC (v : PV) : IE := fun _ st => some (v, st)
theorem r_c {x : PV} {v : V} (h : PE X e (tC v)) (r : ∀ H ρ, Rep X.K H ρ x v) : PE X e (tI X.K (iC x)) := PE.imp h fun σ H Q ⟨env, st, ρ, y, st', E, S, h, q⟩ => by
  cases h
  exact q v H ρ Grow.refl S (r H ρ)
theorem r_int {i j} : PE X (.Constant (.int i) j pos) (tI X.K (iC (.int i))) := r_c pe_int fun _ _ => by unfold Rep; rfl
theorem r_bl {i j} : PE X (.Constant (.bool i) j pos) (tI X.K (iC (.bl i))) := r_c pe_bl fun _ _ => by unfold Rep; rfl
theorem r_non {j} : PE X (.Constant .none j pos) (tI X.K (iC .non)) := r_c pe_non fun _ _ => by unfold Rep; rfl
theorem r_str {i j} : PE X (.Constant (.str i) j pos) (tI X.K (iC (.str i))) := r_c pe_str fun _ _ => by unfold Rep; rfl
/-- a module's constant -/
def GC (K : PySem.W.Frag) (mg : Str → Option Value) (x : Str) (y : PV) : Prop := ∃ u v, mg x = some u ∧ RelV v u ∧ ∀ H ρ, Rep K H ρ y v
theorem r_glob {x : Str} {y : PV} (hg : Gl X x) (h : GC X.K X.mg x y) (hd : (x == ("__debug__" : Str)) = false := by decide) : PE X (.Name x pos) (tI X.K (iC y)) := by
  obtain ⟨u, v, h1, h2, h3⟩ := h
  exact r_c (pe_glob hg h1 h2 hd) h3
/-- a built-in class as a value -/
theorem r_ty {x : Str} {n : String} (hg : Gl X x) (hm : X.mg x = none) (hv : bootBuiltins x = some (.type n)) (hn : x ≠ "__name__" := by decide) (hd : (x == ("__debug__" : Str)) = false := by decide) : PE X (.Name x pos) (tI X.K (iC (.ty n))) :=
  r_c (pe_bltn (v := .ty n) hg hm hv rfl hn hd) fun _ _ => by unfold Rep; rfl

/-! ### two in a row -/
def iBin (f : F2) (ia ib : IE) : IE := fun env st => ob (ia env st) fun x s1 => ob (ib env s1) fun y s2 => f x y s2
def iUn (f : F1) (ia : IE) : IE := fun env st => ob (ia env st) fun x s1 => f x s1
theorem bin_to {r : R2} {f : F2} {K : PySem.W.Frag} (hf : OpI K r f) {σ : L2.St} {H : Hp} {Q : VK} (h : tI K (iBin f ia ib) σ H Q) : tOp r (tI K ia) (tI K ib) σ H Q := by
  obtain ⟨env, st, ρ, z, st', E, S, h, q⟩ := h
  obtain ⟨x, s1, h1, h⟩ := ob_some h
  obtain ⟨y, s2, h2, h⟩ := ob_some h
  refine ⟨env, st, ρ, x, s1, E, S, h1, fun vx H1 ρ1 G1 S1 R1 => ⟨env, s1, ρ1, y, s2, E.grow S G1, S1, h2, fun vy H2 ρ2 G2 S2 R2 => ?_⟩⟩
  exact hf H2 ρ2 s2 x y vx vy z st' Q S2 (Rep.grow S1 G2 _ _ R1) R2 h fun v H3 ρ3 G3 S3 R3 => q v H3 ρ3 ((G1.trans G2).trans G3) S3 R3
theorem r_op {op : Operator} {r : R2} {f : F2} (ho : OpR X (binaryOp op) r) (hf : OpI X.K r f) (ha : PE X a (tI X.K ia)) (hb : PE X b (tI X.K ib)) : PE X (.BinOp a op b pos) (tI X.K (iBin f ia ib)) :=
  PE.imp (pe_op ho ha hb) fun _ _ _ h => bin_to hf h
theorem r_cmp {op : CmpOp} {r : R2} {f : F2} (ho : OpR X (compareOp op) r) (hf : OpI X.K r f) (ha : PE X a (tI X.K ia)) (hb : PE X b (tI X.K ib)) (hm : behindInMarks op b = false) : PE X (.Compare a [op] [b] pos) (tI X.K (iBin f ia ib)) :=
  PE.imp (pe_cmpR ho ha hb hm) fun _ _ _ h => bin_to hf h
theorem r_ix {r : R2} {f : F2} (ho : IxR X r) (hf : OpI X.K r f) (ha : PE X a (tI X.K ia)) (hb : PE X b (tI X.K ib)) (hs : PlainIx b) : PE X (.Subscript a b pos) (tI X.K (iBin f ia ib)) :=
  PE.imp (pe_ix ho ha hb hs) fun _ _ _ h => bin_to hf h
theorem r_un {op : UnaryOp} {r : V → Hp → VK → Prop} {f : F1} (ho : UnR X (unaryOp op) r) (hf : UnI X.K r f) (ha : PE X a (tI X.K ia)) : PE X (.UnaryOp op a pos) (tI X.K (iUn f ia)) :=
  PE.imp (pe_un ho ha) fun σ H Q ⟨env, st, ρ, z, st', E, S, h, q⟩ => by
    obtain ⟨x, s1, h1, h⟩ := ob_some h
    exact ⟨env, st, ρ, x, s1, E, S, h1, fun vx H1 ρ1 G1 S1 R1 => hf H1 ρ1 s1 x vx z st' Q S1 R1 h fun v H3 ρ3 G3 S3 R3 => q v H3 ρ3 (G1.trans G3) S3 R3⟩
/-- a chain of two comparisons -/
def iChain (f g : F2) (ia ib ic : IE) : IE := fun env st => ob (ia env st) fun x s1 => ob (ib env s1) fun y s2 => ob (f x y s2) fun z s3 => match z with
  | .bl true => ob (ic env s3) fun w s4 => g y w s4
  | .bl false => some (.bl false, s3)
  | _ => none
theorem r_chain {op op' : CmpOp} {r r' : R2} {f g : F2} (ho : OpR X (compareOp op) r) (hf : OpI X.K r f) (ho' : OpR X (compareOp op') r') (hg : OpI X.K r' g) (ha : PE X a (tI X.K ia)) (hb : PE X b (tI X.K ib)) (hc : PE X c (tI X.K ic))
    (hm : lastMarks [op, op'] [b, c] = false := by with_unfolding_all rfl) : PE X (.Compare a [op, op'] [b, c] pos) (tI X.K (iChain f g ia ib ic)) :=
  PE.imp (pe_chain ho ho' ha hb hc hm) fun σ H Q ⟨env, st, ρ, z, st', E, S, h, q⟩ => by
    obtain ⟨x, s1, h1, h⟩ := ob_some h
    obtain ⟨y, s2, h2, h⟩ := ob_some h
    obtain ⟨w, s3, h3, h⟩ := ob_some h
    refine ⟨env, st, ρ, x, s1, E, S, h1, fun vx H1 ρ1 G1 S1 R1 => ⟨env, s1, ρ1, y, s2, E.grow S G1, S1, h2, fun vy H2 ρ2 G2 S2 R2 => ?_⟩⟩
    refine hf H2 ρ2 s2 x y vx vy w s3 _ S2 (Rep.grow S1 G2 _ _ R1) R2 h3 fun v H3 ρ3 G3 S3 R3 => ?_
    split at h
    · unfold Rep at R3
      subst R3
      obtain ⟨w, s4, h4, h⟩ := ob_some h
      refine ⟨true, rfl, ?_⟩
      rw [if_pos rfl]
      refine ⟨env, s3, ρ3, w, s4, ((E.grow S G1).grow S1 G2).grow S2 G3, S3, h4, fun vw H4 ρ4 G4 S4 R4 => ?_⟩
      exact hg H4 ρ4 s4 y w vy vw z st' Q S4 (Rep.grow S3 G4 _ _ (Rep.grow S2 G3 _ _ R2)) R4 h fun v H5 ρ5 G5 S5 R5 => q v H5 ρ5 ((((G1.trans G2).trans G3).trans G4).trans G5) S5 R5
    · unfold Rep at R3
      subst R3
      cases h
      refine ⟨false, rfl, ?_⟩
      rw [if_neg Bool.false_ne_true]
      exact q _ H3 ρ3 ((G1.trans G2).trans G3) S3 (by unfold Rep; rfl)
    · cases h

/-! ### truth -/
def tru (st : Sto) : PV → Option Bool
  | .non => some false
  | .bl b => some b
  | .int i => some (i != 0)
  | .str x => if x.length ≤ 9000000 then some ((x.length : Int) != 0) else none
  | .tup xs => some (!xs.isEmpty)
  | .frz xs => some (!xs.isEmpty)
  | .ref n => match st[n]? with
    | some (.lst xs) => some (!xs.isEmpty)
    | some (.dK kvs) => some (!kvs.isEmpty)
    | _ => none
  | .ty _ => none
  | .fdk _ _ => none
theorem line5 {n : Nat} (h : n ≤ 9000000) : n ≤ sizeLine := Nat.le_trans h (by decide)
theorem Reps.empty {K : PySem.W.Frag} {H : Hp} {ρ : Rho} {xs : List PV} {vs : List V} (h : Reps K H ρ xs vs) : vs.isEmpty = xs.isEmpty := by
  have := h.length
  cases xs <;> cases vs <;> simp_all
theorem RepK.length {K : PySem.W.Frag} {H : Hp} {ρ : Rho} : ∀ {xs : List (Key × PV)} {vs : List (Key × V)}, RepK K H ρ xs vs → xs.length = vs.length
  | [], vs, h => by subst h; rfl
  | x :: xs, vs, h => by
    obtain ⟨v, r, rfl, _, h2⟩ := h
    simp [RepK.length h2]
theorem RepK.empty {K : PySem.W.Frag} {H : Hp} {ρ : Rho} {xs : List (Key × PV)} {vs : List (Key × V)} (h : RepK K H ρ xs vs) : vs.isEmpty = xs.isEmpty := by
  have := h.length
  cases xs <;> cases vs <;> simp_all
theorem tru_rep {K : PySem.W.Frag} {H : Hp} {ρ : Rho} {st : Sto} (S : RepS K H ρ st) {x : PV} {v : V} {k : Bool} (R : Rep K H ρ x v) (h : tru st x = some k) : TruV K v H k := by
  cases x with
  | non => unfold Rep at R; subst R; cases h; rfl
  | bl b => unfold Rep at R; subst R; cases h; rfl
  | int i => unfold Rep at R; subst R; cases h; rfl
  | str y =>
    unfold Rep at R; subst R
    simp only [tru] at h
    split at h
    · cases h; exact ⟨line5 (by assumption), rfl⟩
    · cases h
  | tup xs =>
    unfold Rep at R
    obtain ⟨a, vs, rfl, h1, h2⟩ := R
    cases h
    exact .inr (.inl ⟨vs, h1, by rw [h2.empty]⟩)
  | frz xs =>
    unfold Rep at R
    obtain ⟨a, vs, rfl, h1, h2⟩ := R
    cases h
    exact .inl ⟨vs, h1.sq, by rw [h2.empty]⟩
  | ty n => cases h
  | fdk ks xs => cases h
  | ref n =>
    simp only [tru] at h
    split at h
    · rename_i xs e
      obtain ⟨a, vs, rfl, _, _, h2, h3⟩ := S.lst R e
      cases h
      exact .inl ⟨vs, .of h2, by rw [h3.empty]⟩
    · rename_i xs e
      obtain ⟨a, vs, rfl, _, _, h2, h3⟩ := S.dct R e
      cases h
      exact .inr (.inr ⟨vs, h2, by rw [h3.empty]⟩)
    · cases h
def iTest (ia : IE) : IT := fun env st => ob (ia env st) fun x s1 => (tru s1 x).map fun k => (k, s1)
theorem map_pair {α : Type} {o : Option α} {s : Sto} {r : α × Sto} (h : (o.map fun k => (k, s)) = some r) : o = some r.1 ∧ r.2 = s := by
  cases o with
  | none => cases h
  | some k => cases h; exact ⟨rfl, rfl⟩
theorem r_truth (ha : PE X a (tI X.K ia)) (he : ∀ whole, isTrue a X.env whole = (do let v ← whole; standAt a.pos; holding [v] (truthy v))) : PT X a (tIT X.K (iTest ia)) :=
  PT.imp (pt_truth ha he) fun σ H Q ⟨env, st, ρ, z, st', E, S, h, q⟩ => by
    obtain ⟨x, s1, h1, h⟩ := ob_some h
    obtain ⟨h2, h3⟩ := map_pair h
    simp only at h2 h3
    subst h3
    exact ⟨env, st, ρ, x, _, E, S, h1, fun v H1 ρ1 G1 S1 R1 => ⟨z, tru_rep S1 R1 h2, q H1 ρ1 G1 S1⟩⟩
/-- a comparison as a test -/
def isBl : PV → Option Bool
  | .bl b => some b
  | _ => none
def iTestB (ia : IE) : IT := fun env st => ob (ia env st) fun x s1 => (isBl x).map fun k => (k, s1)
theorem testB_to {K : PySem.W.Frag} {σ : L2.St} {H : Hp} {Q : Bool → Hp → Prop} (h : tIT K (iTestB ia) σ H Q) : tTest (tI K ia) σ H Q := by
  obtain ⟨env, st, ρ, z, st', E, S, h, q⟩ := h
  obtain ⟨x, s1, h1, h⟩ := ob_some h
  obtain ⟨h2, h3⟩ := map_pair h
  simp only at h2 h3
  subst h3
  refine ⟨env, st, ρ, x, _, E, S, h1, fun v H1 ρ1 G1 S1 R1 => ?_⟩
  cases x <;> simp only [isBl, Option.some.injEq, reduceCtorEq] at h2
  subst h2
  unfold Rep at R1
  exact ⟨_, R1, q H1 ρ1 G1 S1⟩
theorem TE_test_mono {t t' : TE} (m : ∀ σ H Q, t' σ H Q → t σ H Q) {σ : L2.St} {H : Hp} {Q : Bool → Hp → Prop} (h : tTest t' σ H Q) : tTest t σ H Q := m _ _ _ h
theorem r_cmpT {op : CmpOp} {r : R2} {f : F2} (ho : OpR X (compareOp op) r) (hf : OpI X.K r f) (ha : PE X a (tI X.K ia)) (hb : PE X b (tI X.K ib)) (hm : behindInMarks op b = false) : PT X (.Compare a [op] [b] pos) (tIT X.K (iTestB (iBin f ia ib))) :=
  PT.imp (pt_cmpR ho ha hb hm) fun _ _ _ h => TE_test_mono (fun _ _ _ h => bin_to hf h) (testB_to h)
theorem chain_to {K : PySem.W.Frag} {r r' : R2} {f g : F2} (hf : OpI K r f) (hg : OpI K r' g) {σ : L2.St} {H : Hp} {Q : VK} (h : tI K (iChain f g ia ib ic) σ H Q) : tChain r r' (tI K ia) (tI K ib) (tI K ic) σ H Q := by
  obtain ⟨env, st, ρ, z, st', E, S, h, q⟩ := h
  obtain ⟨x, s1, h1, h⟩ := ob_some h
  obtain ⟨y, s2, h2, h⟩ := ob_some h
  obtain ⟨w, s3, h3, h⟩ := ob_some h
  refine ⟨env, st, ρ, x, s1, E, S, h1, fun vx H1 ρ1 G1 S1 R1 => ⟨env, s1, ρ1, y, s2, E.grow S G1, S1, h2, fun vy H2 ρ2 G2 S2 R2 => ?_⟩⟩
  refine hf H2 ρ2 s2 x y vx vy w s3 _ S2 (Rep.grow S1 G2 _ _ R1) R2 h3 fun v H3 ρ3 G3 S3 R3 => ?_
  split at h
  · unfold Rep at R3
    subst R3
    obtain ⟨w, s4, h4, h⟩ := ob_some h
    refine ⟨true, rfl, ?_⟩
    rw [if_pos rfl]
    refine ⟨env, s3, ρ3, w, s4, ((E.grow S G1).grow S1 G2).grow S2 G3, S3, h4, fun vw H4 ρ4 G4 S4 R4 => ?_⟩
    exact hg H4 ρ4 s4 y w vy vw z st' Q S4 (Rep.grow S3 G4 _ _ (Rep.grow S2 G3 _ _ R2)) R4 h fun v H5 ρ5 G5 S5 R5 => q v H5 ρ5 ((((G1.trans G2).trans G3).trans G4).trans G5) S5 R5
  · unfold Rep at R3
    subst R3
    cases h
    refine ⟨false, rfl, ?_⟩
    rw [if_neg Bool.false_ne_true]
    exact q _ H3 ρ3 ((G1.trans G2).trans G3) S3 (by unfold Rep; rfl)
  · cases h
theorem r_chainT {op op' : CmpOp} {r r' : R2} {f g : F2} (ho : OpR X (compareOp op) r) (hf : OpI X.K r f) (ho' : OpR X (compareOp op') r') (hg : OpI X.K r' g) (ha : PE X a (tI X.K ia)) (hb : PE X b (tI X.K ib)) (hc : PE X c (tI X.K ic))
    (hm : lastMarks [op, op'] [b, c] = false := by with_unfolding_all rfl) : PT X (.Compare a [op, op'] [b, c] pos) (tIT X.K (iTestB (iChain f g ia ib ic))) :=
  PT.imp (pt_chain ho ho' ha hb hc hm) fun _ _ _ h => TE_test_mono (fun _ _ _ h => chain_to hf hg h) (testB_to h)

/-! ### and, or, not -/
def iAnd (t u : IT) : IT := fun env st => ob (t env st) fun k s1 => match k with
  | true => u env s1
  | false => some (false, s1)
def iOr (t u : IT) : IT := fun env st => ob (t env st) fun k s1 => match k with
  | true => some (true, s1)
  | false => u env s1
def iNot (t : IT) : IT := fun env st => ob (t env st) fun k s1 => some (!k, s1)
theorem PW.imp {t t' : TT} (h : PW X e t) (m : ∀ σ H Q, t' σ H Q → t σ H Q) : PW X e t' := ⟨fun w pins s σ H Q I q => h.run w pins s σ H Q I (m σ H Q q)⟩
theorem w_and1 (ha : PT X a (tIT X.K ta)) : PW X (.BoolOp .And [a] pos) (tIT X.K ta) := pw_and1 ha
theorem w_or1 (ha : PT X a (tIT X.K ta)) : PW X (.BoolOp .Or [a] pos) (tIT X.K ta) := pw_or1 ha
theorem w_and (ha : PT X a (tIT X.K ta)) (hb : PW X (.BoolOp .And (b :: rest) pos) (tIT X.K tb)) : PW X (.BoolOp .And (a :: b :: rest) pos) (tIT X.K (iAnd ta tb)) :=
  PW.imp (pw_and ha hb) fun σ H Q ⟨env, st, ρ, z, st', E, S, h, q⟩ => by
    obtain ⟨k, s1, h1, h⟩ := ob_some h
    refine ⟨env, st, ρ, k, s1, E, S, h1, fun H1 ρ1 G1 S1 => ?_⟩
    cases k with
    | true =>
      rw [if_pos rfl]
      exact ⟨env, s1, ρ1, z, st', E.grow S G1, S1, h, fun H2 ρ2 G2 S2 => q H2 ρ2 (G1.trans G2) S2⟩
    | false =>
      rw [if_neg Bool.false_ne_true]
      cases h
      exact q H1 ρ1 G1 S1
theorem w_or (ha : PT X a (tIT X.K ta)) (hb : PW X (.BoolOp .Or (b :: rest) pos) (tIT X.K tb)) : PW X (.BoolOp .Or (a :: b :: rest) pos) (tIT X.K (iOr ta tb)) :=
  PW.imp (pw_or ha hb) fun σ H Q ⟨env, st, ρ, z, st', E, S, h, q⟩ => by
    obtain ⟨k, s1, h1, h⟩ := ob_some h
    refine ⟨env, st, ρ, k, s1, E, S, h1, fun H1 ρ1 G1 S1 => ?_⟩
    cases k with
    | true =>
      rw [if_pos rfl]
      cases h
      exact q H1 ρ1 G1 S1
    | false =>
      rw [if_neg Bool.false_ne_true]
      exact ⟨env, s1, ρ1, z, st', E.grow S G1, S1, h, fun H2 ρ2 G2 S2 => q H2 ρ2 (G1.trans G2) S2⟩
theorem r_not (ha : PT X a (tIT X.K ta)) : PT X (.UnaryOp .Not a pos) (tIT X.K (iNot ta)) :=
  PT.imp (pt_not ha) fun σ H Q ⟨env, st, ρ, z, st', E, S, h, q⟩ => by
    obtain ⟨k, s1, h1, h⟩ := ob_some h
    cases h
    exact ⟨env, st, ρ, k, _, E, S, h1, fun H1 ρ1 G1 S1 => q H1 ρ1 G1 S1⟩
/-- .. as values -/
def iAndV (ia ib : IE) : IE := fun env st => ob (ia env st) fun x s1 => match tru s1 x with
  | some true => ib env s1
  | some false => some (x, s1)
  | none => none
def iOrV (ia ib : IE) : IE := fun env st => ob (ia env st) fun x s1 => match tru s1 x with
  | some true => some (x, s1)
  | some false => ib env s1
  | none => none
def iNotV (ia : IE) : IE := fun env st => ob (ia env st) fun x s1 => (tru s1 x).map fun k => (.bl (!k), s1)
theorem r_one {op} (h : PE X a (tI X.K ia)) : PE X (.BoolOp op [a] pos) (tI X.K ia) := pe_one h
theorem r_andV (ha : PE X a (tI X.K ia)) (hb : PE X (.BoolOp .And (b :: rest) pos) (tI X.K ib)) : PE X (.BoolOp .And (a :: b :: rest) pos) (tI X.K (iAndV ia ib)) :=
  PE.imp (pe_andT ha hb) fun σ H Q ⟨env, st, ρ, z, st', E, S, h, q⟩ => by
    obtain ⟨x, s1, h1, h⟩ := ob_some h
    refine ⟨env, st, ρ, x, s1, E, S, h1, fun v H1 ρ1 G1 S1 R1 => ?_⟩
    split at h
    · rename_i e
      refine ⟨true, tru_rep S1 R1 e, ?_⟩
      rw [if_pos rfl]
      exact ⟨env, s1, ρ1, z, st', E.grow S G1, S1, h, fun v H2 ρ2 G2 S2 R2 => q v H2 ρ2 (G1.trans G2) S2 R2⟩
    · rename_i e
      refine ⟨false, tru_rep S1 R1 e, ?_⟩
      rw [if_neg Bool.false_ne_true]
      cases h
      exact q v H1 ρ1 G1 S1 R1
    · cases h
theorem r_orV (ha : PE X a (tI X.K ia)) (hb : PE X (.BoolOp .Or (b :: rest) pos) (tI X.K ib)) : PE X (.BoolOp .Or (a :: b :: rest) pos) (tI X.K (iOrV ia ib)) :=
  PE.imp (pe_orT ha hb) fun σ H Q ⟨env, st, ρ, z, st', E, S, h, q⟩ => by
    obtain ⟨x, s1, h1, h⟩ := ob_some h
    refine ⟨env, st, ρ, x, s1, E, S, h1, fun v H1 ρ1 G1 S1 R1 => ?_⟩
    split at h
    · rename_i e
      refine ⟨true, tru_rep S1 R1 e, ?_⟩
      rw [if_pos rfl]
      cases h
      exact q v H1 ρ1 G1 S1 R1
    · rename_i e
      refine ⟨false, tru_rep S1 R1 e, ?_⟩
      rw [if_neg Bool.false_ne_true]
      exact ⟨env, s1, ρ1, z, st', E.grow S G1, S1, h, fun v H2 ρ2 G2 S2 R2 => q v H2 ρ2 (G1.trans G2) S2 R2⟩
    · cases h
theorem r_notV (ha : PE X a (tI X.K ia)) : PE X (.UnaryOp .Not a pos) (tI X.K (iNotV ia)) :=
  PE.imp (pe_notT ha) fun σ H Q ⟨env, st, ρ, z, st', E, S, h, q⟩ => by
    obtain ⟨x, s1, h1, h⟩ := ob_some h
    refine ⟨env, st, ρ, x, s1, E, S, h1, fun v H1 ρ1 G1 S1 R1 => ?_⟩
    cases e : tru s1 x with
    | none => rw [e] at h; cases h
    | some k =>
      rw [e] at h
      obtain ⟨rfl, rfl⟩ : PV.bl (!k) = z ∧ s1 = st' := by simpa using h
      exact ⟨k, tru_rep S1 R1 e, q _ H1 ρ1 G1 S1 (by unfold Rep; rfl)⟩
def iIf (t : IT) (ia ib : IE) : IE := fun env st => ob (t env st) fun k s1 => match k with
  | true => ia env s1
  | false => ib env s1
theorem r_ifExp (hc : PT X c (tIT X.K ta)) (ha : PE X a (tI X.K ia)) (hb : PE X b (tI X.K ib)) : PE X (.IfExp c a b pos) (tI X.K (iIf ta ia ib)) :=
  PE.imp (pe_ifExp hc ha hb) fun σ H Q ⟨env, st, ρ, z, st', E, S, h, q⟩ => by
    obtain ⟨k, s1, h1, h⟩ := ob_some h
    refine ⟨env, st, ρ, k, s1, E, S, h1, fun H1 ρ1 G1 S1 => ?_⟩
    cases k with
    | true =>
      rw [if_pos rfl]
      exact ⟨env, s1, ρ1, z, st', E.grow S G1, S1, h, fun v H2 ρ2 G2 S2 R2 => q v H2 ρ2 (G1.trans G2) S2 R2⟩
    | false =>
      rw [if_neg Bool.false_ne_true]
      exact ⟨env, s1, ρ1, z, st', E.grow S G1, S1, h, fun v H2 ρ2 G2 S2 R2 => q v H2 ρ2 (G1.trans G2) S2 R2⟩

/-! ### arguments, displays -/
def iNil : IA := fun _ st => some ([], st)
def iCons (ia : IE) (ir : IA) : IA := fun env st => ob (ia env st) fun x s1 => ob (ir env s1) fun xs s2 => some (x :: xs, s2)
variable {ir : IA}
theorem a_nil : PA X [] (tIA X.K iNil) := PA.imp pa_nil fun σ H Q ⟨env, st, ρ, z, st', E, S, h, q⟩ => by
  cases h
  exact q [] H ρ Grow.refl S (by unfold Reps; rfl)
theorem a_cons (ha : PE X e (tI X.K ia)) (hr : PA X es (tIA X.K ir)) (hs : starEach (e :: es) X.env = (false, eval e X.env) :: starEach es X.env := by rfl) : PA X (e :: es) (tIA X.K (iCons ia ir)) :=
  PA.imp (pa_cons ha hr hs) fun σ H Q ⟨env, st, ρ, z, st', E, S, h, q⟩ => by
    obtain ⟨x, s1, h1, h⟩ := ob_some h
    obtain ⟨xs, s2, h2, h⟩ := ob_some h
    cases h
    refine ⟨env, st, ρ, x, s1, E, S, h1, fun v H1 ρ1 G1 S1 R1 => ⟨env, s1, ρ1, xs, _, E.grow S G1, S1, h2, fun vs H2 ρ2 G2 S2 R2 => ?_⟩⟩
    exact q (v :: vs) H2 ρ2 (G1.trans G2) S2 (by unfold Reps; exact ⟨v, vs, rfl, Rep.grow S1 G2 _ _ R1, R2⟩)
def iTup (ir : IA) : IE := fun env st => ob (ir env st) fun xs s1 => if xs.length ≤ 9000000 then some (.tup xs, s1) else none
theorem new_tup {K : PySem.W.Frag} {H : Hp} {ρ : Rho} {st : Sto} (S : RepS K H ρ st) {xs : List PV} {vs : List V} (R : Reps K H ρ xs vs) {p : Addr} (hp : H p = none) : Rep K (upd H p (.tup vs)) ρ (.tup xs) (.ref p) := by
  unfold Rep
  exact ⟨p, vs, rfl, .of upd_same, Reps.grow S (grow_new hp) _ _ R⟩
theorem r_tup {x1} (h : PA X es (tIA X.K ir)) : PE X (.Tuple es x1 pos) (tI X.K (iTup ir)) :=
  PE.imp (pe_tup h) fun σ H Q ⟨env, st, ρ, z, st', E, S, h, q⟩ => by
    obtain ⟨xs, s1, h1, h⟩ := ob_some h
    split at h
    · rename_i hl
      cases h
      exact ⟨env, st, ρ, xs, _, E, S, h1, fun vs H1 ρ1 G1 S1 R1 => ⟨line5 (by rw [← R1.length]; exact hl), fun p hp => q _ _ ρ1 (G1.trans (grow_new hp)) (S1.new hp) (new_tup S1 R1 hp)⟩⟩
    · cases h
/-- a new list -/
def alloc (so : SO) (st : Sto) : PV × Sto := (.ref st.length, st ++ [so])
theorem new_lst {K : PySem.W.Frag} {H : Hp} {ρ : Rho} {st : Sto} (S : RepS K H ρ st) {xs : List PV} {vs : List V} (R : Reps K H ρ xs vs) {p : Addr} (hp : H p = none) :
    Grow H ρ (upd H p (.lst vs)) (ρ.add p) ∧ RepS K (upd H p (.lst vs)) (ρ.add p) (alloc (.lst xs) st).2 ∧ Rep K (upd H p (.lst vs)) (ρ.add p) (alloc (.lst xs) st).1 (.ref p) := by
  have g : Grow H ρ (upd H p (.lst vs)) (ρ.add p) := grow_alloc hp
  refine ⟨g, S.alloc hp ⟨vs, upd_same, Reps.grow S g _ _ R⟩, ?_⟩
  unfold alloc Rep
  refine ⟨p, rfl, ?_⟩
  show (ρ.l ++ [p])[st.length]? = some p
  rw [← S.len, List.getElem?_append_right (Nat.le_refl _)]
  simp
def iLst (ir : IA) : IE := fun env st => ob (ir env st) fun xs s1 => if xs.length ≤ 9000000 then some (alloc (.lst xs) s1) else none
theorem r_lst (h : PA X es (tIA X.K ir)) : PE X (.List es pos) (tI X.K (iLst ir)) :=
  PE.imp (pe_lst h) fun σ H Q ⟨env, st, ρ, z, st', E, S, h, q⟩ => by
    obtain ⟨xs, s1, h1, h⟩ := ob_some h
    split at h
    · rename_i hl
      refine ⟨env, st, ρ, xs, _, E, S, h1, fun vs H1 ρ1 G1 S1 R1 => ⟨line5 (by rw [← R1.length]; exact hl), fun p hp => ?_⟩⟩
      obtain ⟨a1, a2, a3⟩ := new_lst S1 R1 hp
      have e := Option.some.inj h
      rw [e] at a2 a3
      exact q _ _ _ (G1.trans a1) a2 a3
    · cases h

/-! ### slices -/
def iNo : IO := fun _ st => some (none, st)
def iPart (ia : IE) : IO := fun env st => ob (ia env st) fun x s1 => match x with
  | .int i => some (some i, s1)
  | _ => none
theorem o_none : PO X none (tIO X.K iNo) := PO.imp po_none fun σ H Q ⟨env, st, ρ, z, st', E, S, h, q⟩ => by
  cases h
  exact q H ρ Grow.refl S
theorem o_some (ha : PE X e (tI X.K ia)) : PO X (some e) (tIO X.K (iPart ia)) := PO.imp (po_some ha) fun σ H Q ⟨env, st, ρ, z, st', E, S, h, q⟩ => by
  obtain ⟨x, s1, h1, h⟩ := ob_some h
  split at h
  · cases h
    exact ⟨env, st, ρ, _, _, E, S, h1, fun v H1 ρ1 G1 S1 R1 => by
      unfold Rep at R1
      exact ⟨_, R1, q H1 ρ1 G1 S1⟩⟩
  · cases h
abbrev FSl := PV → Option Int → Option Int → Sto → Option (PV × Sto)
def iSl (f : FSl) (ia : IE) (lo hi : IO) : IE := fun env st => ob (ia env st) fun x s1 => ob (lo env s1) fun l s2 => ob (hi env s2) fun u s3 => f x l u s3
def SlI (K : PySem.W.Frag) (r : V → Option Int → Option Int → Hp → VK → Prop) (f : FSl) : Prop :=
  ∀ H ρ st x vx lo hi z st' (Q : VK), RepS K H ρ st → Rep K H ρ x vx → f x lo hi st = some (z, st') → (∀ v H' ρ', Grow H ρ H' ρ' → RepS K H' ρ' st' → Rep K H' ρ' z v → Q v H') → r vx lo hi H Q
theorem r_slice {r : V → Option Int → Option Int → Hp → VK → Prop} {f : FSl} {lo hi : Option Expr} {il ih : IO} {p2 : Pos} (hr : SlR X r) (hf : SlI X.K r f) (ha : PE X e (tI X.K ia)) (hl : PO X lo (tIO X.K il)) (hh : PO X hi (tIO X.K ih)) :
    PE X (.Subscript e (.Slice lo hi none p2) pos) (tI X.K (iSl f ia il ih)) :=
  PE.imp (pe_slice hr ha hl hh) fun σ H Q ⟨env, st, ρ, z, st', E, S, h, q⟩ => by
    obtain ⟨x, s1, h1, h⟩ := ob_some h
    obtain ⟨l, s2, h2, h⟩ := ob_some h
    obtain ⟨u, s3, h3, h⟩ := ob_some h
    refine ⟨env, st, ρ, x, s1, E, S, h1, fun v H1 ρ1 G1 S1 R1 => ⟨env, s1, ρ1, l, s2, E.grow S G1, S1, h2, fun H2 ρ2 G2 S2 => ⟨env, s2, ρ2, u, s3, (E.grow S G1).grow S1 G2, S2, h3, fun H3 ρ3 G3 S3 => ?_⟩⟩⟩
    exact hf H3 ρ3 s3 x v l u z st' Q S3 (Rep.grow S2 G3 _ _ (Rep.grow S1 G2 _ _ R1)) h fun v H4 ρ4 G4 S4 R4 => q v H4 ρ4 (((G1.trans G2).trans G3).trans G4) S4 R4

/-! ### calls -/
def iCall (f : FA) (ir : IA) : IE := fun env st => ob (ir env st) fun xs s1 => f xs s1
variable {x : Str} {p : Pos}
theorem cb_to {K : PySem.W.Frag} {r : List V → Hp → VK → Prop} {f : FA} (hf : CallI K r f) {σ : L2.St} {H : Hp} {Q : VK} (h : tI K (iCall f ir) σ H Q) : tCB r (tIA K ir) σ H Q := by
  obtain ⟨env, st, ρ, z, st', E, S, h, q⟩ := h
  obtain ⟨xs, s1, h1, h⟩ := ob_some h
  exact ⟨env, st, ρ, xs, s1, E, S, h1, fun vs H1 ρ1 G1 S1 R1 => hf H1 ρ1 s1 xs vs z st' Q S1 R1 h fun v H2 ρ2 G2 S2 R2 => q v H2 ρ2 (G1.trans G2) S2 R2⟩
theorem r_callB {id : String} {r : List V → Hp → VK → Prop} {f : FA} (hc : CallR X (.builtin id) r) (hf : CallI X.K r f) (hg : Gl X x) (hm : X.mg x = none) (hv : bootBuiltins x = some (.builtin id)) (ha : PA X (e :: es) (tIA X.K ir)) (hn : x ≠ "__name__" := by decide) (hdb : (x == ("__debug__" : Str)) = false := by decide)
    (he : starEach (e :: es) X.env = (false, eval e X.env) :: starEach es X.env := by rfl) (hpl : (backTo pos (starEach es X.env)).any (·.1) = false := by rfl) : PE X (.Call (.Name x p) (e :: es) [] pos) (tI X.K (iCall f ir)) :=
  PE.imp (pe_callB hc hg hm hv ha hn hdb he hpl) fun _ _ _ h => cb_to hf h
theorem r_callTy {T : String} {r : List V → Hp → VK → Prop} {f : FA} (hc : CallR X (.type T) r) (hf : CallI X.K r f) (hg : Gl X x) (hm : X.mg x = none) (hv : bootBuiltins x = some (.type T)) (ha : PA X (e :: es) (tIA X.K ir)) (hn : x ≠ "__name__" := by decide) (hdb : (x == ("__debug__" : Str)) = false := by decide)
    (he : starEach (e :: es) X.env = (false, eval e X.env) :: starEach es X.env := by rfl) (hpl : (backTo pos (starEach es X.env)).any (·.1) = false := by rfl) : PE X (.Call (.Name x p) (e :: es) [] pos) (tI X.K (iCall f ir)) :=
  PE.imp (pe_callTy hc hg hm hv ha hn hdb he hpl) fun _ _ _ h => cb_to hf h
/-- a def's promise: it does what f does -/
def spI (K : PySem.W.Frag) (n : Nat) (f : FA) : Sp := fun vs H Q _ => vs.length = n ∧ ∃ st ρ xs z st', RepS K H ρ st ∧ Reps K H ρ xs vs ∧ f xs st = some (z, st') ∧ ∀ v H' ρ', Grow H ρ H' ρ' → RepS K H' ρ' st' → Rep K H' ρ' z v → Q v H'
/-- a def may be called, and does what f does -/
abbrev CalI (P : Program) (w : World) (K : PySem.W.Frag) (mg : Str → Option Value) (base : Heap) (k : Nat) (x : Str) (n : Nat) (f : FA) : Prop := C8.Cal P w K mg base k x (spI K n f) []
/-- f of so many values alone -/
def Ar (n : Nat) (f : FA) : Prop := ∀ xs st r, f xs st = some r → xs.length = n
theorem call_to {K : PySem.W.Frag} {n : Nat} {f : FA} (hn : Ar n f) {σ : L2.St} {H : Hp} {Q : VK} (h : tI K (iCall f ir) σ H Q) : tCall (spI K n f) [] E0 (tIA K ir) σ H Q := by
  obtain ⟨env, st, ρ, z, st', E, S, h, q⟩ := h
  obtain ⟨xs, s1, h1, h⟩ := ob_some h
  refine ⟨env, st, ρ, xs, s1, E, S, h1, fun vs H1 ρ1 G1 S1 R1 => ?_⟩
  show spI K n f (vs ++ []) H1 Q E0
  rw [List.append_nil]
  exact ⟨by rw [← R1.length]; exact hn _ _ _ h, s1, ρ1, xs, z, st', S1, R1, h, fun v H2 ρ2 G2 S2 R2 => q v H2 ρ2 (G1.trans G2) S2 R2⟩
theorem r_call {k j n : Nat} {f : FA} (c : CalI X.prog X.w X.K X.mg X.base k x n f) (hn : Ar n f) (hr : Room j X.A) (hk : k ≤ j) (hg : Gl X x) (ha : PA X (e :: es) (tIA X.K ir))
    (hdb : (x == ("__debug__" : Str)) = false := by decide) (he : starEach (e :: es) X.env = (false, eval e X.env) :: starEach es X.env := by rfl) (hpl : (backTo pos (starEach es X.env)).any (·.1) = false := by rfl) :
    PE X (.Call (.Name x p) (e :: es) [] pos) (tI X.K (iCall f ir)) :=
  PE.imp (C8.pe_c c hr hk hg ha hdb he hpl) fun _ _ _ h => call_to hn h
end
end IL

namespace IL
open PySem PySem.Spec PyProof.Rows L2

section
variable {K : PySem.W.Frag} {H H' : Hp} {ρ ρ' : Rho} {st : Sto} {env : PEnv} {σ : L2.St} {D : Ends} {W : WX}
theorem PostF.grow (g : Grow H ρ H' ρ') : ∀ {f : Fl}, PostF K W D H ρ f → PostF K W D H' ρ' f
  | .nx _ _, h => fun σ' H2 ρ2 G S E => h σ' H2 ρ2 (g.trans G) S E
  | .bk _ _, h => fun σ' H2 ρ2 G S E => h σ' H2 ρ2 (g.trans G) S E
  | .ct _ _, h => fun σ' H2 ρ2 G S E => h σ' H2 ρ2 (g.trans G) S E
  | .rt _ _, h => fun v H2 ρ2 G S R => h v H2 ρ2 (g.trans G) S R
  | .er _ _ _ _, h => fun C d σ' H2 ρ2 vs hc G => h C d σ' H2 ρ2 vs hc (g.trans G)
/-! ### targets -/
abbrev IG := PV → PEnv → Sto → Option PEnv
abbrev IGs := List PV → PEnv → Sto → Option PEnv
def tIG (K : PySem.W.Frag) (T : List Nat) (ig : IG) : TG := fun v σ H Q => ∃ env st ρ x env', RepE K H ρ env σ ∧ RepS K H ρ st ∧ Rep K H ρ x v ∧ ig x env st = some env' ∧
  ∀ σ' : L2.St, RepE K H ρ env' σ' → σ'.length = σ.length → (∀ i, i ∉ T → σ'[i]? = σ[i]?) → Q σ' H
def tIGs (K : PySem.W.Frag) (T : List Nat) (ig : IGs) : TGs := fun vs σ H Q => ∃ env st ρ xs env', RepE K H ρ env σ ∧ RepS K H ρ st ∧ Reps K H ρ xs vs ∧ ig xs env st = some env' ∧
  ∀ σ' : L2.St, RepE K H ρ env' σ' → σ'.length = σ.length → (∀ i, i ∉ T → σ'[i]? = σ[i]?) → Q σ' H
theorem PG.imp {X : Cx} {tg : Expr} {t t' : TG} (h : PG X tg t) (m : ∀ v σ H Q, t' v σ H Q → t v σ H Q) : PG X tg t' := ⟨fun pins s σ H v u Q I r q => h.run pins s σ H v u Q I r (m v σ H Q q)⟩
theorem PGs.imp {X : Cx} {tg : List Expr} {t t' : TGs} (h : PGs X tg t) (m : ∀ v σ H Q, t' v σ H Q → t v σ H Q) : PGs X tg t' := ⟨fun pins s σ H v u Q I r q => h.run pins s σ H v u Q I r (m v σ H Q q)⟩
def gN (i : Nat) : IG := fun x env _ => some (env.set i (some x))
def gNs : IGs := fun xs env _ => if xs.isEmpty then some env else none
def gCs (g : IG) (gs : IGs) : IGs := fun xs env st => match xs with
  | x :: r => match g x env st with
    | some env1 => gs r env1 st
    | none => none
  | [] => none
def gT (n : Nat) (gs : IGs) : IG := fun x env st => match x with
  | .tup xs => if xs.length = n then gs xs env st else none
  | _ => none
end
section
variable {X : Cx} {pos : Pos} {W : WX}
theorem g_name {i : Nat} {x : Str} (hN : X.N.Nodup) (hi : X.N[i]? = some x) (hx : Loc X.env.scope x) (hf : X.fn x = true ∨ X.env.scope.names.lookup x = some .local := by first | exact .inl rfl | exact .inr rfl | assumption) :
    PG X (.Name x pos) (tIG X.K [i] (gN i)) := PG.imp (pg_name hN hi hx hf) fun v σ H Q ⟨env, st, ρ, y, env', E, S, R, h, q⟩ => by
  cases h
  refine q _ (E.set R i) (by simp) fun j hj => ?_
  rw [List.getElem?_set_ne (fun e => hj (by simp [e]))]
theorem gs_nil : PGs X [] (tIGs X.K [] gNs) := PGs.imp pgs_nil fun v σ H Q ⟨env, st, ρ, y, env', E, S, R, h, q⟩ => by
  unfold gNs at h
  cases y with
  | nil =>
    unfold Reps at R
    cases h
    exact ⟨R, q σ E rfl fun _ _ => rfl⟩
  | cons => simp at h
theorem gs_cons {e : Expr} {es : List Expr} {T T' : List Nat} {g : IG} {gs : IGs} (h1 : PG X e (tIG X.K T g)) (h2 : PGs X es (tIGs X.K T' gs))
    (hs : (assignEach (e :: es) X.env).map (·.2) = assign e X.env :: (assignEach es X.env).map (·.2) := by rfl) : PGs X (e :: es) (tIGs X.K (T ++ T') (gCs g gs)) :=
  PGs.imp (pgs_cons h1 h2 hs) fun v σ H Q ⟨env, st, ρ, y, env', E, S, R, h, q⟩ => by
    cases y with
    | nil => cases h
    | cons y ys =>
      unfold Reps at R
      obtain ⟨w, r, rfl, R1, R2⟩ := R
      simp only [gCs] at h
      split at h
      · rename_i env1 h1
        refine ⟨w, r, rfl, env, st, ρ, y, env1, E, S, R1, h1, fun σ1 E1 l1 a1 => ⟨env1, st, ρ, ys, env', E1, S, R2, h, fun σ2 E2 l2 a2 => q σ2 E2 (l2.trans l1) fun i hi => ?_⟩⟩
        rw [a2 i (fun z => hi (List.mem_append_right _ z)), a1 i (fun z => hi (List.mem_append_left _ z))]
      · cases h
theorem g_tup {es : List Expr} {k : Nat} {T : List Nat} {gs : IGs} {n : Nat} (hc : X.calm = true) (h : PGs X es (tIGs X.K T gs))
    (hn : (assignEach es X.env).length = n := by rfl) (hst : (assignEach es X.env).findIdx? (·.1) = none := by rfl) : PG X (.Tuple es k pos) (tIG X.K T (gT n gs)) :=
  PG.imp (pg_tup hc h hn hst) fun v σ H Q ⟨env, st, ρ, y, env', E, S, R, h, q⟩ => by
    cases y with
    | tup xs =>
      unfold Rep at R
      obtain ⟨a, vs, rfl, h1, h2⟩ := R
      simp only [gT] at h
      split at h
      · rename_i hl
        exact ⟨a, vs, rfl, h1, by rw [← h2.length]; exact hl, env, st, ρ, xs, env', E, S, h2, h, q⟩
      · cases h
    | _ => cases h

/-! ### statements -/
def iSkip : IS := fun env st => some (.nx env st)
def iSeq (a b : IS) : IS := fun env st => match a env st with
  | some (.nx e s) => b e s
  | o => o
variable {st : Stmt} {rest : List Stmt} {e : Expr} {ia ib : IS} {ie : IE} {it : IT}
theorem s_nil : PSs X [] (tIS X.K W iSkip) := PSs.imp pss_nil fun D σ H ⟨env, s, ρ, f, E, S, h, q⟩ => by
  cases h
  exact q σ H ρ Grow.refl S E
theorem s_cons (h1 : PS X st (tIS X.K W ia)) (h2 : PSs X rest (tIS X.K W ib)) : PSs X (st :: rest) (tIS X.K W (iSeq ia ib)) := PSs.imp (pss_cons h1 h2) fun D σ H ⟨env, s, ρ, f, E, S, h, q⟩ => by
  unfold iSeq at h
  cases e1 : ia env s with
  | none => rw [e1] at h; cases h
  | some f1 =>
    rw [e1] at h
    refine ⟨env, s, ρ, f1, E, S, e1, ?_⟩
    cases f1 with
    | nx e s1 => exact fun σ' H' ρ' G S' E' => ⟨e, s1, ρ', f, E', S', h, q.grow G⟩
    | rt v s1 => cases h; exact q
    | bk e s1 => cases h; exact q
    | ct e s1 => cases h; exact q
    | er e c fs s1 => cases h; exact q
theorem s_one (h1 : PS X st (tIS X.K W ia)) : PSs X [st] (tIS X.K W ia) := pss_one h1
theorem s_pass : PS X (.Pass pos) (tIS X.K W iSkip) := PS.imp ps_pass fun D σ H ⟨env, s, ρ, f, E, S, h, q⟩ => by
  cases h
  exact q σ H ρ Grow.refl S E
def iBreak : IS := fun env st => some (.bk env st)
def iCont : IS := fun env st => some (.ct env st)
theorem s_break : PS X (.Break pos) (tIS X.K W iBreak) := PS.imp ps_break fun D σ H ⟨env, s, ρ, f, E, S, h, q⟩ => by
  cases h
  exact q σ H ρ Grow.refl S E
theorem s_continue : PS X (.Continue pos) (tIS X.K W iCont) := PS.imp ps_continue fun D σ H ⟨env, s, ρ, f, E, S, h, q⟩ => by
  cases h
  exact q σ H ρ Grow.refl S E
def iDrop (ie : IE) : IS := fun env st => ob (ie env st) fun _ s => some (.nx env s)
theorem s_expr (he : PE X e (tI X.K ie)) (hs : swapsWith e none pos.line X.env = pure false := by rfl) : PS X (.Expr e pos) (tIS X.K W (iDrop ie)) := PS.imp (ps_expr he hs) fun D σ H ⟨env, s, ρ, f, E, S, h, q⟩ => by
  obtain ⟨x, s1, h1, h⟩ := ob_some h
  cases h
  exact ⟨env, s, ρ, x, _, E, S, h1, fun v H1 ρ1 G1 S1 R1 => q σ H1 ρ1 G1 S1 (E.grow S G1)⟩
def iRet (ie : IE) : IS := fun env st => ob (ie env st) fun x s => some (.rt x s)
theorem s_ret (he : PE X e (tI X.K ie)) : PS X (.Return (some e) pos) (tIS X.K W (iRet ie)) := PS.imp (ps_ret he) fun D σ H ⟨env, s, ρ, f, E, S, h, q⟩ => by
  obtain ⟨x, s1, h1, h⟩ := ob_some h
  cases h
  exact ⟨env, s, ρ, x, _, E, S, h1, fun v H1 ρ1 G1 S1 R1 => q v H1 ρ1 G1 S1 R1⟩
def iRetN : IS := fun _ st => some (.rt .non st)
theorem s_retN : PS X (.Return none pos) (tIS X.K W iRetN) := PS.imp ps_retN fun D σ H ⟨env, s, ρ, f, E, S, h, q⟩ => by
  cases h
  exact q .non H ρ Grow.refl S (by unfold Rep; rfl)
def iIfS (t : IT) (a b : IS) : IS := fun env st => ob (t env st) fun k s => match k with
  | true => a env s
  | false => b env s
theorem s_if {c : Expr} {p q : List Stmt} (hc : PT X c (tIT X.K it)) (ha : PSs X p (tIS X.K W ia)) (hb : PSs X q (tIS X.K W ib)) : PS X (.If c p q pos) (tIS X.K W (iIfS it ia ib)) :=
  PS.imp (ps_if hc ha hb) fun D σ H ⟨env, s, ρ, f, E, S, h, q⟩ => by
    obtain ⟨k, s1, h1, h⟩ := ob_some h
    refine ⟨env, s, ρ, k, s1, E, S, h1, fun H1 ρ1 G1 S1 => ?_⟩
    cases k with
    | true =>
      rw [if_pos rfl]
      exact ⟨env, s1, ρ1, f, E.grow S G1, S1, h, q.grow G1⟩
    | false =>
      rw [if_neg Bool.false_ne_true]
      exact ⟨env, s1, ρ1, f, E.grow S G1, S1, h, q.grow G1⟩
def iAsg (ig : IG) (ie : IE) : IS := fun env st => ob (ie env st) fun x s => match ig x env s with
  | some env' => some (.nx env' s)
  | none => none
theorem s_asg {tg : Expr} {T : List Nat} {ig : IG} (he : PE X e (tI X.K ie)) (hg : PG X tg (tIG X.K T ig)) (hs : swapsWithSole [tg] e pos.line X.env = pure false := by rfl) (hw : swappedStores [tg] e X.env = pure none := by rfl)
    (h1 : (assignEach [tg] X.env).map (·.2) = [assign tg X.env] := by rfl) : PS X (.Assign [tg] e pos) (tIS X.K W (iAsg ig ie)) := PS.imp (ps_asg he hg hs hw h1) fun D σ H ⟨env, s, ρ, f, E, S, h, q⟩ => by
  obtain ⟨x, s1, h1, h⟩ := ob_some h
  refine ⟨env, s, ρ, x, s1, E, S, h1, fun v H1 ρ1 G1 S1 R1 => ?_⟩
  split at h
  · rename_i env' hg
    cases h
    exact ⟨env, _, ρ1, x, env', E.grow S G1, S1, R1, hg, fun σ' E' _ _ => q σ' H1 ρ1 G1 S1 E'⟩
  · cases h
theorem s_set {i : Nat} {x : Str} {pos' : Pos} (hN : X.N.Nodup) (hi : X.N[i]? = some x) (hx : Loc X.env.scope x) (he : PE X e (tI X.K ie)) (hs : swapsWith e (some (.Name x pos')) pos.line X.env = pure false := by rfl)
    (hf : X.fn x = true ∨ X.env.scope.names.lookup x = some .local := by first | exact .inl rfl | exact .inr rfl | assumption) : PS X (.Assign [.Name x pos'] e pos) (tIS X.K W (iAsg (gN i) ie)) :=
  PS.imp (ps_set hN hi hx he hs hf) fun D σ H ⟨env, s, ρ, f, E, S, h, q⟩ => by
    obtain ⟨x, s1, h1, h⟩ := ob_some h
    cases h
    exact ⟨env, s, ρ, x, _, E, S, h1, fun v H1 ρ1 G1 S1 R1 => q _ H1 ρ1 G1 S1 ((E.grow S G1).set R1 i)⟩
/-- a, b = x, y: two local names -/
def iPar (i j : Nat) (ir : IA) : IS := fun env st => ob (ir env st) fun xs s => match xs with
  | [x, y] => some (.nx ((env.set i (some x)).set j (some y)) s)
  | _ => none
theorem s_par {i j : Nat} {x y : Str} {a b : Expr} {ir : IA} {px py pt : Pos} {kt k2 pt2} (hc : X.calm = true) (hN : X.N.Nodup) (hi : X.N[i]? = some x) (hj : X.N[j]? = some y) (hij : i ≠ j)
    (hx : X.env.scope.names.lookup x = some .local) (hy : X.env.scope.names.lookup y = some .local) (ha : PA X [a, b] (tIA X.K ir))
    (hw : swappedStores [.Tuple [.Name x px, .Name y py] kt pt] (.Tuple [a, b] k2 pt2) X.env = pure (some [x, y]))
    (hs : swapsWithSole [.Tuple [.Name x px, .Name y py] kt pt] (.Tuple [a, b] k2 pt2) pos.line X.env = pure false := by rfl) :
    PS X (.Assign [.Tuple [.Name x px, .Name y py] kt pt] (.Tuple [a, b] k2 pt2) pos) (tIS X.K W (iPar i j ir)) := PS.imp (ps_par hc hN hi hj hij hx hy ha hw hs) fun D σ H ⟨env, s, ρ, f, E, S, h, q⟩ => by
  obtain ⟨xs, s1, h1, h⟩ := ob_some h
  refine ⟨env, s, ρ, xs, s1, E, S, h1, fun v H1 ρ1 G1 S1 R1 => ?_⟩
  split at h
  · cases h
    unfold Reps at R1
    obtain ⟨v1, r, rfl, R1, R2⟩ := R1
    unfold Reps at R2
    obtain ⟨v2, r, rfl, R2, R3⟩ := R2
    unfold Reps at R3
    subst R3
    exact ⟨v1, v2, rfl, q _ H1 ρ1 G1 S1 (((E.grow S G1).set R1 i).set R2 j)⟩
  · cases h
/-- o[i] = v -/
abbrev FSet := PV → PV → PV → Sto → Option Sto
def SetI (K : PySem.W.Frag) (t : TSet) (f : FSet) : Prop := ∀ H ρ st o i x vo vi vx st' (Q : Hp → Prop), RepS K H ρ st → Rep K H ρ o vo → Rep K H ρ i vi → Rep K H ρ x vx → f o i x st = some st' → (∀ H' ρ', Grow H ρ H' ρ' → RepS K H' ρ' st' → Q H') → t vo vi vx H Q
def iSetIx (f : FSet) (io ii ie : IE) : IS := fun env st => ob (ie env st) fun x s1 => ob (io env s1) fun o s2 => ob (ii env s2) fun i s3 => (f o i x s3).map fun s4 => .nx env s4
theorem s_setIx {o i : Expr} {t : TSet} {f : FSet} {io ii : IE} {ps : Pos} (hs : PSet X t) (hf : SetI X.K t f) (ho : PE X o (tI X.K io)) (hi : PE X i (tI X.K ii)) (he : PE X e (tI X.K ie))
    (ha : ∀ v, assign (.Subscript o i ps) X.env v = (do
      let ov ← holding [v] (eval o X.env)
      let iv ← holding [v, ov] (eval i X.env)
      standAt ps
      holding [v, ov, iv] (setItem ov iv v)
      release [v, ov, iv] []) := by intro _; rfl)
    (hs1 : swapsWithSole [.Subscript o i ps] e pos.line X.env = pure false := by rfl) (hw : swappedStores [.Subscript o i ps] e X.env = pure none := by rfl) (h1 : (assignEach [.Subscript o i ps] X.env).map (·.2) = [assign (.Subscript o i ps) X.env] := by rfl) :
    PS X (.Assign [.Subscript o i ps] e pos) (tIS X.K W (iSetIx f io ii ie)) := PS.imp (ps_asg he (pg_sub ho hi hs ha) hs1 hw h1) fun D σ H ⟨env, s, ρ, fl, E, S, h, q⟩ => by
  obtain ⟨x, s1, h1, h⟩ := ob_some h
  obtain ⟨o, s2, h2, h⟩ := ob_some h
  obtain ⟨i, s3, h3, h⟩ := ob_some h
  cases e4 : f o i x s3 with
  | none => rw [e4] at h; cases h
  | some s4 =>
    rw [e4] at h
    cases h
    refine ⟨env, s, ρ, x, s1, E, S, h1, fun vx H1 ρ1 G1 S1 R1 => ⟨env, s1, ρ1, o, s2, E.grow S G1, S1, h2, fun vo H2 ρ2 G2 S2 R2 => ⟨env, s2, ρ2, i, s3, (E.grow S G1).grow S1 G2, S2, h3, fun vi H3 ρ3 G3 S3 R3 => ?_⟩⟩⟩
    refine hf H3 ρ3 s3 o i x vo vi vx s4 _ S3 (Rep.grow S2 G3 _ _ R2) R3 (Rep.grow S2 G3 _ _ (Rep.grow S1 G2 _ _ R1)) e4 fun H4 ρ4 G4 S4 => ?_
    exact q σ H4 ρ4 (((G1.trans G2).trans G3).trans G4) S4 ((((E.grow S G1).grow S1 G2).grow S2 G3).grow S3 G4)

/-! ### what is walked -/
structure Src where
  n : Nat
  at_ : Sto → Nat → Option (Option PV)
def SrcOk (K : PySem.W.Frag) (src : Src) (J : It) (H0 : Hp) (ρ0 : Rho) : Prop := ∀ H ρ st, Grow H0 ρ0 H ρ → RepS K H ρ st → ∀ i, (src.at_ st i = some none → J.stop i H) ∧
  ∀ x, src.at_ st i = some (some x) → J.go i H ∧ ∀ v H', J.yld i H v H' → ∃ ρ', Grow H ρ H' ρ' ∧ RepS K H' ρ' st ∧ Rep K H' ρ' x v
abbrev II := PEnv → Sto → Option (Src × Sto)
def tII (K : PySem.W.Frag) (ii : II) : TI := fun σ H R => ∃ env st ρ src st', RepE K H ρ env σ ∧ RepS K H ρ st ∧ ii env st = some (src, st') ∧ ∀ J H' ρ', Grow H ρ H' ρ' → RepS K H' ρ' st' → SrcOk K src J H' ρ' → R J H'
theorem PI.imp {tg iter : Expr} {t t' : TI} (h : PI X tg iter t) (m : ∀ σ H R, t' σ H R → t σ H R) : PI X tg iter t' := ⟨fun pins s σ H R I q => h.run pins s σ H R I (m σ H R q)⟩
theorem PI.or {tg iter : Expr} {t t' : TI} (h : PI X tg iter t) (h' : PI X tg iter t') : PI X tg iter (fun σ H R => t σ H R ∨ t' σ H R) := ⟨fun pins s σ H R I q => q.elim (h.run pins s σ H R I) (h'.run pins s σ H R I)⟩
def srcL (n k : Nat) : Src := ⟨k, fun st i => match st[n]? with
  | some (.lst xs) => some xs[i]?
  | _ => none⟩
def srcT (xs : List PV) : Src := ⟨xs.length, fun _ i => some xs[i]?⟩
def srcR (lo : Int) (n : Nat) : Src := ⟨n, fun _ i => some (if i < n then some (.int (lo + i)) else none)⟩
theorem srcL_ok {K : PySem.W.Frag} {H0 : Hp} {ρ0 : Rho} {n k : Nat} {a : Addr} (h : ρ0.l[n]? = some a) : SrcOk K (srcL n k) (Itl K a) H0 ρ0 := fun H ρ st G S i => by
  have ha := G.ix h
  refine ⟨fun hs => ?_, fun x hs => ?_⟩
  · simp only [srcL] at hs
    split at hs
    · rename_i xs e
      obtain ⟨b, vs, e0, hb, _, h1, h2⟩ := S.lst (by unfold Rep; exact ⟨a, rfl, ha⟩) e
      cases e0
      exact ⟨vs, .of h1, by rw [← h2.length]; simpa using hs⟩
    · cases hs
  · simp only [srcL] at hs
    split at hs
    · rename_i xs e
      obtain ⟨b, vs, e0, hb, _, h1, h2⟩ := S.lst (by unfold Rep; exact ⟨a, rfl, ha⟩) e
      cases e0
      obtain ⟨v, hv, r⟩ := h2.get (by simpa using hs)
      refine ⟨⟨vs, v, .of h1, hv⟩, fun w H' y => ?_⟩
      obtain ⟨rfl, y⟩ := y
      have := y vs (.of h1)
      rw [hv] at this; cases this
      exact ⟨ρ, Grow.refl, S, r⟩
    · cases hs
theorem srcT_ok {K : PySem.W.Frag} {H0 : Hp} {ρ0 : Rho} {st0 : Sto} {xs : List PV} {vs : List V} {a : Addr} (S0 : RepS K H0 ρ0 st0) (h : SqT K H0 a vs) (r : Reps K H0 ρ0 xs vs) : SrcOk K (srcT xs) (Itt K a) H0 ρ0 := fun H ρ st G S i => by
  have h1 := SqT.grow S0 G h
  have r1 := Reps.grow S0 G _ _ r
  refine ⟨fun hs => ?_, fun x hs => ?_⟩
  · simp only [srcT] at hs
    exact ⟨vs, h1, by rw [← r1.length]; simpa using hs⟩
  · simp only [srcT] at hs
    obtain ⟨v, hv, r⟩ := r1.get (by simpa using hs)
    refine ⟨⟨vs, v, h1, hv⟩, fun w H' y => ?_⟩
    obtain ⟨rfl, y⟩ := y
    have := y vs h1
    rw [hv] at this; cases this
    exact ⟨ρ, Grow.refl, S, r⟩
theorem srcF_ok {K : PySem.W.Frag} {H0 : Hp} {ρ0 : Rho} {st0 : Sto} {xs : List PV} {vs : List V} {a : Addr} (S0 : RepS K H0 ρ0 st0) (h : FrzAt K H0 ρ0 a vs) (r : Reps K H0 ρ0 xs vs) : SrcOk K (srcT xs) (Itl K a) H0 ρ0 := fun H ρ st G S i => by
  have h1 := (h.grow G).sq
  have r1 := Reps.grow S0 G _ _ r
  refine ⟨fun hs => ?_, fun x hs => ?_⟩
  · simp only [srcT] at hs
    exact ⟨vs, h1, by rw [← r1.length]; simpa using hs⟩
  · simp only [srcT] at hs
    obtain ⟨v, hv, r⟩ := r1.get (by simpa using hs)
    refine ⟨⟨vs, v, h1, hv⟩, fun w H' y => ?_⟩
    obtain ⟨rfl, y⟩ := y
    have := y vs h1
    rw [hv] at this; cases this
    exact ⟨ρ, Grow.refl, S, r⟩
theorem srcR_ok {K : PySem.W.Frag} {H0 : Hp} {ρ0 : Rho} {lo : Int} {n : Nat} : SrcOk K (srcR lo n) (Itr lo n) H0 ρ0 := fun H ρ st G S i => by
  refine ⟨fun hs => ?_, fun x hs => ?_⟩
  · simp only [srcR] at hs
    split at hs
    · cases hs
    · exact Nat.le_of_not_lt (by assumption)
  · simp only [srcR] at hs
    split at hs
    · rename_i hl
      cases hs
      refine ⟨hl, fun w H' y => ?_⟩
      obtain ⟨rfl, rfl⟩ := y
      exact ⟨ρ, Grow.refl, S, by unfold Rep; rfl⟩
    · cases hs
def srcS (x : Str) : Src := ⟨x.length, fun _ i => some ((x.cps[i]?).map fun c => .str ⟨#[c]⟩)⟩
theorem srcS_ok {K : PySem.W.Frag} {H0 : Hp} {ρ0 : Rho} {x : Str} : SrcOk K (srcS x) (Its x) H0 ρ0 := fun H ρ st G S i => by
  refine ⟨fun hs => ?_, fun y hs => ?_⟩
  · simp only [srcS, Option.some.injEq, Option.map_eq_none_iff] at hs
    exact Array.getElem?_eq_none_iff.mp hs
  · simp only [srcS, Option.some.injEq] at hs
    cases e : x.cps[i]? with
    | none => rw [e] at hs; cases hs
    | some c =>
      rw [e] at hs
      cases hs
      refine ⟨(Array.getElem?_eq_some_iff.mp e).1, fun w H' y => ?_⟩
      obtain ⟨rfl, c', e', rfl⟩ := y
      rw [e] at e'; cases e'
      exact ⟨ρ, Grow.refl, S, by unfold Rep; rfl⟩
/-- a list, a tuple or a text is walked -/
def iWalk (ie : IE) : II := fun env st => ob (ie env st) fun x s => match x with
  | .str y => some (srcS y, s)
  | .tup xs => some (srcT xs, s)
  | .frz xs => some (srcT xs, s)
  | .ref n => match s[n]? with
    | some (.lst xs) => some (srcL n xs.length, s)
    | _ => none
  | _ => none
theorem i_walk {tg : Expr} (he : PE X e (tI X.K ie)) : PI X tg e (tII X.K (iWalk ie)) := PI.imp (PI.or (pi_list he) (PI.or (pi_tup he) (pi_str he))) fun σ H R ⟨env, s, ρ, src, st', E, S, h, q⟩ => by
  obtain ⟨x, s1, h1, h⟩ := ob_some h
  cases x with
  | str y =>
    cases h
    refine .inr (.inr ⟨env, s, ρ, _, _, E, S, h1, fun v H1 ρ1 G1 S1 R1 => ?_⟩)
    unfold Rep at R1
    exact ⟨y, R1, q _ H1 ρ1 G1 S1 srcS_ok⟩
  | tup xs =>
    cases h
    refine .inr (.inl ⟨env, s, ρ, _, _, E, S, h1, fun v H1 ρ1 G1 S1 R1 => ?_⟩)
    unfold Rep at R1
    obtain ⟨a, vs, rfl, t1, t2⟩ := R1
    exact ⟨a, rfl, ⟨vs, t1⟩, q _ H1 ρ1 G1 S1 (srcT_ok S1 t1 t2)⟩
  | frz xs =>
    cases h
    refine .inl ⟨env, s, ρ, _, _, E, S, h1, fun v H1 ρ1 G1 S1 R1 => ?_⟩
    unfold Rep at R1
    obtain ⟨a, vs, rfl, t1, t2⟩ := R1
    exact ⟨a, rfl, ⟨vs, t1.sq⟩, q _ H1 ρ1 G1 S1 (srcF_ok S1 t1 t2)⟩
  | ref n =>
    simp only at h
    split at h
    · rename_i xs e1
      cases h
      refine .inl ⟨env, s, ρ, _, _, E, S, h1, fun v H1 ρ1 G1 S1 R1 => ?_⟩
      obtain ⟨a, vs, rfl, t1, _, h2, h3⟩ := S1.lst R1 e1
      exact ⟨a, rfl, ⟨vs, .of h2⟩, q _ H1 ρ1 G1 S1 (srcL_ok t1)⟩
    · cases h
  | _ => cases h
/-- range -/
def big (j : Int) : Bool := decide (-(2 ^ 62) ≤ j) && decide (j < 2 ^ 62)
theorem big_of {j : Int} (h : big j = true) : -(2 ^ 62) ≤ j ∧ j < 2 ^ 62 := by
  unfold big at h
  simp only [Bool.and_eq_true, decide_eq_true_eq] at h
  exact h
def iRange1 (ir : IA) : II := fun env st => ob (ir env st) fun xs s => match xs with
  | [.int j] => if big j then some (srcR 0 j.toNat, s) else none
  | _ => none
def iRange2 (ir : IA) : II := fun env st => ob (ir env st) fun xs s => match xs with
  | [.int i, .int j] => if big i && big j then some (srcR i (j - i).toNat, s) else none
  | _ => none
theorem i_range1 {tg a : Expr} {ir : IA} {p : Pos} (hg : Gl X "range") (hm : X.mg "range" = none) (ha : PA X [a] (tIA X.K ir)) (hs : starEach [a] X.env = [(false, eval a X.env)] := by rfl) : PI X tg (.Call (.Name "range" p) [a] [] pos) (tII X.K (iRange1 ir)) :=
  PI.imp (pi_range1 hg hm ha hs) fun σ H R ⟨env, s, ρ, src, st', E, S, h, q⟩ => by
    obtain ⟨xs, s1, h1, h⟩ := ob_some h
    split at h
    · rename_i j
      split at h
      · rename_i hb
        cases h
        refine ⟨env, s, ρ, _, _, E, S, h1, fun v H1 ρ1 G1 S1 R1 => ?_⟩
        unfold Reps at R1
        obtain ⟨w, r, rfl, R1, R2⟩ := R1
        unfold Reps at R2
        subst R2
        unfold Rep at R1
        subst R1
        obtain ⟨b1, b2⟩ := big_of hb
        exact ⟨j, rfl, b1, b2, q _ H1 ρ1 G1 S1 srcR_ok⟩
      · cases h
    · cases h
theorem i_range2 {tg a b : Expr} {ir : IA} {p : Pos} (hg : Gl X "range") (hm : X.mg "range" = none) (ha : PA X [a, b] (tIA X.K ir)) (hs : starEach [a, b] X.env = [(false, eval a X.env), (false, eval b X.env)] := by rfl) (hs2 : starEach [b] X.env = [(false, eval b X.env)] := by rfl) :
    PI X tg (.Call (.Name "range" p) [a, b] [] pos) (tII X.K (iRange2 ir)) :=
  PI.imp (pi_range2 hg hm ha hs hs2) fun σ H R ⟨env, s, ρ, src, st', E, S, h, q⟩ => by
    obtain ⟨xs, s1, h1, h⟩ := ob_some h
    split at h
    · rename_i i j
      split at h
      · rename_i hb
        cases h
        refine ⟨env, s, ρ, _, _, E, S, h1, fun v H1 ρ1 G1 S1 R1 => ?_⟩
        unfold Reps at R1
        obtain ⟨w, r, rfl, R1, R2⟩ := R1
        unfold Reps at R2
        obtain ⟨w2, r2, rfl, R2, R3⟩ := R2
        unfold Reps at R3
        subst R3
        unfold Rep at R1 R2
        subst R1 R2
        rw [Bool.and_eq_true] at hb
        obtain ⟨b1, b2⟩ := big_of hb.1
        obtain ⟨b3, b4⟩ := big_of hb.2
        exact ⟨i, j, rfl, ⟨b1, b2, b3, b4⟩, q _ H1 ρ1 G1 S1 srcR_ok⟩
      · cases h
    · cases h

/-! ### for -/
def loop (at_ : Sto → Nat → Option (Option PV)) (ig : IG) (body : IS) : Nat → Nat → PEnv → Sto → Option Fl
  | 0, _, _, _ => none
  | m + 1, i, env, st => match at_ st i with
    | none => none
    | some none => some (.nx env st)
    | some (some x) => match ig x env st with
      | none => none
      | some env1 => match body env1 st with
        | some (.nx e s) => loop at_ ig body m (i + 1) e s
        | some (.ct e s) => loop at_ ig body m (i + 1) e s
        | some (.bk e s) => some (.nx e s)
        | some (.rt v s) => some (.rt v s)
        | some (.er e c fs s) => some (.er e c fs s)
        | none => none
def iFor (ii : II) (ig : IG) (body : IS) : IS := fun env st => ob (ii env st) fun src s => loop src.at_ ig body (src.n + 1) 0 env s
theorem s_for {iter tg : Expr} {body : List Stmt} {ii : II} {T : List Nat} {ig : IG} (hp : PassesOwn (model X.prog X.w) X.A X.env X.xe) (hc : X.calm = true) (hi : PI X tg iter (tII X.K ii)) (hg : PG X tg (tIG X.K T ig)) (hb : PSs X body (tIS X.K W ia))
    (hs : ∀ x, foldedSetIterable iter X.env x = pure x := by intro _; rfl) : PS X (.For tg iter body [] pos) (tIS X.K W (iFor ii ig ia)) :=
  PS.imp (ps_for hp hc hi hg hb hs) fun D σ H ⟨env, s, ρ, f, E, S, h, q⟩ => by
    obtain ⟨src, s1, h1, h⟩ := ob_some h
    refine ⟨env, s, ρ, src, s1, E, S, h1, fun J H1 ρ1 G1 S1 O => ?_⟩
    refine ⟨fun i m σ' H' => ∃ env' st' ρ' f', Grow H1 ρ1 H' ρ' ∧ RepE X.K H' ρ' env' σ' ∧ RepS X.K H' ρ' st' ∧ loop src.at_ ig ia m i env' st' = some f' ∧ PostF X.K W D H' ρ' f', ⟨src.n + 1, env, s1, ρ1, f, Grow.refl, E.grow S G1, S1, h, q.grow G1⟩, ?_⟩
    rintro i m σ' H' ⟨env', st', ρ', f', G', E', S', hl, q'⟩
    cases m with
    | zero => cases hl
    | succ m =>
      unfold loop at hl
      obtain ⟨o1, o2⟩ := O H' ρ' st' G' S' i
      split at hl
      · cases hl
      · rename_i e1
        cases hl
        exact .inl ⟨o1 e1, q' σ' H' ρ' Grow.refl S' E'⟩
      · rename_i x e1
        obtain ⟨go, yl⟩ := o2 x e1
        split at hl
        · cases hl
        · rename_i env1 e2
          refine .inr ⟨go, fun σ2 H2 => ∃ m', m' < m + 1 ∧ ∃ env' st' ρ' f', Grow H1 ρ1 H2 ρ' ∧ RepE X.K H2 ρ' env' σ2 ∧ RepS X.K H2 ρ' st' ∧ loop src.at_ ig ia m' (i + 1) env' st' = some f' ∧ PostF X.K W D H2 ρ' f', fun σ2 H2 n => n, fun v H2 y => ?_⟩
          obtain ⟨ρ2, G2, S2, R2⟩ := yl v H2 y
          refine ⟨env', st', ρ2, x, env1, E'.grow S' G2, S2, R2, e2, fun σ3 E3 _ _ => ?_⟩
          cases e3 : ia env1 st' with
          | none => rw [e3] at hl; cases hl
          | some fl =>
            rw [e3] at hl
            refine ⟨env1, st', ρ2, fl, E3, S2, e3, ?_⟩
            cases fl with
            | nx e s => exact fun σ4 H4 ρ4 G4 S4 E4 => ⟨m, Nat.lt_succ_self m, e, s, ρ4, f', (G'.trans G2).trans G4, E4, S4, hl, q'.grow (G2.trans G4)⟩
            | ct e s => exact fun σ4 H4 ρ4 G4 S4 E4 => ⟨m, Nat.lt_succ_self m, e, s, ρ4, f', (G'.trans G2).trans G4, E4, S4, hl, q'.grow (G2.trans G4)⟩
            | bk e s => cases hl; exact fun σ4 H4 ρ4 G4 S4 E4 => q' σ4 H4 ρ4 (G2.trans G4) S4 E4
            | rt v s => cases hl; exact fun v H4 ρ4 G4 S4 R4 => q' v H4 ρ4 (G2.trans G4) S4 R4
            | er e c fs s => cases hl; exact fun C d σ4 H4 ρ4 vs hc G4 => q' C d σ4 H4 ρ4 vs hc (G2.trans G4)

/-! ### while -/
@[irreducible] def bigN : Nat := 1000000
def wloop (t : IT) (body : IS) : Nat → PEnv → Sto → Option Fl
  | 0, _, _ => none
  | m + 1, env, st => match t env st with
    | none => none
    | some (false, s) => some (.nx env s)
    | some (true, s) => match body env s with
      | some (.nx e s) => wloop t body m e s
      | some (.ct e s) => wloop t body m e s
      | some (.bk e s) => some (.nx e s)
      | some (.rt v s) => some (.rt v s)
      | some (.er e c fs s) => some (.er e c fs s)
      | none => none
def iWhile (t : IT) (body : IS) : IS := wloop t body bigN
theorem s_while {c : Expr} {body : List Stmt} (hp : PassesOwn (model X.prog X.w) X.A X.env X.xe) (hc : PT X c (tIT X.K it)) (hb : PSs X body (tIS X.K W ia)) : PS X (.While c body [] pos) (tIS X.K W (iWhile it ia)) :=
  PS.imp (ps_while hp hc hb) fun D σ H ⟨env, s, ρ, f, E, S, h, q⟩ => by
    refine ⟨fun m σ' H' => ∃ env' st' ρ' f', RepE X.K H' ρ' env' σ' ∧ RepS X.K H' ρ' st' ∧ wloop it ia m env' st' = some f' ∧ PostF X.K W D H' ρ' f', ⟨bigN, env, s, ρ, f, E, S, h, q⟩, ?_⟩
    rintro m σ' H' ⟨env', st', ρ', f', E', S', hl, q'⟩
    cases m with
    | zero => cases hl
    | succ m =>
      unfold wloop at hl
      cases e1 : it env' st' with
      | none => rw [e1] at hl; cases hl
      | some r =>
        obtain ⟨b, s1⟩ := r
        rw [e1] at hl
        refine ⟨env', st', ρ', b, s1, E', S', e1, fun H1 ρ1 G1 S1 => ?_⟩
        cases b with
        | false =>
          cases hl
          rw [if_neg Bool.false_ne_true]
          exact q' σ' H1 ρ1 G1 S1 (E'.grow S' G1)
        | true =>
          rw [if_pos rfl]
          refine ⟨fun σ2 H2 => ∃ m', m' < m + 1 ∧ ∃ env' st' ρ' f', RepE X.K H2 ρ' env' σ2 ∧ RepS X.K H2 ρ' st' ∧ wloop it ia m' env' st' = some f' ∧ PostF X.K W D H2 ρ' f', fun σ2 H2 n => n, ?_⟩
          cases e3 : ia env' s1 with
          | none => simp only [e3] at hl; cases hl
          | some fl =>
            simp only [e3] at hl
            refine ⟨env', s1, ρ1, fl, E'.grow S' G1, S1, e3, ?_⟩
            cases fl with
            | nx e s => exact fun σ4 H4 ρ4 G4 S4 E4 => ⟨m, Nat.lt_succ_self m, e, s, ρ4, f', E4, S4, hl, q'.grow (G1.trans G4)⟩
            | ct e s => exact fun σ4 H4 ρ4 G4 S4 E4 => ⟨m, Nat.lt_succ_self m, e, s, ρ4, f', E4, S4, hl, q'.grow (G1.trans G4)⟩
            | bk e s => cases hl; exact fun σ4 H4 ρ4 G4 S4 E4 => q' σ4 H4 ρ4 (G1.trans G4) S4 E4
            | rt v s => cases hl; exact fun v H4 ρ4 G4 S4 R4 => q' v H4 ρ4 (G1.trans G4) S4 R4
            | er e c fs s => cases hl; exact fun C d σ4 H4 ρ4 vs hc G4 => q' C d σ4 H4 ρ4 vs hc (G1.trans G4)

/-! ### comprehensions -/
def wipeE (env : PEnv) : List Nat → PEnv
  | [] => env
  | v :: vs => (wipeE env vs).set v none
theorem RepE.setNone {K : PySem.W.Frag} {H : Hp} {ρ : Rho} {env : PEnv} {σ : L2.St} (E : RepE K H ρ env σ) (i : Nat) : RepE K H ρ (env.set i none) (σ.set i none) := by
  refine ⟨by simpa using E.len, fun j y hj => ?_⟩
  by_cases e : i = j
  · subst e
    by_cases hl : i < env.length
    · rw [List.getElem?_set_self hl] at hj
      cases hj
    · rw [List.getElem?_eq_none (by simpa using hl)] at hj
      cases hj
  · rw [List.getElem?_set_ne e] at hj
    obtain ⟨w, a, b⟩ := E.at_ j y hj
    exact ⟨w, by rw [List.getElem?_set_ne e]; exact a, b⟩
theorem RepE.wipe {K : PySem.W.Frag} {H : Hp} {ρ : Rho} {env : PEnv} {σ : L2.St} (E : RepE K H ρ env σ) : ∀ vs : List Nat, RepE K H ρ (wipeE env vs) (L2.wipe σ vs)
  | [] => E
  | v :: vs => (RepE.wipe E vs).setNone v
theorem wipe_at {σ : L2.St} {i : Nat} : ∀ {vs : List Nat}, i ∈ vs → i < σ.length → (L2.wipe σ vs)[i]? = some none
  | [], h, _ => by simp at h
  | v :: vs, h, hl => by
    unfold L2.wipe
    by_cases e : v = i
    · subst e
      exact List.getElem?_set_self (by rw [L2.wipe_length]; exact hl)
    · rw [List.getElem?_set_ne e]
      exact wipe_at (by rcases List.mem_cons.mp h with h | h; exact absurd h.symm e; exact h) hl
theorem wipe_same {σ σ' : L2.St} {vs : List Nat} (hl : σ'.length = σ.length) (h : ∀ i, i ∉ vs → σ'[i]? = (L2.wipe σ vs)[i]?) : L2.wipe σ' vs = L2.wipe σ vs := by
  refine List.ext_getElem? fun i => ?_
  by_cases hi : i ∈ vs
  · by_cases hb : i < σ.length
    · rw [wipe_at hi hb, wipe_at hi (by rw [hl]; exact hb)]
    · rw [List.getElem?_eq_none (by rw [L2.wipe_length]; omega), List.getElem?_eq_none (by rw [L2.wipe_length]; omega)]
  · rw [L2.wipe_out hi, h i hi]
def lcLoop (at_ : Sto → Nat → Option (Option PV)) (ig : IG) (t : IT) (e : IE) (d : Nat) (env : PEnv) : Nat → Nat → Sto → Option Sto
  | 0, _, _ => none
  | m + 1, i, st => match at_ st i with
    | none => none
    | some none => some st
    | some (some x) => match ig x env st with
      | none => none
      | some env1 => match t env1 st with
        | none => none
        | some (false, s1) => lcLoop at_ ig t e d env m (i + 1) s1
        | some (true, s1) => match e env1 s1 with
          | none => none
          | some (y, s2) => match s2[d]? with
            | some (.lst acc) => if acc.length < 9000000 then lcLoop at_ ig t e d env m (i + 1) (s2.set d (.lst (acc ++ [y]))) else none
            | _ => none
def iLc (ii : II) (ig : IG) (t : IT) (e : IE) (vs : List Nat) : IE := fun env st => ob (ii env st) fun src s =>
  (lcLoop src.at_ ig t e s.length (wipeE env vs) (src.n + 1) 0 (s ++ [.lst []])).map fun s' => (.ref s.length, s')
theorem line6 {n : Nat} (h : n < 9000000) : n < sizeLine := Nat.lt_of_lt_of_le h (by decide)
theorem lc_to {K : PySem.W.Frag} {ii : II} {ig : IG} {T vs : List Nat} {σ : L2.St} {H : Hp} {Q : VK} (hT : ∀ i ∈ T, i ∈ vs) (h : tI K (iLc ii ig it ie vs) σ H Q) : tLc (tII K ii) (tIG K T ig) (tIT K it) (tI K ie) vs σ H Q := by
  obtain ⟨env, s, ρ, z, st', E, S, h, q⟩ := h
  obtain ⟨src, s1, h1, h⟩ := ob_some h
  obtain ⟨hl, hz⟩ : lcLoop src.at_ ig it ie s1.length (wipeE env vs) (src.n + 1) 0 (s1 ++ [.lst []]) = some st' ∧ z = .ref s1.length := by
    cases e : lcLoop src.at_ ig it ie s1.length (wipeE env vs) (src.n + 1) 0 (s1 ++ [.lst []]) with
    | none => rw [e] at h; cases h
    | some s' => rw [e] at h; cases h; exact ⟨rfl, rfl⟩
  subst hz
  refine ⟨env, s, ρ, src, s1, E, S, h1, fun J H1 ρ1 G1 S1 O Dl hD => ?_⟩
  have g0 : Grow H1 ρ1 (upd H1 Dl (.lst [])) (ρ1.add Dl) := grow_alloc hD
  have E1 : RepE K H1 ρ1 env σ := E.grow S G1
  refine ⟨fun i m H' => ∃ st2 ρ', Grow (upd H1 Dl (.lst [])) (ρ1.add Dl) H' ρ' ∧ RepS K H' ρ' st2 ∧ lcLoop src.at_ ig it ie s1.length (wipeE env vs) m i st2 = some st',
    ⟨src.n + 1, _, _, Grow.refl, S1.alloc (so := .lst []) hD ⟨[], upd_same, by unfold Reps; rfl⟩, hl⟩, ?_⟩
  rintro i m H' ⟨st2, ρ', G', S', hl⟩
  have ix : ρ'.l[s1.length]? = some Dl := G'.ix (by show (ρ1.l ++ [Dl])[s1.length]? = some Dl; rw [← S1.len, List.getElem?_append_right (Nat.le_refl _)]; simp)
  cases m with
  | zero => cases hl
  | succ m =>
    unfold lcLoop at hl
    obtain ⟨o1, o2⟩ := O H' ρ' st2 (g0.trans G') S' i
    split at hl
    · cases hl
    · rename_i e1
      cases hl
      refine .inl ⟨o1 e1, q _ H' ρ' (G1.trans (g0.trans G')) S' ?_⟩
      unfold Rep
      exact ⟨Dl, rfl, ix⟩
    · rename_i x e1
      obtain ⟨go, yl⟩ := o2 x e1
      split at hl
      · cases hl
      · rename_i env1 e2
        refine .inr ⟨go, fun H2 => ∃ m', m' < m + 1 ∧ ∃ st2 ρ', Grow (upd H1 Dl (.lst [])) (ρ1.add Dl) H2 ρ' ∧ RepS K H2 ρ' st2 ∧ lcLoop src.at_ ig it ie s1.length (wipeE env vs) m' (i + 1) st2 = some st', fun H2 n => n, fun v H2 y => ?_⟩
        obtain ⟨ρ2, G2, S2, R2⟩ := yl v H2 y
        have Ew : RepE K H2 ρ2 (wipeE env vs) (L2.wipe σ vs) := (E1.wipe vs).grow S1 ((g0.trans G').trans G2)
        refine ⟨wipeE env vs, st2, ρ2, x, env1, Ew, S2, R2, e2, fun σ3 E3 l3 a3 => ⟨?_, ?_⟩⟩
        · rw [L2.wipe_length] at l3
          exact wipe_same l3 fun j hj => a3 j fun z => hj (hT j z)
        · cases e3 : it env1 st2 with
          | none => rw [e3] at hl; cases hl
          | some r =>
            obtain ⟨b, s3⟩ := r
            rw [e3] at hl
            refine ⟨env1, st2, ρ2, b, s3, E3, S2, e3, fun H3 ρ3 G3 S3 => ?_⟩
            cases b with
            | false =>
              rw [if_neg Bool.false_ne_true]
              exact ⟨m, Nat.lt_succ_self m, s3, ρ3, (G'.trans G2).trans G3, S3, hl⟩
            | true =>
              rw [if_pos rfl]
              simp only at hl
              cases e4 : ie env1 s3 with
              | none => rw [e4] at hl; cases hl
              | some r =>
                obtain ⟨y, s4⟩ := r
                rw [e4] at hl
                refine ⟨env1, s3, ρ3, y, s4, E3.grow S2 G3, S3, e4, fun w H4 ρ4 G4 S4 R4 => ?_⟩
                simp only at hl
                split at hl
                · rename_i acc e5
                  split at hl
                  · rename_i hlen
                    have ix4 : ρ4.l[s1.length]? = some Dl := (G2.trans (G3.trans G4)).ix ix
                    obtain ⟨b, ws, e0, hb, ndd, h2, h3⟩ := S4.lst (by unfold Rep; exact ⟨Dl, rfl, ix4⟩) e5
                    cases e0
                    have gw : Grow H4 ρ4 (upd H4 Dl (.lst (ws ++ [w]))) ρ4 := grow_write h2 (List.mem_of_getElem? ix4) ndd
                    refine ⟨ws, h2, line6 (by rw [← h3.length]; exact hlen), m, Nat.lt_succ_self m, _, ρ4, ((G'.trans G2).trans G3).trans (G4.trans gw), S4.write (so := .lst (acc ++ [y])) ix4 ndd h2 ⟨_, upd_same, ?_⟩, hl⟩
                    exact Reps.grow S4 gw _ _ (Reps.append h3 (by unfold Reps; exact ⟨w, [], rfl, R4, by unfold Reps; rfl⟩))
                  · cases hl
                · cases hl
theorem r_lc {elt tg iter : Expr} {ifs : List Expr} {scope : Scope} {own : List (Str × Nat)} {ii : II} {T : List Nat} {ig : IG} (hc : X.calm = true) (hN : X.N.Nodup) (hi : PI X tg iter (tII X.K ii)) (ok : BlkOk X.N X.env.scope scope own)
    (hT : ∀ i ∈ T, i ∈ own.map (·.2))
    (hg : ∀ (s : Shared) (H : Hp) (C : Addr) (cl : List (Str × Addr)) (fp : List Addr), PG (X.blk s H scope (compEnvC scope cl C X.env) fp) tg (tIG X.K T ig)) (ht : ∀ (s : Shared) (H : Hp) (C : Addr) (cl : List (Str × Addr)) (fp : List Addr), PTs (X.blk s H scope (compEnvC scope cl C X.env) fp) ifs (tIT X.K it))
    (he : ∀ (s : Shared) (H : Hp) (C : Addr) (cl : List (Str × Addr)) (fp : List Addr), PE (X.blk s H scope (compEnvC scope cl C X.env) fp) elt (tI X.K ie)) (hs : ∀ x, foldedSetIterable iter X.env x = pure x := by intro _; rfl) :
    PE X (.ListComp elt [⟨tg, iter, ifs, 0⟩] scope pos) (tI X.K (iLc ii ig it ie (own.map (·.2)))) :=
  PE.imp (pe_lc hc hN hi ok hg ht he hs) fun _ _ _ h => lc_to hT h
theorem s_setLc {i : Nat} {y : Str} {py : Pos} {elt tg iter : Expr} {ifs : List Expr} {scope : Scope} {own : List (Str × Nat)} {spos : Pos} {ii : II} {T : List Nat} {ig : IG} (hy : X.N[i]? = some y) (hyl : X.env.scope.names.lookup y = some .local)
    (hsw : swapsWith (.ListComp elt [⟨tg, iter, ifs, 0⟩] scope pos) (some (.Name y py)) spos.line X.env = pure true) (hc : X.calm = true) (hN : X.N.Nodup) (hi : PI X tg iter (tII X.K ii)) (ok : BlkOk X.N X.env.scope scope own)
    (hT : ∀ i ∈ T, i ∈ own.map (·.2))
    (hg : ∀ (s : Shared) (H : Hp) (C : Addr) (cl : List (Str × Addr)) (fp : List Addr), PG (X.blk s H scope (compEnvC scope cl C X.env) fp) tg (tIG X.K T ig)) (ht : ∀ (s : Shared) (H : Hp) (C : Addr) (cl : List (Str × Addr)) (fp : List Addr), PTs (X.blk s H scope (compEnvC scope cl C X.env) fp) ifs (tIT X.K it))
    (he : ∀ (s : Shared) (H : Hp) (C : Addr) (cl : List (Str × Addr)) (fp : List Addr), PE (X.blk s H scope (compEnvC scope cl C X.env) fp) elt (tI X.K ie)) (hs : ∀ x, foldedSetIterable iter X.env x = pure x := by intro _; rfl) :
    PS X (.Assign [.Name y py] (.ListComp elt [⟨tg, iter, ifs, 0⟩] scope pos) spos) (tIS X.K W (iAsg (gN i) (iLc ii ig it ie (own.map (·.2))))) :=
  PS.imp (ps_setLc hc hN hy hyl hsw hi ok hg ht he hs) fun D σ H ⟨env, s, ρ, f, E, S, h, q⟩ => by
    obtain ⟨x, s1, h1, h⟩ := ob_some h
    cases h
    exact lc_to hT ⟨env, s, ρ, x, _, E, S, h1, fun v H1 ρ1 G1 S1 R1 => q _ H1 ρ1 G1 S1 ((E.grow S G1).set R1 i)⟩
/-- x += e of ints -/
def iAugI (g : Int → Int → Int) (i : Nat) (ie : IE) : IS := fun env st => match env[i]? with
  | some (some (.int a)) => ob (ie env st) fun y s => match y with
    | .int b => some (.nx (env.set i (some (.int (g a b)))) s)
    | _ => none
  | _ => none
def iAugAdd : Nat → IE → IS := iAugI (· + ·)
def iAugSub : Nat → IE → IS := iAugI (· - ·)
theorem s_aug {g : Int → Int → Int} {op : Operator} {i : Nat} {x : Str} {pos' : Pos} (hp : PIp X op (ipI g)) (hN : X.N.Nodup) (hi : X.N[i]? = some x) (hx : Loc X.env.scope x) (he : PE X e (tI X.K ie)) (hf : X.fn x = true ∨ X.env.scope.names.lookup x = some .local) :
    PS X (.AugAssign (.Name x pos') op e pos) (tIS X.K W (iAugI g i ie)) :=
  PS.imp (ps_aug hN hi hx he hp hf) fun D σ H ⟨env, s, ρ, f, E, S, h, q⟩ => by
    unfold iAugI at h
    split at h
    · rename_i a ea
      obtain ⟨y, s1, h1, h⟩ := ob_some h
      split at h
      · cases h
        obtain ⟨v, hv, rv⟩ := E.at_ _ _ ea
        refine ⟨v, hv, env, s, ρ, _, _, E, S, h1, fun w H1 ρ1 G1 S1 R1 => ?_⟩
        unfold Rep at rv R1
        subst rv R1
        exact ⟨_, _, rfl, rfl, q _ H1 ρ1 G1 S1 ((E.grow S G1).set (by unfold Rep; rfl) i)⟩
      · cases h
    · cases h
theorem s_augAdd {i : Nat} {x : Str} {pos' : Pos} (hN : X.N.Nodup) (hi : X.N[i]? = some x) (hx : Loc X.env.scope x) (he : PE X e (tI X.K ie)) (hf : X.fn x = true ∨ X.env.scope.names.lookup x = some .local := by first | exact .inl rfl | exact .inr rfl | assumption) :
    PS X (.AugAssign (.Name x pos') .Add e pos) (tIS X.K W (iAugAdd i ie)) := s_aug ip_add hN hi hx he hf
theorem s_augSub {i : Nat} {x : Str} {pos' : Pos} (hN : X.N.Nodup) (hi : X.N[i]? = some x) (hx : Loc X.env.scope x) (he : PE X e (tI X.K ie)) (hf : X.fn x = true ∨ X.env.scope.names.lookup x = some .local := by first | exact .inl rfl | exact .inr rfl | assumption) :
    PS X (.AugAssign (.Name x pos') .Sub e pos) (tIS X.K W (iAugSub i ie)) := s_aug ip_sub hN hi hx he hf
def iYes : IT := fun _ st => some (true, st)
theorem t_yes : PTs X [] (tIT X.K iYes) := ⟨fun pins s σ H Q I h => pts_nil.run pins s σ H Q I (by
  obtain ⟨env, st, ρ, z, st', E, S, h, q⟩ := h
  cases h
  exact q H ρ Grow.refl S)⟩
theorem t_one {c : Expr} (h : PT X c (tIT X.K it)) : PTs X [c] (tIT X.K it) := pts_one h
end

/-! ### defs -/
/-! ### the end of a def: what it made for itself is let go -/
mutual
/-- no number from m on stands in it -/
def rlt (m : Nat) : PV → Prop
  | .tup xs => rlts m xs
  | .frz xs => rlts m xs
  | .fdk _ xs => rlts m xs
  | .ref n => n < m
  | _ => True
def rlts (m : Nat) : List PV → Prop
  | [] => True
  | x :: xs => rlt m x ∧ rlts m xs
end
def rltO (m : Nat) : SO → Prop
  | .lst xs => rlts m xs
  | .dK kvs => rlts m (kvs.map (·.2))
  | .ins _ fs => rlts m (fs.map (·.2))
  | .gone => True
/-- the store behind a def, without what it made for itself alone -/
def Gc (st s : Sto) (v : PV) : Prop := rlt st.length v ∧ ∀ i so, i < st.length → s[i]? = some so → st[i]? = some so ∨ rltO st.length so
open Classical in
noncomputable def gcS (st s : Sto) (v : PV) : Sto := if Gc st s v then s.take st.length else s
section
variable {K : PySem.W.Frag} {H H' : Hp} {ρ ρ' : Rho} {st st' : Sto}
/-- the addresses up to those of ρ -/
def Rho.cut (ρ ρ' : Rho) : Rho := ⟨ρ.l, ρ'.d.filter fun a => decide (a ∈ ρ.l)⟩
theorem safe_cut (g : Grow H ρ H' ρ') {a : Addr} (h : ρ'.Safe a) : (Rho.cut ρ ρ').Safe a := by
  obtain ⟨l, e, _⟩ := g.ext
  by_cases ha : a ∈ ρ.l
  · rcases h with h | h
    · exact absurd (by rw [e]; exact List.mem_append_left _ ha) h
    · exact .inr (List.mem_filter.mpr ⟨h, decide_eq_true ha⟩)
  · exact .inl ha
mutual
theorem rep_cut (g : Grow H ρ H' ρ') : ∀ (x : PV) (v : V), rlt ρ.l.length x → Rep K H' ρ' x v → Rep K H' (Rho.cut ρ ρ') x v
  | .non, v, _, h => by unfold Rep at *; exact h
  | .bl b, v, _, h => by unfold Rep at *; exact h
  | .int i, v, _, h => by unfold Rep at *; exact h
  | .str x, v, _, h => by unfold Rep at *; exact h
  | .tup xs, v, r, h => by
    unfold rlt at r
    unfold Rep at *
    obtain ⟨a, vs, e, h1, h2⟩ := h
    exact ⟨a, vs, e, h1, reps_cut g xs vs r h2⟩
  | .frz xs, v, r, h => by
    unfold rlt at r
    unfold Rep at *
    obtain ⟨a, vs, e, h1, h2⟩ := h
    refine ⟨a, vs, e, ?_, reps_cut g xs vs r h2⟩
    rcases h1 with ⟨h1, n⟩ | h1
    · exact .inl ⟨h1, safe_cut g n⟩
    · exact .inr h1
  | .ref n, v, r, h => by
    unfold rlt at r
    unfold Rep at *
    obtain ⟨a, e, h1⟩ := h
    obtain ⟨l, e2, _⟩ := g.ext
    rw [e2, List.getElem?_append_left r] at h1
    exact ⟨a, e, h1⟩
  | .ty n, v, _, h => by unfold Rep at *; exact h
  | .fdk ks xs, v, r, h => by
    unfold rlt at r
    unfold Rep at *
    obtain ⟨a, vs, e, h1, h2⟩ := h
    obtain ⟨kvs, h1, n, e1, e2⟩ := h1
    exact ⟨a, vs, e, ⟨kvs, h1, safe_cut g n, e1, e2⟩, reps_cut g xs vs r h2⟩
theorem reps_cut (g : Grow H ρ H' ρ') : ∀ (xs : List PV) (vs : List V), rlts ρ.l.length xs → Reps K H' ρ' xs vs → Reps K H' (Rho.cut ρ ρ') xs vs
  | [], vs, _, h => by unfold Reps at *; exact h
  | x :: xs, vs, r, h => by
    unfold rlts at r
    unfold Reps at *
    obtain ⟨v, w, e, h1, h2⟩ := h
    exact ⟨v, w, e, rep_cut g x v r.1 h1, reps_cut g xs w r.2 h2⟩
end
theorem repK_cut (g : Grow H ρ H' ρ') : ∀ (xs : List (Key × PV)) (vs : List (Key × V)), rlts ρ.l.length (xs.map (·.2)) → RepK K H' ρ' xs vs → RepK K H' (Rho.cut ρ ρ') xs vs
  | [], vs, _, h => h
  | x :: xs, vs, r, h => by
    rw [List.map_cons] at r
    unfold rlts at r
    obtain ⟨v, w, e, h1, h2⟩ := h
    exact ⟨v, w, e, rep_cut g _ v r.1 h1, repK_cut g xs w r.2 h2⟩
theorem repF_cut (g : Grow H ρ H' ρ') : ∀ (xs : List (Str × PV)) (vs : List (Str × V)), rlts ρ.l.length (xs.map (·.2)) → RepF K H' ρ' xs vs → RepF K H' (Rho.cut ρ ρ') xs vs
  | [], vs, _, h => h
  | x :: xs, vs, r, h => by
    rw [List.map_cons] at r
    unfold rlts at r
    obtain ⟨v, w, e, h1, h2⟩ := h
    exact ⟨v, w, e, rep_cut g _ v r.1 h1, repF_cut g xs w r.2 h2⟩
theorem repO_cut (g : Grow H ρ H' ρ') {so : SO} {a : Addr} (r : rltO ρ.l.length so) (h : RepO K H' ρ' so a) : RepO K H' (Rho.cut ρ ρ') so a := by
  cases so with
  | lst xs => obtain ⟨vs, h1, h2⟩ := h; exact ⟨vs, h1, reps_cut g xs vs r h2⟩
  | dK xs => obtain ⟨vs, h1, h2⟩ := h; exact ⟨vs, h1, repK_cut g xs vs r h2⟩
  | ins c xs => obtain ⟨C, dx, vs, hc, h1, h2⟩ := h; exact ⟨C, dx, vs, hc, h1, repF_cut g xs vs r h2⟩
  | gone => exact h
mutual
theorem rlt_of : ∀ (x : PV) (v : V), Rep K H ρ x v → rlt ρ.l.length x
  | .non, v, _ => by unfold rlt; trivial
  | .bl b, v, _ => by unfold rlt; trivial
  | .int i, v, _ => by unfold rlt; trivial
  | .str x, v, _ => by unfold rlt; trivial
  | .ty x, v, _ => by unfold rlt; trivial
  | .tup xs, v, h => by
    unfold Rep at h
    unfold rlt
    obtain ⟨a, vs, e, h1, h2⟩ := h
    exact rlts_of xs vs h2
  | .frz xs, v, h => by
    unfold Rep at h
    unfold rlt
    obtain ⟨a, vs, e, h1, h2⟩ := h
    exact rlts_of xs vs h2
  | .fdk ks xs, v, h => by
    unfold Rep at h
    unfold rlt
    obtain ⟨a, vs, e, h1, h2⟩ := h
    exact rlts_of xs vs h2
  | .ref n, v, h => by
    unfold Rep at h
    unfold rlt
    obtain ⟨a, e, h1⟩ := h
    exact (List.getElem?_eq_some_iff.mp h1).1
theorem rlts_of : ∀ (xs : List PV) (vs : List V), Reps K H ρ xs vs → rlts ρ.l.length xs
  | [], vs, _ => by unfold rlts; trivial
  | x :: xs, vs, h => by
    unfold Reps at h
    unfold rlts
    obtain ⟨v, w, e, h1, h2⟩ := h
    exact ⟨rlt_of x v h1, rlts_of xs w h2⟩
end
theorem rltK_of : ∀ (xs : List (Key × PV)) (vs : List (Key × V)), RepK K H ρ xs vs → rlts ρ.l.length (xs.map (·.2))
  | [], vs, _ => by simp [rlts]
  | x :: xs, vs, h => by
    obtain ⟨v, w, e, h1, h2⟩ := h
    rw [List.map_cons]
    unfold rlts
    exact ⟨rlt_of _ v h1, rltK_of xs w h2⟩
theorem rltF_of : ∀ (xs : List (Str × PV)) (vs : List (Str × V)), RepF K H ρ xs vs → rlts ρ.l.length (xs.map (·.2))
  | [], vs, _ => by simp [rlts]
  | x :: xs, vs, h => by
    obtain ⟨v, w, e, h1, h2⟩ := h
    rw [List.map_cons]
    unfold rlts
    exact ⟨rlt_of _ v h1, rltF_of xs w h2⟩
theorem rltO_of {so : SO} {a : Addr} (h : RepO K H ρ so a) : rltO ρ.l.length so := by
  cases so with
  | lst xs => obtain ⟨vs, h1, h2⟩ := h; exact rlts_of xs vs h2
  | dK xs => obtain ⟨vs, h1, h2⟩ := h; exact rltK_of xs vs h2
  | ins c xs => obtain ⟨C, dx, vs, hc, h1, h2⟩ := h; exact rltF_of xs vs h2
  | gone => trivial
theorem gc_to {v : PV} {u : V} (S : RepS K H ρ st) (g : Grow H ρ H' ρ') (S' : RepS K H' ρ' st') (R : Rep K H' ρ' v u) : ∃ ρ2, Grow H ρ H' ρ2 ∧ RepS K H' ρ2 (gcS st st' v) ∧ Rep K H' ρ2 v u := by
  unfold gcS
  split
  · rename_i hg
    obtain ⟨g1, g2⟩ := hg
    obtain ⟨l, e, hl⟩ := g.ext
    have hlen : st.length ≤ st'.length := by rw [← S.len, ← S'.len, e]; simp
    rw [← S.len] at g1
    refine ⟨Rho.cut ρ ρ', ⟨⟨[], by simp [Rho.cut], fun _ h => by simp at h⟩, fun b hb => List.mem_filter.mpr ⟨g.ded b hb, decide_eq_true (S.sd b hb)⟩, g.keep, g.dom, g.lck⟩, ⟨?_, S.nd, fun n so hn => ?_, fun n so a hn hng ha => ?_, fun a ha => of_decide_eq_true (List.mem_filter.mp ha).2⟩, rep_cut g v u g1 R⟩
    · show ρ.l.length = _
      rw [List.length_take, S.len]; omega
    · rw [List.getElem?_take] at hn
      split at hn
      · rename_i hi
        obtain ⟨a, h1, h2⟩ := S'.at_ n so hn
        have h1' : ρ.l[n]? = some a := by rw [e, List.getElem?_append_left (by rw [S.len]; exact hi)] at h1; exact h1
        refine ⟨a, h1', repO_cut g ?_ h2⟩
        rcases g2 n so hi hn with h3 | h3
        · obtain ⟨b, _, h5⟩ := S.at_ n so h3
          exact rltO_of h5
        · rw [S.len]; exact h3
      · cases hn
    · rw [List.getElem?_take] at hn
      split at hn
      · have ha' : ρ'.l[n]? = some a := g.ix ha
        exact fun z => S'.lv n so a hn hng ha' (List.mem_filter.mp z).1
      · cases hn
  · exact ⟨ρ', g, S', R⟩
end
noncomputable def iDef (n nN : Nat) (b : IS) : FA := fun xs st => if xs.length = n then (match b (xs.map some ++ List.replicate (nN - n) none) st with
  | some (.nx _ s) => some (.non, gcS st s .non)
  | some (.rt v s) => some (v, gcS st s v)
  | _ => none) else none
theorem ar_def {n nN : Nat} {b : IS} : Ar n (iDef n nN b) := fun xs st r h => by
  unfold iDef at h
  split at h
  · assumption
  · cases h
theorem repE_start {K : PySem.W.Frag} {H : Hp} {ρ : Rho} {xs : List PV} {vs : List V} (R : Reps K H ρ xs vs) (N : List Str) : RepE K H ρ (xs.map some ++ List.replicate (N.length - vs.length) none) (L2.start N vs) := by
  unfold L2.start
  refine ⟨by simp [R.length], fun i x h => ?_⟩
  by_cases hi : i < xs.length
  · rw [List.getElem?_append_left (by simpa using hi), List.getElem?_map] at h
    cases e : xs[i]? with
    | none => rw [e] at h; cases h
    | some y =>
      rw [e] at h
      cases h
      obtain ⟨v, hv, r⟩ := R.get e
      refine ⟨v, ?_, r⟩
      rw [List.getElem?_append_left (by simp [← R.length]; exact hi), List.getElem?_map, hv]
      rfl
  · rw [List.getElem?_append_right (by simpa using hi), List.getElem?_replicate] at h
    split at h <;> cases h
theorem hb_of {P : Program} {w : World} {K : PySem.W.Frag} {mg : Str → Option Value} {base : Heap} {x : Str} {scope : Scope} {body : List Stmt} {f : Addr} {N ps : List Str} {k : Nat} {ib : IS} {W : WX}
    (hb : ∀ (cdv : Value) (A : Around) (outer : List PySem.Env) (s : Shared) (H : Hp) (E : XK), Room k (A.deeper (envOfC x scope s.heap.objs.size f cdv)) → PSs (cxOf CX0 P w K mg base N x scope f cdv A outer s H E).nox body (tIS K W ib)) :
    ∀ (cdv : Value) (A : Around) (outer : List PySem.Env) (s : Shared) (H : Hp) (vs : List V) (Q : VK) (E : XK), Room k (A.deeper (envOfC x scope s.heap.objs.size f cdv)) → spI K ps.length (iDef ps.length N.length ib) vs H Q E →
      ∃ t, PSs (cxOf CX0 P w K mg base N x scope f cdv A outer s H E).nox body t ∧ t { nx := fun _ H' => Q .non H', rt := Q } (L2.start N vs) H :=
  fun cdv A outer s H vs Q E hr hsp => ⟨tIS K W ib, hb cdv A outer s H E hr, by
    obtain ⟨hl, s1, ρ, xs, z, st', S1, R1, h, q⟩ := hsp
    unfold iDef at h
    split at h
    · have E1 := repE_start R1 N
      rw [hl] at E1
      split at h
      · rename_i e1 s2 e
        cases h
        refine ⟨_, s1, ρ, _, E1, S1, e, fun σ' H' ρ' G S' E' => ?_⟩
        obtain ⟨ρ2, G2, S2, R2⟩ := gc_to (v := .non) (u := .non) S1 G S' (by unfold Rep; rfl)
        exact q .non H' ρ2 G2 S2 R2
      · rename_i v s2 e
        cases h
        refine ⟨_, s1, ρ, _, E1, S1, e, fun v H' ρ' G S' R' => ?_⟩
        obtain ⟨ρ2, G2, S2, R2⟩ := gc_to S1 G S' R'
        exact q v H' ρ2 G2 S2 R2
      · cases h
    · cases h⟩
theorem cal_def {P : Program} {w : World} {K : PySem.W.Frag} {mg : Str → Option Value} {base : Heap} {x : Str} {st : Stmt} {f : Addr} {fd : FuncData} {N ps : List Str} {k : Nat} {ib : IS} {W : WX} (F : C8.Def K mg x st f fd) (b : Binds K fd ps []) (S : FnScope N ps (C8.fnScope st))
    (hb : ∀ (cdv : Value) (A : Around) (outer : List PySem.Env) (s : Shared) (H : Hp) (E : XK), Room k (A.deeper (envOfC x (C8.fnScope st) s.heap.objs.size f cdv)) →
      PSs (cxOf CX0 P w K mg base N x (C8.fnScope st) f cdv A outer s H E).nox (C8.fnBody st) (tIS K W ib)) : CalI P w K mg base (k + 1) x ps.length (iDef ps.length N.length ib) :=
  C8.cal0 F b .nil S (fun vs H Q E h => h.1) (hb_of hb)
end IL

namespace IL
open PySem PySem.Spec PyProof.Rows L2

section
variable {X : Cx}
def listOf (st : Sto) : PV → Option (List PV)
  | .frz xs => some xs
  | .ref n => match st[n]? with
    | some (.lst xs) => some xs
    | _ => none
  | _ => none
theorem list_rep {K : PySem.W.Frag} {H : Hp} {ρ : Rho} {st : Sto} (S : RepS K H ρ st) {x : PV} {v : V} {xs : List PV} (R : Rep K H ρ x v) (h : listOf st x = some xs) : ∃ a vs, v = .ref a ∧ SqL K H a vs ∧ Reps K H ρ xs vs := by
  cases x with
  | frz ys =>
    unfold Rep at R
    obtain ⟨a, vs, rfl, t, r⟩ := R
    cases h
    exact ⟨a, vs, rfl, t.sq, r⟩
  | ref n =>
    unfold Rep at R
    obtain ⟨a, rfl, i1⟩ := R
    simp only [listOf] at h
    split at h
    · rename_i ys e1
      obtain ⟨b1, hb1, vs1, h1, r1⟩ := S.at_ _ _ e1
      rw [i1] at hb1; cases hb1
      cases h
      exact ⟨a, vs1, rfl, .of h1, r1⟩
    · cases h
  | _ => cases h
theorem list_add_any (l : Addr) (items : Array Value) (n : Nat) (s1 s2 : Array (Option Value)) (b : Addr) (items2 : Array Value) (n2 : Nat) (hc0 : items.size + items2.size ≤ sizeLine) :
    Meets (Builtin.«list.__add__» { pos := [Value.ref l, Value.ref b] }) fun x R s =>
      s.heap.get? l = some ⟨Value.type "list", none, Data.seq items n, s1⟩ ∧
        s.heap.get? b = some ⟨Value.type "list", none, Data.seq items2 n2, s2⟩ ∧
          R (Except.ok (Flow.ret (Value.ref s.heap.objs.size)))
            { heap := s.heap.push { cls := Value.type "list", data := Data.seq (items ++ items2) }, gens := s.gens,
              drawn := s.drawn, toks := s.toks, os := s.os } := by
  refine Meets.of_wp fun prog w A R s h => ?_
  obtain ⟨hp, g, d, tk, os⟩ := s
  obtain ⟨hl, hb, h⟩ := h
  have f3 := AutoSeq1.sub_list_list
  have hz : decide ((items ++ items2).size > sizeLine) = false := by
    rw [Array.size_append]; exact decide_eq_false (by omega)
  unfold Builtin.«list.__add__»
  refine wpAny_bind ?_
  unfold slotArgs
  refine wpAny_ite_false rfl (wpAny_ite_false rfl (wpAny_pure ?_))
  refine wpAny_bind ?_
  unfold isInstance
  refine wpAny_bind ?_
  try unfold typeOf
  refine wpAny_bind ?_
  refine AutoSeq1.wpAny_loadPart' hb (wpAny_pure ?_)
  refine wpAny_of_eq f3 ?_
  refine wpAny_ite_false rfl ?_
  refine wpAny_bind ?_
  unfold Builtin.List.listItems
  unfold seqItems?
  refine wpAny_bind ?_
  refine wpAny_bind ?_
  refine wpAny_load' hl (wpAny_pure (wpAny_pure ?_))
  refine wpAny_bind ?_
  refine wpAny_bind ?_
  refine wpAny_bind ?_
  refine wpAny_load' hb (wpAny_pure (wpAny_pure ?_))
  refine wpAny_bind ?_
  unfold newObj
  refine wpAny_ite_false hz ?_
  refine wpAny_bind ?_
  refine wpAny_alloc' (wpAny_pure (wpAny_pure ⟨_, rfl, h⟩))
def rCatS (K : PySem.W.Frag) : R2 := fun x y H Q => ∃ a b xs zs, x = .ref a ∧ y = .ref b ∧ SqL K H a xs ∧ SqL K H b zs ∧ xs.length + zs.length ≤ sizeLine ∧ ∀ p : Addr, H p = none → Q (.ref p) (upd H p (.lst (xs ++ zs)))
theorem op_catS : OpR X (binaryOp .Add) (rCatS X.K) := by
  intro pins s σ H x y v u Q I rx ry h
  obtain ⟨a, b, xs, zs, rfl, rfl, ha, hb, hz, q⟩ := h
  cases rx
  cases ry
  obtain ⟨its, r, ⟨o, n, e, k1, k2, k3⟩, hn⟩ := I.list ha
  obtain ⟨its2, r2, ⟨o2, n2, e2, k12, k22, k32⟩, hn2⟩ := I.list hb
  obtain ⟨oc, od, odd, os⟩ := o
  obtain ⟨oc2, od2, odd2, os2⟩ := o2
  simp only at k1 k2 k3 k12 k22 k32
  subst k1 k2 k3 k12 k22 k32
  refine concat_meets ⟨_, e, rfl⟩ ⟨_, e2, rfl⟩ noFill_list_add seq_list_add F.slot_list_add F.entry_list_add (F.args_list_add_2 (Value.ref a) (Value.ref b)) (list_add_any a _ n _ _ b _ n2 ?_) ⟨e, e2, ?_⟩
  · have h1 := r.length
    have h2 := r2.length
    simp only [List.size_toArray]
    omega
  · rw [List.append_toArray]
    exact ⟨.ref s.heap.objs.size, upd H s.heap.objs.size (.lst (xs ++ zs)), I.lnew (r.append r2) (by rw [List.length_append]; exact hz), rfl, q _ I.fresh⟩
/-! ### arithmetic, joining -/
def fAdd : F2 := fun x y st => match x, y with
  | .int a, .int b => some (.int (a + b), st)
  | .str a, .str b => if a.length + b.length ≤ 9000000 then some (.str (a ++ b), st) else none
  | .tup a, .tup b => if a.length + b.length ≤ 9000000 then some (.tup (a ++ b), st) else none
  | x, y => match listOf st x, listOf st y with
    | some a, some b => if a.length + b.length ≤ 9000000 then some (alloc (.lst (a ++ b)) st) else none
    | _, _ => none
def rAdd (K : PySem.W.Frag) : R2 := fun x y H Q => (rI0 (fun i j => .int (i + j)) x y H Q) ∨ (∃ i j, x = .str i ∧ y = .str j ∧ i.length + j.length ≤ sizeLine ∧ Q (.str (i ++ j)) H) ∨ rCatA K x y H Q ∨ rCatS K x y H Q
theorem op_addI : OpR X (binaryOp .Add) (rAdd X.K) := OpR.or op_add (OpR.or op_add_str (OpR.or op_catA op_catS))
theorem f_add {K : PySem.W.Frag} : OpI K (rAdd K) fAdd := by
  intro H ρ st x y vx vy z st' Q S Rx Ry h q
  unfold fAdd at h
  split at h
  · unfold Rep at Rx Ry
    subst Rx Ry
    cases h
    exact .inl ⟨_, _, rfl, rfl, q _ H ρ Grow.refl S (by unfold Rep; rfl)⟩
  · split at h
    · rename_i hl
      unfold Rep at Rx Ry
      subst Rx Ry
      cases h
      exact .inr (.inl ⟨_, _, rfl, rfl, line5 hl, q _ H ρ Grow.refl S (by unfold Rep; rfl)⟩)
    · cases h
  · rename_i a b
    split at h
    · rename_i hl
      unfold Rep at Rx Ry
      obtain ⟨p1, vs1, rfl, t1, r1⟩ := Rx
      obtain ⟨p2, vs2, rfl, t2, r2⟩ := Ry
      cases h
      refine .inr (.inr (.inl ⟨p1, p2, vs1, vs2, rfl, rfl, t1, t2, line5 (by rw [← r1.length, ← r2.length]; exact hl), fun e => ?_, fun _ e => ?_, fun _ _ p hp => ?_⟩))
      · subst e
        have : a = [] := by have := r1.length; cases a; rfl; simp at this
        subst this
        exact q _ H ρ Grow.refl S (by unfold Rep; exact ⟨p2, vs2, rfl, t2, r2⟩)
      · subst e
        have : b = [] := by have := r2.length; cases b; rfl; simp at this
        subst this
        exact q _ H ρ Grow.refl S (by unfold Rep; exact ⟨p1, vs1, rfl, t1, by rw [List.append_nil]; exact r1⟩)
      · exact q _ _ ρ (grow_new hp) (S.new hp) (new_tup S (Reps.append r1 r2) hp)
    · cases h
  · split at h
    · rename_i a b e1 e2
      split at h
      · rename_i hl
        obtain ⟨p1, vs1, rfl, h1, r1⟩ := list_rep S Rx e1
        obtain ⟨p2, vs2, rfl, h2, r2⟩ := list_rep S Ry e2
        refine .inr (.inr (.inr ⟨p1, p2, vs1, vs2, rfl, rfl, h1, h2, line5 (by rw [← r1.length, ← r2.length]; exact hl), fun p hp => ?_⟩))
        obtain ⟨a1, a2, a3⟩ := new_lst S (Reps.append r1 r2) hp
        have e := Option.some.inj h
        rw [e] at a2 a3
        exact q _ _ _ a1 a2 a3
      · cases h
    · cases h
def fInt (C : Int → Int → Bool) (g : Int → Int → Int) : F2 := fun x y st => match x, y with
  | .int a, .int b => if C a b then some (.int (g a b), st) else none
  | _, _ => none
theorem f_int {K : PySem.W.Frag} {C : Int → Int → Prop} {C' : Int → Int → Bool} {g : Int → Int → Int} (hC : ∀ a b, C' a b = true → C a b) : OpI K (rI C fun i j => .int (g i j)) (fInt C' g) := by
  intro H ρ st x y vx vy z st' Q S Rx Ry h q
  unfold fInt at h
  split at h
  · split at h
    · rename_i hc
      unfold Rep at Rx Ry
      subst Rx Ry
      cases h
      exact ⟨_, _, rfl, rfl, hC _ _ hc, q _ H ρ Grow.refl S (by unfold Rep; rfl)⟩
    · cases h
  · cases h
def fSub : F2 := fInt (fun _ _ => true) (· - ·)
theorem op_subI : OpR X (binaryOp .Sub) (rI (fun _ _ => True) fun i j => .int (i - j)) := opI fun _ _ _ _ _ _ _ _ q => sub_int q
theorem f_sub {K : PySem.W.Frag} : OpI K (rI (fun _ _ => True) fun i j => .int (i - j)) fSub := f_int fun _ _ _ => trivial
def cDiv (_ b : Int) : Bool := decide (b ≠ 0) && decide (b.natAbs < 2 ^ 64)
def fDiv : F2 := fInt cDiv Int.fdiv
theorem op_divI : OpR X (binaryOp .FloorDiv) (rI (fun _ j => j ≠ 0 ∧ j.natAbs < 2 ^ 64) fun i j => .int (i.fdiv j)) := opI fun i j _ _ _ _ _ hc q => floordiv_int hc.1 q (.inl (PyProof.noPylong_of_log2 (Nat.lt_of_lt_of_le (PySem.Flt.log2_lt_of (by decide) hc.2) (by decide))))
theorem f_div {K : PySem.W.Frag} : OpI K (rI (fun _ j => j ≠ 0 ∧ j.natAbs < 2 ^ 64) fun i j => .int (i.fdiv j)) fDiv := f_int fun a b h => by
  unfold cDiv at h
  simp only [Bool.and_eq_true, decide_eq_true_eq] at h
  exact h
def fMod : F2 := fInt (fun _ b => decide (b ≠ 0)) Int.fmod
theorem f_mod {K : PySem.W.Frag} : OpI K (rI (fun _ j => j ≠ 0) fun i j => .int (i.fmod j)) fMod := f_int fun a b h => of_decide_eq_true h
def cMul (a b : Int) : Bool := (decide (-(2 ^ 64) < a) && decide (a < 2 ^ 64)) || (decide (-(2 ^ 64) < b) && decide (b < 2 ^ 64))
theorem cMul_of {a b : Int} (h : cMul a b = true) : CMul a b := by
  unfold cMul at h
  simp only [Bool.or_eq_true, Bool.and_eq_true, decide_eq_true_eq] at h
  exact h
/-- * : ints; a text, a list, a tuple and an int from 2 to 1000 -/
def cRep (n : Nat) (k : Int) : Bool := decide (0 < n) && decide (n ≤ 1000) && decide (2 ≤ k) && decide (k ≤ 1000)
theorem cRep_of {n : Nat} {k : Int} (h : cRep n k = true) : 0 < n ∧ n ≤ 1000 ∧ 2 ≤ k ∧ k ≤ 1000 := by
  unfold cRep at h
  simp only [Bool.and_eq_true, decide_eq_true_eq] at h
  omega
def repStr (a : Str) (k : Nat) : Str := ⟨(List.replicate k a.cps.toList).flatten.toArray⟩
theorem rep_fold (c : Array Nat) : ∀ (k : Nat) (acc : Array Nat), (List.replicate k c).foldl (fun x1 x2 => x1 ++ x2) acc = acc ++ (List.replicate k c.toList).flatten.toArray
  | 0, acc => by simp
  | k + 1, acc => by
    rw [List.replicate_succ, List.foldl_cons, rep_fold c k, List.replicate_succ, List.flatten_cons]
    apply Array.ext'
    simp
theorem repStr_eq (a : Str) (k : Nat) : (⟨(List.replicate k a.cps).foldl (fun x1 x2 => x1 ++ x2) #[]⟩ : Str) = repStr a k := by
  rw [rep_fold]
  unfold repStr
  simp
theorem repStr_len (a : Str) (k : Nat) : (repStr a k).length = k * a.length := by
  unfold repStr Str.length
  simp
def fMul : F2 := fun x y st => match x, y with
  | .int a, .int b => if cMul a b then some (.int (a * b), st) else none
  | .str a, .int k => if cRep a.length k then some (.str (repStr a k.toNat), st) else none
  | .tup a, .int k => if cRep a.length k then some (.tup (List.replicate k.toNat a).flatten, st) else none
  | .ref n, .int k => match st[n]? with
    | some (.lst a) => if cRep a.length k then some (alloc (.lst (List.replicate k.toNat a).flatten) st) else none
    | _ => none
  | _, _ => none
def rMulS : R2 := fun x y H Q => ∃ a k, x = .str a ∧ y = .int k ∧ (0 < a.length ∧ a.length ≤ 1000 ∧ 2 ≤ k ∧ k ≤ 1000) ∧ Q (.str (repStr a k.toNat)) H
theorem op_mulS : OpR X (binaryOp .Mult) rMulS := by
  intro pins s σ H x y v u Q I rx ry h
  obtain ⟨a, k, rfl, rfl, ⟨h0, h1, h2, h3⟩, q⟩ := h
  obtain ⟨t, rfl⟩ := rx
  obtain ⟨t', rfl⟩ := ry
  have hs := sizeLine_eq
  have hle : a.length * k.toNat ≤ 1000 * 1000 := Nat.mul_le_mul h1 (by omega)
  have hn : (k == 1 || a.length == 0) = false := by
    rw [Bool.or_eq_false_iff]
    exact ⟨beq_eq_false_iff_ne.mpr (by omega), beq_eq_false_iff_ne.mpr (by omega)⟩
  refine PySem.P.mul_str ?_ (fun _ _ => ?_) (fun _ _ => ?_) ?_
  · rw [decide_eq_false (by omega), decide_eq_false (by omega)]; rfl
  · have h9 : (1000 : Int) ≤ (2 ^ 63 - 1) / k := by
      rw [Int.le_ediv_iff_mul_le (by omega)]
      omega
    omega
  · unfold Builtin.Str.tooLong
    simp only [decide_eq_false_iff_not]
    omega
  · rw [if_neg (by omega), if_neg (by rw [hn]; decide), repStr_eq]
    refine ⟨?_, ⟨.str _, H, I.tok _, ⟨_, rfl⟩, q⟩⟩
    have e := repStr_len a k.toNat
    rw [Nat.mul_comm] at e
    show (repStr a k.toNat).length ≤ sizeLine
    omega
def rMul (K : PySem.W.Frag) : R2 := fun x y H Q => (rI CMul fun i j => .int (i * j)) x y H Q ∨ rMulS x y H Q ∨ rRepT K x y H Q ∨ rRep x y H Q
theorem op_mulI : OpR X (binaryOp .Mult) (rMul X.K) := OpR.or op_mul (OpR.or op_mulS (OpR.or op_repT op_rep))
theorem Reps.rep {K : PySem.W.Frag} {H : Hp} {ρ : Rho} {xs : List PV} {vs : List V} (R : Reps K H ρ xs vs) : ∀ k : Nat, Reps K H ρ (List.replicate k xs).flatten (List.replicate k vs).flatten
  | 0 => by simp [Reps]
  | k + 1 => by
    rw [List.replicate_succ, List.replicate_succ, List.flatten_cons, List.flatten_cons]
    exact Reps.append R (Reps.rep R k)
theorem f_mul {K : PySem.W.Frag} : OpI K (rMul K) fMul := by
  intro H ρ st x y vx vy z st' Q S Rx Ry h q
  unfold fMul at h
  split at h
  · split at h
    · rename_i hc
      unfold Rep at Rx Ry
      subst Rx Ry
      cases h
      exact .inl ⟨_, _, rfl, rfl, cMul_of hc, q _ H ρ Grow.refl S (by unfold Rep; rfl)⟩
    · cases h
  · split at h
    · rename_i hl
      unfold Rep at Rx Ry
      subst Rx Ry
      cases h
      exact .inr (.inl ⟨_, _, rfl, rfl, cRep_of hl, q _ H ρ Grow.refl S (by unfold Rep; rfl)⟩)
    · cases h
  · rename_i a k
    split at h
    · rename_i hl
      obtain ⟨c1, c2, c3, c4⟩ := cRep_of hl
      unfold Rep at Rx Ry
      subst Ry
      obtain ⟨p1, vs1, rfl, t1, r1⟩ := Rx
      cases h
      have e := r1.length
      refine .inr (.inr (.inl ⟨p1, _, vs1, rfl, rfl, t1, (by intro z; rw [z, List.length_nil] at e; omega), c3, c4, by omega, fun p hp => ?_⟩))
      exact q _ _ ρ (grow_new hp) (S.new hp) (new_tup S (r1.rep _) hp)
    · cases h
  · rename_i n k
    split at h
    · rename_i a e1
      split at h
      · rename_i hl
        obtain ⟨c1, c2, c3, c4⟩ := cRep_of hl
        unfold Rep at Rx Ry
        subst Ry
        obtain ⟨p1, rfl, i1⟩ := Rx
        obtain ⟨b1, hb1, vs1, h1, r1⟩ := S.at_ _ _ e1
        rw [i1] at hb1; cases hb1
        have e := r1.length
        have hle : vs1.length * k.toNat ≤ 1000 * 1000 := Nat.mul_le_mul (by omega) (by omega)
        have hs := sizeLine_eq
        refine .inr (.inr (.inr ⟨p1, _, vs1, rfl, rfl, h1, by omega, by omega, by omega, fun p hp => ?_⟩))
        obtain ⟨a1, a2, a3⟩ := new_lst S (r1.rep k.toNat) hp
        have e := Option.some.inj h
        rw [e] at a2 a3
        exact q _ _ _ a1 a2 a3
      · cases h
    · cases h
  · cases h
def fNeg : F1 := fun x st => match x with
  | .int a => some (.int (-a), st)
  | _ => none
theorem f_neg {K : PySem.W.Frag} : UnI K (rU fun i => .int (-i)) fNeg := by
  intro H ρ st x vx z st' Q S Rx h q
  unfold fNeg at h
  split at h
  · unfold Rep at Rx
    subst Rx
    cases h
    exact ⟨_, rfl, q _ H ρ Grow.refl S (by unfold Rep; rfl)⟩
  · cases h

/-! ### order -/
def ltS (a b : Str) : Bool := decide (a.cps.toList < b.cps.toList)
/-- two ints or two texts: are they the same, is the first less -/
def scal2 : PV → PV → Option (Bool × Bool)
  | .int a, .int b => some (a == b, decide (a < b))
  | .str a, .str b => some (a == b, ltS a b)
  | _, _ => none
def fLt : F2 := fun x y st => match x, y with
  | .int a, .int b => some (.bl (decide (a < b)), st)
  | .str a, .str b => some (.bl (ltS a b), st)
  | .tup [a], .tup [b] => match scal2 a b with
    | some (e, l) => some (.bl (if e then false else l), st)
    | none => none
  | _, _ => none
def fLe : F2 := fun x y st => match x, y with
  | .int a, .int b => some (.bl (decide (a ≤ b)), st)
  | .str a, .str b => some (.bl (!ltS b a), st)
  | .tup [a], .tup [b] => match scal2 a b, scal2 b a with
    | some (e, _), some (_, l) => some (.bl (if e then true else !l), st)
    | _, _ => none
  | _, _ => none
def fGt : F2 := fun x y st => match x, y with
  | .int a, .int b => some (.bl (decide (b < a)), st)
  | .str a, .str b => some (.bl (ltS b a), st)
  | _, _ => none
def fGe : F2 := fun x y st => match x, y with
  | .int a, .int b => some (.bl (decide (b ≤ a)), st)
  | _, _ => none
inductive Sc2 : V → V → Bool → Bool → Prop where
  | int (a b : Int) : Sc2 (.int a) (.int b) (a == b) (decide (a < b))
  | str (a b : Str) : Sc2 (.str a) (.str b) (a == b) (ltS a b)
theorem sc2_rep {K : PySem.W.Frag} {H : Hp} {ρ : Rho} {x y : PV} {v w : V} {e l : Bool} (h : scal2 x y = some (e, l)) (Rx : Rep K H ρ x v) (Ry : Rep K H ρ y w) : Sc2 v w e l := by
  unfold scal2 at h
  split at h
  · unfold Rep at Rx Ry
    subst Rx Ry
    cases h
    exact .int _ _
  · unfold Rep at Rx Ry
    subst Rx Ry
    cases h
    exact .str _ _
  · cases h
def rLt1 (K : PySem.W.Frag) : R2 := fun x y H Q => ∃ p q v w e l, x = .ref p ∧ y = .ref q ∧ SqT K H p [v] ∧ SqT K H q [w] ∧ Sc2 v w e l ∧ Q (.bl (if e then false else l)) H
def rLe1 (K : PySem.W.Frag) : R2 := fun x y H Q => ∃ p q v w e l e', x = .ref p ∧ y = .ref q ∧ SqT K H p [v] ∧ SqT K H q [w] ∧ Sc2 v w e e' ∧ (∃ e2, Sc2 w v e2 l) ∧ Q (.bl (if e then true else !l)) H
theorem Sc2.flat {v w : V} {e l : Bool} (h : Sc2 v w e l) : flatV v = true ∧ flatV w = true ∧ eqV v w = e := by
  cases h
  · exact ⟨rfl, rfl, rfl⟩
  · exact ⟨rfl, rfl, rfl⟩
theorem op_lt1 (hu : X.A.units < cLine) : OpR X (compareOp .Lt) (rLt1 X.K) := by
  intro pins s σ H x y v u Q I rx ry h
  obtain ⟨p, q, v1, w1, e, l, rfl, rfl, ha, hb, sc, hq⟩ := h
  cases rx
  cases ry
  obtain ⟨its, r1, p1, _⟩ := I.tuple ha
  obtain ⟨its2, r2, p2, _⟩ := I.tuple hb
  obtain ⟨u1, rfl, ru⟩ := vals1 r1
  obtain ⟨u2, rfl, rw2⟩ := vals1 r2
  obtain ⟨f1, f2, fe⟩ := sc.flat
  have R := Ob.RcOp.tuples_lt (A := X.A) (s := s) (e := fun _ => e) (r := fun _ => l) p1 p2 hu (fun j h1 h2 => by
    have hj : j = 0 := by simp at h1; omega
    subst hj
    show SeqAt.EqAt _ _ u1 u2 e
    rw [← fe]
    exact eqAt_V ru rw2 f1 f2) (fun j h1 h2 _ => by
    have hj : j = 0 := by simp at h1; omega
    subst hj
    show Ob.RcOp .Lt _ _ u1 u2 l
    cases sc with
    | int a b =>
      obtain ⟨t, rfl⟩ := ru
      obtain ⟨t', rfl⟩ := rw2
      exact Ob.RcOp.lt_int a b t t'
    | str a b =>
      obtain ⟨t, rfl⟩ := ru
      obtain ⟨t', rfl⟩ := rw2
      exact fun prog w E Q h => PyProof.Rows.lt_str h)
  refine R X.prog X.w _ _ ?_
  have z : Ob.lexAt (fun _ => e) (fun _ => l) (decide ([u1].toArray.size < [u2].toArray.size)) 0 (min [u1].toArray.size [u2].toArray.size) = (if e then false else l) := by
    show Ob.lexAt (fun _ => e) (fun _ => l) (decide (1 < 1)) 0 1 = _
    rw [Ob.lexAt_succ, Ob.lexAt_zero]
    cases e <;> rfl
  rw [z]
  exact ⟨.bl _, H, I, rfl, hq⟩
theorem op_le1 (hu : X.A.units < cLine) : OpR X (compareOp .LtE) (rLe1 X.K) := by
  intro pins s σ H x y v u Q I rx ry h
  obtain ⟨p, q, v1, w1, e, l, e', rfl, rfl, ha, hb, sc, ⟨e2, sc2⟩, hq⟩ := h
  cases rx
  cases ry
  obtain ⟨its, r1, p1, _⟩ := I.tuple ha
  obtain ⟨its2, r2, p2, _⟩ := I.tuple hb
  obtain ⟨u1, rfl, ru⟩ := vals1 r1
  obtain ⟨u2, rfl, rw2⟩ := vals1 r2
  obtain ⟨f1, f2, fe⟩ := sc.flat
  have R := Ob.RcOp.tuples_le (A := X.A) (s := s) (e := fun _ => e) (r := fun _ => !l) p1 p2 hu (fun j h1 h2 => by
    have hj : j = 0 := by simp at h1; omega
    subst hj
    show SeqAt.EqAt _ _ u1 u2 e
    rw [← fe]
    exact eqAt_V ru rw2 f1 f2) (fun j h1 h2 _ => by
    have hj : j = 0 := by simp at h1; omega
    subst hj
    show Ob.RcOp .LtE _ _ u1 u2 (!l)
    cases sc2 with
    | int a b =>
      obtain ⟨t, rfl⟩ := ru
      obtain ⟨t', rfl⟩ := rw2
      have := Ob.RcOp.le_int (A := X.A.in1) (s := s) b a t t'
      have ez : decide (b ≤ a) = !decide (a < b) := by
        by_cases hz : a < b
        · rw [decide_eq_true hz, decide_eq_false (by omega)]; rfl
        · rw [decide_eq_false hz, decide_eq_true (by omega)]; rfl
      rw [← ez]
      exact this
    | str a b =>
      obtain ⟨t, rfl⟩ := ru
      obtain ⟨t', rfl⟩ := rw2
      exact fun prog w E Q h => PySem.P.le_str h)
  refine R X.prog X.w _ _ ?_
  have z : Ob.lexAt (fun _ => e) (fun _ => !l) (decide ([u1].toArray.size ≤ [u2].toArray.size)) 0 (min [u1].toArray.size [u2].toArray.size) = (if e then true else !l) := by
    show Ob.lexAt (fun _ => e) (fun _ => !l) (decide (1 ≤ 1)) 0 1 = _
    rw [Ob.lexAt_succ, Ob.lexAt_zero]
    cases e <;> rfl
  rw [z]
  exact ⟨.bl _, H, I, rfl, hq⟩
def rSt (g : Str → Str → Bool) : R2 := fun x y H Q => ∃ i j, x = .str i ∧ y = .str j ∧ Q (.bl (g i j)) H
def rLtA (K : PySem.W.Frag) : R2 := fun x y H Q => (rI0 fun i j => .bl (decide (i < j))) x y H Q ∨ rSt ltS x y H Q ∨ rLt1 K x y H Q
def rLeA (K : PySem.W.Frag) : R2 := fun x y H Q => (rI0 fun i j => .bl (decide (i ≤ j))) x y H Q ∨ rSt (fun i j => !ltS j i) x y H Q ∨ rLe1 K x y H Q
def rGtA : R2 := fun x y H Q => (rI0 fun i j => .bl (decide (j < i))) x y H Q ∨ rSt (fun i j => ltS j i) x y H Q
theorem op_ltA (hu : X.A.units < cLine) : OpR X (compareOp .Lt) (rLtA X.K) := OpR.or op_lt (OpR.or op_lt_str (op_lt1 hu))
theorem op_leA (hu : X.A.units < cLine) : OpR X (compareOp .LtE) (rLeA X.K) := OpR.or op_le (OpR.or op_le_str (op_le1 hu))
theorem op_gtA : OpR X (compareOp .Gt) rGtA := OpR.or op_gt op_gt_str
theorem one_rep {K : PySem.W.Frag} {H : Hp} {ρ : Rho} {x : PV} {v : V} (R : Rep K H ρ (.tup [x]) v) : ∃ p w, v = .ref p ∧ SqT K H p [w] ∧ Rep K H ρ x w := by
  unfold Rep at R
  obtain ⟨p, vs, rfl, t, r⟩ := R
  unfold Reps at r
  obtain ⟨w, r, rfl, r1, r2⟩ := r
  unfold Reps at r2
  subst r2
  exact ⟨p, w, rfl, t, r1⟩
theorem f_lt {K : PySem.W.Frag} : OpI K (rLtA K) fLt := by
  intro H ρ st x y vx vy z st' Q S Rx Ry h q
  unfold fLt at h
  split at h
  · unfold Rep at Rx Ry
    subst Rx Ry
    cases h
    exact .inl ⟨_, _, rfl, rfl, q _ H ρ Grow.refl S (by unfold Rep; rfl)⟩
  · unfold Rep at Rx Ry
    subst Rx Ry
    cases h
    exact .inr (.inl ⟨_, _, rfl, rfl, q _ H ρ Grow.refl S (by unfold Rep; rfl)⟩)
  · split at h
    · rename_i e l hs
      cases h
      obtain ⟨p1, w1, rfl, t1, r1⟩ := one_rep Rx
      obtain ⟨p2, w2, rfl, t2, r2⟩ := one_rep Ry
      exact .inr (.inr ⟨p1, p2, w1, w2, e, l, rfl, rfl, t1, t2, sc2_rep hs r1 r2, q _ H ρ Grow.refl S (by unfold Rep; rfl)⟩)
    · cases h
  · cases h
theorem f_le {K : PySem.W.Frag} : OpI K (rLeA K) fLe := by
  intro H ρ st x y vx vy z st' Q S Rx Ry h q
  unfold fLe at h
  split at h
  · unfold Rep at Rx Ry
    subst Rx Ry
    cases h
    exact .inl ⟨_, _, rfl, rfl, q _ H ρ Grow.refl S (by unfold Rep; rfl)⟩
  · unfold Rep at Rx Ry
    subst Rx Ry
    cases h
    exact .inr (.inl ⟨_, _, rfl, rfl, q _ H ρ Grow.refl S (by unfold Rep; rfl)⟩)
  · split at h
    · rename_i e e' e2 l hs hs2
      cases h
      obtain ⟨p1, w1, rfl, t1, r1⟩ := one_rep Rx
      obtain ⟨p2, w2, rfl, t2, r2⟩ := one_rep Ry
      exact .inr (.inr ⟨p1, p2, w1, w2, e, l, e', rfl, rfl, t1, t2, sc2_rep hs r1 r2, ⟨_, sc2_rep hs2 r2 r1⟩, q _ H ρ Grow.refl S (by unfold Rep; rfl)⟩)
    · cases h
  · cases h
theorem f_gt {K : PySem.W.Frag} : OpI K rGtA fGt := by
  intro H ρ st x y vx vy z st' Q S Rx Ry h q
  unfold fGt at h
  split at h
  · unfold Rep at Rx Ry
    subst Rx Ry
    cases h
    exact .inl ⟨_, _, rfl, rfl, q _ H ρ Grow.refl S (by unfold Rep; rfl)⟩
  · unfold Rep at Rx Ry
    subst Rx Ry
    cases h
    exact .inr ⟨_, _, rfl, rfl, q _ H ρ Grow.refl S (by unfold Rep; rfl)⟩
  · cases h
theorem f_ge {K : PySem.W.Frag} : OpI K (rI0 fun i j => .bl (decide (j ≤ i))) fGe := by
  intro H ρ st x y vx vy z st' Q S Rx Ry h q
  unfold fGe at h
  split at h
  · unfold Rep at Rx Ry
    subst Rx Ry
    cases h
    exact ⟨_, _, rfl, rfl, q _ H ρ Grow.refl S (by unfold Rep; rfl)⟩
  · cases h

/-! ### == of data -/
def mapO {α β : Type} (f : α → Option β) : List α → Option (List β)
  | [] => some []
  | x :: xs => match f x, mapO f xs with
    | some y, some ys => some (y :: ys)
    | _, _ => none
def toD (st : Sto) : Nat → PV → Option PyData
  | 0, _ => none
  | f + 1, x => match x with
    | .non => some .none
    | .bl b => some (.bool b)
    | .int i => some (.int i)
    | .str y => some (.str y)
    | .tup xs => (mapO (toD st f) xs).map .tuple
    | .frz xs => (mapO (toD st f) xs).map .list
    | .ref n => match st[n]? with
      | some (.lst xs) => (mapO (toD st f) xs).map .list
      | _ => none
    | .ty _ => none
    | .fdk _ _ => none
theorem mapO_dp {K : PySem.W.Frag} {H : Hp} {ρ : Rho} {f : PV → Option PyData} (hf : ∀ x v d, Rep K H ρ x v → f x = some d → Dp K H v d) : ∀ {xs : List PV} {vs : List V} {ds : List PyData}, Reps K H ρ xs vs → mapO f xs = some ds → DpAll K H vs ds
  | [], vs, ds, R, h => by
    unfold Reps at R
    subst R
    cases h
    exact .nil
  | x :: xs, vs, ds, R, h => by
    unfold Reps at R
    obtain ⟨v, r, rfl, r1, r2⟩ := R
    unfold mapO at h
    split at h
    · rename_i e1 e2
      cases h
      exact .cons (hf _ _ _ r1 e1) (mapO_dp hf r2 e2)
    · cases h
theorem map_some {α β : Type} {o : Option α} {g : α → β} {r : β} (h : o.map g = some r) : ∃ a, o = some a ∧ g a = r := by
  cases o with
  | none => cases h
  | some a => cases h; exact ⟨a, rfl, rfl⟩
theorem toD_dp {K : PySem.W.Frag} {H : Hp} {ρ : Rho} {st : Sto} (S : RepS K H ρ st) : ∀ (f : Nat) (x : PV) (v : V) (d : PyData), Rep K H ρ x v → toD st f x = some d → Dp K H v d
  | 0, _, _, _, _, h => by cases h
  | f + 1, x, v, d, R, h => by
    cases x with
    | non => unfold Rep at R; subst R; cases h; exact .non
    | bl b => unfold Rep at R; subst R; cases h; exact .bl b
    | int i => unfold Rep at R; subst R; cases h; exact .int i
    | str y => unfold Rep at R; subst R; cases h; exact .str y
    | ty n => cases h
    | fdk ks xs => cases h
    | tup xs =>
      unfold Rep at R
      obtain ⟨a, vs, rfl, t, r⟩ := R
      obtain ⟨ds, e, rfl⟩ := map_some (show (mapO (toD st f) xs).map .tuple = some d from h)
      exact .tup t (mapO_dp (toD_dp S f) r e)
    | frz xs =>
      unfold Rep at R
      obtain ⟨a, vs, rfl, t, r⟩ := R
      obtain ⟨ds, e, rfl⟩ := map_some (show (mapO (toD st f) xs).map .list = some d from h)
      exact .lst t.sq (mapO_dp (toD_dp S f) r e)
    | ref n =>
      simp only [toD] at h
      split at h
      · rename_i xs e1
        obtain ⟨a, vs1, rfl, i1, ndd, h1, r1⟩ := S.lst R e1
        obtain ⟨ds, e, rfl⟩ := map_some h
        exact .lst (.of h1) (mapO_dp (toD_dp S f) r1 e)
      · cases h
def eqP (st : Sto) (x y : PV) : Option Bool := match toD st 70 x, toD st 70 y with
  | some d, some e => if SeqAt.shaped d && SeqAt.shaped e then some (PyData.eqv d e) else none
  | _, _ => none
def fEq : F2 := fun x y st => (eqP st x y).map fun b => (.bl b, st)
def fNe : F2 := fun x y st => (eqP st x y).map fun b => (.bl (!b), st)
theorem eqP_dp {K : PySem.W.Frag} {H : Hp} {ρ : Rho} {st : Sto} (S : RepS K H ρ st) {x y : PV} {v w : V} {b : Bool} (Rx : Rep K H ρ x v) (Ry : Rep K H ρ y w) (h : eqP st x y = some b) :
    ∃ d e, Dp K H v d ∧ Dp K H w e ∧ SeqAt.shaped d = true ∧ SeqAt.shaped e = true ∧ PyData.eqv d e = b := by
  unfold eqP at h
  split at h
  · rename_i d e e1 e2
    split at h
    · rename_i hs
      rw [Bool.and_eq_true] at hs
      cases h
      exact ⟨d, e, toD_dp S _ _ _ _ Rx e1, toD_dp S _ _ _ _ Ry e2, hs.1, hs.2, rfl⟩
    · cases h
  · cases h
theorem f_eq {K : PySem.W.Frag} : OpI K (rEqD K) fEq := by
  intro H ρ st x y vx vy z st' Q S Rx Ry h q
  obtain ⟨b, e0, hz⟩ := map_some h
  cases hz
  obtain ⟨d, e, h1, h2, h3, h4, rfl⟩ := eqP_dp S Rx Ry e0
  exact ⟨d, e, h1, h2, h3, h4, q _ H ρ Grow.refl S (by unfold Rep; rfl)⟩
theorem f_ne {K : PySem.W.Frag} : OpI K (rNeD K) fNe := by
  intro H ρ st x y vx vy z st' Q S Rx Ry h q
  obtain ⟨b, e0, hz⟩ := map_some h
  cases hz
  obtain ⟨d, e, h1, h2, h3, h4, rfl⟩ := eqP_dp S Rx Ry e0
  exact ⟨d, e, h1, h2, h3, h4, q _ H ρ Grow.refl S (by unfold Rep; rfl)⟩

/-! ### is -/
def isNone : PV → Bool
  | .non => true
  | _ => false
def isBool (b : Bool) : PV → Bool
  | .bl c => c == b
  | _ => false
def fIs : F2 := fun x y st => match y with
  | .non => some (.bl (isNone x), st)
  | .bl b => some (.bl (isBool b x), st)
  | _ => none
def fIsNot : F2 := fun x y st => match y with
  | .non => some (.bl (!isNone x), st)
  | .bl b => some (.bl (!isBool b x), st)
  | _ => none
theorem isNone_rep {K : PySem.W.Frag} {H : Hp} {ρ : Rho} {x : PV} {v : V} (R : Rep K H ρ x v) : decide (v = .non) = isNone x := by
  cases x <;> unfold Rep at R <;> first | (subst R; simp [isNone]) | (obtain ⟨a, vs, rfl, _⟩ := R; simp [isNone]) | (obtain ⟨a, rfl, _⟩ := R; simp [isNone])
theorem isBool_rep {K : PySem.W.Frag} {H : Hp} {ρ : Rho} {x : PV} {v : V} {b : Bool} (R : Rep K H ρ x v) : decide (v = .bl b) = isBool b x := by
  cases x <;> unfold Rep at R <;> first | (subst R; simp [isBool]; done) | (obtain ⟨a, vs, rfl, _⟩ := R; simp [isBool]; done) | (obtain ⟨a, rfl, _⟩ := R; simp [isBool]; done) | skip
  · subst R
    rename_i c
    cases b <;> cases c <;> rfl
def rIsB1 : R2 := fun x y H Q => ∃ b : Bool, y = .bl b ∧ Q (.bl (decide (x = .bl b))) H
def rIsNotB1 : R2 := fun x y H Q => ∃ b : Bool, y = .bl b ∧ Q (.bl (!decide (x = .bl b))) H
theorem relV_bool {x : V} {v : Value} {b : Bool} (r : RelV x v) : (v == Value.bool b) = decide (x = .bl b) := by
  cases x with
  | bl c => cases r; cases b <;> cases c <;> rfl
  | non => cases r; rfl
  | int _ => obtain ⟨t, rfl⟩ := r; rfl
  | str _ => obtain ⟨t, rfl⟩ := r; rfl
  | byt _ => obtain ⟨t, rfl⟩ := r; rfl
  | flt _ => obtain ⟨t, rfl⟩ := r; rfl
  | ref _ => cases r; rfl
  | ty _ => cases r; rfl
theorem op_isB1 : OpR X (compareOp .Is) rIsB1 := by
  intro pins s σ H x y v u Q I rx ry h
  obtain ⟨b, rfl, q⟩ := h
  cases (show u = Value.bool b from ry)
  have g : EP X pins σ Q (.bool (v == Value.bool b)) s := ⟨.bl _, H, I, by rw [relV_bool rx]; rfl, q⟩
  cases x <;> first | (cases rx; exact wpAny_pure g) | (obtain ⟨t, rfl⟩ := rx; exact wpAny_pure g)
theorem op_isNotB1 : OpR X (compareOp .IsNot) rIsNotB1 := by
  intro pins s σ H x y v u Q I rx ry h
  obtain ⟨b, rfl, q⟩ := h
  cases (show u = Value.bool b from ry)
  have g : EP X pins σ Q (.bool (!(v == Value.bool b))) s := ⟨.bl _, H, I, by rw [relV_bool rx]; rfl, q⟩
  cases x <;> first | (cases rx; exact wpAny_pure g) | (obtain ⟨t, rfl⟩ := rx; exact wpAny_pure g)
def rIsA : R2 := fun x y H Q => (y = .non ∧ Q (.bl (decide (x = .non))) H) ∨ rIsB1 x y H Q
def rIsNotA : R2 := fun x y H Q => (y = .non ∧ Q (.bl (!decide (x = .non))) H) ∨ rIsNotB1 x y H Q
theorem op_isA : OpR X (compareOp .Is) rIsA := OpR.or op_isN op_isB1
theorem op_isNotA : OpR X (compareOp .IsNot) rIsNotA := OpR.or op_notN op_isNotB1
theorem f_is {K : PySem.W.Frag} : OpI K rIsA fIs := by
  intro H ρ st x y vx vy z st' Q S Rx Ry h q
  unfold fIs at h
  split at h
  · unfold Rep at Ry
    subst Ry
    cases h
    exact .inl ⟨rfl, q _ H ρ Grow.refl S (by unfold Rep; rw [isNone_rep Rx])⟩
  · unfold Rep at Ry
    subst Ry
    cases h
    exact .inr ⟨_, rfl, q _ H ρ Grow.refl S (by unfold Rep; rw [isBool_rep Rx])⟩
  · cases h
theorem f_isNot {K : PySem.W.Frag} : OpI K rIsNotA fIsNot := by
  intro H ρ st x y vx vy z st' Q S Rx Ry h q
  unfold fIsNot at h
  split at h
  · unfold Rep at Ry
    subst Ry
    cases h
    exact .inl ⟨rfl, q _ H ρ Grow.refl S (by unfold Rep; rw [isNone_rep Rx])⟩
  · unfold Rep at Ry
    subst Ry
    cases h
    exact .inr ⟨_, rfl, q _ H ρ Grow.refl S (by unfold Rep; rw [isBool_rep Rx])⟩
  · cases h

/-! ### in a list, a tuple of flat things -/
def flatP : PV → Option V
  | .non => some .non
  | .bl b => some (.bl b)
  | .int i => some (.int i)
  | .str x => some (.str x)
  | _ => none
theorem flatP_rep {K : PySem.W.Frag} {H : Hp} {ρ : Rho} {x : PV} {v w : V} (R : Rep K H ρ x v) (h : flatP x = some w) : v = w ∧ flatV w = true := by
  cases x <;> simp only [flatP, Option.some.injEq, reduceCtorEq] at h <;> (unfold Rep at R; subst R; subst h; exact ⟨rfl, rfl⟩)
theorem flatP_reps {K : PySem.W.Frag} {H : Hp} {ρ : Rho} : ∀ {xs : List PV} {vs ws : List V}, Reps K H ρ xs vs → mapO flatP xs = some ws → vs = ws ∧ ws.all flatV = true
  | [], vs, ws, R, h => by
    unfold Reps at R
    subst R
    cases h
    exact ⟨rfl, rfl⟩
  | x :: xs, vs, ws, R, h => by
    unfold Reps at R
    obtain ⟨v, r, rfl, r1, r2⟩ := R
    unfold mapO at h
    split at h
    · rename_i e1 e2
      cases h
      obtain ⟨rfl, f1⟩ := flatP_rep r1 e1
      obtain ⟨rfl, f2⟩ := flatP_reps r2 e2
      exact ⟨rfl, by rw [List.all_cons, f1, f2]; rfl⟩
    · cases h
def itemsOf (st : Sto) : PV → Option (List PV)
  | .tup xs => some xs
  | .frz xs => some xs
  | .ref n => match st[n]? with
    | some (.lst xs) => some xs
    | _ => none
  | _ => none
theorem items_rep {K : PySem.W.Frag} {H : Hp} {ρ : Rho} {st : Sto} (S : RepS K H ρ st) {x : PV} {v : V} {xs : List PV} (R : Rep K H ρ x v) (h : itemsOf st x = some xs) : ∃ a vs, v = .ref a ∧ (SqL K H a vs ∨ SqT K H a vs) ∧ Reps K H ρ xs vs := by
  cases x with
  | tup ys =>
    unfold Rep at R
    obtain ⟨a, vs, rfl, t, r⟩ := R
    cases h
    exact ⟨a, vs, rfl, .inr t, r⟩
  | frz ys =>
    unfold Rep at R
    obtain ⟨a, vs, rfl, t, r⟩ := R
    cases h
    exact ⟨a, vs, rfl, .inl t.sq, r⟩
  | ref n =>
    unfold Rep at R
    obtain ⟨a, rfl, i1⟩ := R
    simp only [itemsOf] at h
    split at h
    · rename_i ys e1
      obtain ⟨b1, hb1, vs1, h1, r1⟩ := S.at_ _ _ e1
      rw [i1] at hb1; cases hb1
      cases h
      exact ⟨a, vs1, rfl, .inl (.of h1), r1⟩
    · cases h
  | _ => cases h
def inP (st : Sto) (x y : PV) : Option Bool := match flatP x, itemsOf st y with
  | some v, some ys => (mapO flatP ys).map fun ws => inV v ws
  | _, _ => none
def fIn : F2 := fun x y st => (inP st x y).map fun b => (.bl b, st)
def fNotIn : F2 := fun x y st => (inP st x y).map fun b => (.bl (!b), st)
theorem inP_rep {K : PySem.W.Frag} {H : Hp} {ρ : Rho} {st : Sto} (S : RepS K H ρ st) {x y : PV} {v w : V} {b : Bool} (Rx : Rep K H ρ x v) (Ry : Rep K H ρ y w) (h : inP st x y = some b) :
    ∃ p xs, w = .ref p ∧ (SqL K H p xs ∨ SqT K H p xs) ∧ flatV v = true ∧ xs.all flatV = true ∧ inV v xs = b := by
  unfold inP at h
  split at h
  · rename_i e1 e2
    obtain ⟨ws, e3, rfl⟩ := map_some h
    obtain ⟨rfl, f1⟩ := flatP_rep Rx e1
    obtain ⟨a, vs, rfl, t, r⟩ := items_rep S Ry e2
    obtain ⟨rfl, f2⟩ := flatP_reps r e3
    exact ⟨a, vs, rfl, t, f1, f2, rfl⟩
  · cases h
theorem f_in {K : PySem.W.Frag} : OpI K (rIn K false) fIn := by
  intro H ρ st x y vx vy z st' Q S Rx Ry h q
  obtain ⟨b, e, hz⟩ := map_some h
  cases hz
  obtain ⟨p, xs, h1, h2, h3, h4, rfl⟩ := inP_rep S Rx Ry e
  exact ⟨p, xs, h1, h2, h3, h4, q _ H ρ Grow.refl S (by unfold Rep; rfl)⟩
theorem f_notIn {K : PySem.W.Frag} : OpI K (rIn K true) fNotIn := by
  intro H ρ st x y vx vy z st' Q S Rx Ry h q
  obtain ⟨b, e, hz⟩ := map_some h
  cases hz
  obtain ⟨p, xs, h1, h2, h3, h4, rfl⟩ := inP_rep S Rx Ry e
  exact ⟨p, xs, h1, h2, h3, h4, q _ H ρ Grow.refl S (by unfold Rep; rfl)⟩

/-! ### subscripts -/
def fIx : F2 := fun x y st => match y with
  | .int i => match x with
    | .str z => if z.length ≤ 9000000 then (atI z.cps.toList i).map fun c => (.str ⟨#[c]⟩, st) else none
    | _ => match itemsOf st x with
      | some xs => (atI xs i).map fun v => (v, st)
      | none => none
  | _ => none
theorem atI_rep {K : PySem.W.Frag} {H : Hp} {ρ : Rho} {xs : List PV} {vs : List V} {i : Int} {x : PV} (R : Reps K H ρ xs vs) (h : atI xs i = some x) : ∃ v, atI vs i = some v ∧ Rep K H ρ x v := by
  unfold atI at h ⊢
  rw [← R.length]
  cases e : ixN xs.length i with
  | none => rw [e] at h; cases h
  | some j =>
    rw [e] at h
    exact R.get h
def rIxA (K : PySem.W.Frag) : R2 := fun x y H Q => rIxL K x y H Q ∨ rIxT K x y H Q ∨ rIxS x y H Q
theorem ix_any : IxR X (rIxA X.K) := ix_list.or (ix_tup.or ix_str)
theorem f_ix {K : PySem.W.Frag} : OpI K (rIxA K) fIx := by
  intro H ρ st x y vx vy z st' Q S Rx Ry h q
  unfold fIx at h
  split at h
  · rename_i i
    unfold Rep at Ry
    subst Ry
    split at h
    · rename_i w
      split at h
      · rename_i hl
        obtain ⟨c, e, hz⟩ := map_some h
        cases hz
        unfold Rep at Rx
        subst Rx
        exact .inr (.inr ⟨_, _, c, rfl, rfl, line5 hl, e, q _ H ρ Grow.refl S (by unfold Rep; rfl)⟩)
      · cases h
    · split at h
      · rename_i xs e1
        obtain ⟨w, e, hz⟩ := map_some h
        cases hz
        obtain ⟨a, vs, rfl, t, r⟩ := items_rep S Rx e1
        obtain ⟨v, hv, rv⟩ := atI_rep r e
        rcases t with t | t
        · exact .inl ⟨a, vs, i, v, rfl, rfl, t, hv, q _ H ρ Grow.refl S rv⟩
        · exact .inr (.inl ⟨a, vs, i, v, rfl, rfl, t, hv, q _ H ρ Grow.refl S rv⟩)
      · cases h
  · cases h
/-! ### slices -/
def cutP (xs : List PV) (lo hi : Option Int) : List PV := (xs.drop (HT.sIx xs.length 0 lo)).take (HT.sIx xs.length xs.length hi - HT.sIx xs.length 0 lo)
def fSl : FSl := fun x lo hi st => match x with
  | .str z => if z.length ≤ 9000000 then some (.str (cutS z lo hi), st) else none
  | .tup xs => some (.tup (cutP xs lo hi), st)
  | _ => match listOf st x with
    | some xs => some (alloc (.lst (cutP xs lo hi)) st)
    | none => none
def rSlAny (K : PySem.W.Frag) : V → Option Int → Option Int → Hp → VK → Prop := fun x lo hi H Q => rSlL K x lo hi H Q ∨ rSlA K x lo hi H Q ∨ rSlS x lo hi H Q
theorem sl_any : SlR X (rSlAny X.K) := SlR.or sl_list (SlR.or sl_tupA sl_str)
theorem cut_rep {K : PySem.W.Frag} {H : Hp} {ρ : Rho} {xs : List PV} {vs : List V} {lo hi : Option Int} (R : Reps K H ρ xs vs) : Reps K H ρ (cutP xs lo hi) (cutV vs lo hi) := by
  unfold cutP cutV
  rw [R.length]
  exact Reps.take _ (Reps.drop _ R)
theorem f_sl {K : PySem.W.Frag} : SlI K (rSlAny K) fSl := by
  intro H ρ st x vx lo hi z st' Q S Rx h q
  unfold fSl at h
  split at h
  · rename_i w
    split at h
    · rename_i hl
      cases h
      unfold Rep at Rx
      subst Rx
      exact .inr (.inr ⟨_, rfl, line5 hl, q _ H ρ Grow.refl S (by unfold Rep; rfl)⟩)
    · cases h
  · rename_i xs
    cases h
    unfold Rep at Rx
    obtain ⟨a, vs, rfl, t, r⟩ := Rx
    refine .inr (.inl ⟨a, vs, rfl, t, fun ⟨e1, e2⟩ => ?_, fun _ p hp => ?_⟩)
    · have e : cutP xs lo hi = xs := by
        unfold cutP
        rw [r.length, e1, e2, List.drop_zero, Nat.sub_zero, ← r.length, List.take_length]
      rw [e] at q
      exact q _ H ρ Grow.refl S (by unfold Rep; exact ⟨a, vs, rfl, t, r⟩)
    · exact q _ _ ρ (grow_new hp) (S.new hp) (new_tup S (cut_rep r) hp)
  · rename_i n1 n2
    split at h
    · rename_i xs e1
      obtain ⟨a, vs, rfl, t, r⟩ := list_rep S Rx e1
      refine .inl ⟨a, vs, rfl, t, fun p hp => ?_⟩
      obtain ⟨a1, a2, a3⟩ := new_lst S (cut_rep (lo := lo) (hi := hi) r) hp
      have e := Option.some.inj h
      rw [e] at a2 a3
      exact q _ _ _ a1 a2 a3
    · cases h
end
end IL

namespace IL
open PySem PySem.Spec PyProof.Rows L2

section
variable {X : Cx}
theorem one_arg {K : PySem.W.Frag} {H : Hp} {ρ : Rho} {x : PV} {vs : List V} (R : Reps K H ρ [x] vs) : ∃ v, vs = [v] ∧ Rep K H ρ x v := by
  unfold Reps at R
  obtain ⟨v, r, rfl, r1, r2⟩ := R
  unfold Reps at r2
  subst r2
  exact ⟨v, rfl, r1⟩
theorem two_args {K : PySem.W.Frag} {H : Hp} {ρ : Rho} {x y : PV} {vs : List V} (R : Reps K H ρ [x, y] vs) : ∃ v w, vs = [v, w] ∧ Rep K H ρ x v ∧ Rep K H ρ y w := by
  unfold Reps at R
  obtain ⟨v, r, rfl, r1, r2⟩ := R
  obtain ⟨w, rfl, r3⟩ := one_arg r2
  exact ⟨v, w, rfl, r1, r3⟩
/-- a function of one value -/
def a1 (f : F1) : FA := fun xs st => match xs with
  | [x] => f x st
  | _ => none
def a2 (f : F2) : FA := fun xs st => match xs with
  | [x, y] => f x y st
  | _ => none
theorem call1 {K : PySem.W.Frag} {r : List V → Hp → VK → Prop} {f : F1} (hf : ∀ H ρ st x vx z st' (Q : VK), RepS K H ρ st → Rep K H ρ x vx → f x st = some (z, st') → (∀ v H' ρ', Grow H ρ H' ρ' → RepS K H' ρ' st' → Rep K H' ρ' z v → Q v H') → r [vx] H Q) : CallI K r (a1 f) := by
  intro H ρ st xs vs z st' Q S R h q
  unfold a1 at h
  split at h
  · obtain ⟨v, rfl, r1⟩ := one_arg R
    exact hf H ρ st _ v z st' Q S r1 h q
  · cases h
theorem call2 {K : PySem.W.Frag} {r : List V → Hp → VK → Prop} {f : F2} (hf : ∀ H ρ st x y vx vy z st' (Q : VK), RepS K H ρ st → Rep K H ρ x vx → Rep K H ρ y vy → f x y st = some (z, st') → (∀ v H' ρ', Grow H ρ H' ρ' → RepS K H' ρ' st' → Rep K H' ρ' z v → Q v H') → r [vx, vy] H Q) : CallI K r (a2 f) := by
  intro H ρ st xs vs z st' Q S R h q
  unfold a2 at h
  split at h
  · obtain ⟨v, w, rfl, r1, r2⟩ := two_args R
    exact hf H ρ st _ _ v w z st' Q S r1 r2 h q
  · cases h
/-- len -/
def lenP (st : Sto) : PV → Option Nat
  | .str x => if x.length ≤ 9000000 then some x.length else none
  | .tup xs => some xs.length
  | .frz xs => some xs.length
  | .ref n => match st[n]? with
    | some (.lst xs) => some xs.length
    | some (.dK kvs) => some kvs.length
    | _ => none
  | _ => none
def fLen : F1 := fun x st => (lenP st x).map fun n : Nat => (.int (n : Int), st)
def rLenA (K : PySem.W.Frag) : List V → Hp → VK → Prop := fun xs H Q => (∃ x n, xs = [x] ∧ LenV K x H n ∧ Q (.int n) H) ∨ ∃ (p : Addr) (kvs : List (Key × V)), xs = [.ref p] ∧ H p = some (.dK kvs) ∧ Q (.int ((kvs.length : Nat) : Int)) H
theorem cr_len : CallR X (.builtin "len") (rLenA X.K) := CallR.or call_len call_lenD
theorem f_len {K : PySem.W.Frag} : CallI K (rLenA K) (a1 fLen) := call1 fun H ρ st x vx z st' Q S R h q => by
  obtain ⟨n, e, hz⟩ := map_some h
  cases hz
  have fin := q (.int n) H ρ Grow.refl S (by unfold Rep; rfl)
  cases x with
  | str y =>
    simp only [lenP] at e
    split at e
    · rename_i hl
      unfold Rep at R
      subst R
      cases e
      exact .inl ⟨_, _, rfl, ⟨line5 hl, rfl⟩, fin⟩
    · cases e
  | tup xs =>
    unfold Rep at R
    obtain ⟨a, vs, rfl, t, r⟩ := R
    cases e
    exact .inl ⟨_, _, rfl, .inr ⟨vs, t, r.length⟩, fin⟩
  | frz xs =>
    unfold Rep at R
    obtain ⟨a, vs, rfl, t, r⟩ := R
    cases e
    exact .inl ⟨_, _, rfl, .inl ⟨vs, t.sq, r.length⟩, fin⟩
  | ref m =>
    unfold Rep at R
    obtain ⟨a, rfl, i1⟩ := R
    simp only [lenP] at e
    split at e
    · rename_i ys e1
      obtain ⟨b1, hb1, vs1, h1, r1⟩ := S.at_ _ _ e1
      rw [i1] at hb1; cases hb1
      have ndd := S.lv _ _ _ e1 (by simp) i1
      cases e
      exact .inl ⟨_, _, rfl, .inl ⟨vs1, .of h1, r1.length⟩, fin⟩
    · rename_i ys e1
      obtain ⟨b1, hb1, vs1, h1, r1⟩ := S.at_ _ _ e1
      rw [i1] at hb1; cases hb1
      have ndd := S.lv _ _ _ e1 (by simp) i1
      cases e
      refine .inr ⟨a, vs1, rfl, h1, ?_⟩
      rw [← r1.length]
      exact fin
    · cases e
  | _ => cases e
/-- tuple(xs), list(xs) -/
def fTuple : F1 := fun x st => (itemsOf st x).map fun xs => (.tup xs, st)
def fList : F1 := fun x st => (itemsOf st x).map fun xs => alloc (.lst xs) st
theorem f_tuple {K : PySem.W.Frag} : CallI K (fun xs H Q => ∃ p ys, xs = [.ref p] ∧ ((SqL K H p ys ∧ ∀ l, H l = none → Q (.ref l) (upd H l (.tup ys))) ∨ (SqT K H p ys ∧ Q (.ref p) H))) (a1 fTuple) := call1 fun H ρ st x vx z st' Q S R h q => by
  obtain ⟨xs, e, hz⟩ := map_some h
  cases hz
  obtain ⟨a, vs, rfl, t, r⟩ := items_rep S R e
  refine ⟨a, vs, rfl, ?_⟩
  rcases t with t | t
  · exact .inl ⟨t, fun p hp => q _ _ ρ (grow_new hp) (S.new hp) (new_tup S r hp)⟩
  · exact .inr ⟨t, q _ H ρ Grow.refl S (by unfold Rep; exact ⟨a, vs, rfl, t, r⟩)⟩
theorem f_list {K : PySem.W.Frag} : CallI K (fun xs H Q => ∃ p ys, xs = [.ref p] ∧ (SqL K H p ys ∨ SqT K H p ys) ∧ ∀ l, H l = none → Q (.ref l) (upd H l (.lst ys))) (a1 fList) := call1 fun H ρ st x vx z st' Q S R h q => by
  obtain ⟨xs, e, hz⟩ := map_some h
  obtain ⟨a, vs, rfl, t, r⟩ := items_rep S R e
  refine ⟨a, vs, rfl, t, fun p hp => ?_⟩
  obtain ⟨b1, b2, b3⟩ := new_lst S r hp
  rw [hz] at b2 b3
  exact q _ _ _ b1 b2 b3
/-- str(n) -/
def fStr : F1 := fun x st => match x with
  | .int i => if i.natAbs < 2 ^ 1000 then some (.str (toString i), st) else none
  | _ => none
theorem f_str {K : PySem.W.Frag} : CallI K (fun xs H Q => ∃ i : Int, xs = [.int i] ∧ i.natAbs.log2 < 1920 ∧ Q (.str (toString i)) H) (a1 fStr) := call1 fun H ρ st x vx z st' Q S R h q => by
  unfold fStr at h
  split at h
  · split at h
    · rename_i hl
      unfold Rep at R
      subst R
      cases h
      exact ⟨_, rfl, Nat.lt_of_lt_of_le (PySem.Flt.log2_lt_of (by decide) hl) (by decide), q _ H ρ Grow.refl S (by unfold Rep; rfl)⟩
    · cases h
  · cases h
/-- int(n), int(b); abs -/
def fInt1 : F1 := fun x st => match x with
  | .int i => some (.int i, st)
  | .bl b => some (.int (if b then 1 else 0), st)
  | _ => none
theorem f_int1 {K : PySem.W.Frag} : CallI K (fun xs H Q => (∃ i, xs = [.int i] ∧ Q (.int i) H) ∨ ∃ k : Bool, xs = [.bl k] ∧ Q (.int (if k then 1 else 0)) H) (a1 fInt1) := call1 fun H ρ st x vx z st' Q S R h q => by
  unfold fInt1 at h
  split at h
  · unfold Rep at R
    subst R
    cases h
    exact .inl ⟨_, rfl, q _ H ρ Grow.refl S (by unfold Rep; rfl)⟩
  · unfold Rep at R
    subst R
    cases h
    exact .inr ⟨_, rfl, q _ H ρ Grow.refl S (by unfold Rep; rfl)⟩
  · cases h
def fAbs : F1 := fun x st => match x with
  | .int i => some (.int (if i < 0 then -i else i), st)
  | _ => none
theorem f_abs {K : PySem.W.Frag} : CallI K (fun xs H Q => ∃ i : Int, xs = [.int i] ∧ Q (.int (if i < 0 then -i else i)) H) (a1 fAbs) := call1 fun H ρ st x vx z st' Q S R h q => by
  unfold fAbs at h
  split at h
  · unfold Rep at R
    subst R
    cases h
    exact ⟨_, rfl, q _ H ρ Grow.refl S (by unfold Rep; rfl)⟩
  · cases h
/-- isinstance -/
def tyName (st : Sto) : PV → Option String
  | .non => some "NoneType"
  | .bl _ => some "bool"
  | .int _ => some "int"
  | .str _ => some "str"
  | .tup _ => some "tuple"
  | .frz _ => some "list"
  | .ref n => match st[n]? with
    | some (.lst _) => some "list"
    | some (.dK _) => some "dict"
    | _ => none
  | .ty _ => none
  | .fdk _ _ => none
theorem tyName_rep {K : PySem.W.Frag} {H : Hp} {ρ : Rho} {st : Sto} (S : RepS K H ρ st) {x : PV} {v : V} {n : String} (R : Rep K H ρ x v) (h : tyName st x = some n) : TyX K H v (.type n) := by
  cases x with
  | non => unfold Rep at R; subst R; cases h; exact .base .non
  | bl b => unfold Rep at R; subst R; cases h; exact .base (.bl b)
  | int b => unfold Rep at R; subst R; cases h; exact .base (.int b)
  | str b => unfold Rep at R; subst R; cases h; exact .base (.str b)
  | tup xs =>
    unfold Rep at R
    obtain ⟨a, vs, rfl, t, r⟩ := R
    cases h
    rcases t with (t | ⟨o, t⟩) | ⟨o, its, m, t, c, _⟩
    · exact .base (.tup t)
    · exact .fTuple t
    · exact .kTuple t c
  | frz xs =>
    unfold Rep at R
    obtain ⟨a, vs, rfl, t, r⟩ := R
    cases h
    rcases t.sq with (t | ⟨o, t⟩) | ⟨o, its, m, t, c, _⟩
    · exact .base (.lst t)
    · exact .base (.frz t)
    · exact .kList t c
  | ref m =>
    unfold Rep at R
    obtain ⟨a, rfl, i1⟩ := R
    simp only [tyName] at h
    split at h
    · rename_i ys e1
      obtain ⟨b1, hb1, vs1, h1, r1⟩ := S.at_ _ _ e1
      rw [i1] at hb1; cases hb1
      have ndd := S.lv _ _ _ e1 (by simp) i1
      cases h
      exact .base (.lst h1)
    · rename_i ys e1
      obtain ⟨b1, hb1, vs1, h1, r1⟩ := S.at_ _ _ e1
      rw [i1] at hb1; cases hb1
      have ndd := S.lv _ _ _ e1 (by simp) i1
      cases h
      exact .base (.dK h1)
    · cases h
  | ty n => cases h
  | fdk ks xs => cases h
def isP (st : Sto) (x y : PV) : Option Bool := match y with
  | .ty m => match tyName st x with
    | some n => kitB n m
    | none => none
  | _ => none
def fIsi : F2 := fun x y st => (isP st x y).map fun b => (.bl b, st)
theorem f_isi {K : PySem.W.Frag} : CallI K (rIsi K) (a2 fIsi) := call2 fun H ρ st x y vx vy z st' Q S Rx Ry h q => by
  obtain ⟨b, e, hz⟩ := map_some h
  cases hz
  unfold isP at e
  split at e
  · split at e
    · rename_i n e1
      unfold Rep at Ry
      subst Ry
      exact ⟨_, _, _, _, b, rfl, .ty _, tyName_rep S Rx e1, kit_ty e, q _ H ρ Grow.refl S (by unfold Rep; rfl)⟩
    · cases e
  · cases e
/-- all, any of a list of truths -/
theorem bls_reps {K : PySem.W.Frag} {H : Hp} {ρ : Rho} : ∀ {xs : List PV} {vs : List V} {bs : List Bool}, Reps K H ρ xs vs → mapO isBl xs = some bs → vs = bs.map V.bl
  | [], vs, bs, R, h => by
    unfold Reps at R
    subst R
    cases h
    rfl
  | x :: xs, vs, bs, R, h => by
    unfold Reps at R
    obtain ⟨v, r, rfl, r1, r2⟩ := R
    unfold mapO at h
    split at h
    · rename_i e1 e2
      cases h
      cases x <;> simp only [isBl, Option.some.injEq, reduceCtorEq] at e1
      subst e1
      unfold Rep at r1
      rw [r1, bls_reps r2 e2]
      rfl
    · cases h
def blsOf (st : Sto) (x : PV) : Option (List Bool) := match listOf st x with
  | some xs => mapO isBl xs
  | none => none
def fAll : F1 := fun x st => (blsOf st x).map fun bs => (.bl (bs.all id), st)
def fAny : F1 := fun x st => (blsOf st x).map fun bs => (.bl (bs.any id), st)
theorem bls_rep {K : PySem.W.Frag} {H : Hp} {ρ : Rho} {st : Sto} (S : RepS K H ρ st) {x : PV} {v : V} {bs : List Bool} (R : Rep K H ρ x v) (h : blsOf st x = some bs) : ∃ a, v = .ref a ∧ SqL K H a (bs.map V.bl) := by
  unfold blsOf at h
  split at h
  · rename_i xs e
    obtain ⟨a, vs, rfl, t, r⟩ := list_rep S R e
    rw [bls_reps r h] at t
    exact ⟨a, rfl, t⟩
  · cases h
theorem f_all {K : PySem.W.Frag} : CallI K (rAll K) (a1 fAll) := call1 fun H ρ st x vx z st' Q S R h q => by
  obtain ⟨bs, e, hz⟩ := map_some h
  cases hz
  obtain ⟨a, rfl, t⟩ := bls_rep S R e
  exact ⟨a, bs, rfl, t, q _ H ρ Grow.refl S (by unfold Rep; rfl)⟩
theorem f_any {K : PySem.W.Frag} : CallI K (rAny K) (a1 fAny) := call1 fun H ρ st x vx z st' Q S R h q => by
  obtain ⟨bs, e, hz⟩ := map_some h
  cases hz
  obtain ⟨a, rfl, t⟩ := bls_rep S R e
  exact ⟨a, bs, rfl, t, q _ H ρ Grow.refl S (by unfold Rep; rfl)⟩
/-- repr of a truth -/
def fRepr : F1 := fun x st => match x with
  | .bl b => some (.str (if b then "True" else "False"), st)
  | _ => none
def rReprB : List V → Hp → VK → Prop := fun xs H Q => ∃ b : Bool, xs = [.bl b] ∧ Q (.str (if b then "True" else "False")) H
theorem cr_reprB : CallR X (.builtin "repr") rReprB := by
  intro pins s σ H xs us Q I r h
  obtain ⟨b, rfl, q⟩ := h
  obtain ⟨u, rfl, e⟩ := vals1 r
  cases (show u = Value.bool b from e)
  exact PySem.P.repr_of_bool ⟨.str _, H, I.tok _, ⟨_, rfl⟩, q⟩
theorem f_repr {K : PySem.W.Frag} : CallI K rReprB (a1 fRepr) := call1 fun H ρ st x vx z st' Q S R h q => by
  unfold fRepr at h
  split at h
  · unfold Rep at R
    subst R
    cases h
    exact ⟨_, rfl, q _ H ρ Grow.refl S (by unfold Rep; rfl)⟩
  · cases h
/-- max(xs, default=d), max(xs) of ints -/
def maxI : List Int → Int → Int
  | [], d => d
  | y :: ys, _ => ys.foldl (fun a z => if a < z then z else a) y
def rMaxDef (K : PySem.W.Frag) : List V → List V → Hp → VK → Prop := fun vs zs H Q => ∃ (a : Addr) (ns : List Int) (d : Int), vs = [.ref a] ∧ zs = [.int d] ∧ SqL K H a (ns.map V.int) ∧ Q (.int (maxI ns d)) H
theorem hold_ints {h : Heap} : ∀ {us : List Value} {ns : List Int}, IntsAre us ns → PySem.W.HoldAll h us ns
  | _, _, .nil => PySem.W.HoldAll.nil
  | _, _, .cons _ _ r => PySem.W.HoldAll.cons (PySem.W.holds_int _ _) (hold_ints r)
theorem maxOf_int (y : Int) (ys : List Int) : PySem.W.maxOf y ys = maxI (y :: ys) 0 := by
  unfold PySem.W.maxOf maxI
  congr 1
  funext a z
  show (if decide (a < z) = true then z else a) = _
  by_cases h : a < z
  · rw [if_pos (decide_eq_true h), if_pos h]
  · rw [if_neg (by simpa using h), if_neg h]
theorem cr_maxDef (hc : X.calm = true) (hu : X.A.units + 64 < cLine) : CallRK X (.builtin "max") [Str.ofString "default"] (rMaxDef X.K) := by
  intro pins s σ H vs zs us ws Q I r rz h
  obtain ⟨a, ns, d, rfl, rfl, hs, q⟩ := h
  obtain rfl := Vals.ref1 r
  obtain ⟨w1, rfl, e1⟩ := vals1 rz
  obtain ⟨its, rv, pl, _⟩ := I.list hs
  refine PySem.W.max_list_datum_default (α := Int) (xs := ns) (I.ok.hd hc) pl.isList (hold_ints (by simpa using rv.ints)) (by show X.A.units + 1 + 0 < cLine; omega) (fun e h' tk hk => ?_) fun y ys i v h' tk e hi hm hk => ?_
  · subst e
    obtain ⟨t, rfl⟩ := e1
    exact ⟨.int d, H, I.kept hk, ⟨t, rfl⟩, q⟩
  · subst e
    obtain ⟨as, hr⟩ := hm
    rw [maxOf_int] at hr
    have : ∃ t, v = .int (maxI (y :: ys) 0) t := by
      cases hr
      exact ⟨_, rfl⟩
    obtain ⟨t, rfl⟩ := this
    exact ⟨.int (maxI (y :: ys) 0), H, I.kept hk, ⟨t, rfl⟩, q⟩
def isInt : PV → Option Int
  | .int i => some i
  | _ => none
theorem ints_reps {K : PySem.W.Frag} {H : Hp} {ρ : Rho} : ∀ {xs : List PV} {vs : List V} {bs : List Int}, Reps K H ρ xs vs → mapO isInt xs = some bs → vs = bs.map V.int
  | [], vs, bs, R, h => by
    unfold Reps at R
    subst R
    cases h
    rfl
  | x :: xs, vs, bs, R, h => by
    unfold Reps at R
    obtain ⟨v, r, rfl, r1, r2⟩ := R
    unfold mapO at h
    split at h
    · rename_i e1 e2
      cases h
      cases x <;> simp only [isInt, Option.some.injEq, reduceCtorEq] at e1
      subst e1
      unfold Rep at r1
      rw [r1, ints_reps r2 e2]
      rfl
    · cases h
def intsOf (st : Sto) (x : PV) : Option (List Int) := match listOf st x with
  | some xs => mapO isInt xs
  | none => none
def iMaxDef (ir ik : IA) : IE := fun env st => ob (ir env st) fun xs s1 => ob (ik env s1) fun zs s2 => match xs, zs with
  | [x], [.int d] => (intsOf s2 x).map fun ns => (.int (maxI ns d), s2)
  | _, _ => none
theorem k_one {e : Expr} {ie : IE} {nm : Option Str} {kpos : Pos} (ha : PE X e (tI X.K ie)) : PK X [⟨nm, e, kpos⟩] (tIA X.K (iCons ie iNil)) := by
  refine ⟨fun pos pins s σ H Q I h => (pk_cons (nm := nm) (kpos := kpos) ha pk_nil).run pos pins s σ H Q I ?_⟩
  obtain ⟨env, st, ρ, z, st', E, S, h, q⟩ := h
  obtain ⟨x, s1, h1, h⟩ := ob_some h
  obtain ⟨xs, s2, h2, h⟩ := ob_some h
  cases h2
  cases h
  exact ⟨env, st, ρ, x, _, E, S, h1, fun v H1 ρ1 G1 S1 R1 => q [v] H1 ρ1 G1 S1 (by unfold Reps; exact ⟨v, [], rfl, R1, by unfold Reps; rfl⟩)⟩
theorem r_maxDef {e : Expr} {es : List Expr} {kws : List Keyword} {p pos : Pos} {ir ik : IA} (hc : X.calm = true) (hu : X.A.units + 64 < cLine) (hg : Gl X "max") (hm : X.mg "max" = none) (hv : bootBuiltins "max" = some (.builtin "max")) (ha : PA X (e :: es) (tIA X.K ir)) (hk : PK X kws (tIA X.K ik))
    (he : backTo pos (starEach (e :: es) X.env) = (false, eval e X.env) :: backTo pos (starEach es X.env) := by rfl) (hpl : (backTo pos (starEach (e :: es) X.env)).any (·.1) = false := by rfl)
    (hall : (backToKw pos (keywordEach kws X.env)).all (·.1.isSome) = true := by rfl) (hnone : (backToKw pos (keywordEach kws X.env)).any (·.1.isNone) = false := by rfl) (hks : (backToKw pos (keywordEach kws X.env)).filterMap (·.1) = [Str.ofString "default"] := by rfl) :
    PE X (.Call (.Name "max" p) (e :: es) kws pos) (tI X.K (iMaxDef ir ik)) :=
  PE.imp (pe_callBK (cr_maxDef hc hu) hg hm hv ha hk (by decide) (by decide) he hpl hall hnone hks) fun σ H Q ⟨env, st, ρ, z, st', E, S, h, q⟩ => by
    obtain ⟨xs, s1, h1, h⟩ := ob_some h
    obtain ⟨zs, s2, h2, h⟩ := ob_some h
    refine ⟨env, st, ρ, xs, s1, E, S, h1, fun vs H1 ρ1 G1 S1 R1 => ⟨env, s1, ρ1, zs, s2, E.grow S G1, S1, h2, fun ws H2 ρ2 G2 S2 R2 => ?_⟩⟩
    split at h
    · rename_i x d hh
      obtain ⟨ns, e, hz⟩ := map_some h
      cases hz
      obtain ⟨v, rfl, r1⟩ := one_arg (Reps.grow S1 G2 _ _ R1)
      obtain ⟨w, rfl, r2⟩ := one_arg R2
      unfold Rep at r2
      subst r2
      unfold intsOf at e
      split at e
      · rename_i ys e1
        obtain ⟨a, us, rfl, t, r⟩ := list_rep S2 r1 e1
        rw [ints_reps r e] at t
        exact ⟨a, ns, d, rfl, rfl, t, q _ H2 ρ2 (G1.trans G2) S2 (by unfold Rep; rfl)⟩
      · cases e
    · cases h
/-- xs[i] = v of a list -/
def fSetL : FSet := fun o i v st => match o, i with
  | .ref n, .int k => match st[n]? with
    | some (.lst xs) => (ixN xs.length k).map fun j => st.set n (.lst (xs.set j v))
    | _ => none
  | _, _ => none
theorem f_setL {K : PySem.W.Frag} : SetI K rSetL fSetL := by
  intro H ρ st o i x vo vi vx st' Q S Ro Ri Rx h q
  unfold fSetL at h
  split at h
  · rename_i n k
    split at h
    · rename_i xs e1
      obtain ⟨j, e, hz⟩ := map_some h
      subst hz
      unfold Rep at Ro Ri
      obtain ⟨a, rfl, i1⟩ := Ro
      subst Ri
      obtain ⟨b1, hb1, vs1, h1, r1⟩ := S.at_ _ _ e1
      rw [i1] at hb1; cases hb1
      have ndd := S.lv _ _ _ e1 (by simp) i1
      have g : Grow H ρ (upd H a (.lst (vs1.set j vx))) ρ := grow_write h1 (List.mem_of_getElem? i1) ndd
      exact ⟨a, vs1, k, j, rfl, rfl, h1, by rw [← r1.length]; exact e, q _ ρ g (S.write (so := .lst (xs.set j x)) i1 ndd h1 ⟨_, upd_same, Reps.grow S g _ _ (Reps.set Rx j r1)⟩)⟩
    · cases h
  · cases h
/-- xs.append(v) -/
def iAppend (io ie : IE) : IE := fun env st => ob (io env st) fun o s1 => match o with
  | .ref n => match s1[n]? with
    | some (.lst _) => ob (ie env s1) fun x s2 => match s2[n]? with
      | some (.lst xs) => if xs.length < 9000000 then some (.non, s2.set n (.lst (xs ++ [x]))) else none
      | _ => none
    | _ => none
  | _ => none
end
end IL

namespace IL
open PySem PySem.Spec PyProof.Rows L2

section
variable {X : Cx}
theorem PE.or {e : Expr} {t t' : TE} (h : PE X e t) (h' : PE X e t') : PE X e (fun σ H Q => t σ H Q ∨ t' σ H Q) := ⟨fun pins s σ H Q I q => q.elim (h.run pins s σ H Q I) (h'.run pins s σ H Q I)⟩
/-! ### dicts whose keys are ints and texts -/
def keyP : PV → Option Key
  | .int i => some (.inl i)
  | .str x => some (.inr x)
  | _ => none
theorem key_rep {K : PySem.W.Frag} {H : Hp} {ρ : Rho} {x : PV} {v : V} {k : Key} (R : Rep K H ρ x v) (h : keyP x = some k) : v = kV k := by
  cases x <;> simp only [keyP, Option.some.injEq, reduceCtorEq] at h <;> (unfold Rep at R; subst R; subst h; rfl)
def findP : List (Key × PV) → Key → Option PV
  | [], _ => none
  | (k', v) :: r, k => if k' = k then some v else findP r k
def putP : List (Key × PV) → Key → PV → List (Key × PV)
  | [], k, v => [(k, v)]
  | (k', w) :: r, k, v => if k' = k then (k', v) :: r else (k', w) :: putP r k v
theorem find_rep {K : PySem.W.Frag} {H : Hp} {ρ : Rho} {k : Key} : ∀ {xs : List (Key × PV)} {vs : List (Key × V)}, RepK K H ρ xs vs → (∀ x, findP xs k = some x → ∃ v, valV vs k = some v ∧ Rep K H ρ x v) ∧ (findP xs k = none → valV vs k = none)
  | [], vs, R => by
    subst R
    exact ⟨fun x h => (by cases h), fun _ => rfl⟩
  | (k', y) :: xs, vs, R => by
    obtain ⟨v, r, rfl, r1, r2⟩ := R
    obtain ⟨i1, i2⟩ := find_rep (k := k) r2
    unfold findP
    by_cases e : k' = k
    · rw [if_pos e, valV_pos (p := (k', v)) e]
      exact ⟨fun x h => (by cases h; exact ⟨v, rfl, r1⟩), fun h => (by cases h)⟩
    · rw [if_neg e, valV_neg (p := (k', v)) e]
      exact ⟨i1, i2⟩
theorem find_some {K : PySem.W.Frag} {H : Hp} {ρ : Rho} {k : Key} {xs : List (Key × PV)} {vs : List (Key × V)} (R : RepK K H ρ xs vs) : (findP xs k).isSome = (valV vs k).isSome := by
  obtain ⟨i1, i2⟩ := find_rep (k := k) R
  cases e : findP xs k with
  | none => rw [i2 e]; rfl
  | some x =>
    obtain ⟨v, e2, _⟩ := i1 x e
    rw [e2]; rfl
theorem putK_cons {k' k : Key} {w v : V} {r : List (Key × V)} (nd : ((k', w) :: r).map (·.1) |>.Nodup) : putK ((k', w) :: r) k v = if k' = k then (k', v) :: r else (k', w) :: putK r k v := by
  by_cases e : k' = k
  · subst e
    rw [if_pos rfl]
    unfold putK
    rw [if_pos (by simp)]
    rw [List.map_cons, if_pos rfl]
    congr 1
    have : ∀ p ∈ r, ¬ p.1 = k' := fun p hp z => by
      rw [List.map_cons, List.nodup_cons] at nd
      exact nd.1 (List.mem_map.mpr ⟨p, hp, z⟩)
    conv => rhs; rw [← List.map_id r]
    exact List.map_congr_left fun p hp => if_neg (this p hp)
  · rw [if_neg e]
    unfold putK
    rw [List.any_cons, decide_eq_false e, Bool.false_or]
    by_cases h : (r.any fun kv => decide (kv.1 = k)) = true
    · rw [if_pos h, if_pos h, List.map_cons, if_neg e]
    · rw [if_neg h, if_neg h]; rfl
theorem keys_rep {K : PySem.W.Frag} {H : Hp} {ρ : Rho} : ∀ {xs : List (Key × PV)} {vs : List (Key × V)}, RepK K H ρ xs vs → vs.map (·.1) = xs.map (·.1)
  | [], vs, R => by subst R; rfl
  | x :: xs, vs, R => by
    obtain ⟨v, r, rfl, _, r2⟩ := R
    rw [List.map_cons, List.map_cons, keys_rep r2]
theorem put_rep {K : PySem.W.Frag} {H : Hp} {ρ : Rho} {k : Key} {y : PV} {w : V} (Ry : Rep K H ρ y w) : ∀ {xs : List (Key × PV)} {vs : List (Key × V)}, (xs.map (·.1)).Nodup → RepK K H ρ xs vs → RepK K H ρ (putP xs k y) (putK vs k w)
  | [], vs, nd, R => by
    subst R
    exact ⟨w, [], rfl, Ry, rfl⟩
  | (k', z) :: xs, vs, nd, R => by
    have kr := keys_rep R
    obtain ⟨v, r, rfl, r1, r2⟩ := R
    rw [putK_cons (by rw [kr]; exact nd)]
    unfold putP
    by_cases e : k' = k
    · rw [if_pos e, if_pos e]
      exact ⟨w, r, rfl, Ry, r2⟩
    · rw [if_neg e, if_neg e]
      rw [List.map_cons, List.nodup_cons] at nd
      exact ⟨v, _, rfl, r1, put_rep Ry nd.2 r2⟩
def dictOf (st : Sto) : PV → Option (List (Key × PV))
  | .ref n => match st[n]? with
    | some (.dK kvs) => some kvs
    | _ => none
  | _ => none
theorem dict_rep {K : PySem.W.Frag} {H : Hp} {ρ : Rho} {st : Sto} (S : RepS K H ρ st) {x : PV} {v : V} {kvs : List (Key × PV)} (R : Rep K H ρ x v) (h : dictOf st x = some kvs) : ∃ a vs, v = .ref a ∧ H a = some (.dK vs) ∧ RepK K H ρ kvs vs := by
  cases x with
  | ref n =>
    unfold Rep at R
    obtain ⟨a, rfl, i1⟩ := R
    simp only [dictOf] at h
    split at h
    · rename_i ys e1
      obtain ⟨b1, hb1, vs1, h1, r1⟩ := S.at_ _ _ e1
      rw [i1] at hb1; cases hb1
      have ndd := S.lv _ _ _ e1 (by simp) i1
      cases h
      exact ⟨a, vs1, rfl, h1, r1⟩
    · cases h
  | _ => cases h
/-- o[i]: a list, a tuple, a text, a dict -/
def fSubA : F2 := fun x y st => match dictOf st x with
  | some kvs => match keyP y with
    | some k => (findP kvs k).map fun v => (v, st)
    | none => none
  | none => fIx x y st
variable {a b e i o : Expr} {es rest : List Expr} {pos : Pos} {ia ib ie : IE}
theorem r_sub (hu : X.A.units + 1 < cLine) (ha : PE X a (tI X.K ia)) (hb : PE X b (tI X.K ib)) (hs : PlainIx b) : PE X (.Subscript a b pos) (tI X.K (iBin fSubA ia ib)) :=
  PE.imp (PE.or (pe_ix ix_any ha hb hs) (pe_dget hu ha hb hs)) fun σ H Q ⟨env, st, ρ, z, st', E, S, h, q⟩ => by
    obtain ⟨x, s1, h1, h⟩ := ob_some h
    obtain ⟨y, s2, h2, h⟩ := ob_some h
    unfold fSubA at h
    cases e : dictOf s2 x with
    | none =>
      rw [e] at h
      exact .inl (bin_to (f := fIx) f_ix ⟨env, st, ρ, z, st', E, S, by unfold iBin; rw [h1]; simp only [ob]; rw [h2]; exact h, q⟩)
    | some kvs =>
      rw [e] at h
      simp only at h
      split at h
      · rename_i k e2
        obtain ⟨v, e3, hz⟩ := map_some h
        cases hz
        refine .inr ⟨env, st, ρ, x, s1, E, S, h1, fun vx H1 ρ1 G1 S1 R1 => ⟨env, s1, ρ1, y, _, E.grow S G1, S1, h2, fun vy H2 ρ2 G2 S2 R2 => ?_⟩⟩
        obtain ⟨p, vs, rfl, hp, r⟩ := dict_rep S2 (Rep.grow S1 G2 _ _ R1) e
        obtain ⟨w, hw, rw'⟩ := (find_rep (k := k) r).1 _ e3
        have hk := key_rep R2 e2
        subst hk
        exact ⟨p, w, rfl, by rw [← hw]; exact DGet.k hp, q w H2 ρ2 (G1.trans G2) S2 rw'⟩
      · cases h
/-- in, not in: a list or a tuple of flat things, a dict, a text -/
def inA (st : Sto) (x y : PV) : Option Bool := match dictOf st y with
  | some kvs => match keyP x with
    | some k => some (findP kvs k).isSome
    | none => none
  | none => match x, y with
    | .str i, .str j => some (!(Builtin.Str.occurrences j i 0 j.length 1).isEmpty)
    | _, _ => inP st x y
def fInA : F2 := fun x y st => (inA st x y).map fun b => (.bl b, st)
def fNotInA : F2 := fun x y st => (inA st x y).map fun b => (.bl (!b), st)
def rInS : R2 := fun x y H Q => ∃ i j, x = .str i ∧ y = .str j ∧ Q (.bl (!(Builtin.Str.occurrences j i 0 j.length 1).isEmpty)) H
def rNotInS : R2 := fun x y H Q => ∃ i j, x = .str i ∧ y = .str j ∧ Q (.bl (!(!(Builtin.Str.occurrences j i 0 j.length 1).isEmpty))) H
def rInD2 : R2 := fun y x H Q => ∃ a o, x = .ref a ∧ DGet H a y o ∧ Q (.bl o.isSome) H
def rNotInD2 : R2 := fun y x H Q => ∃ a o, x = .ref a ∧ DGet H a y o ∧ Q (.bl (!o.isSome)) H
theorem op_inD2 (hu : X.A.units + 1 < cLine) : OpR X (compareOp .In) rInD2 := by
  intro pins s σ H x y v u Q I rx ry h
  obtain ⟨a, o, rfl, g, q⟩ := h
  cases ry
  exact d_in hu I g rx fun s3 I3 => ⟨.bl o.isSome, H, I3, rfl, q⟩
theorem op_notInD2 (hu : X.A.units + 1 < cLine) : OpR X (compareOp .NotIn) rNotInD2 := by
  intro pins s σ H x y v u Q I rx ry h
  obtain ⟨a, o, rfl, g, q⟩ := h
  cases ry
  exact d_notIn hu I g rx fun s3 I3 => ⟨.bl (!o.isSome), H, I3, rfl, q⟩
def rInAll (K : PySem.W.Frag) : R2 := fun x y H Q => rIn K false x y H Q ∨ rInD2 x y H Q ∨ rInS x y H Q
def rNotInAll (K : PySem.W.Frag) : R2 := fun x y H Q => rIn K true x y H Q ∨ rNotInD2 x y H Q ∨ rNotInS x y H Q
theorem op_inAll (hu : X.A.units + 1 < cLine) : OpR X (compareOp .In) (rInAll X.K) := OpR.or op_in_seq (OpR.or (op_inD2 hu) op_in_str)
theorem op_notInAll (hu : X.A.units + 1 < cLine) : OpR X (compareOp .NotIn) (rNotInAll X.K) := OpR.or op_notIn_seq (OpR.or (op_notInD2 hu) op_notIn_str)
theorem inA_rep {K : PySem.W.Frag} {H : Hp} {ρ : Rho} {st : Sto} (S : RepS K H ρ st) {x y : PV} {v w : V} {b : Bool} (Rx : Rep K H ρ x v) (Ry : Rep K H ρ y w) (h : inA st x y = some b) :
    (∃ p xs, w = .ref p ∧ (SqL K H p xs ∨ SqT K H p xs) ∧ flatV v = true ∧ xs.all flatV = true ∧ inV v xs = b) ∨ (∃ a o, w = .ref a ∧ DGet H a v o ∧ o.isSome = b) ∨ ∃ i j, v = .str i ∧ w = .str j ∧ (!(Builtin.Str.occurrences j i 0 j.length 1).isEmpty) = b := by
  unfold inA at h
  split at h
  · rename_i kvs e
    split at h
    · rename_i k e2
      cases h
      obtain ⟨p, vs, rfl, hp, r⟩ := dict_rep S Ry e
      have hk := key_rep Rx e2
      subst hk
      exact .inr (.inl ⟨p, _, rfl, DGet.k hp, (find_some r).symm⟩)
    · cases h
  · split at h
    · cases h
      unfold Rep at Rx Ry
      subst Rx Ry
      exact .inr (.inr ⟨_, _, rfl, rfl, rfl⟩)
    · exact .inl (inP_rep S Rx Ry h)
theorem f_inA {K : PySem.W.Frag} : OpI K (rInAll K) fInA := by
  intro H ρ st x y vx vy z st' Q S Rx Ry h q
  obtain ⟨b, e, hz⟩ := map_some h
  cases hz
  have fin := q (.bl b) H ρ Grow.refl S (by unfold Rep; rfl)
  rcases inA_rep S Rx Ry e with ⟨p, xs, h1, h2, h3, h4, rfl⟩ | ⟨a, o, h1, h2, rfl⟩ | ⟨i, j, h1, h2, rfl⟩
  · exact .inl ⟨p, xs, h1, h2, h3, h4, fin⟩
  · exact .inr (.inl ⟨a, o, h1, h2, fin⟩)
  · exact .inr (.inr ⟨i, j, h1, h2, fin⟩)
theorem f_notInA {K : PySem.W.Frag} : OpI K (rNotInAll K) fNotInA := by
  intro H ρ st x y vx vy z st' Q S Rx Ry h q
  obtain ⟨b, e, hz⟩ := map_some h
  cases hz
  have fin := q (.bl (!b)) H ρ Grow.refl S (by unfold Rep; rfl)
  rcases inA_rep S Rx Ry e with ⟨p, xs, h1, h2, h3, h4, rfl⟩ | ⟨a, o, h1, h2, rfl⟩ | ⟨i, j, h1, h2, rfl⟩
  · exact .inl ⟨p, xs, h1, h2, h3, h4, fin⟩
  · exact .inr (.inl ⟨a, o, h1, h2, fin⟩)
  · exact .inr (.inr ⟨i, j, h1, h2, fin⟩)
/-- o[i] = v: a list, a dict -/
def nodupK (kvs : List (Key × PV)) : Bool := decide (kvs.map (·.1)).Nodup
def fSetA : FSet := fun o i v st => match o with
  | .ref n => match st[n]? with
    | some (.dK kvs) => match keyP i with
      | some k => if nodupK kvs && decide (kvs.length < 9000000) then some (st.set n (.dK (putP kvs k v))) else none
      | none => none
    | _ => fSetL o i v st
  | _ => none
def rSetD : TSet := fun o i v H Q => ∃ a H', o = .ref a ∧ DPut H a i v H' ∧ Q H'
theorem set_dict (hu : X.A.units + 1 < cLine) : PSet X rSetD := by
  intro pins s σ H o i v ov iv u Q I ro ri rv h
  obtain ⟨a, H', rfl, g, q⟩ := h
  cases ro
  exact d_setItem hu I g ri rv fun s4 I4 => ⟨H', I4, q⟩
theorem PSet.or {t t' : TSet} (h : PSet X t) (h' : PSet X t') : PSet X (fun o i v H Q => t o i v H Q ∨ t' o i v H Q) := fun pins s σ H o i v ov iv u Q I ro ri rv q =>
  q.elim (h pins s σ H o i v ov iv u Q I ro ri rv) (h' pins s σ H o i v ov iv u Q I ro ri rv)
def rSetA : TSet := fun o i v H Q => rSetL o i v H Q ∨ rSetD o i v H Q
theorem set_any (hu : X.A.units + 1 < cLine) : PSet X rSetA := PSet.or set_list (set_dict hu)
theorem f_setA {K : PySem.W.Frag} : SetI K rSetA fSetA := by
  intro H ρ st o i x vo vi vx st' Q S Ro Ri Rx h q
  unfold fSetA at h
  split at h
  · rename_i n
    split at h
    · rename_i kvs e1
      split at h
      · rename_i k e2
        split at h
        · rename_i hc
          rw [Bool.and_eq_true] at hc
          have nd : (kvs.map (·.1)).Nodup := of_decide_eq_true hc.1
          have hl : kvs.length < 9000000 := of_decide_eq_true hc.2
          cases h
          obtain ⟨a, vs1, rfl, i1, ndd, h1, r1⟩ := S.dct Ro e1
          have hk := key_rep Ri e2
          subst hk
          have g : Grow H ρ (upd H a (.dK (putK vs1 k vx))) ρ := grow_write h1 (List.mem_of_getElem? i1) ndd
          exact .inr ⟨a, _, rfl, .inl ⟨vs1, k, h1, rfl, line6 (by rw [← r1.length]; exact hl), rfl⟩, q _ ρ g (S.write (so := .dK (putP kvs k x)) i1 ndd h1 ⟨_, upd_same, RepK.grow S g _ _ (put_rep Rx nd r1)⟩)⟩
        · cases h
      · cases h
    · exact .inl (f_setL H ρ st _ i x vo vi vx st' Q S Ro Ri Rx h q)
  · cases h
/-- {k: v, ..} -/
abbrev IP := PEnv → Sto → Option (List (PV × PV) × Sto)
def iPNil : IP := fun _ st => some ([], st)
def iPCons (ik iv : IE) (ip : IP) : IP := fun env st => ob (ik env st) fun k s1 => ob (iv env s1) fun v s2 => ob (ip env s2) fun ps s3 => some ((k, v) :: ps, s3)
def keysP : List (PV × PV) → Option (List (Key × PV))
  | [] => some []
  | (k, v) :: r => match keyP k, keysP r with
    | some k', some r' => some ((k', v) :: r')
    | _, _ => none
def mergeP (kvs more : List (Key × PV)) : List (Key × PV) := more.foldl (fun acc kv => putP acc kv.1 kv.2) kvs
def iDict (ip : IP) : IE := fun env st => ob (ip env (st ++ [.dK []])) fun ps s1 => match keysP ps, s1[st.length]? with
  | some kvs, some (.dK []) => if kvs.length ≤ 15 then some (.ref st.length, s1.set st.length (.dK (mergeP [] kvs))) else none
  | _, _ => none
/-- the pairs' readings -/
inductive TPs (K : PySem.W.Frag) : List (TE × TE) → IP → Prop where
  | nil : TPs K [] iPNil
  | cons {ik iv : IE} {r : List (TE × TE)} {ip : IP} (h : TPs K r ip) : TPs K ((tI K ik, tI K iv) :: r) (iPCons ik iv ip)
def RepPs (K : PySem.W.Frag) (H : Hp) (ρ : Rho) : List (PV × PV) → List (V × V) → Prop
  | [], vs => vs = []
  | x :: xs, vs => ∃ v w r, vs = (v, w) :: r ∧ Rep K H ρ x.1 v ∧ Rep K H ρ x.2 w ∧ RepPs K H ρ xs r
theorem RepPs.grow {K : PySem.W.Frag} {H H' : Hp} {ρ ρ' : Rho} {st : Sto} (S : RepS K H ρ st) (g : Grow H ρ H' ρ') : ∀ {xs : List (PV × PV)} {vs : List (V × V)}, RepPs K H ρ xs vs → RepPs K H' ρ' xs vs
  | [], _, h => h
  | x :: xs, _, h => by
    obtain ⟨v, w, r, e, h1, h2, h3⟩ := h
    exact ⟨v, w, r, e, Rep.grow S g _ _ h1, Rep.grow S g _ _ h2, RepPs.grow S g h3⟩
theorem tps_to {K : PySem.W.Frag} {trs : List (TE × TE)} {ip : IP} (T : TPs K trs ip) : ∀ {σ : L2.St} {H : Hp} {ρ : Rho} {env : PEnv} {st st' : Sto} {ps : List (PV × PV)} {Q : List (V × V) → Hp → Prop}, RepE K H ρ env σ → RepS K H ρ st → ip env st = some (ps, st') →
    (∀ vs H' ρ', Grow H ρ H' ρ' → RepS K H' ρ' st' → RepPs K H' ρ' ps vs → Q vs H') → tPairs trs σ H Q := by
  induction T with
  | nil =>
    intro σ H ρ env st st' ps Q E S h q
    cases h
    exact q [] H ρ Grow.refl S rfl
  | cons T ih =>
    intro σ H ρ env st st' ps Q E S h q
    obtain ⟨k, s1, h1, h⟩ := ob_some h
    obtain ⟨v, s2, h2, h⟩ := ob_some h
    obtain ⟨r, s3, h3, h⟩ := ob_some h
    cases h
    refine ⟨env, st, ρ, k, s1, E, S, h1, fun vk H1 ρ1 G1 S1 R1 => ⟨env, s1, ρ1, v, s2, E.grow S G1, S1, h2, fun vv H2 ρ2 G2 S2 R2 => ?_⟩⟩
    refine ih ((E.grow S G1).grow S1 G2) S2 h3 fun vs H3 ρ3 G3 S3 R3 => q _ H3 ρ3 ((G1.trans G2).trans G3) S3 ⟨vk, vv, vs, rfl, Rep.grow S2 G3 _ _ (Rep.grow S1 G2 _ _ R1), Rep.grow S2 G3 _ _ R2, R3⟩
theorem keysP_rep {K : PySem.W.Frag} {H : Hp} {ρ : Rho} : ∀ {ps : List (PV × PV)} {vs : List (V × V)} {kvs : List (Key × PV)}, RepPs K H ρ ps vs → keysP ps = some kvs → ∃ ws, vs = ws.map (fun kv => (kV kv.1, kv.2)) ∧ RepK K H ρ kvs ws
  | [], vs, kvs, R, h => by
    cases h
    exact ⟨[], R, rfl⟩
  | (k, v) :: ps, vs, kvs, R, h => by
    obtain ⟨vk, w, r, rfl, r1, r2, r3⟩ := R
    unfold keysP at h
    split at h
    · rename_i k' r' e1 e2
      cases h
      obtain ⟨ws, rfl, r4⟩ := keysP_rep r3 e2
      have := key_rep r1 e1
      subst this
      exact ⟨(k', w) :: ws, rfl, w, ws, rfl, r2, r4⟩
    · cases h
theorem putP_keys (k : Key) (v : PV) : ∀ kvs : List (Key × PV), (kvs.map (·.1)).Nodup → ((putP kvs k v).map (·.1)).Nodup ∧ ∀ z, z ∈ (putP kvs k v).map (·.1) → z = k ∨ z ∈ kvs.map (·.1)
  | [], _ => ⟨by simp [putP], fun z h => by simp [putP] at h; exact .inl h⟩
  | (k', w) :: r, nd => by
    unfold putP
    rw [List.map_cons, List.nodup_cons] at nd
    by_cases e : k' = k
    · rw [if_pos e]
      exact ⟨by rw [List.map_cons, List.nodup_cons]; exact nd, fun z h => .inr h⟩
    · rw [if_neg e]
      obtain ⟨i1, i2⟩ := putP_keys k v r nd.2
      refine ⟨?_, fun z h => ?_⟩
      · rw [List.map_cons, List.nodup_cons]
        exact ⟨fun h => by
          rcases i2 _ h with z | z
          · exact e z
          · exact nd.1 z, i1⟩
      · rw [List.map_cons, List.mem_cons] at h
        rcases h with h | h
        · exact .inr (by rw [h]; exact List.mem_cons_self)
        · rcases i2 z h with z1 | z1
          · exact .inl z1
          · exact .inr (List.mem_cons_of_mem _ z1)
theorem merge_rep {K : PySem.W.Frag} {H : Hp} {ρ : Rho} : ∀ {more kvs : List (Key × PV)} {ms ws : List (Key × V)}, (kvs.map (·.1)).Nodup → RepK K H ρ more ms → RepK K H ρ kvs ws → RepK K H ρ (mergeP kvs more) (mergeK ws ms)
  | [], _, _, _, _, Rm, R => by subst Rm; exact R
  | x :: more, kvs, _, ws, nd, Rm, R => by
    obtain ⟨v, r, rfl, r1, r2⟩ := Rm
    show RepK K H ρ (mergeP (putP kvs x.1 x.2) more) (mergeK (putK ws x.1 v) r)
    exact merge_rep (more := more) (ms := r) (putP_keys _ _ _ nd).1 r2 (put_rep r1 nd R)
theorem r_dict {keys : List (Option Expr)} {values : List Expr} {trs : List (TE × TE)} {ip : IP} (T : TPs X.K trs ip) (h : PPs X pos keys values trs) (hall : keys.all (·.isSome) = true) (hl : keys.length = values.length) (h0 : keys ≠ []) (h15 : keys.length ≤ 15) :
    PE X (.Dict keys values pos) (tI X.K (iDict ip)) := PE.imp (pe_disp h hall hl h0 h15) fun σ H Q ⟨env, st, ρ, z, st', E, S, h, q⟩ p hp => by
  obtain ⟨ps, s1, h1, h⟩ := ob_some h
  split at h
  · rename_i kvs e1 e2
    split at h
    · rename_i h15
      cases h
      have g0 : Grow H ρ (upd H p (.dK [])) (ρ.add p) := grow_alloc hp
      have S0 : RepS X.K (upd H p (.dK [])) (ρ.add p) (st ++ [.dK []]) := S.alloc (so := .dK []) hp ⟨[], upd_same, rfl⟩
      refine tps_to T (E.grow S g0) S0 h1 fun vs H2 ρ2 G2 S2 R2 => ?_
      have ix : ρ2.l[st.length]? = some p := G2.ix (by (first | rw [← S.len, List.getElem?_append_right (Nat.le_refl _)] | (show (ρ.l ++ [_])[_]? = _; rw [← S.len, List.getElem?_append_right (Nat.le_refl _)])); simp)
      obtain ⟨b1, hb1, us, h2, r2⟩ := S2.at_ _ _ e2
      rw [ix] at hb1; cases hb1
      have ndd := S2.lv _ _ _ e2 (by simp) ix
      have hus : us = [] := r2
      subst hus
      obtain ⟨ws, rfl, r4⟩ := keysP_rep R2 e1
      have gw : Grow H2 ρ2 (upd H2 p (.dK (mergeK [] ws))) ρ2 := grow_write h2 (List.mem_of_getElem? ix) ndd
      refine ⟨h2, ws, rfl, by rw [← r4.length]; exact h15, q _ _ ρ2 (g0.trans (G2.trans gw)) (S2.write (so := .dK (mergeP [] kvs)) ix ndd h2 ⟨_, upd_same, RepK.grow S2 gw _ _ (merge_rep (by simp) r4 rfl)⟩) ?_⟩
      unfold Rep
      exact ⟨p, rfl, ix⟩
    · cases h
  · cases h
theorem r_dict0 : PE X (.Dict [] [] pos) (tI X.K (fun _ st => some (alloc (.dK []) st))) := PE.imp pe_dnewK fun σ H Q ⟨env, st, ρ, z, st', E, S, h, q⟩ p hp => by
  have e := Option.some.inj h
  have g0 : Grow H ρ (upd H p (.dK [])) (ρ.add p) := grow_alloc hp
  have S0 : RepS X.K (upd H p (.dK [])) (ρ.add p) (st ++ [.dK []]) := S.alloc (so := .dK []) hp ⟨[], upd_same, rfl⟩
  unfold alloc at e
  cases e
  refine q _ _ _ g0 S0 ?_
  unfold Rep
  exact ⟨p, rfl, by (first | rw [← S.len, List.getElem?_append_right (Nat.le_refl _)] | (show (ρ.l ++ [_])[_]? = _; rw [← S.len, List.getElem?_append_right (Nat.le_refl _)])); simp⟩
/-- xs.append(v) -/
theorem r_append {apos cpos : Pos} (ho : PE X o (tI X.K ia)) (he : PE X e (tI X.K ib))
    (hbase : attributeBase o "append" X.env (eval o X.env) = eval o X.env := by rfl)
    (hfew : ((backTo cpos (starEach (e :: []) X.env)).all (fun x => !x.1) && (backToKw cpos (keywordEach [] X.env)).all (fun x => x.1.isSome)
      && decide ((e :: []).length + ([] : List Keyword).length + (if ([] : List Keyword).isEmpty then 0 else 1) < 30)) = true := by rfl)
    (hline : (apos.endLine == cpos.line) = true := by rfl) (hs : starEach (e :: []) X.env = (false, eval e X.env) :: starEach [] X.env := by rfl) (hplain : (backTo cpos (starEach [] X.env)).any (·.1) = false := by rfl) :
    PE X (.Call (.Attribute o "append" apos) [e] [] cpos) (tI X.K (iAppend ia ib)) :=
  PE.imp (pe_bm PySem.F.plainAttrs_list PySem.F.slot_list_append PySem.F.type_list_append mt_append ho (pa_cons he pa_nil hs) hbase hfew hline hs hplain) fun σ H Q ⟨env, st, ρ, z, st', E, S, h, q⟩ => by
    obtain ⟨x, s1, h1, h⟩ := ob_some h
    refine ⟨env, st, ρ, x, s1, E, S, h1, fun vx H1 ρ1 G1 S1 R1 => ?_⟩
    split at h
    · rename_i n
      split at h
      · rename_i ws e0
        obtain ⟨y, s2, h2, h⟩ := ob_some h
        split at h
        · rename_i xs e1
          split at h
          · rename_i hl
            cases h
            unfold Rep at R1
            obtain ⟨a, rfl, i1⟩ := R1
            refine ⟨?_, env, s1, ρ1, y, s2, E.grow S G1, S1, h2, fun vy H2 ρ2 G2 S2 R2 => ?_⟩
            · obtain ⟨b1, hb1, vs1, h3, r1⟩ := S1.at_ _ _ e0
              rw [i1] at hb1; cases hb1
              exact .inl ⟨rfl, vs1, .of h3⟩
            · have i2 := G2.ix i1
              obtain ⟨b1, hb1, vs1, h3, r1⟩ := S2.at_ _ _ e1
              rw [i2] at hb1; cases hb1
              have ndd := S2.lv _ _ _ e1 (by simp) i2
              have g : Grow H2 ρ2 (upd H2 a (.lst (vs1 ++ [vy]))) ρ2 := grow_write h3 (List.mem_of_getElem? i2) ndd
              refine ⟨a, vs1, vy, rfl, rfl, h3, line6 (by rw [← r1.length]; exact hl), q .non _ ρ2 ((G1.trans G2).trans g) (S2.write (so := .lst (xs ++ [y])) i2 ndd h3 ⟨_, upd_same, Reps.grow S2 g _ _ (Reps.append r1 (by unfold Reps; exact ⟨vy, [], rfl, R2, by unfold Reps; rfl⟩))⟩) (by unfold Rep; rfl)⟩
          · cases h
        · cases h
      · cases h
    · cases h
end
end IL

/-! What the plain functions compute, as rules for simp. -/
namespace IL
open PySem PySem.Spec PyProof.Rows L2

section
variable {α β : Type} {a : α} {s s1 s2 st : Sto} {k : α → Sto → Option β} {env : PEnv} {x y z v : PV} {xs ys : List PV} {ia ib ic ie : IE} {ir ir' : IA} {t u : IT} {i j : Nat} {f g : F2} {p q : IS} {m n : Int}
@[simp] theorem ob_s : ob (some (a, s)) k = k a s := rfl
@[simp] theorem ob_n : ob (none : Option (α × Sto)) k = none := rfl
@[simp] theorem iVar_e : iVar i env st = match env[i]? with
  | some (some v) => some (v, st)
  | _ => none := rfl
@[simp] theorem iC_e : iC v env st = some (v, st) := rfl
@[simp] theorem iBin_e : iBin f ia ib env st = ob (ia env st) fun x s1 => ob (ib env s1) fun y s2 => f x y s2 := rfl
@[simp] theorem iUn_e {f : F1} : iUn f ia env st = ob (ia env st) fun x s1 => f x s1 := rfl
@[simp] theorem iChain_e : iChain f g ia ib ic env st = ob (ia env st) fun x s1 => ob (ib env s1) fun y s2 => ob (f x y s2) fun z s3 => match z with
  | .bl true => ob (ic env s3) fun w s4 => g y w s4
  | .bl false => some (.bl false, s3)
  | _ => none := rfl
@[simp] theorem iTest_e : iTest ia env st = ob (ia env st) fun x s1 => (tru s1 x).map fun k => (k, s1) := rfl
@[simp] theorem iTestB_e : iTestB ia env st = ob (ia env st) fun x s1 => (isBl x).map fun k => (k, s1) := rfl
@[simp] theorem isBl_e {b : Bool} : isBl (.bl b) = some b := rfl
@[simp] theorem tru_bl {b : Bool} : tru st (.bl b) = some b := rfl
@[simp] theorem tru_int : tru st (.int m) = some (m != 0) := rfl
@[simp] theorem tru_tup : tru st (.tup xs) = some (!xs.isEmpty) := rfl
@[simp] theorem tru_non : tru st .non = some false := rfl
@[simp] theorem iAnd_e : iAnd t u env st = ob (t env st) fun k s1 => match k with
  | true => u env s1
  | false => some (false, s1) := rfl
@[simp] theorem iOr_e : iOr t u env st = ob (t env st) fun k s1 => match k with
  | true => some (true, s1)
  | false => u env s1 := rfl
@[simp] theorem iNot_e : iNot t env st = ob (t env st) fun k s1 => some (!k, s1) := rfl
@[simp] theorem iAndV_e : iAndV ia ib env st = ob (ia env st) fun x s1 => match tru s1 x with
  | some true => ib env s1
  | some false => some (x, s1)
  | none => none := rfl
@[simp] theorem iOrV_e : iOrV ia ib env st = ob (ia env st) fun x s1 => match tru s1 x with
  | some true => some (x, s1)
  | some false => ib env s1
  | none => none := rfl
@[simp] theorem iNotV_e : iNotV ia env st = ob (ia env st) fun x s1 => (tru s1 x).map fun k => (.bl (!k), s1) := rfl
@[simp] theorem iIf_e : iIf t ia ib env st = ob (t env st) fun k s1 => match k with
  | true => ia env s1
  | false => ib env s1 := rfl
@[simp] theorem iNil_e : iNil env st = some ([], st) := rfl
@[simp] theorem iCons_e : iCons ia ir env st = ob (ia env st) fun x s1 => ob (ir env s1) fun xs s2 => some (x :: xs, s2) := rfl
@[simp] theorem iTup_e : iTup ir env st = ob (ir env st) fun xs s1 => if xs.length ≤ 9000000 then some (.tup xs, s1) else none := rfl
@[simp] theorem iLst_e : iLst ir env st = ob (ir env st) fun xs s1 => if xs.length ≤ 9000000 then some (.ref s1.length, s1 ++ [.lst xs]) else none := rfl
@[simp] theorem iNo_e : iNo env st = some (none, st) := rfl
@[simp] theorem iPart_e : iPart ia env st = ob (ia env st) fun x s1 => match x with
  | .int i => some (some i, s1)
  | _ => none := rfl
@[simp] theorem iSl_e {h : FSl} {lo hi : IO} : iSl h ia lo hi env st = ob (ia env st) fun x s1 => ob (lo env s1) fun l s2 => ob (hi env s2) fun u s3 => h x l u s3 := rfl
@[simp] theorem iCall_e {h : FA} : iCall h ir env st = ob (ir env st) fun xs s1 => h xs s1 := rfl
@[simp] theorem iSkip_e : iSkip env st = some (.nx env st) := rfl
@[simp] theorem iSeq_e : iSeq p q env st = match p env st with
  | some (.nx e s) => q e s
  | o => o := rfl
@[simp] theorem iDrop_e : iDrop ie env st = ob (ie env st) fun _ s => some (.nx env s) := rfl
@[simp] theorem iRet_e : iRet ie env st = ob (ie env st) fun x s => some (.rt x s) := rfl
@[simp] theorem iIfS_e : iIfS t p q env st = ob (t env st) fun k s => match k with
  | true => p env s
  | false => q env s := rfl
@[simp] theorem iAsg_e {h : IG} : iAsg h ie env st = ob (ie env st) fun x s => match h x env s with
  | some env' => some (.nx env' s)
  | none => none := rfl
@[simp] theorem gN_e : gN i x env st = some (env.set i (some x)) := rfl
@[simp] theorem gNs_e : gNs [] env st = some env := rfl
@[simp] theorem gCs_e {h : IG} {hs : IGs} : gCs h hs (x :: xs) env st = match h x env st with
  | some env1 => hs xs env1 st
  | none => none := rfl
@[simp] theorem gT_e {hs : IGs} {n : Nat} : gT n hs (.tup xs) env st = if xs.length = n then hs xs env st else none := rfl
@[simp] theorem iPar_e : iPar i j ir env st = ob (ir env st) fun xs s => match xs with
  | [x, y] => some (.nx ((env.set i (some x)).set j (some y)) s)
  | _ => none := rfl
@[simp] theorem iSetIx_e {h : FSet} : iSetIx h ia ib ie env st = ob (ie env st) fun x s1 => ob (ia env s1) fun o s2 => ob (ib env s2) fun i s3 => (h o i x s3).map fun s4 => .nx env s4 := rfl
@[simp] theorem iWalk_e : iWalk ie env st = ob (ie env st) fun x s => match x with
  | .str y => some (srcS y, s)
  | .tup xs => some (srcT xs, s)
  | .frz xs => some (srcT xs, s)
  | .ref n => match s[n]? with
    | some (.lst xs) => some (srcL n xs.length, s)
    | _ => none
  | _ => none := rfl
@[simp] theorem iFor_e {ii : II} {h : IG} : iFor ii h p env st = ob (ii env st) fun src s => loop src.at_ h p (src.n + 1) 0 env s := rfl
@[simp] theorem iAugAdd_e : iAugAdd i ie env st = match env[i]? with
  | some (some (.int a)) => ob (ie env st) fun y s => match y with
    | .int b => some (.nx (env.set i (some (.int (a + b)))) s)
    | _ => none
  | _ => none := rfl
@[simp] theorem iYes_e : iYes env st = some (true, st) := rfl
@[simp] theorem a1_e {h : F1} : a1 h [x] st = h x st := rfl
@[simp] theorem a2_e {h : F2} : a2 h [x, y] st = h x y st := rfl
/-! ### operations -/
@[simp] theorem fAdd_i : fAdd (.int m) (.int n) st = some (.int (m + n), st) := rfl
@[simp] theorem fAdd_t : fAdd (.tup xs) (.tup ys) st = if xs.length + ys.length ≤ 9000000 then some (.tup (xs ++ ys), st) else none := rfl
@[simp] theorem fAdd_s {a b : Str} : fAdd (.str a) (.str b) st = if a.length + b.length ≤ 9000000 then some (.str (a ++ b), st) else none := rfl
@[simp] theorem fSub_i : fSub (.int m) (.int n) st = some (.int (m - n), st) := rfl
@[simp] theorem fMul_i : fMul (.int m) (.int n) st = if cMul m n then some (.int (m * n), st) else none := rfl
@[simp] theorem fDiv_i : fDiv (.int m) (.int n) st = if cDiv m n then some (.int (m.fdiv n), st) else none := rfl
@[simp] theorem fMod_i : fMod (.int m) (.int n) st = if decide (n ≠ 0) then some (.int (m.fmod n), st) else none := rfl
@[simp] theorem fNeg_i : fNeg (.int m) st = some (.int (-m), st) := rfl
@[simp] theorem fLt_i : fLt (.int m) (.int n) st = some (.bl (decide (m < n)), st) := rfl
@[simp] theorem fLe_i : fLe (.int m) (.int n) st = some (.bl (decide (m ≤ n)), st) := rfl
@[simp] theorem fGt_i : fGt (.int m) (.int n) st = some (.bl (decide (n < m)), st) := rfl
@[simp] theorem fGe_i : fGe (.int m) (.int n) st = some (.bl (decide (n ≤ m)), st) := rfl
@[simp] theorem fLt_s {a b : Str} : fLt (.str a) (.str b) st = some (.bl (ltS a b), st) := rfl
@[simp] theorem fLe_s {a b : Str} : fLe (.str a) (.str b) st = some (.bl (!ltS b a), st) := rfl
@[simp] theorem fEq_e : fEq x y st = (eqP st x y).map fun b => (.bl b, st) := rfl
@[simp] theorem fNe_e : fNe x y st = (eqP st x y).map fun b => (.bl (!b), st) := rfl
@[simp] theorem fIs_n : fIs x .non st = some (.bl (isNone x), st) := rfl
@[simp] theorem fIs_b {b : Bool} : fIs x (.bl b) st = some (.bl (isBool b x), st) := rfl
@[simp] theorem fIsNot_n : fIsNot x .non st = some (.bl (!isNone x), st) := rfl
@[simp] theorem fIsNot_b {b : Bool} : fIsNot x (.bl b) st = some (.bl (!isBool b x), st) := rfl
@[simp] theorem isBool_b {b c : Bool} : isBool b (.bl c) = (c == b) := rfl
@[simp] theorem isBool_t {b : Bool} : isBool b (.tup xs) = false := rfl
@[simp] theorem isBool_s {b : Bool} {a : Str} : isBool b (.str a) = false := rfl
@[simp] theorem isBool_n {b : Bool} : isBool b .non = false := rfl
@[simp] theorem isNone_n : isNone .non = true := rfl
@[simp] theorem isNone_t : isNone (.tup xs) = false := rfl
@[simp] theorem isNone_s {a : Str} : isNone (.str a) = false := rfl
@[simp] theorem isNone_b {b : Bool} : isNone (.bl b) = false := rfl
theorem eqP_s {a b : Str} : eqP st (.str a) (.str b) = if PyData.strOk a && PyData.strOk b then some (a == b) else none := by
  show (if SeqAt.shaped (.str a) && SeqAt.shaped (.str b) then some (PyData.eqv (.str a) (.str b)) else none) = _
  have e : ∀ c : Str, SeqAt.shaped (.str c) = PyData.strOk c := fun c => by
    unfold SeqAt.shaped
    show (PyData.canLay0 (.str c) && decide (PyData.depth (.str c) ≤ 64)) = _
    have h1 : PyData.canLay0 (.str c) = PyData.strOk c := by simp [PyData.canLay0]
    have h2 : PyData.depth (.str c) = 0 := by simp [PyData.depth]
    rw [h1, h2]
    simp
  rw [e, e]
  have h3 : PyData.eqv (.str a) (.str b) = (a == b) := by simp [PyData.eqv]
  rw [h3]
@[simp] theorem eqP_i : eqP st (.int m) (.int n) = some (m == n) := by
  show (if SeqAt.shaped (.int m) && SeqAt.shaped (.int n) then some (PyData.eqv (.int m) (.int n)) else none) = _
  have e : ∀ c : Int, SeqAt.shaped (.int c) = true := fun c => by simp [SeqAt.shaped, PyData.canLay0, PyData.depth]
  have h3 : PyData.eqv (.int m) (.int n) = (m == n) := by simp [PyData.eqv]
  rw [e, e, h3]; rfl
@[simp] theorem eqP_b {a b : Bool} : eqP st (.bl a) (.bl b) = some (a == b) := by
  show (if SeqAt.shaped (.bool a) && SeqAt.shaped (.bool b) then some (PyData.eqv (.bool a) (.bool b)) else none) = _
  have e : ∀ c : Bool, SeqAt.shaped (.bool c) = true := fun c => by simp [SeqAt.shaped, PyData.canLay0, PyData.depth]
  have h3 : PyData.eqv (.bool a) (.bool b) = (a == b) := by simp [PyData.eqv]
  rw [e, e, h3]; rfl
@[simp] theorem fLen_t : fLen (.tup xs) st = some (.int xs.length, st) := rfl
@[simp] theorem fLen_f : fLen (.frz xs) st = some (.int xs.length, st) := rfl
@[simp] theorem fLen_s {a : Str} : fLen (.str a) st = (if a.length ≤ 9000000 then some (.int (a.length : Int), st) else none) := by
  unfold fLen lenP
  by_cases h : a.length ≤ 9000000
  · simp only [if_pos h]; rfl
  · simp only [if_neg h]; rfl
theorem fLen_l {n : Nat} (h : st[n]? = some (.lst xs)) : fLen (.ref n) st = some (.int xs.length, st) := by
  unfold fLen lenP
  simp only [h]
  rfl
theorem fLen_d {n : Nat} {kvs : List (Key × PV)} (h : st[n]? = some (.dK kvs)) : fLen (.ref n) st = some (.int kvs.length, st) := by
  unfold fLen lenP
  simp only [h]
  rfl
@[simp] theorem fTuple_e : fTuple x st = (itemsOf st x).map fun xs => (.tup xs, st) := rfl
@[simp] theorem fList_e : fList x st = (itemsOf st x).map fun xs => (.ref st.length, st ++ [.lst xs]) := rfl
@[simp] theorem itemsOf_t : itemsOf st (.tup xs) = some xs := rfl
@[simp] theorem itemsOf_f : itemsOf st (.frz xs) = some xs := rfl
@[simp] theorem itemsOf_r {n : Nat} : itemsOf st (.ref n) = match st[n]? with
    | some (.lst xs) => some xs
    | _ => none := rfl
@[simp] theorem listOf_r {n : Nat} : listOf st (.ref n) = match st[n]? with
    | some (.lst xs) => some xs
    | _ => none := rfl
@[simp] theorem dictOf_t : dictOf st (.tup xs) = none := rfl
@[simp] theorem dictOf_f : dictOf st (.frz xs) = none := rfl
@[simp] theorem dictOf_s {a : Str} : dictOf st (.str a) = none := rfl
@[simp] theorem dictOf_r {n : Nat} : dictOf st (.ref n) = match st[n]? with
    | some (.dK kvs) => some kvs
    | _ => none := rfl
@[simp] theorem fInt1_i : fInt1 (.int m) st = some (.int m, st) := rfl
@[simp] theorem fInt1_b {b : Bool} : fInt1 (.bl b) st = some (.int (if b then 1 else 0), st) := rfl
@[simp] theorem fAbs_i : fAbs (.int m) st = some (.int (if m < 0 then -m else m), st) := rfl
@[simp] theorem fStr_i : fStr (.int m) st = if m.natAbs < 2 ^ 1000 then some (.str (toString m), st) else none := rfl
@[simp] theorem fRepr_b {b : Bool} : fRepr (.bl b) st = some (.str (if b then "True" else "False"), st) := rfl
@[simp] theorem fSubA_t : fSubA (.tup xs) (.int m) st = (atI xs m).map fun v => (v, st) := rfl
theorem fSubA_l {n : Nat} (h : st[n]? = some (.lst xs)) : fSubA (.ref n) (.int m) st = (atI xs m).map fun v => (v, st) := by
  have e1 : dictOf st (.ref n) = none := by simp only [dictOf_r, h]
  unfold fSubA
  rw [e1]
  show (match itemsOf st (.ref n) with
      | some xs => (atI xs m).map fun v => (v, st)
      | none => none) = _
  rw [itemsOf_r, h]
theorem fSubA_d {n : Nat} {kvs : List (Key × PV)} (h : st[n]? = some (.dK kvs)) {k : Key} (hk : keyP y = some k) : fSubA (.ref n) y st = (findP kvs k).map fun v => (v, st) := by
  have e1 : dictOf st (.ref n) = some kvs := by simp only [dictOf_r, h]
  unfold fSubA
  rw [e1, hk]
theorem at_nat {α : Type} {xs : List α} {i : Nat} {x : α} (h : xs[i]? = some x) : atI xs (i : Int) = some x := atI_nat h
@[simp] theorem atI_0 {α : Type} {x : α} {xs : List α} : atI (x :: xs) 0 = some x := at_nat (i := 0) rfl
@[simp] theorem atI_1 {α : Type} {x y : α} {xs : List α} : atI (x :: y :: xs) 1 = some y := at_nat (i := 1) rfl
@[simp] theorem atI_2 {α : Type} {x y z : α} {xs : List α} : atI (x :: y :: z :: xs) 2 = some z := at_nat (i := 2) rfl
@[simp] theorem atI_3 {α : Type} {x y z w : α} {xs : List α} : atI (x :: y :: z :: w :: xs) 3 = some w := at_nat (i := 3) rfl
theorem atI_in {α : Type} {xs : List α} {i : Int} (h0 : 0 ≤ i) (h1 : i < xs.length) : ∃ x, x ∈ xs ∧ atI xs i = some x := by
  obtain ⟨k, rfl⟩ := Int.eq_ofNat_of_zero_le h0
  have hk : k < xs.length := by omega
  exact ⟨xs[k], List.getElem_mem hk, at_nat (List.getElem?_eq_getElem hk)⟩
theorem atI_out {α : Type} {xs : List α} {i : Int} (h : ¬ (-(xs.length : Int) ≤ i ∧ i < xs.length)) : atI xs i = none := by
  unfold atI ixN
  split
  · rw [if_neg (by omega)]; rfl
  · rw [if_neg (by omega)]; rfl
@[simp] theorem iMaxDef_e : iMaxDef ir ir' env st = ob (ir env st) fun xs s1 => ob (ir' env s1) fun zs s2 => match xs, zs with
  | [x], [.int d] => (intsOf s2 x).map fun ns => (.int (maxI ns d), s2)
  | _, _ => none := rfl
@[simp] theorem fIsi_e : fIsi x y st = (isP st x y).map fun b => (.bl b, st) := rfl
theorem kb_tt : kitB "tuple" "tuple" = some true := by decide +kernel
theorem kb_st : kitB "str" "tuple" = some false := by decide +kernel
theorem kb_nt : kitB "NoneType" "tuple" = some false := by decide +kernel
theorem kb_bt : kitB "bool" "tuple" = some false := by decide +kernel
theorem kb_it : kitB "int" "tuple" = some false := by decide +kernel
@[simp] theorem isP_tt : isP st (.tup xs) (.ty "tuple") = some true := kb_tt
@[simp] theorem isP_st {a : Str} : isP st (.str a) (.ty "tuple") = some false := kb_st
@[simp] theorem isP_nt : isP st .non (.ty "tuple") = some false := kb_nt
@[simp] theorem isP_bt {b : Bool} : isP st (.bl b) (.ty "tuple") = some false := kb_bt
@[simp] theorem isP_it : isP st (.int m) (.ty "tuple") = some false := kb_it
@[simp] theorem fAll_e : fAll x st = (blsOf st x).map fun bs => (.bl (bs.all id), st) := rfl
@[simp] theorem fSl_t {lo hi : Option Int} : fSl (.tup xs) lo hi st = some (.tup (cutP xs lo hi), st) := rfl
@[simp] theorem fSl_f {lo hi : Option Int} : fSl (.frz xs) lo hi st = some (.ref st.length, st ++ [.lst (cutP xs lo hi)]) := rfl
@[simp] theorem fInA_e : fInA x y st = (inA st x y).map fun b => (.bl b, st) := rfl
@[simp] theorem inA_st {a : Str} : inA st (.str a) (.tup ys) = (mapO flatP ys).map fun ws => inV (.str a) ws := by
  unfold inA
  rfl
end
/-! ### the store -/
@[simp] theorem new_at {st : Sto} {o : SO} : (st ++ [o])[st.length]? = some o := by
  rw [List.getElem?_append_right (Nat.le_refl _)]; simp
theorem old_at {st l : Sto} {n : Nat} {o : SO} (h : st[n]? = some o) : (st ++ l)[n]? = some o := by
  rw [List.getElem?_append_left (List.getElem?_eq_some_iff.mp h).1]; exact h
theorem lt_of_at {st : Sto} {n : Nat} {o : SO} (h : st[n]? = some o) : n < st.length := (List.getElem?_eq_some_iff.mp h).1
/-! ### equal data -/
/-- data without a store -/
def pureP : PV → Prop := fun x => ∀ st, ∃ d, toD st 70 x = some d ∧ SeqAt.shaped d = true
theorem eqP_self {st : Sto} {x : PV} (h : pureP x) : eqP st x x = some true := by
  obtain ⟨d, e, hs⟩ := h st
  unfold eqP
  rw [e]
  simp only [hs, Bool.and_self, if_true]
  have hc : d.canLay0 = true := SeqAt.canLay_of_shaped hs
  rw [SeqAt.eqv_refl d hc]
end IL

/-! Data without a store; loops by what holds between turns. -/
namespace IL
open PySem PySem.Spec PyProof.Rows L2

mutual
def datP : PV → PyData
  | .non => .none
  | .bl b => .bool b
  | .int i => .int i
  | .str x => .str x
  | .tup xs => .tuple (datPs xs)
  | .frz xs => .list (datPs xs)
  | .ref _ => .none
  | .ty _ => .none
  | .fdk _ _ => .none
def datPs : List PV → List PyData
  | [] => []
  | x :: xs => datP x :: datPs xs
end
mutual
/-- data, at most so deep -/
def gd : PV → Nat → Bool
  | .non, _ => true
  | .bl _, _ => true
  | .int _, _ => true
  | .str x, _ => PyData.strOk x
  | .tup xs, n => decide (0 < n) && gds xs (n - 1)
  | .frz xs, n => decide (0 < n) && gds xs (n - 1)
  | .ref _, _ => false
  | .ty _, _ => false
  | .fdk _ _, _ => false
def gds : List PV → Nat → Bool
  | [], _ => true
  | x :: xs, n => gd x n && gds xs n
end
mutual
theorem gd_dat {st : Sto} : ∀ (x : PV) (n f : Nat), gd x n = true → n < f → toD st f x = some (datP x) ∧ (datP x).canLay0 = true ∧ (datP x).depth ≤ n
  | .non, n, 0, _, hf => absurd hf (by omega)
  | .bl b, n, 0, _, hf => absurd hf (by omega)
  | .int i, n, 0, _, hf => absurd hf (by omega)
  | .str x, n, 0, _, hf => absurd hf (by omega)
  | .tup xs, n, 0, _, hf => absurd hf (by omega)
  | .frz xs, n, 0, _, hf => absurd hf (by omega)
  | .ref _, n, _, h, _ => by simp [gd] at h
  | .ty _, n, _, h, _ => by simp [gd] at h
  | .fdk _ _, n, _, h, _ => by simp [gd] at h
  | .non, n, f + 1, _, _ => ⟨rfl, by simp [datP, PyData.canLay0], by simp [datP, PyData.depth]⟩
  | .bl b, n, f + 1, _, _ => ⟨rfl, by simp [datP, PyData.canLay0], by simp [datP, PyData.depth]⟩
  | .int i, n, f + 1, _, _ => ⟨rfl, by simp [datP, PyData.canLay0], by simp [datP, PyData.depth]⟩
  | .str x, n, f + 1, h, _ => ⟨rfl, by unfold gd at h; simp only [datP, PyData.canLay0]; exact h, by simp [datP, PyData.depth]⟩
  | .tup xs, n, f + 1, h, hf => by
    unfold gd at h
    rw [Bool.and_eq_true, decide_eq_true_eq] at h
    obtain ⟨h1, h2, h3⟩ := gds_dat (st := st) xs (n - 1) f h.2 (by omega)
    refine ⟨?_, ?_, ?_⟩
    · show (mapO (toD st f) xs).map PyData.tuple = _
      rw [h1]; rfl
    · simp only [datP, PyData.canLay0]; exact h2
    · simp only [datP, PyData.depth]; omega
  | .frz xs, n, f + 1, h, hf => by
    unfold gd at h
    rw [Bool.and_eq_true, decide_eq_true_eq] at h
    obtain ⟨h1, h2, h3⟩ := gds_dat (st := st) xs (n - 1) f h.2 (by omega)
    refine ⟨?_, ?_, ?_⟩
    · show (mapO (toD st f) xs).map PyData.list = _
      rw [h1]; rfl
    · simp only [datP, PyData.canLay0]; exact h2
    · simp only [datP, PyData.depth]; omega
theorem gds_dat {st : Sto} : ∀ (xs : List PV) (n f : Nat), gds xs n = true → n < f → mapO (toD st f) xs = some (datPs xs) ∧ PyData.canLayAll0 (datPs xs) = true ∧ PyData.depthAll (datPs xs) ≤ n
  | [], n, f, _, _ => ⟨rfl, by simp [datPs, PyData.canLayAll0], by simp [datPs, PyData.depthAll]⟩
  | x :: xs, n, f, h, hf => by
    unfold gds at h
    rw [Bool.and_eq_true] at h
    obtain ⟨a1, a2, a3⟩ := gd_dat (st := st) x n f h.1 hf
    obtain ⟨b1, b2, b3⟩ := gds_dat (st := st) xs n f h.2 hf
    refine ⟨?_, ?_, ?_⟩
    · unfold mapO
      rw [a1, b1]; rfl
    · simp only [datPs, PyData.canLayAll0, a2, b2]; rfl
    · simp only [datPs, PyData.depthAll]; omega
end
theorem gd_shaped {x : PV} (h : gd x 60 = true) : SeqAt.shaped (datP x) = true := by
  obtain ⟨_, h2, h3⟩ := gd_dat (st := []) x 60 61 h (by omega)
  unfold SeqAt.shaped
  rw [h2, decide_eq_true (by omega)]; rfl
theorem eqP_gd {st : Sto} {x y : PV} (hx : gd x 60 = true) (hy : gd y 60 = true) : eqP st x y = some (PyData.eqv (datP x) (datP y)) := by
  unfold eqP
  rw [(gd_dat (st := st) x 60 70 hx (by omega)).1, (gd_dat (st := st) y 60 70 hy (by omega)).1]
  simp only [gd_shaped hx, gd_shaped hy, Bool.and_self, if_true]
theorem eqP_gd_self {st : Sto} {x : PV} (hx : gd x 60 = true) : eqP st x x = some true := by
  rw [eqP_gd hx hx, SeqAt.eqv_refl _ (SeqAt.canLay_of_shaped (gd_shaped hx))]
theorem gds_all {xs : List PV} {n : Nat} : (∀ x ∈ xs, gd x n = true) → gds xs n = true := by
  induction xs with
  | nil => intro _; rfl
  | cons x xs ih =>
    intro h
    unfold gds
    rw [h x List.mem_cons_self, ih fun y hy => h y (List.mem_cons_of_mem _ hy)]; rfl

/-! ### a list made item by item, each of its values data, the store grown by what nobody needs -/
theorem set_mid {α : Type} {a l : List α} {o o' : α} : (a ++ [o] ++ l).set a.length o' = a ++ [o'] ++ l := by
  rw [List.append_assoc, List.append_assoc, List.set_append_right _ _ (Nat.le_refl _), Nat.sub_self]; rfl
theorem at_mid {α : Type} {a l : List α} {o : α} : (a ++ [o] ++ l)[a.length]? = some o := by
  rw [List.append_assoc, List.getElem?_append_right (Nat.le_refl _), Nat.sub_self]; rfl
theorem lc_gar {all : List PV} {ig : IG} {t : IT} {e : IE} {st : Sto} {envw : PEnv} (g : PV → PV) (hl : all.length < 9000000)
    (h : ∀ x ∈ all, ∀ s : Sto, ∃ env1 l, ig x envw s = some env1 ∧ t env1 s = some (true, s) ∧ e env1 s = some (g x, s ++ l)) :
    ∀ (ys pre : List PV) (l : Sto), all = pre ++ ys → ∃ l', lcLoop (srcT all).at_ ig t e st.length envw (ys.length + 1) pre.length (st ++ [.lst (pre.map g)] ++ l) = some (st ++ [.lst (all.map g)] ++ l')
  | [], pre, l, he => by
    rw [List.append_nil] at he
    subst he
    refine ⟨l, ?_⟩
    unfold lcLoop
    simp [srcT]
  | y :: ys, pre, l, he => by
    obtain ⟨env1, l1, h1, h2, h3⟩ := h y (by rw [he]; simp) (st ++ [.lst (pre.map g)] ++ l)
    have hat : (srcT all).at_ (st ++ [.lst (pre.map g)] ++ l) pre.length = some (some y) := by
      simp only [srcT]
      rw [he, List.getElem?_append_right (Nat.le_refl _), Nat.sub_self]; rfl
    have hs : (st ++ [.lst (pre.map g)] ++ l ++ l1)[st.length]? = some (.lst (pre.map g)) := by
      rw [List.append_assoc (st ++ [_])]
      exact at_mid
    have hlen : (pre.map g).length < 9000000 := by
      rw [List.length_map]
      have := congrArg List.length he
      rw [List.length_append] at this
      omega
    obtain ⟨l', hr⟩ := lc_gar (t := t) (st := st) g hl h ys (pre ++ [y]) (l ++ l1) (by rw [he]; simp)
    refine ⟨l', ?_⟩
    rw [← hr]
    show lcLoop _ _ _ _ _ _ (ys.length + 1 + 1) _ _ = _
    conv => lhs; unfold lcLoop
    simp only [hat, h1, h2, h3, hs, hlen, if_true]
    have e2 : (st ++ [SO.lst (pre.map g)] ++ l ++ l1).set st.length (.lst (pre.map g ++ [g y])) = st ++ [SO.lst ((pre ++ [y]).map g)] ++ (l ++ l1) := by
      rw [List.append_assoc (st ++ [_]), set_mid]
      simp
    rw [e2, List.length_append]
    rfl
/-- [e for x in a tuple] -/
theorem iLc_tup {ie e : IE} {ig : IG} {t : IT} {vs : List Nat} {env : PEnv} {st s1 : Sto} {xs : List PV} (g : PV → PV) (hi : ie env st = some (.tup xs, s1)) (hl : xs.length < 9000000)
    (h : ∀ x ∈ xs, ∀ s : Sto, ∃ env1 l, ig x (wipeE env vs) s = some env1 ∧ t env1 s = some (true, s) ∧ e env1 s = some (g x, s ++ l)) :
    ∃ l, iLc (iWalk ie) ig t e vs env st = some (.ref s1.length, s1 ++ [.lst (xs.map g)] ++ l) := by
  obtain ⟨l, hr⟩ := lc_gar (t := t) (e := e) (st := s1) g hl h xs [] [] rfl
  refine ⟨l, ?_⟩
  unfold iLc
  simp only [iWalk_e, hi, ob_s]
  have e3 : (srcT xs).n = xs.length := rfl
  rw [e3]
  simp only [List.map_nil, List.append_nil, List.length_nil] at hr
  rw [hr]; rfl
theorem srcS_eq (x : Str) : srcS x = srcT (x.cps.toList.map fun c => .str ⟨#[c]⟩) := by
  unfold srcS srcT
  congr 1
  · simp [Str.length]
  · funext st i
    simp
/-- [e for x in a text] -/
theorem iLc_str {ie e : IE} {ig : IG} {t : IT} {vs : List Nat} {env : PEnv} {st s1 : Sto} {x : Str} (g : PV → PV) (hi : ie env st = some (.str x, s1)) (hl : x.length < 9000000)
    (h : ∀ c ∈ x.cps.toList, ∀ s : Sto, ∃ env1 l, ig (.str ⟨#[c]⟩) (wipeE env vs) s = some env1 ∧ t env1 s = some (true, s) ∧ e env1 s = some (g (.str ⟨#[c]⟩), s ++ l)) :
    ∃ l, iLc (iWalk ie) ig t e vs env st = some (.ref s1.length, s1 ++ [.lst ((x.cps.toList.map fun c => .str ⟨#[c]⟩).map g)] ++ l) := by
  have hn : (x.cps.toList.map fun c => PV.str ⟨#[c]⟩).length = x.length := by simp [Str.length]
  obtain ⟨l, hr⟩ := lc_gar (t := t) (e := e) (ig := ig) (envw := wipeE env vs) (st := s1) (all := x.cps.toList.map fun c => .str ⟨#[c]⟩) g (by rw [hn]; exact hl) (fun y hy s => by
    obtain ⟨c, hc, rfl⟩ := List.mem_map.mp hy
    exact h c hc s) (x.cps.toList.map fun c => .str ⟨#[c]⟩) [] [] rfl
  refine ⟨l, ?_⟩
  unfold iLc
  simp only [iWalk_e, hi, ob_s, srcS_eq]
  have e3 : (srcT (x.cps.toList.map fun c => PV.str ⟨#[c]⟩)).n = (x.cps.toList.map fun c => PV.str ⟨#[c]⟩).length := rfl
  rw [e3]
  simp only [List.map_nil, List.append_nil, List.length_nil] at hr
  rw [hr]; rfl
/-! ### loops by what holds between turns -/
theorem loop_inv {at_ : Sto → Nat → Option (Option PV)} {ig : IG} {body : IS} (I : Nat → PEnv → Sto → Prop) (N : Nat) (hstop : ∀ e s, I N e s → at_ s N = some none)
    (hstep : ∀ i e s, i < N → I i e s → ∃ x e1 e2 s2, at_ s i = some (some x) ∧ ig x e s = some e1 ∧ (body e1 s = some (.nx e2 s2) ∨ body e1 s = some (.ct e2 s2)) ∧ I (i + 1) e2 s2) :
    ∀ (m i : Nat) (e : PEnv) (s : Sto), I i e s → i ≤ N → N - i < m → ∃ e' s', loop at_ ig body m i e s = some (.nx e' s') ∧ I N e' s'
  | 0, i, e, s, _, _, hm => absurd hm (by omega)
  | m + 1, i, e, s, hI, hi, hm => by
    by_cases hN : i = N
    · subst hN
      refine ⟨e, s, ?_, hI⟩
      unfold loop
      rw [hstop e s hI]
    · obtain ⟨x, e1, e2, s2, h1, h2, h3, h4⟩ := hstep i e s (by omega) hI
      obtain ⟨e', s', h5, h6⟩ := loop_inv I N hstop hstep m (i + 1) e2 s2 h4 (by omega) (by omega)
      refine ⟨e', s', ?_, h6⟩
      unfold loop
      simp only [h1, h2]
      rcases h3 with h3 | h3 <;> simp only [h3] <;> exact h5
theorem lc_inv {at_ : Sto → Nat → Option (Option PV)} {ig : IG} {t : IT} {e : IE} {d : Nat} {envw : PEnv} (I : Nat → List PV → Sto → Prop) (N : Nat) (hstop : ∀ acc s, I N acc s → at_ s N = some none)
    (hstep : ∀ i acc s, i < N → I i acc s → ∃ x env1 y s2, at_ s i = some (some x) ∧ ig x envw s = some env1 ∧ t env1 s = some (true, s) ∧ e env1 s = some (y, s2) ∧ s2[d]? = some (.lst acc) ∧ acc.length < 9000000 ∧ I (i + 1) (acc ++ [y]) (s2.set d (.lst (acc ++ [y])))) :
    ∀ (m i : Nat) (acc : List PV) (s : Sto), I i acc s → i ≤ N → N - i < m → ∃ acc' s', lcLoop at_ ig t e d envw m i s = some s' ∧ I N acc' s'
  | 0, i, acc, s, _, _, hm => absurd hm (by omega)
  | m + 1, i, acc, s, hI, hi, hm => by
    by_cases hN : i = N
    · subst hN
      refine ⟨acc, s, ?_, hI⟩
      unfold lcLoop
      rw [hstop acc s hI]
    · obtain ⟨x, env1, y, s2, h1, h2, h3, h4, h5, h6, h7⟩ := hstep i acc s (by omega) hI
      obtain ⟨acc', s', h8, h9⟩ := lc_inv I N hstop hstep m (i + 1) (acc ++ [y]) _ h7 (by omega) (by omega)
      refine ⟨acc', s', ?_, h9⟩
      unfold lcLoop
      simp only [h1, h2, h3, h4, h5, h6, if_true]
      exact h8
/-! ### truth of membership in written tuples -/
@[simp] theorem mapO_nil {α β : Type} {f : α → Option β} : mapO f [] = some [] := rfl
@[simp] theorem mapO_cons {α β : Type} {f : α → Option β} {x : α} {xs : List α} : mapO f (x :: xs) = match f x, mapO f xs with
    | some y, some ys => some (y :: ys)
    | _, _ => none := rfl
@[simp] theorem flatP_s {a : Str} : flatP (.str a) = some (.str a) := rfl
@[simp] theorem flatP_i {a : Int} : flatP (.int a) = some (.int a) := rfl
@[simp] theorem flatP_n : flatP .non = some .non := rfl
@[simp] theorem inV_nil {x : V} : inV x [] = false := rfl
@[simp] theorem inV_cons {x y : V} {ys : List V} : inV x (y :: ys) = (eqV y x || inV x ys) := rfl
@[simp] theorem eqV_ss {a b : Str} : eqV (.str a) (.str b) = (a == b) := rfl
@[simp] theorem eqV_ns {b : Str} : eqV .non (.str b) = false := rfl
@[simp] theorem eqV_sn {b : Str} : eqV (.str b) .non = false := rfl
@[simp] theorem eqV_nn : eqV .non .non = true := rfl
end IL

/-! Powers, greatest of a list, the first item taken out. -/
namespace IL
open PySem PySem.Spec PyProof.Rows L2
section
variable {X : Cx} {o e : Expr} {ia ib ie : IE} {pos : Pos}
def cPow (a b : Int) : Bool := decide (0 ≤ b) && decide (b ≤ 1000000) && decide (a.natAbs < 2 ^ 64)
def fPow : F2 := fInt cPow fun i j => i ^ j.toNat
theorem f_pow {K : PySem.W.Frag} : OpI K (rI CPow fun i j => .int (i ^ j.toNat)) fPow := f_int fun a b h => by
  unfold cPow at h
  simp only [Bool.and_eq_true, decide_eq_true_eq] at h
  exact ⟨h.1.1, h.1.2, h.2⟩
/-- max of a list of ints -/
def fMax : F1 := fun x st => match intsOf st x with
  | some (n :: ns) => some (.int (maxI (n :: ns) 0), st)
  | _ => none
theorem foldl_max : ∀ (ys : List Int) (y : Int), (∀ z ∈ y :: ys, z ≤ ys.foldl (fun a z => if a < z then z else a) y) ∧ ys.foldl (fun a z => if a < z then z else a) y ∈ y :: ys
  | [], y => ⟨by simp, by simp⟩
  | x :: ys, y => by
    obtain ⟨h1, h2⟩ := foldl_max ys (if y < x then x else y)
    rw [List.foldl_cons]
    have h0 := h1 (if y < x then x else y) List.mem_cons_self
    have h3 : y ≤ (if y < x then x else y) ∧ x ≤ (if y < x then x else y) := by split <;> omega
    refine ⟨fun z hz => ?_, ?_⟩
    · rcases List.mem_cons.mp hz with rfl | hz
      · exact Int.le_trans h3.1 h0
      · rcases List.mem_cons.mp hz with rfl | hz
        · exact Int.le_trans h3.2 h0
        · exact h1 z (List.mem_cons_of_mem _ hz)
    · rcases List.mem_cons.mp h2 with h | h
      · rw [h]
        split
        · exact List.mem_cons_of_mem _ List.mem_cons_self
        · exact List.mem_cons_self
      · exact List.mem_cons_of_mem _ (List.mem_cons_of_mem _ h)
theorem f_max {K : PySem.W.Frag} : CallI K (rMax K) (a1 fMax) := call1 fun H ρ st x vx z st' Q S R h q => by
  unfold fMax at h
  split at h
  · rename_i n ns e
    cases h
    unfold intsOf at e
    split at e
    · rename_i xs e1
      obtain ⟨a, vs, rfl, t, r⟩ := list_rep S R e1
      rw [ints_reps r e] at t
      obtain ⟨g1, g2⟩ := foldl_max ns n
      refine ⟨a, n :: ns, rfl, t, by simp, fun m hm hle => ?_⟩
      have hmm : m = maxI (n :: ns) 0 := by
        have k1 := hle _ g2
        have k2 := g1 m hm
        show m = List.foldl _ _ _
        omega
      rw [hmm]
      exact q _ H ρ Grow.refl S (by unfold Rep; rfl)
    · cases e
  · cases h
/-- xs.pop(0) -/
def iPop0 (io ie : IE) : IE := fun env st => ob (io env st) fun o s1 => match o with
  | .ref n => match s1[n]? with
    | some (.lst _) => ob (ie env s1) fun x s2 => match s2[n]?, x with
      | some (.lst (y :: ys)), .int 0 => some (y, s2.set n (.lst ys))
      | _, _ => none
    | _ => none
  | _ => none
theorem r_pop0 {apos cpos : Pos} (ho : PE X o (tI X.K ia)) (he : PE X e (tI X.K ib))
    (hbase : attributeBase o "pop" X.env (eval o X.env) = eval o X.env := by rfl)
    (hfew : ((backTo cpos (starEach (e :: []) X.env)).all (fun x => !x.1) && (backToKw cpos (keywordEach [] X.env)).all (fun x => x.1.isSome)
      && decide ((e :: []).length + ([] : List Keyword).length + (if ([] : List Keyword).isEmpty then 0 else 1) < 30)) = true := by rfl)
    (hline : (apos.endLine == cpos.line) = true := by rfl) (hs : starEach (e :: []) X.env = (false, eval e X.env) :: starEach [] X.env := by rfl) (hplain : (backTo cpos (starEach [] X.env)).any (·.1) = false := by rfl) :
    PE X (.Call (.Attribute o "pop" apos) [e] [] cpos) (tI X.K (iPop0 ia ib)) :=
  PE.imp (pe_bm PySem.F.plainAttrs_list PySem.F.slot_list_pop PySem.F.type_list_pop mt_popAt ho (pa_cons he pa_nil hs) hbase hfew hline hs hplain) fun σ H Q ⟨env, st, ρ, z, st', E, S, h, q⟩ => by
    obtain ⟨x, s1, h1, h⟩ := ob_some h
    refine ⟨env, st, ρ, x, s1, E, S, h1, fun vx H1 ρ1 G1 S1 R1 => ?_⟩
    split at h
    · rename_i n
      split at h
      · rename_i ws e0
        obtain ⟨y, s2, h2, h⟩ := ob_some h
        split at h
        · rename_i w xs e1
          cases h
          unfold Rep at R1
          obtain ⟨a, rfl, i1⟩ := R1
          refine ⟨?_, env, s1, ρ1, .int 0, s2, E.grow S G1, S1, h2, fun vy H2 ρ2 G2 S2 R2 => ?_⟩
          · obtain ⟨b1, hb1, vs1, h3, r1⟩ := S1.at_ _ _ e0
            rw [i1] at hb1; cases hb1
            exact .inl ⟨rfl, vs1, .of h3⟩
          · have i2 := G2.ix i1
            obtain ⟨b1, hb1, vs1, h3, r1⟩ := S2.at_ _ _ e1
            rw [i2] at hb1; cases hb1
            have ndd := S2.lv _ _ _ e1 (by simp) i2
            unfold Rep at R2
            subst R2
            unfold Reps at r1
            obtain ⟨v0, vr, rfl, r2, r3⟩ := r1
            have g : Grow H2 ρ2 (upd H2 a (.lst vr)) ρ2 := grow_write h3 (List.mem_of_getElem? i2) ndd
            exact ⟨a, v0 :: vr, 0, 0, v0, rfl, rfl, h3, by decide, by decide, by simp [seqIndex?], rfl, q v0 _ ρ2 ((G1.trans G2).trans g) (S2.write (so := .lst xs) i2 ndd h3 ⟨_, upd_same, Reps.grow S2 g _ _ r3⟩) (Rep.grow S2 g _ _ r2)⟩
        · cases h
      · cases h
    · cases h
@[simp] theorem fPow_i {m n : Int} {st : Sto} : fPow (.int m) (.int n) st = if cPow m n then some (.int (m ^ n.toNat), st) else none := rfl
@[simp] theorem fGt_s {a b : Str} {st : Sto} : fGt (.str a) (.str b) st = some (.bl (ltS b a), st) := rfl
@[simp] theorem fMax_e {x : PV} {st : Sto} : fMax x st = match intsOf st x with
  | some (n :: ns) => some (.int (maxI (n :: ns) 0), st)
  | _ => none := rfl
@[simp] theorem fNotInA_e {x y : PV} {st : Sto} : fNotInA x y st = (inA st x y).map fun b => (.bl (!b), st) := rfl
end
end IL

/-! What statements and calls lead to, where they only add to the store. -/
namespace IL
open PySem PySem.Spec PyProof.Rows L2
def Ext (a b : Sto) : Prop := ∃ l, b = a ++ l
theorem Ext.refl {a : Sto} : Ext a a := ⟨[], by simp⟩
theorem Ext.trans {a b c : Sto} (h : Ext a b) (k : Ext b c) : Ext a c := by
  obtain ⟨l, rfl⟩ := h
  obtain ⟨m, rfl⟩ := k
  exact ⟨l ++ m, by simp⟩
theorem Ext.app {a b l : Sto} (h : Ext a b) : Ext a (b ++ l) := h.trans ⟨l, rfl⟩
theorem Ext.at {a b : Sto} {n : Nat} {o : SO} (h : Ext a b) (e : a[n]? = some o) : b[n]? = some o := by
  obtain ⟨l, rfl⟩ := h
  exact old_at e
def Pu (F : FA) (as : List PV) (v : PV) : Prop := ∃ g : Sto → Sto, (∀ st, F as st = some (v, g st)) ∧ ∀ st, Ext st (g st)
theorem pu {F : FA} {as : List PV} {v : PV} (h : ∀ st : Sto, ∃ l, F as st = some (v, st ++ l)) : Pu F as v :=
  ⟨fun st => st ++ Classical.choose (h st), fun st => Classical.choose_spec (h st), fun st => ⟨_, rfl⟩⟩
theorem pu0 {F : FA} {as : List PV} {v : PV} (h : ∀ st : Sto, F as st = some (v, st)) : Pu F as v := ⟨id, h, fun _ => Ext.refl⟩
theorem for_go {n : Nat} {ig : IG} {body : IS} (I : PEnv → Prop) (all : List PV) (h : ∀ x ∈ all, ∀ e, I e → ∀ s, ∃ e1 e2 s2, ig x e s = some e1 ∧ body e1 s = some (.nx e2 s2) ∧ Ext s s2 ∧ I e2) :
    ∀ (ys pre : List PV) (e : PEnv) (s : Sto), all = pre ++ ys → s[n]? = some (.lst all) → I e → ∃ e2 s2, loop (srcL n all.length).at_ ig body (ys.length + 1) pre.length e s = some (.nx e2 s2) ∧ Ext s s2 ∧ I e2
  | [], pre, e, s, he, hs, hI => by
    rw [List.append_nil] at he
    subst he
    refine ⟨e, s, ?_, Ext.refl, hI⟩
    unfold loop
    simp [srcL, hs]
  | y :: ys, pre, e, s, he, hs, hI => by
    obtain ⟨e1, e2, s2, h1, h2, h3, h4⟩ := h y (by rw [he]; simp) e hI s
    obtain ⟨e3, s3, h5, h6, h7⟩ := for_go (n := n) I all h ys (pre ++ [y]) e2 s2 (by rw [he]; simp) (h3.at hs) h4
    refine ⟨e3, s3, ?_, h3.trans h6, h7⟩
    have hat : (srcL n all.length).at_ s pre.length = some (some y) := by
      simp only [srcL, hs]
      rw [he, List.getElem?_append_right (Nat.le_refl _), Nat.sub_self]; rfl
    show loop _ _ _ (ys.length + 1 + 1) _ _ _ = _
    conv => lhs; unfold loop
    simp only [hat, h1, h2]
    rw [List.length_append] at h5
    exact h5
/-- for x in [..] -/
theorem for_list {ir : IA} {ig : IG} {body : IS} {env : PEnv} {st : Sto} {xs : List PV} (I : PEnv → Prop) (hir : ir env st = some (xs, st)) (hl : xs.length ≤ 9000000) (hI : I env)
    (h : ∀ x ∈ xs, ∀ e, I e → ∀ s, ∃ e1 e2 s2, ig x e s = some e1 ∧ body e1 s = some (.nx e2 s2) ∧ Ext s s2 ∧ I e2) :
    ∃ e2 s2, iFor (iWalk (iLst ir)) ig body env st = some (.nx e2 s2) ∧ Ext st s2 ∧ I e2 := by
  obtain ⟨e2, s2, h1, h2, h3⟩ := for_go (n := st.length) I xs h xs [] env (st ++ [.lst xs]) rfl new_at hI
  refine ⟨e2, s2, ?_, Ext.trans ⟨_, rfl⟩ h2, h3⟩
  simp only [iFor_e, iWalk_e, iLst_e, hir, ob_s, if_pos hl, new_at]
  exact h1
def Goes (p : IS) (env : PEnv) (st : Sto) (Q : PEnv → Sto → Prop) : Prop := ∃ e s, p env st = some (.nx e s) ∧ Q e s
def Ends (p : IS) (env : PEnv) (st : Sto) (v : PV) (Q : Sto → Prop) : Prop := ∃ s, p env st = some (.rt v s) ∧ Q s
section
variable {p q : IS} {env : PEnv} {st : Sto} {v : PV}
theorem ends_seq {R : Sto → Prop} (Q : PEnv → Sto → Prop) (h : Goes p env st Q) (k : ∀ e s, Q e s → Ends q e s v R) : Ends (iSeq p q) env st v R := by
  obtain ⟨e, s, h1, h2⟩ := h
  obtain ⟨s2, h3, h4⟩ := k e s h2
  exact ⟨s2, by rw [iSeq_e, h1]; exact h3, h4⟩
theorem goes_seq {R : PEnv → Sto → Prop} (Q : PEnv → Sto → Prop) (h : Goes p env st Q) (k : ∀ e s, Q e s → Goes q e s R) : Goes (iSeq p q) env st R := by
  obtain ⟨e, s, h1, h2⟩ := h
  obtain ⟨e2, s2, h3, h4⟩ := k e s h2
  exact ⟨e2, s2, by rw [iSeq_e, h1]; exact h3, h4⟩
theorem goes_list {ir : IA} {ig : IG} {body : IS} {xs : List PV} (I : PEnv → Prop) (hir : ir env st = some (xs, st)) (hl : xs.length ≤ 9000000) (hI : I env)
    (h : ∀ x ∈ xs, ∀ e, I e → ∀ s, ∃ e1, ig x e s = some e1 ∧ Goes body e1 s fun e2 s2 => Ext s s2 ∧ I e2) : Goes (iFor (iWalk (iLst ir)) ig body) env st fun e2 s2 => Ext st s2 ∧ I e2 :=
  for_list I hir hl hI fun x hx e he s => by
    obtain ⟨e1, h1, e2, s2, h2, h3⟩ := h x hx e he s
    exact ⟨e1, e2, s2, h1, h2, h3⟩
end
theorem rT {st : Sto} : eqP st (.str ("True" : Str)) (.str ("True" : Str)) = some true := by
  rw [eqP_s, if_pos (by decide +kernel)]
  simp
theorem rF {st : Sto} : eqP st (.str ("False" : Str)) (.str ("False" : Str)) = some true := by
  rw [eqP_s, if_pos (by decide +kernel)]
  simp
theorem Goes.mono {p : IS} {env : PEnv} {st : Sto} {Q R : PEnv → Sto → Prop} (h : Goes p env st Q) (k : ∀ e s, Q e s → R e s) : Goes p env st R := by
  obtain ⟨e, s, h1, h2⟩ := h
  exact ⟨e, s, h1, k e s h2⟩
def Vl (A : IE) (env : PEnv) (v : PV) : Prop := ∀ st, ∃ s, A env st = some (v, s) ∧ Ext st s
def Tl (t : IT) (env : PEnv) (b : Bool) : Prop := ∀ st, ∃ s, t env st = some (b, s) ∧ Ext st s
section
variable {env : PEnv} {v w : PV} {A B : IE} {t u : IT} {p q : IS} {st : Sto}
theorem vl_pure (h : ∀ st, A env st = some (v, st)) : Vl A env v := fun st => ⟨st, h st, Ext.refl⟩
theorem vl_call {F : FA} {ir : IA} {as : List PV} (hir : ∀ st, ir env st = some (as, st)) (h : Pu F as v) : Vl (iCall F ir) env v := fun st => by
  obtain ⟨g, h1, h2⟩ := h
  exact ⟨g st, by rw [iCall_e, hir]; exact h1 st, h2 st⟩
theorem vl_sh {F : FA} {ir : IA} {k : PV} {as : List PV} (hir : ∀ st, ir env st = some (as, st)) (hl : as.length ≤ 9000000) (h : ∀ (st : Sto) (p : Nat), st[p]? = some (.lst as) → ∃ l, F [k, .ref p] st = some (v, st ++ l)) : Vl (iCall F (iCons (iC k) (iCons (iLst ir) iNil))) env v := fun st => by
  obtain ⟨l, e⟩ := h (st ++ [.lst as]) st.length new_at
  refine ⟨st ++ [.lst as] ++ l, ?_, Ext.app ⟨_, rfl⟩⟩
  simp only [iCall_e, iCons_e, iC_e, iLst_e, iNil_e, hir, ob_s, if_pos hl]
  exact e
theorem tl_ne (h1 : Vl A env v) (h2 : Vl B env v) (hg : gd v 60 = true) : Tl (iTestB (iBin fNe A B)) env false := fun st => by
  obtain ⟨s1, a1, a2⟩ := h1 st
  obtain ⟨s2, b1, b2⟩ := h2 s1
  refine ⟨s2, ?_, a2.trans b2⟩
  simp [a1, b1, eqP_gd_self (st := s2) hg]
theorem tl_or (h1 : Tl t env false) (h2 : Tl u env false) : Tl (iOr t u) env false := fun st => by
  obtain ⟨s1, a1, a2⟩ := h1 st
  obtain ⟨s2, b1, b2⟩ := h2 s1
  exact ⟨s2, by simp [a1, b1], a2.trans b2⟩
theorem tl_not (h : Vl A env (.bl true)) : Tl (iNot (iTest A)) env false := fun st => by
  obtain ⟨s1, a1, a2⟩ := h st
  exact ⟨s1, by simp [a1], a2⟩
theorem goes_if (h : Tl t env false) : Goes (iIfS t p iSkip) env st fun e s => e = env ∧ Ext st s := by
  obtain ⟨s1, a1, a2⟩ := h st
  exact ⟨env, s1, by simp [a1], rfl, a2⟩
end
section
variable {st : Sto}
theorem goes_par {i j : Nat} {ir : IA} {env : PEnv} {x y : PV} {s2 : Sto} (h : ir env st = some ([x, y], s2)) {Q : PEnv → Sto → Prop} (q : Q ((env.set i (some x)).set j (some y)) s2) : Goes (iPar i j ir) env st Q :=
  ⟨_, s2, by simp [h], q⟩
theorem goes_asg {i : Nat} {ie : IE} {env : PEnv} {x : PV} {s2 : Sto} (h : ie env st = some (x, s2)) {Q : PEnv → Sto → Prop} (q : Q (env.set i (some x)) s2) : Goes (iAsg (gN i) ie) env st Q :=
  ⟨_, s2, by simp [h], q⟩
end
/-! ### the frame of the law's state -/
structure Fm (s c : Nat) (st st' : Sto) : Prop where
  len : st.length ≤ st'.length
  old : ∀ i, i < st.length → i ≠ s → i ≠ c → st'[i]? = st[i]?
theorem Fm.refl {s c : Nat} {st : Sto} : Fm s c st st := ⟨Nat.le_refl _, fun _ _ _ _ => rfl⟩
theorem Fm.trans {s c : Nat} {a b d : Sto} (h : Fm s c a b) (k : Fm s c b d) : Fm s c a d :=
  ⟨Nat.le_trans h.len k.len, fun i hi h1 h2 => by rw [k.old i (Nat.lt_of_lt_of_le hi h.len) h1 h2, h.old i hi h1 h2]⟩
theorem Fm.app {s c : Nat} {a l : Sto} : Fm s c a (a ++ l) := ⟨by simp, fun i hi _ _ => List.getElem?_append_left hi⟩
theorem Fm.ext {s c : Nat} {a b : Sto} (h : Ext a b) : Fm s c a b := by
  obtain ⟨l, rfl⟩ := h
  exact Fm.app
theorem Fm.set {s c d : Nat} {st : Sto} {o : SO} (h : d = s ∨ d = c) : Fm s c st (st.set d o) :=
  ⟨by simp, fun i hi h1 h2 => List.getElem?_set_ne (by omega)⟩
theorem fSetA_l {n : Nat} {st : Sto} {xs : List PV} {k : Int} {j : Nat} {v : PV} (h : st[n]? = some (.lst xs)) (hj : ixN xs.length k = some j) : fSetA (.ref n) (.int k) v st = some (st.set n (.lst (xs.set j v))) := by
  unfold fSetA fSetL
  simp only [h, hj]
  rfl
theorem ixN_in {n : Nat} {i : Int} (h0 : 0 ≤ i) (h1 : i < n) : ixN n i = some i.toNat := by
  unfold ixN
  rw [if_pos h0, if_pos h1]
theorem fmod_b {a b : Int} (hb : 0 < b) : 0 ≤ a.fmod b ∧ a.fmod b < b := by
  rw [Int.fmod_eq_emod_of_nonneg a (by omega)]
  exact ⟨Int.emod_nonneg _ (by omega), Int.emod_lt_of_pos _ hb⟩
theorem mapO_bls {α : Type} (f : α → Bool) : ∀ xs : List α, mapO isBl (xs.map fun x => .bl (f x)) = some (xs.map f)
  | [] => rfl
  | x :: xs => by
    rw [List.map_cons, mapO_cons, mapO_bls f xs]
    rfl
theorem mapO_intsf {α : Type} (f : α → Int) : ∀ xs : List α, mapO isInt (xs.map fun x => .int (f x)) = some (xs.map f)
  | [] => rfl
  | x :: xs => by
    rw [List.map_cons, mapO_cons, mapO_intsf f xs]
    rfl
theorem mapO_flatbl {α : Type} (f : α → Bool) : ∀ xs : List α, mapO flatP (xs.map fun x => .bl (f x)) = some (xs.map fun x => V.bl (f x))
  | [] => rfl
  | x :: xs => by
    rw [List.map_cons, mapO_cons, mapO_flatbl f xs]
    rfl
theorem inV_bls {α : Type} (f : α → Bool) : ∀ xs : List α, inV (.bl false) (xs.map fun x => V.bl (f x)) = !xs.all f
  | [] => rfl
  | x :: xs => by
    rw [List.map_cons, inV_cons, inV_bls f xs, List.all_cons]
    cases h : f x <;> rfl
/-! ### loops over tuples -/
def foldT (ig : IG) (body : IS) : List PV → PEnv → Sto → Option Fl
  | [], e, s => some (.nx e s)
  | y :: ys, e, s => match ig y e s with
    | some e1 => match body e1 s with
      | some (.nx e2 s2) => foldT ig body ys e2 s2
      | some (.ct e2 s2) => foldT ig body ys e2 s2
      | some (.bk e2 s2) => some (.nx e2 s2)
      | r => r
    | none => none
theorem loop_foldT {ig : IG} {body : IS} {all : List PV} : ∀ (ys pre : List PV) (e : PEnv) (s : Sto), all = pre ++ ys → loop (srcT all).at_ ig body (ys.length + 1) pre.length e s = foldT ig body ys e s
  | [], pre, e, s, he => by
    rw [List.append_nil] at he
    subst he
    unfold loop
    simp [srcT, foldT]
  | y :: ys, pre, e, s, he => by
    have hat : (srcT all).at_ s pre.length = some (some y) := by
      simp only [srcT]
      rw [he, List.getElem?_append_right (Nat.le_refl _), Nat.sub_self]; rfl
    have ih := loop_foldT (ig := ig) (body := body) (all := all) ys (pre ++ [y])
    show loop _ _ _ (ys.length + 1 + 1) _ _ _ = _
    conv => lhs; unfold loop
    conv => rhs; unfold foldT
    simp only [hat]
    rw [List.length_append] at ih
    cases ig y e s with
    | none => rfl
    | some e1 =>
      simp only
      cases body e1 s with
      | none => rfl
      | some r => cases r <;> first | rfl | exact ih _ _ (by rw [he]; simp)
theorem iFor_tup {ie : IE} {ig : IG} {body : IS} {env : PEnv} {st s1 : Sto} {xs : List PV} (h : ie env st = some (.tup xs, s1)) : iFor (iWalk ie) ig body env st = foldT ig body xs env s1 := by
  simp only [iFor_e, iWalk_e, h, ob_s]
  exact loop_foldT xs [] env s1 rfl
theorem iWhile_at (m : Nat) (h : m ≤ 1000000) : ∃ k : Nat, ∀ (t : IT) (body : IS) (env : PEnv) (st : Sto), iWhile t body env st = wloop t body (k + m) env st := ⟨1000000 - m, fun t body env st => by
  unfold iWhile bigN
  congr 1
  omega⟩
/-! ### comprehensions over mapped items, with a filter -/
theorem lc_garm {α : Type} {all : List α} {f g : α → PV} {p : α → Bool} {ig : IG} {t : IT} {e : IE} {st : Sto} {envw : PEnv} (hl : all.length < 9000000)
    (h : ∀ x ∈ all, ∀ s : Sto, ∃ env1, ig (f x) envw s = some env1 ∧ t env1 s = some (p x, s) ∧ (p x = true → ∃ l, e env1 s = some (g x, s ++ l))) :
    ∀ (ys pre : List α) (l : Sto), all = pre ++ ys → ∃ l', lcLoop (srcT (all.map f)).at_ ig t e st.length envw (ys.length + 1) pre.length (st ++ [.lst ((pre.filter p).map g)] ++ l) = some (st ++ [.lst ((all.filter p).map g)] ++ l')
  | [], pre, l, he => by
    rw [List.append_nil] at he
    subst he
    refine ⟨l, ?_⟩
    unfold lcLoop
    simp [srcT]
  | y :: ys, pre, l, he => by
    obtain ⟨env1, h1, h2, h3⟩ := h y (by rw [he]; simp) (st ++ [.lst ((pre.filter p).map g)] ++ l)
    have hat : (srcT (all.map f)).at_ (st ++ [.lst ((pre.filter p).map g)] ++ l) pre.length = some (some (f y)) := by
      simp only [srcT]
      rw [he, List.map_append, List.getElem?_append_right (by simp)]
      simp
    cases hp : p y with
    | false =>
      rw [hp] at h2
      obtain ⟨l', hr⟩ := lc_garm (t := t) (st := st) hl h ys (pre ++ [y]) l (by rw [he]; simp)
      refine ⟨l', ?_⟩
      rw [← hr]
      show lcLoop _ _ _ _ _ _ (ys.length + 1 + 1) _ _ = _
      conv => lhs; unfold lcLoop
      simp only [hat, h1, h2]
      rw [List.filter_append, List.length_append]
      simp [hp]
    | true =>
      rw [hp] at h2
      obtain ⟨l1, h3⟩ := h3 hp
      have hs : (st ++ [.lst ((pre.filter p).map g)] ++ l ++ l1)[st.length]? = some (.lst ((pre.filter p).map g)) := by
        rw [List.append_assoc (st ++ [_])]
        exact at_mid
      have hlen : ((pre.filter p).map g).length < 9000000 := by
        rw [List.length_map]
        have := congrArg List.length he
        have h9 := List.length_filter_le p pre
        rw [List.length_append] at this
        omega
      obtain ⟨l', hr⟩ := lc_garm (t := t) (st := st) hl h ys (pre ++ [y]) (l ++ l1) (by rw [he]; simp)
      refine ⟨l', ?_⟩
      rw [← hr]
      show lcLoop _ _ _ _ _ _ (ys.length + 1 + 1) _ _ = _
      conv => lhs; unfold lcLoop
      simp only [hat, h1, h2, h3, hs, hlen, if_true]
      have e2 : (st ++ [SO.lst ((pre.filter p).map g)] ++ l ++ l1).set st.length (.lst ((pre.filter p).map g ++ [g y])) = st ++ [SO.lst (((pre ++ [y]).filter p).map g)] ++ (l ++ l1) := by
        rw [List.append_assoc (st ++ [_]), set_mid, List.filter_append]
        simp [hp]
      rw [e2, List.length_append]
      rfl
theorem iLc_tupm {α : Type} {xs : List α} {f g : α → PV} {p : α → Bool} {ie e : IE} {ig : IG} {t : IT} {vs : List Nat} {env : PEnv} {st s1 : Sto} (hi : ie env st = some (.tup (xs.map f), s1)) (hl : xs.length < 9000000)
    (h : ∀ x ∈ xs, ∀ s : Sto, ∃ env1, ig (f x) (wipeE env vs) s = some env1 ∧ t env1 s = some (p x, s) ∧ (p x = true → ∃ l, e env1 s = some (g x, s ++ l))) :
    ∃ l, iLc (iWalk ie) ig t e vs env st = some (.ref s1.length, s1 ++ [.lst ((xs.filter p).map g)] ++ l) := by
  obtain ⟨l, hr⟩ := lc_garm (t := t) (e := e) (st := s1) hl h xs [] [] rfl
  refine ⟨l, ?_⟩
  unfold iLc
  simp only [iWalk_e, hi, ob_s]
  have e3 : (srcT (xs.map f)).n = xs.length := by simp [srcT]
  rw [e3]
  simp only [List.filter_nil, List.map_nil, List.append_nil, List.length_nil] at hr
  rw [hr]; rfl
theorem iLc_strm {x : Str} {g : Nat → PV} {p : Nat → Bool} {ie e : IE} {ig : IG} {t : IT} {vs : List Nat} {env : PEnv} {st s1 : Sto} (hi : ie env st = some (.str x, s1)) (hl : x.length < 9000000)
    (h : ∀ c ∈ x.cps.toList, ∀ s : Sto, ∃ env1, ig (.str ⟨#[c]⟩) (wipeE env vs) s = some env1 ∧ t env1 s = some (p c, s) ∧ (p c = true → ∃ l, e env1 s = some (g c, s ++ l))) :
    ∃ l, iLc (iWalk ie) ig t e vs env st = some (.ref s1.length, s1 ++ [.lst ((x.cps.toList.filter p).map g)] ++ l) := by
  have hn : x.cps.toList.length = x.length := by simp [Str.length]
  obtain ⟨l, hr⟩ := lc_garm (t := t) (e := e) (ig := ig) (envw := wipeE env vs) (st := s1) (f := fun c => PV.str ⟨#[c]⟩) (by rw [hn]; exact hl) h x.cps.toList [] [] rfl
  refine ⟨l, ?_⟩
  unfold iLc
  simp only [iWalk_e, hi, ob_s, srcS_eq]
  have e3 : (srcT (x.cps.toList.map fun c => PV.str ⟨#[c]⟩)).n = x.cps.toList.length := by simp [srcT]
  rw [e3]
  simp only [List.filter_nil, List.map_nil, List.append_nil, List.length_nil] at hr
  rw [hr]; rfl
theorem filter_yes {α : Type} (xs : List α) : xs.filter (fun _ => true) = xs := List.filter_eq_self.mpr fun _ _ => rfl
theorem inA_bls {α : Type} {xs : List α} {f : α → Bool} {st : Sto} {r : Nat} (h : st[r]? = some (.lst (xs.map fun x => PV.bl (f x)))) : inA st (.bl false) (.ref r) = some (!xs.all f) := by
  unfold inA
  simp only [dictOf_r, h]
  unfold inP
  simp only [itemsOf_r, h]
  show (mapO flatP _).map (fun ws => inV (.bl false) ws) = _
  rw [mapO_flatbl, Option.map_some, inV_bls]
theorem blsOf_r {α : Type} {xs : List α} {f : α → Bool} {st : Sto} {r : Nat} (h : st[r]? = some (.lst (xs.map fun x => PV.bl (f x)))) : blsOf st (.ref r) = some (xs.map f) := by
  unfold blsOf
  rw [listOf_r, h]
  exact mapO_bls f xs
theorem ltS_lo (k a : Nat) : ltS ⟨#[k]⟩ ⟨#[a]⟩ = decide (k < a) := by
  unfold ltS
  simp [List.cons_lt_cons_iff]
theorem lc_garA {α : Type} {all : List α} {f g : α → PV} {p : α → Bool} {at_ : Sto → Nat → Option (Option PV)} {ig : IG} {t : IT} {e : IE} {st : Sto} {envw : PEnv} (hat_ : ∀ (l : Sto) (i : Nat), at_ (st ++ l) i = some ((all.map f)[i]?)) (hl : all.length < 9000000)
    (h : ∀ x ∈ all, ∀ s : Sto, ∃ env1, ig (f x) envw s = some env1 ∧ t env1 s = some (p x, s) ∧ (p x = true → ∃ l, e env1 s = some (g x, s ++ l))) :
    ∀ (ys pre : List α) (l : Sto), all = pre ++ ys → ∃ l', lcLoop at_ ig t e st.length envw (ys.length + 1) pre.length (st ++ [.lst ((pre.filter p).map g)] ++ l) = some (st ++ [.lst ((all.filter p).map g)] ++ l')
  | [], pre, l, he => by
    rw [List.append_nil] at he
    subst he
    refine ⟨l, ?_⟩
    have hat := hat_ ([.lst ((all.filter p).map g)] ++ l) all.length
    rw [← List.append_assoc] at hat
    unfold lcLoop
    rw [hat]
    simp
  | y :: ys, pre, l, he => by
    obtain ⟨env1, h1, h2, h3⟩ := h y (by rw [he]; simp) (st ++ [.lst ((pre.filter p).map g)] ++ l)
    have hat : at_ (st ++ [.lst ((pre.filter p).map g)] ++ l) pre.length = some (some (f y)) := by
      rw [List.append_assoc, hat_]
      rw [he, List.map_append, List.getElem?_append_right (by simp)]
      simp
    cases hp : p y with
    | false =>
      rw [hp] at h2
      obtain ⟨l', hr⟩ := lc_garA (t := t) (st := st) hat_ hl h ys (pre ++ [y]) l (by rw [he]; simp)
      refine ⟨l', ?_⟩
      rw [← hr]
      show lcLoop _ _ _ _ _ _ (ys.length + 1 + 1) _ _ = _
      conv => lhs; unfold lcLoop
      simp only [hat, h1, h2]
      rw [List.filter_append, List.length_append]
      simp [hp]
    | true =>
      rw [hp] at h2
      obtain ⟨l1, h3⟩ := h3 hp
      have hs : (st ++ [.lst ((pre.filter p).map g)] ++ l ++ l1)[st.length]? = some (.lst ((pre.filter p).map g)) := by
        rw [List.append_assoc (st ++ [_])]
        exact at_mid
      have hlen : ((pre.filter p).map g).length < 9000000 := by
        rw [List.length_map]
        have := congrArg List.length he
        have h9 := List.length_filter_le p pre
        rw [List.length_append] at this
        omega
      obtain ⟨l', hr⟩ := lc_garA (t := t) (st := st) hat_ hl h ys (pre ++ [y]) (l ++ l1) (by rw [he]; simp)
      refine ⟨l', ?_⟩
      rw [← hr]
      show lcLoop _ _ _ _ _ _ (ys.length + 1 + 1) _ _ = _
      conv => lhs; unfold lcLoop
      simp only [hat, h1, h2, h3, hs, hlen, if_true]
      have e2 : (st ++ [SO.lst ((pre.filter p).map g)] ++ l ++ l1).set st.length (.lst ((pre.filter p).map g ++ [g y])) = st ++ [SO.lst (((pre ++ [y]).filter p).map g)] ++ (l ++ l1) := by
        rw [List.append_assoc (st ++ [_]), set_mid, List.filter_append]
        simp [hp]
      rw [e2, List.length_append]
      rfl
theorem iLc_srcm {α : Type} {xs : List α} {f g : α → PV} {p : α → Bool} {ii : II} {src : Src} {e : IE} {ig : IG} {t : IT} {vs : List Nat} {env : PEnv} {st s1 : Sto} (hi : ii env st = some (src, s1)) (hn : src.n = xs.length) (hat_ : ∀ (l : Sto) (i : Nat), src.at_ (s1 ++ l) i = some ((xs.map f)[i]?)) (hl : xs.length < 9000000)
    (h : ∀ x ∈ xs, ∀ s : Sto, ∃ env1, ig (f x) (wipeE env vs) s = some env1 ∧ t env1 s = some (p x, s) ∧ (p x = true → ∃ l, e env1 s = some (g x, s ++ l))) :
    ∃ l, iLc ii ig t e vs env st = some (.ref s1.length, s1 ++ [.lst ((xs.filter p).map g)] ++ l) := by
  obtain ⟨l, hr⟩ := lc_garA (t := t) (e := e) (st := s1) hat_ hl h xs [] [] rfl
  refine ⟨l, ?_⟩
  unfold iLc
  rw [hi, ob_s, hn]
  simp only [List.filter_nil, List.map_nil, List.append_nil, List.length_nil] at hr
  rw [hr]; rfl
theorem iLc_refm {α : Type} {xs : List α} {f g : α → PV} {p : α → Bool} {r : Nat} {ie : IE} {e : IE} {ig : IG} {t : IT} {vs : List Nat} {env : PEnv} {st s1 : Sto} (hi : ie env st = some (.ref r, s1)) (hr : s1[r]? = some (.lst (xs.map f))) (hl : xs.length < 9000000)
    (h : ∀ x ∈ xs, ∀ s : Sto, ∃ env1, ig (f x) (wipeE env vs) s = some env1 ∧ t env1 s = some (p x, s) ∧ (p x = true → ∃ l, e env1 s = some (g x, s ++ l))) :
    ∃ l, iLc (iWalk ie) ig t e vs env st = some (.ref s1.length, s1 ++ [.lst ((xs.filter p).map g)] ++ l) :=
  iLc_srcm (src := srcL r (xs.map f).length) (by simp only [iWalk_e, hi, ob_s, hr]) (by simp [srcL]) (fun l i => by simp only [srcL, old_at hr]) hl h
theorem iLc_frzm {α : Type} {xs : List α} {f g : α → PV} {p : α → Bool} {ie : IE} {e : IE} {ig : IG} {t : IT} {vs : List Nat} {env : PEnv} {st s1 : Sto} (hi : ie env st = some (.frz (xs.map f), s1)) (hl : xs.length < 9000000)
    (h : ∀ x ∈ xs, ∀ s : Sto, ∃ env1, ig (f x) (wipeE env vs) s = some env1 ∧ t env1 s = some (p x, s) ∧ (p x = true → ∃ l, e env1 s = some (g x, s ++ l))) :
    ∃ l, iLc (iWalk ie) ig t e vs env st = some (.ref s1.length, s1 ++ [.lst ((xs.filter p).map g)] ++ l) :=
  iLc_srcm (src := srcT (xs.map f)) (by simp only [iWalk_e, hi, ob_s]) (by simp [srcT]) (fun l i => by simp only [srcT]) hl h
theorem iFor_frz {ie : IE} {ig : IG} {body : IS} {env : PEnv} {st s1 : Sto} {xs : List PV} (h : ie env st = some (.frz xs, s1)) : iFor (iWalk ie) ig body env st = foldT ig body xs env s1 := by
  simp only [iFor_e, iWalk_e, h, ob_s]
  exact loop_foldT xs [] env s1 rfl
theorem goes_ref {ie : IE} {ig : IG} {body : IS} {env : PEnv} {st s1 : Sto} {r : Nat} {xs : List PV} (I : PEnv → Prop) (hi : ie env st = some (.ref r, s1)) (hx : Ext st s1) (hr : s1[r]? = some (.lst xs)) (hI : I env)
    (h : ∀ x ∈ xs, ∀ e, I e → ∀ s, ∃ e1, ig x e s = some e1 ∧ Goes body e1 s fun e2 s2 => Ext s s2 ∧ I e2) : Goes (iFor (iWalk ie) ig body) env st fun e2 s2 => Ext st s2 ∧ I e2 := by
  obtain ⟨e2, s2, h1, h2, h3⟩ := for_go (n := r) (ig := ig) (body := body) I xs (fun x hx e he s => by
    obtain ⟨e1, g1, e2, s2, g2, g3⟩ := h x hx e he s
    exact ⟨e1, e2, s2, g1, g2, g3⟩) xs [] env s1 rfl hr hI
  refine ⟨e2, s2, ?_, hx.trans h2, h3⟩
  simp only [iFor_e, iWalk_e, hi, ob_s, hr]
  exact h1
theorem goes_asgV {i : Nat} {A : IE} {env : PEnv} {st : Sto} {v : PV} (h : Vl A env v) : Goes (iAsg (gN i) A) env st fun e s => e = env.set i (some v) ∧ Ext st s := by
  obtain ⟨s, h1, h2⟩ := h st
  exact ⟨_, s, by simp [h1], rfl, h2⟩
end IL

/-! Texts joined; the items of a list with their numbers. -/
namespace IL
open PySem PySem.Spec PyProof.Rows L2
section
variable {X : Cx} {o e : Expr} {ia ib ie : IE} {pos : Pos}
def isStr : PV → Option Str
  | .str a => some a
  | _ => none
theorem strs_reps {K : PySem.W.Frag} {H : Hp} {ρ : Rho} : ∀ {xs : List PV} {vs : List V} {bs : List Str}, Reps K H ρ xs vs → mapO isStr xs = some bs → vs = bs.map V.str
  | [], vs, bs, R, h => by
    unfold Reps at R
    subst R
    cases h
    rfl
  | x :: xs, vs, bs, R, h => by
    unfold Reps at R
    obtain ⟨v, r, rfl, r1, r2⟩ := R
    unfold mapO at h
    split at h
    · rename_i e1 e2
      cases h
      cases x <;> simp only [isStr, Option.some.injEq, reduceCtorEq] at e1
      subst e1
      unfold Rep at r1
      rw [r1, strs_reps r2 e2]
      rfl
    · cases h
def strsOf (st : Sto) (x : PV) : Option (List Str) := match itemsOf st x with
  | some xs => mapO isStr xs
  | none => none
/-- a.join(xs) -/
def iJoin (ia ib : IE) : IE := fun env st => ob (ia env st) fun x s1 => match x with
  | .str a => ob (ib env s1) fun y s2 => match strsOf s2 y with
    | some ys => if (ys.map (·.length)).sum + ys.length * a.length ≤ 9000000 then some (.str (Txt.join a ys), s2) else none
    | none => none
  | _ => none
theorem r_join {apos cpos : Pos} (ho : PE X o (tI X.K ia)) (he : PE X e (tI X.K ib)) (hs : starEach [e] X.env = [(false, eval e X.env)] := by rfl) (hbase : attributeBase o "join" X.env (eval o X.env) = eval o X.env := by rfl) (hline : (apos.endLine == cpos.line) = true := by rfl) :
    PE X (.Call (.Attribute o "join" apos) [e] [] cpos) (tI X.K (iJoin ia ib)) :=
  PE.imp (pe_join ho he hs hbase hline) fun σ H Q ⟨env, st, ρ, z, st', E, S, h, q⟩ => by
    obtain ⟨x, s1, h1, h⟩ := ob_some h
    refine ⟨env, st, ρ, x, s1, E, S, h1, fun vx H1 ρ1 G1 S1 R1 => ?_⟩
    split at h
    · rename_i a
      obtain ⟨y, s2, h2, h⟩ := ob_some h
      unfold Rep at R1
      subst R1
      refine ⟨⟨a, rfl⟩, env, s1, ρ1, y, s2, E.grow S G1, S1, h2, fun vy H2 ρ2 G2 S2 R2 => ?_⟩
      split at h
      · rename_i ys e1
        split at h
        · rename_i hl
          cases h
          unfold strsOf at e1
          split at e1
          · rename_i xs e2
            obtain ⟨p, vs, rfl, t, r⟩ := items_rep S2 R2 e2
            have hv := strs_reps r e1
            rw [hv] at t
            exact ⟨a, p, ys, rfl, rfl, t, by omega, q _ H2 ρ2 (G1.trans G2) S2 (by unfold Rep; rfl)⟩
          · cases e1
        · cases h
      · cases h
    · cases h
/-- enumerate(xs) of a list -/
def srcE (n k : Nat) : Src := ⟨k, fun st i => match st[n]? with
  | some (.lst xs) => some ((xs[i]?).map fun x => .tup [.int (i : Nat), x])
  | _ => none⟩
def srcEF (xs : List PV) : Src := ⟨xs.length, fun _ i => some ((xs[i]?).map fun x => .tup [.int (i : Nat), x])⟩
theorem pair_new {K : PySem.W.Frag} {H : Hp} {ρ : Rho} {st : Sto} (S : RepS K H ρ st) {x : PV} {v : V} {i : Nat} (R : Rep K H ρ x v) {T : Addr} (hT : H T = none) :
    Grow H ρ (upd H T (.tup [.int (i : Nat), v])) ρ ∧ RepS K (upd H T (.tup [.int (i : Nat), v])) ρ st ∧ Rep K (upd H T (.tup [.int (i : Nat), v])) ρ (.tup [.int (i : Nat), x]) (.ref T) :=
  ⟨grow_new hT, S.new hT, new_tup S (by unfold Reps; exact ⟨_, _, rfl, by unfold Rep; rfl, by unfold Reps; exact ⟨_, _, rfl, R, by unfold Reps; rfl⟩⟩) hT⟩
theorem srcE_ok {K : PySem.W.Frag} {H0 : Hp} {ρ0 : Rho} {n k : Nat} {a : Addr} (h : ρ0.l[n]? = some a) : SrcOk K (srcE n k) (Ite K a) H0 ρ0 := fun H ρ st G S i => by
  have ha := G.ix h
  refine ⟨fun hs => ?_, fun x hs => ?_⟩
  · simp only [srcE] at hs
    split at hs
    · rename_i xs e
      obtain ⟨b, hb, vs, h1, h2⟩ := S.at_ _ _ e
      rw [ha] at hb; cases hb
      have ndd := S.lv _ _ _ e (by simp) ha
      exact ⟨vs, .of h1, by rw [← h2.length]; simpa using hs⟩
    · cases hs
  · simp only [srcE] at hs
    split at hs
    · rename_i xs e
      obtain ⟨b, hb, vs, h1, h2⟩ := S.at_ _ _ e
      rw [ha] at hb; cases hb
      have ndd := S.lv _ _ _ e (by simp) ha
      cases hx : xs[i]? with
      | none => rw [hx] at hs; cases hs
      | some y =>
        rw [hx] at hs
        cases hs
        obtain ⟨v, hv, r⟩ := h2.get hx
        refine ⟨⟨vs, v, .of h1, hv⟩, fun w H' yl => ?_⟩
        obtain ⟨T, u, rfl, hT, rfl, yl⟩ := yl
        have := yl vs (.of h1)
        rw [hv] at this; cases this
        obtain ⟨g1, g2, g3⟩ := pair_new (i := i) S r hT
        exact ⟨ρ, g1, g2, g3⟩
    · cases hs
theorem srcEF_ok {K : PySem.W.Frag} {H0 : Hp} {ρ0 : Rho} {st0 : Sto} {xs : List PV} {vs : List V} {a : Addr} (S0 : RepS K H0 ρ0 st0) (h : FrzAt K H0 ρ0 a vs) (r : Reps K H0 ρ0 xs vs) : SrcOk K (srcEF xs) (Ite K a) H0 ρ0 := fun H ρ st G S i => by
  have h1 := (h.grow G).sq
  have r1 := Reps.grow S0 G _ _ r
  refine ⟨fun hs => ?_, fun x hs => ?_⟩
  · simp only [srcEF] at hs
    exact ⟨vs, h1, by rw [← r1.length]; simpa using hs⟩
  · simp only [srcEF] at hs
    cases hx : xs[i]? with
    | none => rw [hx] at hs; cases hs
    | some y =>
      rw [hx] at hs
      cases hs
      obtain ⟨v, hv, r⟩ := r1.get hx
      refine ⟨⟨vs, v, h1, hv⟩, fun w H' yl => ?_⟩
      obtain ⟨T, u, rfl, hT, rfl, yl⟩ := yl
      have := yl vs h1
      rw [hv] at this; cases this
      obtain ⟨g1, g2, g3⟩ := pair_new (i := i) S r hT
      exact ⟨ρ, g1, g2, g3⟩
def enumSrc (s : Sto) : PV → Option Src
  | .frz xs => some (srcEF xs)
  | .ref n => match s[n]? with
    | some (.lst xs) => some (srcE n xs.length)
    | _ => none
  | _ => none
def iEnumL (ir : IA) : II := fun env st => ob (ir env st) fun xs s => match xs with
  | [x] => (enumSrc s x).map fun src => (src, s)
  | _ => none
theorem i_enum {e : Expr} {ir : IA} {p tpos pos : Pos} {elts : List Expr} {kk : Nat} (hg : Gl X "enumerate") (hm : X.mg "enumerate" = none) (ha : PA X [e] (tIA X.K ir)) (hs : starEach [e] X.env = [(false, eval e X.env)] := by rfl) :
    PI X (.Tuple elts kk tpos) (.Call (.Name "enumerate" p) [e] [] pos) (tII X.K (iEnumL ir)) := PI.imp (pi_enum hg hm ha hs) fun σ H R ⟨env, s, ρ, src, st', E, S, h, q⟩ => by
  obtain ⟨xs, s1, h1, h⟩ := ob_some h
  split at h
  · rename_i x
    obtain ⟨src', e2, e3⟩ := map_some h
    cases e3
    refine ⟨env, s, ρ, _, _, E, S, h1, fun v H1 ρ1 G1 S1 R1 => ?_⟩
    unfold Reps at R1
    obtain ⟨w, r, rfl, R1, R2⟩ := R1
    unfold Reps at R2
    subst R2
    cases x with
    | frz xs =>
      cases e2
      unfold Rep at R1
      obtain ⟨a, vs, rfl, t1, t2⟩ := R1
      exact ⟨a, vs, rfl, t1.sq, q _ H1 ρ1 G1 S1 (srcEF_ok S1 t1 t2)⟩
    | ref n =>
      simp only [enumSrc] at e2
      split at e2
      · rename_i xs e1
        cases e2
        obtain ⟨a, vs, rfl, t1, ndd, h3, h4⟩ := S1.lst R1 e1
        exact ⟨a, vs, rfl, .of h3, q _ H1 ρ1 G1 S1 (srcE_ok t1)⟩
      · cases e2
    | _ => cases e2
  · cases h
end
end IL

namespace IL
open PySem PySem.Spec PyProof.Rows L2
section
variable {X : Cx} {ik ie : IE} {it : IT} {pos : Pos}
/-! ### dict comprehensions -/
def dcLoop (at_ : Sto → Nat → Option (Option PV)) (ig : IG) (t : IT) (ek e : IE) (d : Nat) (env : PEnv) : Nat → Nat → Sto → Option Sto
  | 0, _, _ => none
  | m + 1, i, st => match at_ st i with
    | none => none
    | some none => some st
    | some (some x) => match ig x env st with
      | none => none
      | some env1 => match t env1 st with
        | none => none
        | some (false, s1) => dcLoop at_ ig t ek e d env m (i + 1) s1
        | some (true, s1) => match ek env1 s1 with
          | none => none
          | some (k, s2) => match e env1 s2 with
            | none => none
            | some (y, s3) => match keyP k, s3[d]? with
              | some kk, some (.dK acc) => if nodupK acc && decide (acc.length < 9000000) then dcLoop at_ ig t ek e d env m (i + 1) (s3.set d (.dK (putP acc kk y))) else none
              | _, _ => none
def iDc (ii : II) (ig : IG) (t : IT) (ek e : IE) (vs : List Nat) : IE := fun env st => ob (ii env st) fun src s =>
  (dcLoop src.at_ ig t ek e s.length (wipeE env vs) (src.n + 1) 0 (s ++ [.dK []])).map fun s' => (.ref s.length, s')
theorem dc_to {K : PySem.W.Frag} {ii : II} {ig : IG} {T vs : List Nat} {σ : L2.St} {H : Hp} {Q : VK} (hT : ∀ i ∈ T, i ∈ vs) (h : tI K (iDc ii ig it ik ie vs) σ H Q) : tDc (tII K ii) (tIG K T ig) (tIT K it) (tI K ik) (tI K ie) vs σ H Q := by
  obtain ⟨env, s, ρ, z, st', E, S, h, q⟩ := h
  obtain ⟨src, s1, h1, h⟩ := ob_some h
  obtain ⟨hl, hz⟩ : dcLoop src.at_ ig it ik ie s1.length (wipeE env vs) (src.n + 1) 0 (s1 ++ [.dK []]) = some st' ∧ z = .ref s1.length := by
    cases e : dcLoop src.at_ ig it ik ie s1.length (wipeE env vs) (src.n + 1) 0 (s1 ++ [.dK []]) with
    | none => rw [e] at h; cases h
    | some s' => rw [e] at h; cases h; exact ⟨rfl, rfl⟩
  subst hz
  refine ⟨env, s, ρ, src, s1, E, S, h1, fun J H1 ρ1 G1 S1 O Dl hD => ?_⟩
  have g0 : Grow H1 ρ1 (upd H1 Dl (.dK [])) (ρ1.add Dl) := grow_alloc hD
  have E1 : RepE K H1 ρ1 env σ := E.grow S G1
  refine ⟨fun i m H' => ∃ st2 ρ', Grow (upd H1 Dl (.dK [])) (ρ1.add Dl) H' ρ' ∧ RepS K H' ρ' st2 ∧ dcLoop src.at_ ig it ik ie s1.length (wipeE env vs) m i st2 = some st',
    ⟨src.n + 1, _, _, Grow.refl, S1.alloc (so := .dK []) hD ⟨[], upd_same, rfl⟩, hl⟩, ?_⟩
  rintro i m H' ⟨st2, ρ', G', S', hl⟩
  have ix : ρ'.l[s1.length]? = some Dl := G'.ix (by show (ρ1.l ++ [Dl])[s1.length]? = some Dl; rw [← S1.len, List.getElem?_append_right (Nat.le_refl _)]; simp)
  cases m with
  | zero => cases hl
  | succ m =>
    unfold dcLoop at hl
    obtain ⟨o1, o2⟩ := O H' ρ' st2 (g0.trans G') S' i
    split at hl
    · cases hl
    · rename_i e1
      cases hl
      refine .inl ⟨o1 e1, q _ H' ρ' (G1.trans (g0.trans G')) S' ?_⟩
      unfold Rep
      exact ⟨Dl, rfl, ix⟩
    · rename_i x e1
      obtain ⟨go, yl⟩ := o2 x e1
      split at hl
      · cases hl
      · rename_i env1 e2
        refine .inr ⟨go, fun H2 => ∃ m', m' < m + 1 ∧ ∃ st2 ρ', Grow (upd H1 Dl (.dK [])) (ρ1.add Dl) H2 ρ' ∧ RepS K H2 ρ' st2 ∧ dcLoop src.at_ ig it ik ie s1.length (wipeE env vs) m' (i + 1) st2 = some st', fun H2 n => n, fun v H2 y => ?_⟩
        obtain ⟨ρ2, G2, S2, R2⟩ := yl v H2 y
        have Ew : RepE K H2 ρ2 (wipeE env vs) (L2.wipe σ vs) := (E1.wipe vs).grow S1 ((g0.trans G').trans G2)
        refine ⟨wipeE env vs, st2, ρ2, x, env1, Ew, S2, R2, e2, fun σ3 E3 l3 a3 => ⟨?_, ?_⟩⟩
        · rw [L2.wipe_length] at l3
          exact wipe_same l3 fun j hj => a3 j fun z => hj (hT j z)
        · cases e3 : it env1 st2 with
          | none => rw [e3] at hl; cases hl
          | some r =>
            obtain ⟨b, s3⟩ := r
            rw [e3] at hl
            refine ⟨env1, st2, ρ2, b, s3, E3, S2, e3, fun H3 ρ3 G3 S3 => ?_⟩
            cases b with
            | false =>
              rw [if_neg Bool.false_ne_true]
              exact ⟨m, Nat.lt_succ_self m, s3, ρ3, (G'.trans G2).trans G3, S3, hl⟩
            | true =>
              rw [if_pos rfl]
              simp only at hl
              cases e4 : ik env1 s3 with
              | none => rw [e4] at hl; cases hl
              | some r =>
                obtain ⟨kx, s4⟩ := r
                rw [e4] at hl
                refine ⟨env1, s3, ρ3, kx, s4, E3.grow S2 G3, S3, e4, fun u H4 ρ4 G4 S4 R4 => ?_⟩
                simp only at hl
                cases e6 : ie env1 s4 with
                | none => rw [e6] at hl; cases hl
                | some r =>
                  obtain ⟨y, s5⟩ := r
                  rw [e6] at hl
                  refine ⟨env1, s4, ρ4, y, s5, (E3.grow S2 G3).grow S3 G4, S4, e6, fun w H5 ρ5 G5 S5 R5 => ?_⟩
                  simp only at hl
                  split at hl
                  · rename_i kk acc ek e5
                    split at hl
                    · rename_i hlen
                      rw [Bool.and_eq_true, decide_eq_true_eq] at hlen
                      have ix4 : ρ5.l[s1.length]? = some Dl := (G2.trans (G3.trans (G4.trans G5))).ix ix
                      obtain ⟨b, hb, ws, h2, h3⟩ := S5.at_ _ _ e5
                      rw [ix4] at hb; cases hb
                      have ndd := S5.lv _ _ _ e5 (by simp) ix4
                      have gw : Grow H5 ρ5 (upd H5 Dl (.dK (putK ws kk w))) ρ5 := grow_write h2 (List.mem_of_getElem? ix4) ndd
                      refine ⟨ws, kk, key_rep R4 ek, h2, line6 (by rw [← h3.length]; exact hlen.2), m, Nat.lt_succ_self m, _, ρ5, (((G'.trans G2).trans G3).trans G4).trans (G5.trans gw), S5.write (so := .dK (putP acc kk y)) ix4 ndd h2 ⟨_, upd_same, ?_⟩, hl⟩
                      exact RepK.grow S5 gw _ _ (put_rep R5 (of_decide_eq_true hlen.1) h3)
                    · cases hl
                  · cases hl
theorem r_dc {kx elt tg iter : Expr} {ifs : List Expr} {scope : Scope} {own : List (Str × Nat)} {ii : II} {T : List Nat} {ig : IG} (hc : X.calm = true) (hN : X.N.Nodup) (hi : PI X tg iter (tII X.K ii)) (ok : BlkOk X.N X.env.scope scope own)
    (hT : ∀ i ∈ T, i ∈ own.map (·.2))
    (hg : ∀ (s : Shared) (H : Hp) (C : Addr) (cl : List (Str × Addr)) (fp : List Addr), PG (X.blk s H scope (compEnvC scope cl C X.env) fp) tg (tIG X.K T ig)) (ht : ∀ (s : Shared) (H : Hp) (C : Addr) (cl : List (Str × Addr)) (fp : List Addr), PTs (X.blk s H scope (compEnvC scope cl C X.env) fp) ifs (tIT X.K it))
    (hk : ∀ (s : Shared) (H : Hp) (C : Addr) (cl : List (Str × Addr)) (fp : List Addr), PE (X.blk s H scope (compEnvC scope cl C X.env) fp) kx (tI X.K ik))
    (he : ∀ (s : Shared) (H : Hp) (C : Addr) (cl : List (Str × Addr)) (fp : List Addr), PE (X.blk s H scope (compEnvC scope cl C X.env) fp) elt (tI X.K ie)) (hs : ∀ x, foldedSetIterable iter X.env x = pure x := by intro _; rfl) :
    PE X (.DictComp kx elt [⟨tg, iter, ifs, 0⟩] scope pos) (tI X.K (iDc ii ig it ik ie (own.map (·.2)))) :=
  PE.imp (pe_dc hc hN hi ok hg ht hk he hs) fun _ _ _ h => dc_to hT h
end
end IL

namespace IL
open PySem PySem.Spec PyProof.Rows L2

section
variable {X : Cx} {a b c e i o : Expr} {es rest : List Expr} {pos : Pos} {ia ib ic ie io : IE} {ir : IA}
/-! ### what nobody writes any more; what an expression made for itself is let go -/
/-- the list or the dict is not written from now on -/
def frzV (s : Sto) : PV → PV × Sto
  | .ref n => match s[n]? with
    | some (.lst xs) => (.frz xs, s.set n .gone)
    | some (.dK kvs) => (.fdk (kvs.map (·.1)) (kvs.map (·.2)), s.set n .gone)
    | _ => (.ref n, s)
  | x => (x, s)
theorem frz_to {K : PySem.W.Frag} {H : Hp} {ρ : Rho} {st : Sto} (S : RepS K H ρ st) {x : PV} {v : V} (R : Rep K H ρ x v) : ∃ ρ', Grow H ρ H ρ' ∧ RepS K H ρ' (frzV st x).2 ∧ Rep K H ρ' (frzV st x).1 v := by
  unfold frzV
  split
  · rename_i n
    split
    · rename_i xs e
      obtain ⟨a, vs, rfl, h1, h2, h3, h4⟩ := S.lst R e
      exact ⟨_, grow_die, S.die h1 e (.inl ⟨vs, .of h3⟩), S.dead h1 e⟩
    · rename_i xs e
      obtain ⟨a, vs, rfl, h1, h2, h3, h4⟩ := S.dct R e
      exact ⟨_, grow_die, S.die h1 e (.inr ⟨vs, .of h3⟩), S.deadK h1 e⟩
    · exact ⟨ρ, Grow.refl, S, R⟩
  · exact ⟨ρ, Grow.refl, S, R⟩
def iFrz (ia : IE) : IE := fun env st => ob (ia env st) fun x s => some (frzV s x)
theorem r_frz (ha : PE X e (tI X.K ia)) : PE X e (tI X.K (iFrz ia)) := PE.imp ha fun σ H Q ⟨env, st, ρ, z, st', E, S, h, q⟩ => by
  obtain ⟨x, s1, h1, h⟩ := ob_some h
  have e := Option.some.inj h
  refine ⟨env, st, ρ, x, s1, E, S, h1, fun v H1 ρ1 G1 S1 R1 => ?_⟩
  obtain ⟨ρ2, G2, S2, R2⟩ := frz_to S1 R1
  rw [e] at S2 R2
  exact q v H1 ρ2 (G1.trans G2) S2 R2
noncomputable def iGc (ia : IE) : IE := fun env st => (ia env st).map fun r => (r.1, gcS st r.2 r.1)
theorem r_gc (ha : PE X e (tI X.K ia)) : PE X e (tI X.K (iGc ia)) := PE.imp ha fun σ H Q ⟨env, st, ρ, z, st', E, S, h, q⟩ => by
  obtain ⟨r, h1, h2⟩ := map_some h
  obtain ⟨x, s1⟩ := r
  have e1 : x = z := congrArg Prod.fst h2
  have e2 : gcS st s1 x = st' := congrArg Prod.snd h2
  subst e1
  subst e2
  refine ⟨env, st, ρ, x, s1, E, S, h1, fun v H1 ρ1 G1 S1 R1 => ?_⟩
  obtain ⟨ρ2, G2, S2, R2⟩ := gc_to S G1 S1 R1
  exact q v H1 ρ2 G2 S2 R2
/-- a new thing that is not written: its value alone -/
noncomputable def iNew (ia : IE) : IE := iGc (iFrz ia)
theorem r_new (ha : PE X e (tI X.K ia)) : PE X e (tI X.K (iNew ia)) := r_gc (r_frz ha)

/-! ### attributes -/
/-- what is known of the class of that name -/
structure KCls (K : PySem.W.Frag) (c : Str) : Prop where
  ex : ∃ C, ClsAt K c C ∧ Cls K C
/-- .. the class has no attribute of that name -/
def KFld (K : PySem.W.Frag) (c f : Str) : Prop := ∃ C, ClsAt K c C ∧ Cls K C ∧ NoAttr K C f
theorem KFld.at_ {K : PySem.W.Frag} {c f : Str} {C : Addr} (h : KFld K c f) (hc : ClsAt K c C) : Cls K C ∧ NoAttr K C f := by
  obtain ⟨C', h1, h2, h3⟩ := h
  rw [hc.uniq h1]
  exact ⟨h2, h3⟩
theorem lookF {K : PySem.W.Frag} {H : Hp} {ρ : Rho} {f : Str} : ∀ {fs : List (Str × PV)} {vs : List (Str × V)} , RepF K H ρ fs vs → (∀ x, fs.lookup f = some x → ∃ v, vs.lookup f = some v ∧ Rep K H ρ x v) ∧ (fs.lookup f = none → vs.lookup f = none) ∧ fs.length = vs.length
  | [], vs, h => by
    subst h
    exact ⟨fun x h => by simp at h, fun _ => rfl, rfl⟩
  | (g, y) :: fs, vs, h => by
    obtain ⟨v, r, rfl, h1, h2⟩ := h
    obtain ⟨a1, a2, a3⟩ := lookF (f := f) h2
    refine ⟨fun x hx => ?_, fun hx => ?_, by simp [a3]⟩
    · rw [List.lookup_cons] at hx
      rw [List.lookup_cons]
      cases e : f == g with
      | true =>
        rw [e] at hx
        simp only [Option.some.injEq] at hx
        subst hx
        exact ⟨v, rfl, h1⟩
      | false =>
        rw [e] at hx
        exact a1 x hx
    · rw [List.lookup_cons] at hx
      rw [List.lookup_cons]
      cases e : f == g with
      | true => rw [e] at hx; simp at hx
      | false => rw [e] at hx; exact a2 hx
def putP1 (f : Str) (v : PV) : List (Str × PV) → List (Str × PV)
  | [] => [(f, v)]
  | (g, x) :: r => if g = f then (g, v) :: r else (g, x) :: putP1 f v r
theorem put_F {K : PySem.W.Frag} {H : Hp} {ρ : Rho} {f : Str} {x : PV} {v : V} (R : Rep K H ρ x v) : ∀ {fs : List (Str × PV)} {vs : List (Str × V)}, RepF K H ρ fs vs → RepF K H ρ (putP1 f x fs) (putF f v vs)
  | [], vs, h => by
    subst h
    exact ⟨v, [], rfl, R, rfl⟩
  | (g, y) :: fs, vs, h => by
    obtain ⟨w, r, rfl, h1, h2⟩ := h
    unfold putP1 putF
    split
    · exact ⟨v, r, rfl, R, h2⟩
    · exact ⟨w, _, rfl, h1, put_F R h2⟩
/-- o.f, for instances of these classes -/
def fFld (cs : List Str) (f : Str) : F1 := fun x s => match x with
  | .ref n => match s[n]? with
    | some (.ins c fs) => if cs.contains c then (fs.lookup f).map fun v => (v, s) else none
    | _ => none
  | _ => none
def iFld (cs : List Str) (f : Str) (ia : IE) : IE := iUn (fFld cs f) ia
theorem r_fld {cs : List Str} {f : Str} (hk : ∀ c ∈ cs, KFld X.K c f) (ha : PE X a (tI X.K ia)) (hb : attributeBase a f X.env (eval a X.env) = eval a X.env := by rfl) : PE X (.Attribute a f pos) (tI X.K (iFld cs f ia)) :=
  PE.imp (pe_fld ha hb) fun σ H Q ⟨env, st, ρ, z, st', E, S, h, q⟩ => by
    obtain ⟨x, s1, h1, h⟩ := ob_some h
    refine ⟨env, st, ρ, x, s1, E, S, h1, fun vx H1 ρ1 G1 S1 R1 => ?_⟩
    unfold fFld at h
    split at h
    · rename_i n
      split at h
      · rename_i c fs e
        split at h
        · rename_i hc
          obtain ⟨v, e2, hz⟩ := map_some h
          cases hz
          obtain ⟨p, C, dx, vs, rfl, i1, ndd, hC, h2, h3⟩ := S1.inst R1 e
          obtain ⟨k1, k2⟩ := (hk c (by simpa using hc)).at_ hC
          obtain ⟨w, hw, R2⟩ := (lookF h3).1 _ e2
          exact ⟨p, C, dx, vs, w, rfl, h2, k1, k2, hw, q w H1 ρ1 G1 S1 R2⟩
        · cases h
      · cases h
    · cases h
/-- o.f = v -/
def setFld (cs : List Str) (f : Str) (x y : PV) (s : Sto) : Option Sto := match x with
  | .ref n => match s[n]? with
    | some (.ins c fs) => if cs.contains c && decide (fs.length < 900) then some (s.set n (.ins c (putP1 f y fs))) else none
    | _ => none
  | _ => none
theorem setFld_to {K : PySem.W.Frag} {H : Hp} {ρ : Rho} {st st' : Sto} {cs : List Str} {f : Str} {x y : PV} {vx vy : V} (hk : ∀ c ∈ cs, KFld K c f) (S : RepS K H ρ st) (Rx : Rep K H ρ x vx) (Ry : Rep K H ρ y vy) (h : setFld cs f x y st = some st') :
    ∃ a C dx fs, vx = .ref a ∧ H a = some (.ins C dx fs) ∧ Cls K C ∧ NoAttr K C f ∧ fs.length < 1000 ∧ Grow H ρ (upd H a (.ins C dx (putF f vy fs))) ρ ∧ RepS K (upd H a (.ins C dx (putF f vy fs))) ρ st' := by
  unfold setFld at h
  split at h
  · rename_i n
    split at h
    · rename_i c fs e
      split at h
      · rename_i hc
        cases h
        rw [Bool.and_eq_true, decide_eq_true_eq] at hc
        obtain ⟨p, C, dx, vs, rfl, i1, ndd, hC, h2, h3⟩ := S.inst Rx e
        obtain ⟨k1, k2⟩ := (hk c (by simpa using hc.1)).at_ hC
        have g : Grow H ρ (upd H p (.ins C dx (putF f vy vs))) ρ := grow_write h2 (List.mem_of_getElem? i1) ndd
        refine ⟨p, C, dx, vs, rfl, h2, k1, k2, by rw [← (lookF (f := f) h3).2.2]; omega, g, S.write (so := .ins c (putP1 f y fs)) i1 ndd h2 ⟨C, dx, _, hC, upd_same, RepF.grow S g _ _ (put_F Ry h3)⟩⟩
      · cases h
    · cases h
  · cases h
variable {W : WX}
def iSetFld (cs : List Str) (f : Str) (io ie : IE) : IS := fun env st => ob (ie env st) fun y s1 => ob (io env s1) fun x s2 => (setFld cs f x y s2).map fun s3 => .nx env s3
theorem s_setFld {cs : List Str} {f : Str} {pos' : Pos} (hk : ∀ c ∈ cs, KFld X.K c f) (ho : PE X o (tI X.K io)) (he : PE X e (tI X.K ie)) (hs : swapsWith e (some (.Attribute o f pos')) pos.line X.env = pure false := by rfl) :
    PS X (.Assign [.Attribute o f pos'] e pos) (tIS X.K W (iSetFld cs f io ie)) := PS.imp (ps_fld ho he hs) fun D σ H ⟨env, s, ρ, fl, E, S, h, q⟩ => by
  obtain ⟨y, s1, h1, h⟩ := ob_some h
  obtain ⟨x, s2, h2, h⟩ := ob_some h
  obtain ⟨s3, h3, hz⟩ := map_some h
  subst hz
  refine ⟨env, s, ρ, y, s1, E, S, h1, fun vy H1 ρ1 G1 S1 R1 => ⟨env, s1, ρ1, x, s2, E.grow S G1, S1, h2, fun vx H2 ρ2 G2 S2 R2 => ?_⟩⟩
  obtain ⟨p, C, dx, fs, ex, e1, e2, e3, e4, G3, S3⟩ := setFld_to hk S2 R2 (Rep.grow S1 G2 _ _ R1) h3
  exact ⟨p, C, dx, fs, ex, e1, e2, e3, e4, q σ _ ρ2 ((G1.trans G2).trans G3) S3 (((E.grow S G1).grow S1 G2).grow S2 G3)⟩
/-- o.f += v, o.f -= v: integers -/
def augTo (f : Str) (g : Int → Int → Int) (n : Nat) (c : Str) (m : Int) (y : PV) (s2 : Sto) : Option Sto := match y with
  | .int k => match s2[n]? with
    | some (.ins c' fs') => if c' = c ∧ fs'.length < 900 then some (s2.set n (.ins c' (putP1 f (.int (g m k)) fs'))) else none
    | _ => none
  | _ => none
theorem augTo_some {f : Str} {g : Int → Int → Int} {n : Nat} {c : Str} {m : Int} {y : PV} {s2 s3 : Sto} (h : augTo f g n c m y s2 = some s3) : ∃ k fs', y = .int k ∧ s2[n]? = some (.ins c fs') ∧ fs'.length < 900 ∧ s3 = s2.set n (.ins c (putP1 f (.int (g m k)) fs')) := by
  unfold augTo at h
  split at h
  · split at h
    · rename_i k c' fs' e
      split at h
      · rename_i hl
        obtain ⟨rfl, hl⟩ := hl
        cases h
        exact ⟨_, fs', rfl, e, hl, rfl⟩
      · cases h
    · cases h
  · cases h
def intFld (cs : List Str) (f : Str) (x : PV) (s : Sto) : Option (Nat × Str × Int) := match x with
  | .ref n => match s[n]? with
    | some (.ins c fs) => if cs.contains c then (match fs.lookup f with
      | some (.int m) => some (n, c, m)
      | _ => none) else none
    | _ => none
  | _ => none
theorem intFld_some {cs : List Str} {f : Str} {x : PV} {s : Sto} {r : Nat × Str × Int} (h : intFld cs f x s = some r) : ∃ fs, x = .ref r.1 ∧ s[r.1]? = some (.ins r.2.1 fs) ∧ cs.contains r.2.1 = true ∧ fs.lookup f = some (.int r.2.2) := by
  unfold intFld at h
  split at h
  · split at h
    · rename_i c fs e
      split at h
      · rename_i hc
        split at h
        · rename_i m e2
          cases h
          exact ⟨fs, rfl, e, hc, e2⟩
        · cases h
      · cases h
    · cases h
  · cases h
def iAugFld (cs : List Str) (f : Str) (g : Int → Int → Int) (io ie : IE) : IS := fun env st => ob (io env st) fun x s1 => match intFld cs f x s1 with
  | some (n, c, m) => ob (ie env s1) fun y s2 => (augTo f g n c m y s2).map fun s3 => .nx env s3
  | none => none
theorem s_augFld {op : Operator} {cs : List Str} {f : Str} {g : Int → Int → Int} {tpos : Pos} {rd : V → V → Hp → VK → Prop} (hop : InOp X op rd) (hrd : ∀ m n H Q, Q (.int (g m n)) H → rd (.int m) (.int n) H Q) (hk : ∀ c ∈ cs, KFld X.K c f) (ho : PE X o (tI X.K io)) (he : PE X e (tI X.K ie)) :
    PS X (.AugAssign (.Attribute o f tpos) op e pos) (tIS X.K W (iAugFld cs f g io ie)) := PS.imp (ps_fldaug ho he hop) fun D σ H ⟨env, s, ρ, fl, E, S, h, q⟩ => by
  obtain ⟨x, s1, h1, h⟩ := ob_some h
  cases e0 : intFld cs f x s1 with
  | none => rw [e0] at h; cases h
  | some r =>
    obtain ⟨n, c, m⟩ := r
    rw [e0] at h
    obtain ⟨fs, ex, e, hc, e2⟩ := intFld_some e0
    simp only at ex e hc e2
    subst ex
    obtain ⟨y, s2, h3, h⟩ := ob_some h
    obtain ⟨s3, h4, hz⟩ := map_some h
    subst hz
    obtain ⟨k, fs', rfl, e3, hl, rfl⟩ := augTo_some h4
    refine ⟨env, s, ρ, _, s1, E, S, h1, fun vx H1 ρ1 G1 S1 R1 => ?_⟩
    obtain ⟨p, C, dx, vs, rfl, i1, ndd, hC, h2', h3'⟩ := S1.inst R1 e
    obtain ⟨k1, k2⟩ := (hk c (by simpa using hc)).at_ hC
    obtain ⟨w, hw, R2⟩ := (lookF h3').1 _ e2
    unfold Rep at R2
    subst R2
    refine ⟨p, C, dx, vs, .int m, rfl, h2', k1, k2, hw, env, _, ρ1, _, s2, E.grow S G1, S1, h3, fun vy H2 ρ2 G2 S2 R2 => ?_⟩
    unfold Rep at R2
    subst R2
    refine hrd m k H2 _ ?_
    obtain ⟨p', C', dx', vs', ep, i2, ndd2, hC', h4, h5⟩ := S2.inst (Rep.grow S1 G2 _ _ R1) e3
    cases ep
    have hCC := hC'.uniq hC
    subst hCC
    have gw : Grow H2 ρ2 (upd H2 p (.ins C' dx' (putF f (.int (g m k)) vs'))) ρ2 := grow_write h4 (List.mem_of_getElem? i2) ndd2
    exact ⟨dx', vs', h4, by rw [← (lookF (f := f) h5).2.2]; omega, q σ _ ρ2 ((G1.trans G2).trans gw) (S2.write (so := .ins c (putP1 f (.int (g m k)) fs')) i2 ndd2 h4 ⟨C', dx', _, hC', upd_same, RepF.grow S2 gw _ _ (put_F (by unfold Rep; rfl) h5)⟩) (((E.grow S G1).grow S1 G2).grow S2 gw)⟩
end
end IL

namespace IL
open PySem PySem.Spec PyProof.Rows L2

/-! ### what may be called -/
abbrev CalJ (P : Program) (w : World) (K : PySem.W.Frag) (mg : Str → Option Value) (base : Heap) (k : Nat) (x : Str) (n : Nat) (f : FA) : Prop := C8.Cal P w K mg base k x (spI K n f) []
/-- a method of the class of that name -/
structure MetJ (P : Program) (w : World) (K : PySem.W.Frag) (mg : Str → Option Value) (base : Heap) (k : Nat) (c m : Str) (n : Nat) (f : FA) : Prop where
  ex : ∃ C : Addr, ClsAt K c C ∧ C8.Met P w K mg base k C m (spI K n f) []
/-- a class that may be made by its name -/
structure MakJ (P : Program) (w : World) (K : PySem.W.Frag) (mg : Str → Option Value) (base : Heap) (k : Nat) (c : Str) (n : Nat) (f : FA) : Prop where
  ex : ∃ C : Addr, ClsAt K c C ∧ C8.Mak P w K mg base k c C (spI K n f) []
section
variable {X : Cx} {k j n : Nat} {F : FA} {x m : Str} {p pos apos : Pos} {e o : Expr} {es : List Expr} {io : IE} {ir : IA}
theorem j_call (c : CalJ X.prog X.w X.K X.mg X.base k x n F) (hn : Ar n F) (hr : Room j X.A) (hk : k ≤ j) (hg : Gl X x) (ha : PA X (e :: es) (tIA X.K ir))
    (hdb : (x == ("__debug__" : Str)) = false := by decide) (he : starEach (e :: es) X.env = (false, eval e X.env) :: starEach es X.env := by rfl) (hpl : (backTo pos (starEach es X.env)).any (·.1) = false := by rfl) :
    PE X (.Call (.Name x p) (e :: es) [] pos) (tI X.K (iCall F ir)) := r_call c hn hr hk hg ha hdb he hpl
theorem nil_to {K : PySem.W.Frag} {σ : L2.St} {H : Hp} {Q : List V → Hp → Prop} (h : tIA K iNil σ H Q) : tNil σ H Q := by
  obtain ⟨env, st, ρ, x, st', E, S, h1, q⟩ := h
  cases h1
  exact q [] H ρ Grow.refl S (by unfold Reps; rfl)
theorem j_call0 (c : CalJ X.prog X.w X.K X.mg X.base k x 0 F) (hn : Ar 0 F) (hr : Room j X.A) (hk : k ≤ j) (hg : Gl X x)
    (hdb : (x == ("__debug__" : Str)) = false := by decide) : PE X (.Call (.Name x p) [] [] pos) (tI X.K (iCall F iNil)) := by
  obtain ⟨f, fd, ps, ds, hF, hm, kp, b, d⟩ := c.ex
  exact PE.imp (pe_call0 (E := C8.E0) hF (hr.mono hk) hg hm kp b d C8.pass0 hdb) fun _ _ _ h => nil_to (call_to hn h)
/-- o.m(..): the def of o's class -/
def iMeth (m : Str) (tbl : List (Str × FA)) (io : IE) (ir : IA) : IE := fun env st => ob (io env st) fun x s1 => match x with
  | .ref n => match s1[n]? with
    | some (.ins c fs) => match tbl.lookup c, fs.lookup m with
      | some F, none => ob (ir env s1) fun xs s2 => F (x :: xs) s2
      | _, _ => none
    | _ => none
  | _ => none
theorem iMeth_some {tbl : List (Str × FA)} {env : PEnv} {st : Sto} {r : PV × Sto} (h : iMeth m tbl io ir env st = some r) : ∃ n s1 c fs F xs s2, io env st = some (.ref n, s1) ∧ s1[n]? = some (.ins c fs) ∧ tbl.lookup c = some F ∧ fs.lookup m = none ∧ ir env s1 = some (xs, s2) ∧ F (.ref n :: xs) s2 = some r := by
  obtain ⟨x, s1, h1, h⟩ := ob_some h
  split at h
  · rename_i n
    split at h
    · rename_i c fs e
      split at h
      · rename_i F e1 e2
        obtain ⟨xs, s2, h2, h⟩ := ob_some h
        exact ⟨n, s1, c, fs, F, xs, s2, h1, e, e1, e2, h2, h⟩
      · cases h
    · cases h
  · cases h
theorem lookup_mem {α : Type} {c : Str} {x : α} : ∀ {l : List (Str × α)}, l.lookup c = some x → (c, x) ∈ l
  | [], h => by simp at h
  | (d, y) :: l, h => by
    rw [List.lookup_cons] at h
    cases e : c == d with
    | true =>
      rw [e] at h
      have := eq_of_beq e
      subst this
      cases h
      exact List.mem_cons_self ..
    | false => rw [e] at h; exact List.mem_cons_of_mem _ (lookup_mem h)
theorem j_meth {tbl : List (Str × FA)} {pl : Sem Bool} (c : ∀ cf ∈ tbl, MetJ X.prog X.w X.K X.mg X.base k cf.1 m (n + 1) cf.2 ∧ Ar (n + 1) cf.2) (hr : Room j X.A) (hk : k ≤ j) (ho : PE X o (tI X.K io)) (ha : PA X (e :: es) (tIA X.K ir))
    (hst : starEach (e :: es) X.env = (false, eval e X.env) :: starEach es X.env := by rfl) (hpl : (backTo pos (starEach es X.env)).any (·.1) = false := by rfl)
    (ht : eval (.Call (.Attribute o m apos) (e :: es) [] pos) X.env = (do
      let ov ← eval o X.env
      standAt apos.atName
      let (f, first) ← holding [ov] (getMethod ov m pl)
      callWith pos f first (backTo pos (starEach (e :: es) X.env)) (backToKw pos (keywordEach [] X.env))) := by rfl) :
    PE X (.Call (.Attribute o m apos) (e :: es) [] pos) (tI X.K (iMeth m tbl io ir)) := by
  refine ⟨fun pins s σ H Q I h => ?_⟩
  obtain ⟨env, st, ρ, z, st', E, S, h, q⟩ := h
  obtain ⟨nn, s1, cl, fs, F, xs, s2, h1, h2, h3, h4, h5, h6⟩ := iMeth_some h
  obtain ⟨mj, hn⟩ := c (cl, F) (lookup_mem h3)
  obtain ⟨C, hC, mm⟩ := mj.ex
  refine (C8.pe_mt (pl := pl) mm hr hk ho ha hst hpl ht).run pins s σ H Q I ?_
  refine ⟨env, st, ρ, _, s1, E, S, h1, fun vx H1 ρ1 G1 S1 R1 => ?_⟩
  obtain ⟨a, C', dx, vs, rfl, i1, ndd, hC', h7, h8⟩ := S1.inst R1 h2
  rw [hC'.uniq hC] at h7
  refine ⟨a, dx, vs, rfl, h7, (lookF (f := m) h8).2.1 h4, env, s1, ρ1, xs, s2, E.grow S G1, S1, h5, fun us H2 ρ2 G2 S2 R2 => ?_⟩
  show spI X.K (n + 1) F (.ref a :: (us ++ [])) H2 Q C8.E0
  rw [List.append_nil]
  refine ⟨by have := R2.length; have := hn _ _ _ h6; simp at this ⊢; omega, s2, ρ2, .ref nn :: xs, z, st', S2, ?_, h6, fun v H3 ρ3 G3 S3 R3 => q v H3 ρ3 ((G1.trans G2).trans G3) S3 R3⟩
  unfold Reps
  exact ⟨.ref a, us, rfl, Rep.grow S1 G2 _ _ R1, R2⟩
theorem j_meth0 {tbl : List (Str × FA)} {pl : Sem Bool} (c : ∀ cf ∈ tbl, MetJ X.prog X.w X.K X.mg X.base k cf.1 m 1 cf.2 ∧ Ar 1 cf.2) (hr : Room j X.A) (hk : k ≤ j) (ho : PE X o (tI X.K io))
    (ht : eval (.Call (.Attribute o m apos) [] [] pos) X.env = (do
      let ov ← eval o X.env
      standAt apos.atName
      let (f, first) ← holding [ov] (getMethod ov m pl)
      callWith pos f first (backTo pos (starEach [] X.env)) (backToKw pos (keywordEach [] X.env))) := by rfl) :
    PE X (.Call (.Attribute o m apos) [] [] pos) (tI X.K (iMeth m tbl io iNil)) := by
  refine ⟨fun pins s σ H Q I h => ?_⟩
  obtain ⟨env, st, ρ, z, st', E, S, h, q⟩ := h
  obtain ⟨nn, s1, cl, fs, F, xs, s2, h1, h2, h3, h4, h5, h6⟩ := iMeth_some h
  cases h5
  obtain ⟨mj, hn⟩ := c (cl, F) (lookup_mem h3)
  obtain ⟨C, hC, mm⟩ := mj.ex
  refine (C8.pe_mt0 (pl := pl) mm hr hk ho ht).run pins s σ H Q I ?_
  refine ⟨env, st, ρ, _, _, E, S, h1, fun vx H1 ρ1 G1 S1 R1 => ?_⟩
  obtain ⟨a, C', dx, vs, rfl, i1, ndd, hC', h7, h8⟩ := S1.inst R1 h2
  rw [hC'.uniq hC] at h7
  refine ⟨a, dx, vs, rfl, h7, (lookF (f := m) h8).2.1 h4, ?_⟩
  refine ⟨by have := hn _ _ _ h6; simp at this ⊢, _, ρ1, [.ref nn], z, st', S1, ?_, h6, fun v H3 ρ3 G3 S3 R3 => q v H3 ρ3 (G1.trans G3) S3 R3⟩
  unfold Reps
  exact ⟨.ref a, [], rfl, R1, by unfold Reps; rfl⟩
/-- C(..): a new instance -/
def iMake (c : Str) (F : FA) (ir : IA) : IE := fun env st => ob (ir env st) fun xs s1 => ob (F (.ref s1.length :: xs) (s1 ++ [.ins c []])) fun v s2 => match v with
  | .non => some (.ref s1.length, s2)
  | _ => none
theorem make_to {K : PySem.W.Frag} {c : Str} {C : Addr} (hC : ClsAt K c C) {n : Nat} {f : FA} (hn : Ar (n + 1) f) {σ : L2.St} {H : Hp} {Q : VK} (h : tI K (iMake c f ir) σ H Q) : tMake C (spI K (n + 1) f) [] C8.E0 (tIA K ir) σ H Q := by
  obtain ⟨env, st, ρ, z, st', E, S, h, q⟩ := h
  obtain ⟨xs, s1, h1, h⟩ := ob_some h
  obtain ⟨v, s2, h2, h⟩ := ob_some h
  refine ⟨env, st, ρ, xs, s1, E, S, h1, fun vs H1 ρ1 G1 S1 R1 x dx hx hdx hne => ?_⟩
  split at h
  · cases h
    show spI K (n + 1) f (.ref x :: (vs ++ [])) _ _ C8.E0
    rw [List.append_nil]
    have gd : Grow H1 ρ1 (upd H1 dx (.own x)) ρ1 := grow_new hdx
    have hx' : upd H1 dx (.own x) x = none := by rw [upd_ne (fun z => hne z.symm)]; exact hx
    have Sd : RepS K (upd H1 dx (.own x)) ρ1 s1 := S1.new hdx
    have ga : Grow (upd H1 dx (.own x)) ρ1 (upd (upd H1 dx (.own x)) x (.ins C dx [])) (ρ1.add x) := grow_alloc hx'
    have Sa : RepS K (upd (upd H1 dx (.own x)) x (.ins C dx [])) (ρ1.add x) (s1 ++ [.ins c []]) := Sd.alloc hx' ⟨C, dx, [], hC, upd_same, rfl⟩
    have Rx : Rep K (upd (upd H1 dx (.own x)) x (.ins C dx [])) (ρ1.add x) (.ref s1.length) (.ref x) := by
      unfold Rep
      refine ⟨x, rfl, ?_⟩
      show (ρ1.l ++ [x])[s1.length]? = some x
      rw [← S1.len, List.getElem?_append_right (Nat.le_refl _)]
      simp
    refine ⟨by have := R1.length; have := hn _ _ _ h2; simp at this ⊢; omega, _, _, .ref s1.length :: xs, .non, _, Sa, ?_, h2, fun v H3 ρ3 G3 S3 R3 => ?_⟩
    · unfold Reps
      exact ⟨.ref x, vs, rfl, Rx, Reps.grow S1 (gd.trans ga) _ _ R1⟩
    · unfold Rep at R3
      subst R3
      exact ⟨rfl, q (.ref x) H3 ρ3 ((G1.trans (gd.trans ga)).trans G3) S3 (Rep.grow Sa G3 _ _ Rx)⟩
  · cases h
theorem j_make (c : MakJ X.prog X.w X.K X.mg X.base k x (n + 1) F) (hn : Ar (n + 1) F) (hr : Room j X.A) (hk : k + 1 ≤ j) (hg : Gl X x) (ha : PA X (e :: es) (tIA X.K ir))
    (hdb : (x == ("__debug__" : Str)) = false := by decide) (he : starEach (e :: es) X.env = (false, eval e X.env) :: starEach es X.env := by rfl) (hpl : (backTo pos (starEach es X.env)).any (·.1) = false := by rfl) :
    PE X (.Call (.Name x p) (e :: es) [] pos) (tI X.K (iMake x F ir)) := by
  obtain ⟨C, hC, mm⟩ := c.ex
  exact PE.imp (C8.pe_mk mm hr hk hg ha hdb he hpl) fun _ _ _ h => make_to hC hn h
theorem j_make0 (c : MakJ X.prog X.w X.K X.mg X.base k x 1 F) (hn : Ar 1 F) (hr : Room j X.A) (hk : k + 1 ≤ j) (hg : Gl X x)
    (hdb : (x == ("__debug__" : Str)) = false := by decide) : PE X (.Call (.Name x p) [] [] pos) (tI X.K (iMake x F iNil)) := by
  obtain ⟨C, hC, mm⟩ := c.ex
  obtain ⟨f, fd, ps, ds, M, hF, hm, b, d⟩ := mm.ex
  exact PE.imp (pe_make0 (E := C8.E0) M hF (hr.mono hk) hg hm b d C8.pass0 hdb) fun _ _ _ h => nil_to (make_to hC hn h)
end
/-- what a body has done, for its promise -/
theorem body_to {K : PySem.W.Frag} {N ps : List Str} {ib : IS} {W : WX} {H : Hp} {vs : List V} {Q : VK} {E : XK} (hsp : spI K ps.length (iDef ps.length N.length ib) vs H Q E) : tIS K W ib { nx := fun _ H' => Q .non H', rt := Q } (L2.start N vs) H := by
  obtain ⟨hl, s1, ρ, xs, z, st', S1, R1, h, q⟩ := hsp
  unfold iDef at h
  split at h
  · have E1 := repE_start R1 N
    rw [hl] at E1
    split at h
    · rename_i e1 s2 e
      cases h
      refine ⟨_, s1, ρ, _, E1, S1, e, fun σ' H' ρ' G S' E' => ?_⟩
      obtain ⟨ρ2, G2, S2, R2⟩ := gc_to (v := .non) (u := .non) S1 G S' (by unfold Rep; rfl)
      exact q .non H' ρ2 G2 S2 R2
    · rename_i v s2 e
      cases h
      refine ⟨_, s1, ρ, _, E1, S1, e, fun v H' ρ' G S' R' => ?_⟩
      obtain ⟨ρ2, G2, S2, R2⟩ := gc_to S1 G S' R'
      exact q v H' ρ2 G2 S2 R2
    · cases h
  · cases h
abbrev W0 : WX := fun _ _ _ _ => False
/-- a def of the module, by its body -/
theorem cal_J {P : Program} {w : World} {K : PySem.W.Frag} {mg : Str → Option Value} {base : Heap} {x : Str} {st : Stmt} {f : Addr} {fd : FuncData} {N ps : List Str} {k : Nat} {ib : IS} (F : C8.Def K mg x st f fd) (b : Binds K fd ps []) (S : FnScope N ps (C8.fnScope st))
    (hb : ∀ (cdv : Value) (A : Around) (outer : List PySem.Env) (s : Shared) (H : Hp) (E : XK), Room k (A.deeper (envOfC x (C8.fnScope st) s.heap.objs.size f cdv)) →
      PSs (cxOf CX0 P w K mg base N x (C8.fnScope st) f cdv A outer s H E).nox (C8.fnBody st) (tIS K W0 ib)) : CalJ P w K mg base (k + 1) x ps.length (iDef ps.length N.length ib) :=
  C8.cal0 F b .nil S (fun vs H Q E h => h.1) fun cdv A outer s H vs Q E hr hsp => ⟨_, hb cdv A outer s H E hr, body_to hsp⟩
/-- a method -/
theorem met_J {P : Program} {w : World} {K : PySem.W.Frag} {mg : Str → Option Value} {base : Heap} {c m qual : Str} {C : Addr} {st : Stmt} {f : Addr} {fd : FuncData} {N ps : List Str} {k : Nat} {ib : IS} (hC : ClsAt K c C) (hc : Cls K C) (me : Meth K C m f) (F : C8.Fun K m qual st f fd) (b : Binds K fd ps []) (S : FnScope N ps (C8.fnScope st))
    (hb : ∀ (cdv : Value) (A : Around) (outer : List PySem.Env) (s : Shared) (H : Hp) (E : XK), Room k (A.deeper (envOfC qual (C8.fnScope st) s.heap.objs.size f cdv)) →
      PSs (cxOf CX0 P w K mg base N qual (C8.fnScope st) f cdv A outer s H E).nox (C8.fnBody st) (tIS K W0 ib)) : MetJ P w K mg base (k + 1) c m ps.length (iDef ps.length N.length ib) :=
  ⟨C, hC, C8.met0 hc me F b S (fun vs H Q E h => h.1) fun cdv A outer s H vs Q E hr hsp => ⟨_, hb cdv A outer s H E hr, body_to hsp⟩⟩
/-- a class by its __init__ -/
theorem mak_J {P : Program} {w : World} {K : PySem.W.Frag} {mg : Str → Option Value} {base : Heap} {c qual : Str} {C : Addr} {st : Stmt} {f : Addr} {fd : FuncData} {N ps : List Str} {k : Nat} {ib : IS} (hC : ClsAt K c C) (M : Mk K C f) (hm : mg c = some (.ref C)) (F : C8.Fun K "__init__" qual st f fd) (b : Binds K fd ps []) (S : FnScope N ps (C8.fnScope st))
    (hb : ∀ (cdv : Value) (A : Around) (outer : List PySem.Env) (s : Shared) (H : Hp) (E : XK), Room k (A.deeper (envOfC qual (C8.fnScope st) s.heap.objs.size f cdv)) →
      PSs (cxOf CX0 P w K mg base N qual (C8.fnScope st) f cdv A outer s H E).nox (C8.fnBody st) (tIS K W0 ib)) : MakJ P w K mg base (k + 1) c ps.length (iDef ps.length N.length ib) :=
  ⟨C, hC, C8.mak0 M hm F b .nil S (fun vs H Q E h => h.1) fun cdv A outer s H vs Q E hr hsp => ⟨_, hb cdv A outer s H E hr, body_to hsp⟩⟩
end IL

namespace IL
open PySem PySem.Spec PyProof.Rows L2

section
variable {X : Cx} {a b c e i o : Expr} {es rest : List Expr} {pos : Pos} {ia ib ic ie io : IE} {ir : IA}
/-! ### repr of data -/
/-- lists, tuples, integers, truths, None, texts, not too deep, written in less than a line -/
def reprOk (d : PyData) : Bool := d.showable && !d.hasDict && decide (d.depth ≤ 60) && decide (d.shown.length ≤ 16000000)
def rReprD (K : PySem.W.Frag) : List V → Hp → VK → Prop := fun xs H Q => ∃ (p : Addr) (d : PyData), xs = [.ref p] ∧ Dp K H (.ref p) d ∧ reprOk d = true ∧ Q (.str d.shown) H
theorem cr_reprD (hG : X.A.guards = some []) (hu : X.A.units + 64 < cLine) : CallR X (.builtin "repr") (rReprD X.K) := by
  intro pins s σ H xs us Q I r h
  obtain ⟨p, d, rfl, hd, hk, q⟩ := h
  unfold reprOk at hk
  simp only [Bool.and_eq_true, Bool.not_eq_true', decide_eq_true_eq] at hk
  obtain ⟨⟨⟨k1, k2⟩, k3⟩, k4⟩ := hk
  cases r with
  | @cons _ u0 _ ur ra rb =>
    cases rb
    obtain rfl : u0 = Value.ref p := ra
    obtain ⟨as, r1⟩ := Dp.reads I d (.ref p) (.ref p) hd rfl
    refine PySem.repr_of_reads' r1 k1 (fun z => by rw [k2] at z; cases z) hG (by omega) (fun _ _ z => z) (fun h' u tk hk => ?_) (Nat.le_trans k4 (by decide))
    exact ⟨.str d.shown, H, I.un (h' := h') (t' := tk) (Un.kept hk) (I.hok.kept hk), ⟨_, rfl⟩, q⟩
def fReprD : F1 := fun x st => match x with
  | .bl b => some (.str (if b then "True" else "False"), st)
  | .tup _ => match toD st 70 x with
    | some d => if reprOk d then some (.str d.shown, st) else none
    | none => none
  | .frz _ => match toD st 70 x with
    | some d => if reprOk d then some (.str d.shown, st) else none
    | none => none
  | .ref _ => match toD st 70 x with
    | some d => if reprOk d then some (.str d.shown, st) else none
    | none => none
  | _ => none
theorem CallI.orL {K : PySem.W.Frag} {r r' : List V → Hp → VK → Prop} {f : FA} (h : CallI K r f) : CallI K (fun x H Q => r x H Q ∨ r' x H Q) f := fun H ρ st xs vs z st' Q S R h1 q => .inl (h H ρ st xs vs z st' Q S R h1 q)
theorem f_reprD {K : PySem.W.Frag} : CallI K (fun xs H Q => rReprB xs H Q ∨ rReprD K xs H Q) (a1 fReprD) := call1 fun H ρ st x vx z st' Q S R h q => by
  have main : ∀ (p : Addr), vx = .ref p → (match toD st 70 x with
    | some d => if reprOk d then some (PV.str d.shown, st) else none
    | none => none) = some (z, st') → rReprD K [vx] H Q := fun p hp h => by
    split at h
    · rename_i d e
      split at h
      · rename_i hk
        cases h
        subst hp
        exact ⟨p, d, rfl, toD_dp S _ _ _ _ R e, hk, q _ H ρ Grow.refl S (by unfold Rep; rfl)⟩
      · cases h
    · cases h
  cases x with
  | bl b =>
    cases h
    unfold Rep at R
    subst R
    exact .inl ⟨b, rfl, q _ H ρ Grow.refl S (by unfold Rep; rfl)⟩
  | tup xs =>
    have R0 := R
    unfold Rep at R0
    obtain ⟨p, vs, hp, _⟩ := R0
    exact .inr (main p hp h)
  | frz xs =>
    have R0 := R
    unfold Rep at R0
    obtain ⟨p, vs, hp, _⟩ := R0
    exact .inr (main p hp h)
  | ref n =>
    have R0 := R
    unfold Rep at R0
    obtain ⟨p, hp, _⟩ := R0
    exact .inr (main p hp h)
  | _ => cases h
theorem cr_repr2 (hG : X.A.guards = some []) (hu : X.A.units + 64 < cLine) : CallR X (.builtin "repr") (fun xs H Q => rReprB xs H Q ∨ rReprD X.K xs H Q) := CallR.or cr_reprB (cr_reprD hG hu)

/-! ### == of dicts -/
def rEqK (K : PySem.W.Frag) (neg : Bool) : R2 := fun x y H Q => ∃ a b ks ls, x = .ref a ∧ y = .ref b ∧ Rd H a (.dK ks) ∧ Rd H b (.dK ls) ∧ ks.length = ls.length ∧
  (∀ p ∈ ks, ∃ v d d', valV ls p.1 = some v ∧ Dp K H p.2 d ∧ Dp K H v d' ∧ SeqAt.shaped d = true ∧ SeqAt.shaped d' = true ∧ PyData.eqv d d' = true) ∧ Q (.bl (!neg)) H
theorem hits_data {A : Around} {pins : List (Addr × Obj)} {σ : L2.St} {H : Hp} {s : Shared} (I : L2.Inv X pins σ H s) (hu : A.units + 64 < cLine) {kvs : List (Key × V)} {vb : List (Key × Value)} (rb : KV kvs vb) {ks : List (Key × V)} {va : List (Key × Value)} (ra : KV ks va) :
    (∀ p ∈ ks, ∃ v d d', valV kvs p.1 = some v ∧ Dp X.K H p.2 d ∧ Dp X.K H v d' ∧ SeqAt.shaped d = true ∧ SeqAt.shaped d' = true ∧ PyData.eqv d d' = true) → PySem.W.KeqHits A s vb va true := by
  unfold KV at ra
  induction ra with
  | nil => intro _; exact .nil
  | @cons p q ps qs h t ih =>
    intro hp
    obtain ⟨h1, h2⟩ := h
    obtain ⟨v, d, d', e, f1, f2, f3, f4, f5⟩ := hp p List.mem_cons_self
    have rr : RelO (some v) (valueAt vb p.1) := by rw [← e]; exact rb.val p.1
    obtain ⟨y, hy, ry⟩ := rr.some_of
    obtain ⟨k, w⟩ := q
    have h1' : p.1 = k := h1
    rw [h1'] at hy
    obtain ⟨as, r1⟩ := Dp.reads I d p.2 w f1 h2
    obtain ⟨bs, r2⟩ := Dp.reads I d' v y f2 ry
    have he := SeqAt.eqAt_reads d d' A s w y as bs r1 r2 (SeqAt.canLay_of_shaped f3) (SeqAt.canLay_of_shaped f4) (SeqAt.room_of_shaped f3 hu)
    rw [f5] at he
    show PySem.W.KeqHits A s vb ((k, w) :: qs) (true && true)
    exact .hit hy he (ih fun p' hm => hp p' (List.mem_cons_of_mem _ hm))
theorem objd {pins : List (Addr × Obj)} {σ : L2.St} {H : Hp} {s : Shared} {a : Addr} {ks : List (Key × V)} (I : L2.Inv X pins σ H s) (h : Rd H a (.dK ks)) : ObjOk X.prog X.w H s.heap a (.dK ks) := by
  rcases h with h | ⟨o, h⟩
  · exact I.hok a _ h
  · exact (I.hok a _ h).2
theorem op_eqK (hu : X.A.units + 65 < cLine) : OpR X (compareOp .Eq) (rEqK X.K false) := by
  intro pins s σ H x y v u Q I rx ry h
  obtain ⟨a, b, ks, ls, rfl, rfl, ea, eb, hlen, hp, q⟩ := h
  obtain rfl : v = Value.ref a := rx
  obtain rfl : u = Value.ref b := ry
  obtain ⟨_, ya, va, ra, da⟩ := (objd I ea)
  obtain ⟨_, yb, vb, rb, db⟩ := (objd I eb)
  have hl : va.length = vb.length := by rw [← ra.length, ← rb.length]; exact hlen
  exact PySem.W.keq_eq (knd := mixKind X.prog X.w) (r := true) ya yb da db (by omega) (fun _ => hits_data I (by show X.A.units + 1 + 64 < cLine; omega) rb ra hp) ⟨.bl true, H, I, by simp [hl]; rfl, q⟩
theorem op_neK (hu : X.A.units + 65 < cLine) : OpR X (compareOp .NotEq) (rEqK X.K true) := by
  intro pins s σ H x y v u Q I rx ry h
  obtain ⟨a, b, ks, ls, rfl, rfl, ea, eb, hlen, hp, q⟩ := h
  obtain rfl : v = Value.ref a := rx
  obtain rfl : u = Value.ref b := ry
  obtain ⟨_, ya, va, ra, da⟩ := (objd I ea)
  obtain ⟨_, yb, vb, rb, db⟩ := (objd I eb)
  have hl : va.length = vb.length := by rw [← ra.length, ← rb.length]; exact hlen
  exact PySem.W.keq_ne (knd := mixKind X.prog X.w) (r := true) ya yb da db (by omega) (fun _ => hits_data I (by show X.A.units + 1 + 64 < cLine; omega) rb ra hp) ⟨.bl false, H, I, by simp [hl]; rfl, q⟩
/-- the pairs of a dict, be it written any more or not -/
def pairsOf (st : Sto) : PV → Option (List (Key × PV))
  | .ref n => match st[n]? with
    | some (.dK kvs) => some kvs
    | _ => none
  | .fdk ks xs => if ks.length = xs.length then some (ks.zip xs) else none
  | _ => none
theorem repK_zip {K : PySem.W.Frag} {H : Hp} {ρ : Rho} : ∀ {ks : List Key} {xs : List PV} {vs : List (Key × V)}, ks.length = xs.length → vs.map (·.1) = ks → Reps K H ρ xs (vs.map (·.2)) → RepK K H ρ (ks.zip xs) vs
  | [], [], [], _, _, _ => rfl
  | [], [], v :: vs, _, h, _ => by simp at h
  | [], x :: xs, _, h, _, _ => by simp at h
  | k :: ks, [], _, h, _, _ => by simp at h
  | k :: ks, x :: xs, [], _, h, _ => by simp at h
  | k :: ks, x :: xs, v :: vs, h, h2, h3 => by
    simp only [List.map_cons, List.cons.injEq] at h2
    rw [List.map_cons] at h3
    unfold Reps at h3
    obtain ⟨w, r, e, h4, h5⟩ := h3
    cases e
    obtain ⟨v1, v2⟩ := v
    simp only at h2 h4
    obtain ⟨rfl, h2⟩ := h2
    exact ⟨v2, vs, rfl, h4, repK_zip (by simpa using h) h2 h5⟩
theorem pairs_rep {K : PySem.W.Frag} {H : Hp} {ρ : Rho} {st : Sto} (S : RepS K H ρ st) {x : PV} {v : V} {kvs : List (Key × PV)} (R : Rep K H ρ x v) (h : pairsOf st x = some kvs) : ∃ a vs, v = .ref a ∧ Rd H a (.dK vs) ∧ RepK K H ρ kvs vs := by
  unfold pairsOf at h
  split at h
  · split at h
    · rename_i kvs' e
      cases h
      obtain ⟨a, vs, rfl, _, _, h1, h2⟩ := S.dct R e
      exact ⟨a, vs, rfl, .of h1, h2⟩
    · cases h
  · rename_i ks xs
    split at h
    · rename_i hl
      cases h
      unfold Rep at R
      obtain ⟨a, vs, rfl, ⟨ws, h1, _, h2, h3⟩, h4⟩ := R
      subst h3
      exact ⟨a, ws, rfl, h1, repK_zip hl h2 h4⟩
    · cases h
  · cases h
/-- every value of one is that of the other one -/
def sameK (st : Sto) (kvs ls : List (Key × PV)) : Bool := decide (kvs.length = ls.length) && kvs.all fun p => match findP ls p.1 with
  | some y => eqP st p.2 y == some true
  | none => false
def eqB (st : Sto) (x y : PV) : Option Bool := match pairsOf st x, pairsOf st y with
  | some ks, some ls => if sameK st ks ls then some true else none
  | _, _ => eqP st x y
def fEqB : F2 := fun x y st => (eqB st x y).map fun b => (.bl b, st)
def fNeB : F2 := fun x y st => (eqB st x y).map fun b => (.bl (!b), st)
theorem mem_repK {K : PySem.W.Frag} {H : Hp} {ρ : Rho} : ∀ {xs : List (Key × PV)} {vs : List (Key × V)}, RepK K H ρ xs vs → ∀ p ∈ vs, ∃ x, (p.1, x) ∈ xs ∧ Rep K H ρ x p.2
  | [], vs, h, p, hp => by subst h; simp at hp
  | x :: xs, vs, h, p, hp => by
    obtain ⟨v, r, rfl, h1, h2⟩ := h
    rcases List.mem_cons.mp hp with e | hp
    · subst e
      exact ⟨x.2, List.mem_cons_self .., h1⟩
    · obtain ⟨y, h3, h4⟩ := mem_repK h2 p hp
      exact ⟨y, List.mem_cons_of_mem _ h3, h4⟩
theorem eqB_rep {K : PySem.W.Frag} {H : Hp} {ρ : Rho} {st : Sto} (S : RepS K H ρ st) {x y : PV} {v w : V} {b : Bool} (Rx : Rep K H ρ x v) (Ry : Rep K H ρ y w) (h : eqB st x y = some b) :
    (∃ d e, Dp K H v d ∧ Dp K H w e ∧ SeqAt.shaped d = true ∧ SeqAt.shaped e = true ∧ PyData.eqv d e = b) ∨
    (b = true ∧ ∃ a c ks ls, v = .ref a ∧ w = .ref c ∧ Rd H a (.dK ks) ∧ Rd H c (.dK ls) ∧ ks.length = ls.length ∧
      (∀ p ∈ ks, ∃ v d d', valV ls p.1 = some v ∧ Dp K H p.2 d ∧ Dp K H v d' ∧ SeqAt.shaped d = true ∧ SeqAt.shaped d' = true ∧ PyData.eqv d d' = true)) := by
  unfold eqB at h
  split at h
  · rename_i ks ls e1 e2
    split at h
    · rename_i hs
      cases h
      refine .inr ⟨rfl, ?_⟩
      obtain ⟨a, vs, rfl, h1, r1⟩ := pairs_rep S Rx e1
      obtain ⟨c, ws, rfl, h2, r2⟩ := pairs_rep S Ry e2
      unfold sameK at hs
      rw [Bool.and_eq_true, decide_eq_true_eq, List.all_eq_true] at hs
      refine ⟨a, c, vs, ws, rfl, rfl, h1, h2, by rw [← r1.length, ← r2.length]; exact hs.1, fun p hp => ?_⟩
      obtain ⟨z, hz, Rz⟩ := mem_repK r1 p hp
      have h3 := hs.2 _ hz
      simp only at h3
      split at h3
      · rename_i y' e3
        obtain ⟨u, hu, Ru⟩ := (find_rep (k := p.1) r2).1 _ e3
        have h4 : eqP st z y' = some true := by simpa using h3
        obtain ⟨d, e', f1, f2, f3, f4, f5⟩ := eqP_dp S Rz Ru h4
        exact ⟨u, d, e', hu, f1, f2, f3, f4, f5⟩
      · cases h3
    · cases h
  · exact .inl (eqP_dp S Rx Ry h)
theorem f_eqB {K : PySem.W.Frag} : OpI K (fun x y H Q => rEqD K x y H Q ∨ rEqK K false x y H Q) fEqB := by
  intro H ρ st x y vx vy z st' Q S Rx Ry h q
  obtain ⟨b, e0, hz⟩ := map_some h
  cases hz
  have fin := q (.bl b) H ρ Grow.refl S (by unfold Rep; rfl)
  rcases eqB_rep S Rx Ry e0 with ⟨d, e, h1, h2, h3, h4, rfl⟩ | ⟨rfl, a, c, ks, ls, h1, h2, h3, h4, h5, h6⟩
  · exact .inl ⟨d, e, h1, h2, h3, h4, fin⟩
  · exact .inr ⟨a, c, ks, ls, h1, h2, h3, h4, h5, h6, fin⟩
theorem f_neB {K : PySem.W.Frag} : OpI K (fun x y H Q => rNeD K x y H Q ∨ rEqK K true x y H Q) fNeB := by
  intro H ρ st x y vx vy z st' Q S Rx Ry h q
  obtain ⟨b, e0, hz⟩ := map_some h
  cases hz
  have fin := q (.bl (!b)) H ρ Grow.refl S (by unfold Rep; rfl)
  rcases eqB_rep S Rx Ry e0 with ⟨d, e, h1, h2, h3, h4, rfl⟩ | ⟨rfl, a, c, ks, ls, h1, h2, h3, h4, h5, h6⟩
  · exact .inl ⟨d, e, h1, h2, h3, h4, fin⟩
  · exact .inr ⟨a, c, ks, ls, h1, h2, h3, h4, h5, h6, fin⟩
theorem op_eqB (hu : X.A.units + 65 < cLine) : OpR X (compareOp .Eq) (fun x y H Q => rEqD X.K x y H Q ∨ rEqK X.K false x y H Q) := OpR.or (op_eqD (by omega)) (op_eqK hu)
theorem op_neB (hu : X.A.units + 65 < cLine) : OpR X (compareOp .NotEq) (fun x y H Q => rNeD X.K x y H Q ∨ rEqK X.K true x y H Q) := OpR.or (op_neD (by omega)) (op_neK hu)

/-! ### subscripts and membership, of dicts that are not written any more, too -/
def fSubB : F2 := fun x y st => match pairsOf st x with
  | some kvs => match keyP y with
    | some k => (findP kvs k).map fun v => (v, st)
    | none => none
  | none => fIx x y st
theorem r_subB (hu : X.A.units + 1 < cLine) (ha : PE X a (tI X.K ia)) (hb : PE X b (tI X.K ib)) (hs : PlainIx b) : PE X (.Subscript a b pos) (tI X.K (iBin fSubB ia ib)) :=
  PE.imp (PE.or (pe_ix ix_any ha hb hs) (pe_dget hu ha hb hs)) fun σ H Q ⟨env, st, ρ, z, st', E, S, h, q⟩ => by
    obtain ⟨x, s1, h1, h⟩ := ob_some h
    obtain ⟨y, s2, h2, h⟩ := ob_some h
    unfold fSubB at h
    cases e : pairsOf s2 x with
    | none =>
      rw [e] at h
      exact .inl (bin_to (f := fIx) f_ix ⟨env, st, ρ, z, st', E, S, by unfold iBin; rw [h1]; simp only [ob]; rw [h2]; exact h, q⟩)
    | some kvs =>
      rw [e] at h
      simp only at h
      split at h
      · rename_i k e2
        obtain ⟨v, e3, hz⟩ := map_some h
        cases hz
        refine .inr ⟨env, st, ρ, x, s1, E, S, h1, fun vx H1 ρ1 G1 S1 R1 => ⟨env, s1, ρ1, y, _, E.grow S G1, S1, h2, fun vy H2 ρ2 G2 S2 R2 => ?_⟩⟩
        obtain ⟨p, vs, rfl, hp, r⟩ := pairs_rep S2 (Rep.grow S1 G2 _ _ R1) e
        obtain ⟨w, hw, rw'⟩ := (find_rep (k := k) r).1 _ e3
        have hk := key_rep R2 e2
        subst hk
        exact ⟨p, w, rfl, by rw [← hw]; exact .inl ⟨_, _, hp, rfl, rfl⟩, q w H2 ρ2 (G1.trans G2) S2 rw'⟩
      · cases h
def inB (st : Sto) (x y : PV) : Option Bool := match pairsOf st y with
  | some kvs => match keyP x with
    | some k => some (findP kvs k).isSome
    | none => none
  | none => match x, y with
    | .str i, .str j => some (!(Builtin.Str.occurrences j i 0 j.length 1).isEmpty)
    | _, _ => inP st x y
def fInB : F2 := fun x y st => (inB st x y).map fun b => (.bl b, st)
def fNotInB : F2 := fun x y st => (inB st x y).map fun b => (.bl (!b), st)
theorem inB_rep {K : PySem.W.Frag} {H : Hp} {ρ : Rho} {st : Sto} (S : RepS K H ρ st) {x y : PV} {v w : V} {b : Bool} (Rx : Rep K H ρ x v) (Ry : Rep K H ρ y w) (h : inB st x y = some b) :
    (∃ p xs, w = .ref p ∧ (SqL K H p xs ∨ SqT K H p xs) ∧ flatV v = true ∧ xs.all flatV = true ∧ inV v xs = b) ∨ (∃ a o, w = .ref a ∧ DGet H a v o ∧ o.isSome = b) ∨ ∃ i j, v = .str i ∧ w = .str j ∧ (!(Builtin.Str.occurrences j i 0 j.length 1).isEmpty) = b := by
  unfold inB at h
  split at h
  · rename_i kvs e
    split at h
    · rename_i k e2
      cases h
      obtain ⟨p, vs, rfl, hp, r⟩ := pairs_rep S Ry e
      have hk := key_rep Rx e2
      subst hk
      exact .inr (.inl ⟨p, _, rfl, .inl ⟨_, _, hp, rfl, rfl⟩, (find_some r).symm⟩)
    · cases h
  · split at h
    · cases h
      unfold Rep at Rx Ry
      subst Rx Ry
      exact .inr (.inr ⟨_, _, rfl, rfl, rfl⟩)
    · exact .inl (inP_rep S Rx Ry h)
theorem f_inB {K : PySem.W.Frag} : OpI K (rInAll K) fInB := by
  intro H ρ st x y vx vy z st' Q S Rx Ry h q
  obtain ⟨b, e, hz⟩ := map_some h
  cases hz
  have fin := q (.bl b) H ρ Grow.refl S (by unfold Rep; rfl)
  rcases inB_rep S Rx Ry e with ⟨p, xs, h1, h2, h3, h4, rfl⟩ | ⟨a, o, h1, h2, rfl⟩ | ⟨i, j, h1, h2, rfl⟩
  · exact .inl ⟨p, xs, h1, h2, h3, h4, fin⟩
  · exact .inr (.inl ⟨a, o, h1, h2, fin⟩)
  · exact .inr (.inr ⟨i, j, h1, h2, fin⟩)
theorem f_notInB {K : PySem.W.Frag} : OpI K (rNotInAll K) fNotInB := by
  intro H ρ st x y vx vy z st' Q S Rx Ry h q
  obtain ⟨b, e, hz⟩ := map_some h
  cases hz
  have fin := q (.bl (!b)) H ρ Grow.refl S (by unfold Rep; rfl)
  rcases inB_rep S Rx Ry e with ⟨p, xs, h1, h2, h3, h4, rfl⟩ | ⟨a, o, h1, h2, rfl⟩ | ⟨i, j, h1, h2, rfl⟩
  · exact .inl ⟨p, xs, h1, h2, h3, h4, fin⟩
  · exact .inr (.inl ⟨a, o, h1, h2, fin⟩)
  · exact .inr (.inr ⟨i, j, h1, h2, fin⟩)
/-- len, of these dicts, too -/
def ownPairs (st : Sto) : PV → Option (List (Key × PV))
  | .ref n => match st[n]? with
    | some (.dK kvs) => some kvs
    | _ => none
  | _ => none
def fLenB : F1 := fun x st => match ownPairs st x with
  | some kvs => some (.int (kvs.length : Int), st)
  | none => fLen x st
theorem f_lenB {K : PySem.W.Frag} : CallI K (rLenA K) (a1 fLenB) := by
  intro H ρ st xs vs z st' Q S R h q
  cases xs with
  | nil => cases h
  | cons x xs =>
    cases xs with
    | cons => cases h
    | nil =>
      have h' : fLenB x st = some (z, st') := h
      unfold fLenB at h'
      split at h'
      · rename_i kvs e
        cases h'
        obtain ⟨vx, rfl, Rx⟩ := one_arg R
        obtain ⟨a, vs, rfl, h1, r⟩ : ∃ a vs, vx = .ref a ∧ H a = some (.dK vs) ∧ RepK K H ρ kvs vs := by
          unfold ownPairs at e
          split at e
          · split at e
            · rename_i kvs' e2
              cases e
              obtain ⟨a, vs, rfl, _, _, h1, h2⟩ := S.dct Rx e2
              exact ⟨a, vs, rfl, h1, h2⟩
            · cases e
          · cases e
        exact .inr ⟨a, vs, rfl, h1, by rw [← r.length]; exact q _ H ρ Grow.refl S (by unfold Rep; rfl)⟩
      · exact f_len H ρ st [x] vs z st' Q S R h' q
/-! ### a dict of the module, with texts as keys -/
structure KTab (K : PySem.W.Frag) (w : World) (mg : Str → Option Value) (x : Str) (tab : List (Str × PV)) : Prop where
  ex : ∃ (d : Addr) (es : Array DictEntry) (n : Nat), mg x = some (.ref d) ∧ KDict K w d es n ∧ (∀ z : Str, (PySem.W.nsIn K d z = some none ∧ tab.lookup z = none) ∨ ∃ (u : Value) (v : V) (y : PV), PySem.W.nsIn K d z = some (some u) ∧ tab.lookup z = some y ∧ RelV v u ∧ ∀ H ρ, Rep K H ρ y v)
def fTab (tab : List (Str × PV)) : F1 := fun x st => match x with
  | .str z => (tab.lookup z).map fun v => (v, st)
  | _ => none
def fInTab (tab : List (Str × PV)) (neg : Bool) : F1 := fun x st => match x with
  | .str z => some (.bl (xor neg (tab.lookup z).isSome), st)
  | _ => none
variable {x : Str} {p1 p2 : Pos} {tab : List (Str × PV)}
/-- NAME[e] -/
theorem j_tab (T : KTab X.K X.w X.mg x tab) (hg : Gl X x) (hb : PE X b (tI X.K ib)) (hs : PlainIx b) (hd : (x == ("__debug__" : Str)) = false := by decide) : PE X (.Subscript (.Name x p1) b pos) (tI X.K (iUn (fTab tab) ib)) := by
  obtain ⟨d, es, n, hm, D, h⟩ := T.ex
  refine PE.imp (pe_ix ix_kdict (pe_glob (v := .ref d) hg hm rfl hd) hb hs) fun σ H Q ⟨env, st, ρ, z, st', E, S, h1, q⟩ => ?_
  obtain ⟨y, s1, h2, h3⟩ := ob_some h1
  refine ⟨env, st, ρ, y, s1, E, S, h2, fun vy H1 ρ1 G1 S1 R1 => ?_⟩
  unfold fTab at h3
  split at h3
  · rename_i t
    obtain ⟨v, e, hz⟩ := map_some h3
    cases hz
    unfold Rep at R1
    subst R1
    rcases h t with ⟨_, h5⟩ | ⟨u, v', y', h4, h5, h6, h7⟩
    · rw [h5] at e; cases e
    · rw [h5] at e; cases e
      exact ⟨d, t, v', rfl, rfl, ⟨es, n, u, D.at_, D.lit, h4, h6⟩, q v' H1 ρ1 G1 S1 (h7 _ _)⟩
  · cases h3
/-- e in NAME, e not in NAME -/
theorem j_inTab (T : KTab X.K X.w X.mg x tab) (hg : Gl X x) (ha : PE X a (tI X.K ia)) (hm2 : behindInMarks .In (.Name x p1) = false := by rfl) (hd : (x == ("__debug__" : Str)) = false := by decide) : PE X (.Compare a [.In] [.Name x p1] pos) (tI X.K (iUn (fInTab tab false) ia)) := by
  obtain ⟨d, es, n, hm, D, h⟩ := T.ex
  refine PE.imp (pe_cmpR (op_in_kd D) ha (pe_glob (v := .ref d) hg hm rfl hd) hm2) fun σ H Q ⟨env, st, ρ, z, st', E, S, h1, q⟩ => ?_
  obtain ⟨y, s1, h2, h3⟩ := ob_some h1
  refine ⟨env, st, ρ, y, s1, E, S, h2, fun vy H1 ρ1 G1 S1 R1 => ?_⟩
  unfold fInTab at h3
  split at h3
  · rename_i t
    cases h3
    unfold Rep at R1
    subst R1
    rcases h t with ⟨h4, h5⟩ | ⟨u, v', y', h4, h5, h6, h7⟩
    · exact ⟨t, none, rfl, rfl, h4, q _ H1 ρ1 G1 S1 (by unfold Rep; simp [h5])⟩
    · exact ⟨t, some u, rfl, rfl, h4, q _ H1 ρ1 G1 S1 (by unfold Rep; simp [h5])⟩
  · cases h3
theorem j_notInTab (T : KTab X.K X.w X.mg x tab) (hg : Gl X x) (ha : PE X a (tI X.K ia)) (hm2 : behindInMarks .NotIn (.Name x p1) = false := by rfl) (hd : (x == ("__debug__" : Str)) = false := by decide) : PE X (.Compare a [.NotIn] [.Name x p1] pos) (tI X.K (iUn (fInTab tab true) ia)) := by
  obtain ⟨d, es, n, hm, D, h⟩ := T.ex
  refine PE.imp (pe_cmpR (op_notIn_kd D) ha (pe_glob (v := .ref d) hg hm rfl hd) hm2) fun σ H Q ⟨env, st, ρ, z, st', E, S, h1, q⟩ => ?_
  obtain ⟨y, s1, h2, h3⟩ := ob_some h1
  refine ⟨env, st, ρ, y, s1, E, S, h2, fun vy H1 ρ1 G1 S1 R1 => ?_⟩
  unfold fInTab at h3
  split at h3
  · rename_i t
    cases h3
    unfold Rep at R1
    subst R1
    rcases h t with ⟨h4, h5⟩ | ⟨u, v', y', h4, h5, h6, h7⟩
    · exact ⟨t, none, rfl, rfl, h4, q _ H1 ρ1 G1 S1 (by unfold Rep; simp [h5])⟩
    · exact ⟨t, some u, rfl, rfl, h4, q _ H1 ρ1 G1 S1 (by unfold Rep; simp [h5])⟩
  · cases h3
end
/-! ### the end of a law: called where no repr is under way -/
/-- the law's def keeps its promise at the call -/
def LawOk (P : Program) (w : World) (K : PySem.W.Frag) (mg : Str → Option Value) (base : Heap) (fa : Addr) (fd : FuncData) (x : Str) (sp : Sp) : Prop :=
  ∀ (s : Shared) (H : Hp) (u : Value) (v : V) (Q : VK), Env0 P w K mg base callerA [] s H → BindsTo s fd ⟨[u], []⟩ [(x, u)] → RelV v u → sp [v] H Q C8.E0 →
    codeAny (model P w) callerA (.call (.ref fa) ⟨[u], []⟩) (CR CX0 [] P w H s Q C8.E0) s
theorem deeper_guards {env : PySem.Env} : (callerA.deeper env).guards = some [] := rfl
/-- .. by its body, that may know that no repr is under way -/
theorem lawOk_of {P : Program} {w : World} {K : PySem.W.Frag} {mg : Str → Option Value} {base : Heap} {k : Nat} {x : Str} {st : Stmt} {f : Addr} {fd : FuncData} {N : List Str} {y : Str} {ib : IS} (hroom : Room (k + 1) callerA) (F : C8.Fun K x x st f fd) (S : FnScope N [y] (C8.fnScope st))
    (hb : ∀ (cdv : Value) (A : Around) (outer : List PySem.Env) (s : Shared) (H : Hp) (E : XK), Room k (A.deeper (envOfC x (C8.fnScope st) s.heap.objs.size f cdv)) → (A.deeper (envOfC x (C8.fnScope st) s.heap.objs.size f cdv)).guards = some [] →
      PSs (cxOf CX0 P w K mg base N x (C8.fnScope st) f cdv A outer s H E).nox (C8.fnBody st) (tIS K W0 ib)) : LawOk P w K mg base f fd y (spI K 1 (iDef 1 N.length ib)) := by
  obtain ⟨oc, od, dV, kV, doc, pm, an, cdv, ct, osl, rfl, lk, hcd⟩ := F.ex
  intro s H u v Q e0 hbind hv hsp
  have kin : K.In s.heap := e0.mod.kin.keeps fun b o e => (e0.bs b o e).1
  have lim : s.heap.NoLimit := e0.mod.nolimit.keeps fun b o e => (e0.bs b o e).1
  have kinds : ∀ z ∈ [y].zip [u], (C8.fnScope st).names.lookup z.1 = some .local ∨ ((C8.fnScope st).names.lookup z.1 = some .cell ∧ ((cellsFrom (s.heap.objs.size + 1) (C8.fnScope st).names []).lookup z.1).isSome = true) := by
    rintro ⟨n, z⟩ hz
    exact (S.par n (List.of_mem_zip hz).1).imp_right fun q => ⟨q, PySem.W.cellsFrom_some _ _ _ (.inl q)⟩
  apply codeAny_call_function hroom.depth (kin _ _ lk) rfl S.co S.gen rfl (PySem.W.codeRec_of kin hcd)
  apply hbind
  apply wpAny_newFunctionEnv_cells S.kind kinds
  intro env henv s1 inC
  subst henv
  refine ⟨lim.keeps inC.toInCall.keep, codeAny_func ?_⟩
  have body := (hb cdv callerA [] s H C8.E0 (hroom.deeper _) deeper_guards).nox
  have start := inv_start (CX := CX0) (E := C8.E0) (vs := [v]) (us := [u]) S hroom.hd e0 rfl (.cons hv .nil) inC
  refine wpAny_mono (body.run [] s1 _ H _ start (body_to (ps := [y]) hsp)) ?_ fun _ _ z => z
  rintro (_ | _ | _ | r) s' hs
  · obtain ⟨σ', H', J, q⟩ := hs
    exact ⟨.non, H', J.os, J.bare, J.base, J.hok, rfl, q⟩
  · exact False.elim hs.choose_spec.choose_spec.2
  · exact False.elim hs.choose_spec.choose_spec.2
  · obtain ⟨v', σ', H', J, rv, q⟩ := hs
    exact ⟨v', H', J.os, J.bare, J.base, J.hok, rv, q⟩
/-- the heap that the law's def sees: the script alone is tracked, unless it is the module's own -/
theorem script_heap {P : Program} {w : World} {K : PySem.W.Frag} {h : Heap} {a : Addr} {vs : List Value} {ns : List Int} (KX : K.In h) (ha : h.get? a = some { cls := .type "list", data := .seq vs.toArray }) (hi : IntsAre vs ns) (hl : ns.length ≤ sizeLine) :
    ∃ H : Hp, (∀ b u, H b = some u → b = a ∧ u = .frz { cls := .type "list", data := .seq vs.toArray } (.lst (ns.map V.int)) ∧ K.lookup a = none) ∧ SqL K H a (ns.map V.int) ∧ HOk P w H h := by
  have rv := vals_ints hi
  cases hk : K.lookup a with
  | some o =>
    have e := KX a o hk
    rw [ha] at e
    cases e
    refine ⟨fun _ => none, fun b u z => (nomatch z), .inr ⟨_, vs.toArray, _, hk, rfl, rfl, rfl, ?_, by simpa using rv⟩, fun b u z => (nomatch z)⟩
    rw [List.size_toArray, hi.length]
    exact hl
  | none =>
    refine ⟨fun b => if b = a then some (.frz { cls := .type "list", data := .seq vs.toArray } (.lst (ns.map V.int))) else none, fun b u z => ?_, .inl (.inr ⟨_, if_pos rfl⟩), fun b u z => ?_⟩
    · by_cases hb : b = a
      · refine ⟨hb, ?_, rfl⟩
        simp only [if_pos hb] at z
        exact (Option.some.inj z).symm
      · simp only [if_neg hb] at z
        cases z
    · by_cases hb : b = a
      · simp only [if_pos hb] at z
        cases z
        subst hb
        exact ⟨ha, by simpa using hl, vs, _, rv, ha⟩
      · simp only [if_neg hb] at z
        cases z
theorem law_runs {P : Program} {w : World} {K : PySem.W.Frag} {mg mb : Str → Option Value} {fa a : Addr} {fd : FuncData} {x : Str} {sp : Sp} {s : Shared} {vs : List Value} {ns : List Int} (KX : K.In s.heap) (hns : s.heap.Ns mainGlobals mg) (hb : s.heap.Ns builtinsNs mb) (hbb : ∀ x : Str, x ≠ "__name__" → mb x = bootBuiltins x)
    (hlim : s.heap.NoLimit) (hg : s.gens = #[]) (ha : s.heap.get? a = some { cls := .type "list", data := .seq vs.toArray }) (hi : IntsAre vs ns) (hl : ns.length ≤ sizeLine)
    (F : ∀ base : Heap, K.In base → base.Ns mainGlobals mg → LawOk P w K mg base fa fd x sp) (hbind : ∀ (s : Shared) (u : Value), BindsTo s fd ⟨[u], []⟩ [(x, u)])
    (hsp : ∀ H : Hp, SqL K H a (ns.map V.int) → sp [.ref a] H (fun v _ => v = .bl true) C8.E0) :
    codeAny (model P w) callerA (.call (.ref fa) ⟨[.ref a], []⟩) (fun r s' => r = .ok (.ret (.bool true)) ∧ OldK s.heap s'.heap ∧ s'.os = s.os ∧ AllBare s'.gens) s := by
  obtain ⟨H, hH, hS, hok⟩ := script_heap (P := P) (w := w) KX ha hi hl
  have out : ∀ {b : Addr} {o : Obj}, s.heap.get? b = some o → (b = a → False) → (hidT s.heap H).get? b = some o := fun {b o} e n => hidT_get e (by
    cases q : H b with
    | none => rfl
    | some u => exact (n (hH b u q).1).elim)
  have ns_ : ∀ {b : Addr} {m : Str → Option Value}, s.heap.Ns b m → (hidT s.heap H).Ns b m := by
    rintro b m ⟨o, es, ep, e, d, r⟩
    refine ⟨o, es, ep, out e fun z => ?_, d, r⟩
    subst z
    rw [ha] at e
    cases e
    exact nomatch (show Data.seq vs.toArray _ = Data.dict es ep from d)
  have kin : K.In (hidT s.heap H) := fun b o e => hidT_get (KX b o e) (by
    cases q : H b with
    | none => rfl
    | some u =>
      obtain ⟨e1, _, e3⟩ := hH b u q
      subst e1
      rw [e3] at e
      cases e)
  obtain ⟨mc, l1, l2⟩ := hlim
  have e0 : Env0 P w K mg (hidT s.heap H) callerA [] s H := {
    frames := rfl
    mod := ⟨kin, ns_ hns, ⟨mb, ns_ hb, hbb⟩, mc, ns_ l1, l2⟩
    bs := fun b o e => of_hidT e
    bsz := Nat.le_of_eq (hidT_size _ _)
    funs := trivial
    frf := fun b z => nomatch (show b ∈ ([] : List Addr) from z)
    hok := hok
    bare := .of_eq hg }
  refine codeAny_mono (F _ kin (ns_ hns) s H _ (.ref a) _ e0 (hbind s (.ref a)) rfl (hsp H hS)) ?_
  rintro (er | fl) s' h
  · exact h.elim
  · cases fl with
    | ret u =>
      obtain ⟨v, H', os, bare, un, hok', r, q⟩ := h
      cases (show v = .bl true from q)
      cases (show u = Value.bool true from r)
      refine ⟨rfl, OldK.of_keep fun b o e => ?_, os, bare⟩
      cases q : H b with
      | none => exact un.keep b o e q (fun z => nomatch (show b ∈ ([] : List Addr) from z)) (fun z => nomatch z)
      | some u =>
        obtain ⟨_, e2, _⟩ := hH b u q
        subst e2
        obtain ⟨f1, _⟩ := hok b _ q
        obtain ⟨f2, _⟩ := hok' b _ (un.frzs b _ _ q)
        rw [e] at f1
        cases f1
        exact f2
    | next => exact False.elim h
    | brk => exact False.elim h
    | cont => exact False.elim h
theorem walk_J {l : PySem.W.OpenLaw} {n : Nat} {q : Program} {loose : List Str} {XP : (Str → Option Value) → Heap → Prop} {YP : World → Heap → Prop} {d : DefRec} {K : Params → PySem.W.Frag} {sp : World → Sp} {x : Str} (hn : l.most = some n) (hn2 : n ≤ sizeLine) (hdf : d.params.defaults = [])
    (hY : ∀ (w : World) (h : Heap), YP w h → (K w.params).In h)
    (F : ∀ (w : World) (mg : Str → Option Value) (fa : Addr) (h : Heap), (K w.params).In h → h.Ns mainGlobals mg → mg d.name = some (.ref fa) →
      ∃ fd : FuncData, (∀ (s : Shared) (u : Value), BindsTo s fd ⟨[u], []⟩ [(x, u)]) ∧ ∀ base : Heap, (K w.params).In base → base.Ns mainGlobals mg → LawOk l.prog w (K w.params) mg base fa fd x (sp w))
    (hsp : ∀ (w : World) (H : Hp) (a : Addr) (ns : List Int), ns.length ≤ n → SqL (K w.params) H a (ns.map V.int) → sp w [.ref a] H (fun v _ => v = .bl true) C8.E0) :
    PySem.W.WalkO q loose XP YP l.row.toRowW d [] (fun f vs => PySem.call f vs) :=
  Att.attach_call hn hdf fun w s₀ s₁ mg mb fa o pm cd doc a vs ns G Y ho hd hcd hmg hobj hints hlen hg => by
    obtain ⟨fd, hb, hF⟩ := F w mg fa _ (hY w _ Y) G.T.g hmg
    exact law_runs (hY w _ Y) G.T.g G.T.b G.T.builtins G.T.nolimit hg hobj hints (Nat.le_trans hlen hn2) hF hb fun H hS => hsp w H a ns hlen hS
end IL
namespace IL
open PySem PySem.Spec PyProof.Rows L2
section
variable {X : Cx} {W : WX} {pos : Pos} {it : IT} {ie : IE}
theorem new_split {i : IE} {env : PEnv} {st st' : Sto} {z : PV} (h : iNew i env st = some (z, st')) : ∃ x s1, i env st = some (x, s1) ∧ ∀ {K : PySem.W.Frag} {H H1 : Hp} {ρ ρ1 : Rho} {v : V}, RepS K H ρ st → Grow H ρ H1 ρ1 → RepS K H1 ρ1 s1 → Rep K H1 ρ1 x v →
    ∃ ρ2, Grow H ρ H1 ρ2 ∧ RepS K H1 ρ2 st' ∧ Rep K H1 ρ2 z v := by
  unfold iNew iGc at h
  obtain ⟨r, h1, h2⟩ := map_some h
  obtain ⟨x, s1, h3, h4⟩ := ob_some h1
  refine ⟨x, s1, h3, fun {K H H1 ρ ρ1 v} S G S1 R => ?_⟩
  obtain ⟨ρ2, G2, S2, R2⟩ := frz_to S1 R
  rw [Option.some.inj h4] at S2 R2
  obtain ⟨ρ3, G3, S3, R3⟩ := gc_to S (G.trans G2) S2 R2
  obtain ⟨rfl, rfl⟩ := Prod.mk.inj h2
  exact ⟨ρ3, G3, S3, R3⟩
theorem s_setLcN {i : Nat} {y : Str} {py : Pos} {elt tg iter : Expr} {ifs : List Expr} {scope : Scope} {own : List (Str × Nat)} {spos : Pos} {ii : II} {T : List Nat} {ig : IG} (hy : X.N[i]? = some y) (hyl : X.env.scope.names.lookup y = some .local)
    (hsw : swapsWith (.ListComp elt [⟨tg, iter, ifs, 0⟩] scope pos) (some (.Name y py)) spos.line X.env = pure true) (hc : X.calm = true) (hN : X.N.Nodup) (hi : PI X tg iter (tII X.K ii)) (ok : BlkOk X.N X.env.scope scope own)
    (hT : ∀ i ∈ T, i ∈ own.map (·.2))
    (hg : ∀ (s : Shared) (H : Hp) (C : Addr) (cl : List (Str × Addr)) (fp : List Addr), PG (X.blk s H scope (compEnvC scope cl C X.env) fp) tg (tIG X.K T ig)) (ht : ∀ (s : Shared) (H : Hp) (C : Addr) (cl : List (Str × Addr)) (fp : List Addr), PTs (X.blk s H scope (compEnvC scope cl C X.env) fp) ifs (tIT X.K it))
    (he : ∀ (s : Shared) (H : Hp) (C : Addr) (cl : List (Str × Addr)) (fp : List Addr), PE (X.blk s H scope (compEnvC scope cl C X.env) fp) elt (tI X.K ie)) (hs : ∀ x, foldedSetIterable iter X.env x = pure x := by intro _; rfl) :
    PS X (.Assign [.Name y py] (.ListComp elt [⟨tg, iter, ifs, 0⟩] scope pos) spos) (tIS X.K W (iAsg (gN i) (iNew (iLc ii ig it ie (own.map (·.2)))))) :=
  PS.imp (ps_setLc hc hN hy hyl hsw hi ok hg ht he hs) fun D σ H ⟨env, s, ρ, f, E, S, h, q⟩ => by
    obtain ⟨x, s1, h1, h⟩ := ob_some h
    cases h
    obtain ⟨x0, s0, h2, h3⟩ := new_split h1
    refine lc_to hT ⟨env, s, ρ, x0, s0, E, S, h2, fun v H1 ρ1 G1 S1 R1 => ?_⟩
    obtain ⟨ρ2, G2, S2, R2⟩ := h3 S G1 S1 R1
    exact q _ H1 ρ2 G2 S2 ((E.grow S G2).set R2 i)
end
end IL

namespace IL
open PySem PySem.Spec PyProof.Rows L2
theorem fld_nil {K : PySem.W.Frag} {f : Str} : ∀ c ∈ ([] : List Str), KFld K c f := fun _ h => nomatch h
theorem fld_cons {K : PySem.W.Frag} {f c : Str} {cs : List Str} (h : KFld K c f) (hs : ∀ c ∈ cs, KFld K c f) : ∀ d ∈ c :: cs, KFld K d f := fun d hd => (List.mem_cons.mp hd).elim (fun e => by rw [e]; exact h) (hs d)
section
variable {P : Program} {w : World} {K : PySem.W.Frag} {mg : Str → Option Value} {base : Heap} {k n : Nat} {m : Str}
theorem tbl_nil : ∀ cf ∈ ([] : List (Str × FA)), MetJ P w K mg base k cf.1 m n cf.2 ∧ Ar n cf.2 := fun _ h => nomatch h
theorem tbl_cons {c : Str} {F : FA} {tbl : List (Str × FA)} (h : MetJ P w K mg base k c m n F) (a : Ar n F) (hs : ∀ cf ∈ tbl, MetJ P w K mg base k cf.1 m n cf.2 ∧ Ar n cf.2) : ∀ cf ∈ (c, F) :: tbl, MetJ P w K mg base k cf.1 m n cf.2 ∧ Ar n cf.2 := fun d hd => (List.mem_cons.mp hd).elim (fun e => by rw [e]; exact ⟨h, a⟩) (hs d)
end
section
variable {X : Cx} {a : Expr} {pos p1 : Pos} {ia : IE} {x : Str} {tab : List (Str × PV)}
theorem j_inTabT (T : KTab X.K X.w X.mg x tab) (hg : Gl X x) (ha : PE X a (tI X.K ia)) (hm2 : behindInMarks .In (.Name x p1) = false := by rfl) (hd : (x == ("__debug__" : Str)) = false := by decide) : PT X (.Compare a [.In] [.Name x p1] pos) (tIT X.K (iTestB (iUn (fInTab tab false) ia))) := by
  obtain ⟨d, es, n, hm, D, h⟩ := T.ex
  refine PT.imp (pt_cmpR (op_in_kd D) ha (pe_glob (v := .ref d) hg hm rfl hd) hm2) fun σ H Q hq => ?_
  obtain ⟨env, st, ρ, z, st', E, S, h1, q⟩ := testB_to hq
  obtain ⟨y, s1, h2, h3⟩ := ob_some h1
  refine ⟨env, st, ρ, y, s1, E, S, h2, fun vy H1 ρ1 G1 S1 R1 => ?_⟩
  unfold fInTab at h3
  split at h3
  · rename_i t
    cases h3
    unfold Rep at R1
    subst R1
    rcases h t with ⟨h4, h5⟩ | ⟨u, v', y', h4, h5, h6, h7⟩
    · exact ⟨t, none, rfl, rfl, h4, q _ H1 ρ1 G1 S1 (by unfold Rep; simp [h5])⟩
    · exact ⟨t, some u, rfl, rfl, h4, q _ H1 ρ1 G1 S1 (by unfold Rep; simp [h5])⟩
  · cases h3
theorem j_notInTabT (T : KTab X.K X.w X.mg x tab) (hg : Gl X x) (ha : PE X a (tI X.K ia)) (hm2 : behindInMarks .NotIn (.Name x p1) = false := by rfl) (hd : (x == ("__debug__" : Str)) = false := by decide) : PT X (.Compare a [.NotIn] [.Name x p1] pos) (tIT X.K (iTestB (iUn (fInTab tab true) ia))) := by
  obtain ⟨d, es, n, hm, D, h⟩ := T.ex
  refine PT.imp (pt_cmpR (op_notIn_kd D) ha (pe_glob (v := .ref d) hg hm rfl hd) hm2) fun σ H Q hq => ?_
  obtain ⟨env, st, ρ, z, st', E, S, h1, q⟩ := testB_to hq
  obtain ⟨y, s1, h2, h3⟩ := ob_some h1
  refine ⟨env, st, ρ, y, s1, E, S, h2, fun vy H1 ρ1 G1 S1 R1 => ?_⟩
  unfold fInTab at h3
  split at h3
  · rename_i t
    cases h3
    unfold Rep at R1
    subst R1
    rcases h t with ⟨h4, h5⟩ | ⟨u, v', y', h4, h5, h6, h7⟩
    · exact ⟨t, none, rfl, rfl, h4, q _ H1 ρ1 G1 S1 (by unfold Rep; simp [h5])⟩
    · exact ⟨t, some u, rfl, rfl, h4, q _ H1 ρ1 G1 S1 (by unfold Rep; simp [h5])⟩
  · cases h3
end
end IL

namespace IL
open PySem PySem.Spec PyProof.Rows L2
/-! ### constants of the top -/
def KVal (K : PySem.W.Frag) (u : Value) (x : PV) : Prop := ∃ v, RelV v u ∧ ∀ H ρ, Rep K H ρ x v
inductive KVals (K : PySem.W.Frag) : List Value → List PV → Prop
  | nil : KVals K [] []
  | cons {u : Value} {x : PV} {us : List Value} {xs : List PV} : KVal K u x → KVals K us xs → KVals K (u :: us) (x :: xs)
section
variable {K : PySem.W.Frag}
theorem kv_int {i : Int} {t : Tok} : KVal K (.int i t) (.int i) := ⟨.int i, ⟨t, rfl⟩, fun _ _ => by unfold Rep; rfl⟩
theorem kv_str {x y : Str} {t : Tok} (h : x = y) : KVal K (.str x t) (.str y) := ⟨.str y, ⟨t, by rw [h]⟩, fun _ _ => by unfold Rep; rfl⟩
theorem kv_bl {b : Bool} : KVal K (.bool b) (.bl b) := ⟨.bl b, rfl, fun _ _ => by unfold Rep; rfl⟩
theorem kv_non : KVal K .none .non := ⟨.non, rfl, fun _ _ => by unfold Rep; rfl⟩
theorem KVals.to : ∀ {us : List Value} {xs : List PV}, KVals K us xs → ∃ vs, Vals vs us ∧ vs.length = xs.length ∧ ∀ H ρ, Reps K H ρ xs vs
  | _, _, .nil => ⟨[], .nil, rfl, fun _ _ => by unfold Reps; rfl⟩
  | _, _, .cons h t => by
    obtain ⟨v, h1, h2⟩ := h
    obtain ⟨vs, h3, h4, h5⟩ := t.to
    exact ⟨v :: vs, .cons h1 h3, by simp [h4], fun H ρ => by unfold Reps; exact ⟨v, vs, rfl, h2 H ρ, h5 H ρ⟩⟩
theorem kv_tup {f : Addr} {od : Option Addr} {its : Array Value} {nn : Nat} {sl : Array (Option Value)} {xs : List PV} (l : K.lookup f = some ⟨.type "tuple", od, .seq its nn, sl⟩) (h : KVals K its.toList xs) (hs : xs.length ≤ sizeLine := by decide) : KVal K (.ref f) (.tup xs) := by
  obtain ⟨vs, h1, h2, h3⟩ := h.to
  refine ⟨.ref f, rfl, fun H ρ => ?_⟩
  unfold Rep
  refine ⟨f, vs, rfl, .inr ⟨_, _, _, l, rfl, rfl, ?_, h1⟩, h3 H ρ⟩
  rw [← Array.length_toList, ← h1.length, h2]
  exact hs
theorem gc_of {h : Heap} {mg : Str → Option Value} (X : K.In h) (G : h.Ns mainGlobals mg) {x : Str} {u : Value} {y : PV} (n : PySem.W.nsIn K mainGlobals x = some (some u)) (k : KVal K u y) : GC K mg x y := by
  obtain ⟨v, h1, h2⟩ := k
  exact ⟨u, v, PySem.W.mg_of X G n, h1, h2⟩
/-- the entries of a dict of the top: its keys are these texts, its values are these -/
inductive KEnts (K : PySem.W.Frag) (P : Params) : List DictEntry → List (Str × PV) → Prop
  | nil : KEnts K P [] []
  | cons {e : DictEntry} {x : Str} {y : PV} {t : Tok} {es : List DictEntry} {xs : List (Str × PV)} : e.key = .str x t → e.hash = PyData.keyHash P x → KVal K e.val y → KEnts K P es xs → KEnts K P (e :: es) ((x, y) :: xs)
theorem KEnts.lit {P : Params} : ∀ {es : List DictEntry} {xs : List (Str × PV)}, KEnts K P es xs → PySem.W.KeysLit P es
  | _, _, .nil => trivial
  | _, _, .cons a b _ t => ⟨⟨_, _, a, b⟩, t.lit⟩
theorem KEnts.find {P : Params} (z : Str) : ∀ {es : List DictEntry} {xs : List (Str × PV)}, KEnts K P es xs → es.any (·.refKey) = false ∧
    ((es.find? (·.key.isStr z) = none ∧ xs.lookup z = none) ∨ ∃ e y, es.find? (·.key.isStr z) = some e ∧ xs.lookup z = some y ∧ KVal K e.val y)
  | _, _, .nil => ⟨rfl, .inl ⟨rfl, rfl⟩⟩
  | _, _, .cons (e := e) (x := x) (y := y) (t := t) a b c r => by
    obtain ⟨h1, h2⟩ := r.find z
    refine ⟨?_, ?_⟩
    · rw [List.any_cons, h1, Bool.or_false]
      unfold DictEntry.refKey
      rw [a]
    · have hk : e.key.isStr z = (z == x) := by
        rw [a, PySem.W.isStr_of]
        unfold Value.isStrOf
        by_cases hz : z = x
        · subst hz; simp
        · have e1 : (z == x) = false := beq_eq_false_iff_ne.mpr hz
          have e2 : (x == z) = false := beq_eq_false_iff_ne.mpr fun q => hz q.symm
          rw [e1]
          exact e2
      rw [List.find?_cons, List.lookup_cons, hk]
      cases z == x with
      | true => exact .inr ⟨e, y, rfl, rfl, c⟩
      | false => exact h2
theorem ktab_of {w : World} {h : Heap} {mg : Str → Option Value} (X : K.In h) (G : h.Ns mainGlobals mg) {x : Str} {d : Addr} {es : Array DictEntry} {n : Nat} {tab : List (Str × PV)} (hn : PySem.W.nsIn K mainGlobals x = some (some (.ref d))) (l : K.lookup d = some ⟨.type "dict", none, .dict es n, #[]⟩)
    (low : (d == sysModules) = false) (k : KEnts K w.params es.toList tab) : KTab K w mg x tab := by
  refine ⟨d, es, n, PySem.W.mg_of X G hn, ⟨l, k.lit, low⟩, fun z => ?_⟩
  obtain ⟨h1, h2⟩ := k.find z
  have e : PySem.W.nsIn K d z = match es.toList.find? (·.key.isStr z) with
      | some e => some (some e.val)
      | none => if es.toList.any (·.refKey) then none else some none := by
    unfold PySem.W.nsIn
    rw [l]
    rfl
  rw [e]
  rcases h2 with ⟨h3, h4⟩ | ⟨e', y, h3, h4, v, h5, h6⟩
  · left
    rw [h3, h1]
    exact ⟨rfl, h4⟩
  · right
    rw [h3]
    exact ⟨e'.val, v, y, rfl, h4, h5, h6⟩
end
/-- the promise of a law -/
def spLaw (K : PySem.W.Frag) : Sp := fun vs H Q _ => ∃ (a : Addr) (ns : List Int), vs = [.ref a] ∧ SqL K H a (ns.map V.int) ∧ ns.length ≤ 63 ∧ ∀ H', Q (.bl true) H'
theorem reps_ints {K : PySem.W.Frag} {H : Hp} {ρ : Rho} : ∀ ns : List Int, Reps K H ρ (ns.map PV.int) (ns.map V.int)
  | [] => by simp [Reps]
  | n :: ns => by
    show Reps K H ρ (PV.int n :: ns.map PV.int) (V.int n :: ns.map V.int)
    unfold Reps
    exact ⟨_, _, rfl, by unfold Rep; rfl, reps_ints ns⟩
theorem law_sp {K : PySem.W.Frag} {F : FA} (hF : ∀ ns : List Int, ns.length ≤ 63 → ∃ s', F [.frz (ns.map .int)] [] = some (.bl true, s')) {vs : List V} {H : Hp} {Q : VK} {E : XK} (h : spLaw K vs H Q E) : spI K 1 F vs H Q E := by
  obtain ⟨a, ns, rfl, hS, hlen, q⟩ := h
  obtain ⟨s', hl⟩ := hF ns hlen
  refine ⟨rfl, [], ⟨[], []⟩, [.frz (ns.map .int)], .bl true, s', ⟨rfl, List.nodup_nil, fun n so h => by simp at h, fun n so a h => by simp at h, fun a h => by simp at h⟩, ?_, hl, fun v H' ρ' _ _ h => ?_⟩
  · unfold Reps
    refine ⟨.ref a, [], rfl, ?_, by unfold Reps; rfl⟩
    unfold Rep
    refine ⟨a, ns.map V.int, rfl, ?_, reps_ints ns⟩
    rcases hS with h | h
    · exact .inl ⟨h, .inl (by simp)⟩
    · exact .inr h
  · unfold Rep at h
    subst h
    exact q _
theorem LawOk.imp {P : Program} {w : World} {K : PySem.W.Frag} {mg : Str → Option Value} {base : Heap} {fa : Addr} {fd : FuncData} {x : Str} {sp sp' : Sp} (L : LawOk P w K mg base fa fd x sp) (h : ∀ vs H Q E, sp' vs H Q E → sp vs H Q E) : LawOk P w K mg base fa fd x sp' :=
  fun s H u v Q e b r q => L s H u v Q e b r (h _ _ _ _ q)
/-- defs, classes, by the facts of the top -/
theorem def_mk {K : PySem.W.Frag} {h : Heap} {mg : Str → Option Value} {x : Str} {st : Stmt} {f : Addr} {oc kV dc pm cd ct : Value} {od an : Option Addr} {sl : Array (Option Value)} (X : K.In h) (G : h.Ns mainGlobals mg) (a : PySem.W.nsIn K mainGlobals x = some (some (.ref f)))
    (l : K.lookup f = some ⟨oc, od, .func (PySem.W.fnOf x x (C8.fnArgs st) (C8.fnBody st) (C8.fnScope st) .none kV dc pm an cd ct), sl⟩) (c : PySem.W.codeIn K cd x = true) (k : PySem.W.keepIn K (.ref f) = true) :
    C8.Def K mg x st f (PySem.W.fnOf x x (C8.fnArgs st) (C8.fnBody st) (C8.fnScope st) .none kV dc pm an cd ct) := ⟨⟨_, _, _, _, _, _, _, _, _, _, rfl, l, c⟩, PySem.W.mg_of X G a, k⟩
theorem fun_mk0 {K : PySem.W.Frag} {x q : Str} {st : Stmt} {f : Addr} {oc kV dc pm cd ct : Value} {od an : Option Addr} {sl : Array (Option Value)}
    (l : K.lookup f = some ⟨oc, od, .func (PySem.W.fnOf x q (C8.fnArgs st) (C8.fnBody st) (C8.fnScope st) .none kV dc pm an cd ct), sl⟩) (c : PySem.W.codeIn K cd q = true) :
    C8.Fun K x q st f (PySem.W.fnOf x q (C8.fnArgs st) (C8.fnBody st) (C8.fnScope st) .none kV dc pm an cd ct) := ⟨_, _, _, _, _, _, _, _, _, _, rfl, l, c⟩
section
variable {P : Program} {w : World} {K : PySem.W.Frag} {mg : Str → Option Value} {base : Heap} {k : Nat}
theorem no_fn {n : Nat} {f : Addr} {fd : FuncData} {ps : List Str} : FnOk P w K mg base CX0 k f fd ps (spI K ps.length (fun _ _ => none)) :=
  ⟨fun vs H Q E h => h.1, fun A outer s H args us vs Q E hr e0 hb r h => by obtain ⟨_, _, _, _, _, _, _, _, q, _⟩ := h; cases q⟩
theorem cal_zero {x : Str} {st : Stmt} {f : Addr} {fd : FuncData} {ps : List Str} (F : C8.Def K mg x st f fd) (b : Binds K fd ps []) : CalJ P w K mg base k x ps.length (fun _ _ => none) :=
  ⟨f, fd, ps, [], no_fn (n := 0), F.mgf, F.kp, b, .nil⟩
theorem met_zero {c m : Str} {C f : Addr} {fd : FuncData} {ps : List Str} (hC : ClsAt K c C) (hc : Cls K C) (me : Meth K C m f) (b : Binds K fd ps []) : MetJ P w K mg base k c m ps.length (fun _ _ => none) :=
  ⟨C, hC, f, fd, ps, [], hc, me, no_fn (n := 0), b, .nil⟩
theorem mak_zero {c : Str} {C f : Addr} {fd : FuncData} {ps : List Str} (hC : ClsAt K c C) (M : Mk K C f) (hm : mg c = some (.ref C)) (b : Binds K fd ps []) : MakJ P w K mg base k c ps.length (fun _ _ => none) :=
  ⟨C, hC, f, fd, ps, [], M, no_fn (n := 0), hm, b, .nil⟩
end
end IL

/-! rules for simp, of what layer J adds; what is let go at the end of a def -/
namespace IL
open PySem PySem.Spec PyProof.Rows L2
mutual
/-- no number stands in it -/
def nr : PV → Bool
  | .tup xs => nrs xs
  | .frz xs => nrs xs
  | .fdk _ xs => nrs xs
  | .ref _ => false
  | _ => true
def nrs : List PV → Bool
  | [] => true
  | x :: xs => nr x && nrs xs
end
section
variable {st s s1 s2 : Sto} {env : PEnv} {x y z v : PV} {xs ys : List PV} {ia ib ic ie io : IE} {ir : IA} {m k n : Nat} {c f : Str}
mutual
theorem rlt_nr : ∀ (x : PV), nr x = true → rlt m x
  | .tup xs, h => by unfold nr at h; unfold rlt; exact rlts_nr xs h
  | .frz xs, h => by unfold nr at h; unfold rlt; exact rlts_nr xs h
  | .fdk _ xs, h => by unfold nr at h; unfold rlt; exact rlts_nr xs h
  | .ref _, h => by simp [nr] at h
  | .non, _ => by unfold rlt; trivial
  | .bl _, _ => by unfold rlt; trivial
  | .int _, _ => by unfold rlt; trivial
  | .str _, _ => by unfold rlt; trivial
  | .ty _, _ => by unfold rlt; trivial
theorem rlts_nr : ∀ (xs : List PV), nrs xs = true → rlts m xs
  | [], _ => by unfold rlts; trivial
  | x :: xs, h => by
    unfold nrs at h
    rw [Bool.and_eq_true] at h
    unfold rlts
    exact ⟨rlt_nr x h.1, rlts_nr xs h.2⟩
end
theorem nrs_all {xs : List PV} : (∀ x ∈ xs, nr x = true) → nrs xs = true := by
  induction xs with
  | nil => intro _; simp [nrs]
  | cons x xs ih =>
    intro h
    unfold nrs
    rw [Bool.and_eq_true]
    exact ⟨h x (List.mem_cons_self ..), ih fun y hy => h y (List.mem_cons_of_mem _ hy)⟩
theorem nrs_append {xs ys : List PV} : nrs (xs ++ ys) = (nrs xs && nrs ys) := by
  induction xs with
  | nil => simp [nrs]
  | cons x xs ih => simp [nrs, ih, Bool.and_assoc]
/-! ### what is let go -/
theorem gc_app {l : Sto} (h : rlt st.length v) : gcS st (st ++ l) v = st := by
  unfold gcS
  rw [if_pos]
  · simp
  · refine ⟨h, fun i so hi e => .inl ?_⟩
    rwa [List.getElem?_append_left hi] at e
theorem gc_id (h : rlt st.length v) : gcS st st v = st := by
  have := gc_app (l := []) h
  simpa using this
/-- what stood before is there, or was changed to what has no numbers from there on -/
theorem gc_take (h : rlt st.length v) (h2 : ∀ i so, i < st.length → s[i]? = some so → st[i]? = some so ∨ rltO st.length so) : gcS st s v = s.take st.length := by
  unfold gcS
  rw [if_pos ⟨h, h2⟩]
theorem def_rt {nN : Nat} {b : IS} (hl : xs.length = n) (h : b (xs.map some ++ List.replicate (nN - n) none) st = some (.rt v s)) : iDef n nN b xs st = some (v, gcS st s v) := by
  unfold iDef
  rw [if_pos hl, h]
theorem def_nx {nN : Nat} {b : IS} {e : PEnv} (hl : xs.length = n) (h : b (xs.map some ++ List.replicate (nN - n) none) st = some (.nx e s)) : iDef n nN b xs st = some (.non, gcS st s .non) := by
  unfold iDef
  rw [if_pos hl, h]
/-- a def that gives what has no number, and leaves the store but for what is new -/
theorem def_pure {nN : Nat} {b : IS} {l : Sto} (hl : xs.length = n) (h : b (xs.map some ++ List.replicate (nN - n) none) st = some (.rt v (st ++ l))) (hv : nr v = true) : iDef n nN b xs st = some (v, st) := by
  rw [def_rt hl h, gc_app (rlt_nr _ hv)]
theorem def_pure0 {nN : Nat} {b : IS} (hl : xs.length = n) (h : b (xs.map some ++ List.replicate (nN - n) none) st = some (.rt v st)) (hv : nr v = true) : iDef n nN b xs st = some (v, st) := by
  rw [def_rt hl h, gc_id (rlt_nr _ hv)]
@[simp] theorem frzV_tup : frzV s (.tup xs) = (.tup xs, s) := rfl
@[simp] theorem frzV_frz : frzV s (.frz xs) = (.frz xs, s) := rfl
@[simp] theorem frzV_str {a : Str} : frzV s (.str a) = (.str a, s) := rfl
@[simp] theorem frzV_int {a : Int} : frzV s (.int a) = (.int a, s) := rfl
@[simp] theorem frzV_bl {a : Bool} : frzV s (.bl a) = (.bl a, s) := rfl
@[simp] theorem frzV_non : frzV s .non = (.non, s) := rfl
theorem frzV_lst (h : s[n]? = some (.lst xs)) : frzV s (.ref n) = (.frz xs, s.set n .gone) := by simp only [frzV, h]
theorem frzV_dct {kvs : List (Key × PV)} (h : s[n]? = some (.dK kvs)) : frzV s (.ref n) = (.fdk (kvs.map (·.1)) (kvs.map (·.2)), s.set n .gone) := by simp only [frzV, h]
theorem frzV_nr (h : nr x = true) : frzV s x = (x, s) := by
  cases x with
  | ref n => simp [nr] at h
  | _ => rfl
@[simp] theorem iFrz_e : iFrz ia env st = ob (ia env st) fun x s => some (frzV s x) := rfl
theorem new_val (h : ia env st = some (x, st)) (hx : nr x = true) : iNew ia env st = some (x, st) := by
  unfold iNew iGc
  rw [iFrz_e, h, ob_s, frzV_nr hx]
  simp only [Option.map_some, gc_id (rlt_nr _ hx)]
/-- a new list -/
theorem new_at_ {l : Sto} (h : ia env st = some (.ref k, s)) (hk : s[k]? = some (.lst xs)) (hle : st.length ≤ k) (hs : s = st ++ l) (hx : rlts st.length xs) : iNew ia env st = some (.frz xs, st) := by
  unfold iNew iGc
  rw [iFrz_e, h, ob_s, frzV_lst hk]
  subst hs
  have e : (st ++ l).set k .gone = st ++ l.set (k - st.length) .gone := List.set_append_right k .gone hle
  simp only [Option.map_some, e]
  rw [gc_app (by unfold rlt; exact hx)]
theorem new_l (h : ia env st = some (.ref st.length, st ++ [.lst xs])) (hx : nrs xs = true) : iNew ia env st = some (.frz xs, st) :=
  new_at_ h new_at (Nat.le_refl _) rfl (rlts_nr _ hx)
theorem new_d {kvs : List (Key × PV)} (h : ia env st = some (.ref st.length, st ++ [.dK kvs])) (hx : nrs (kvs.map (·.2)) = true) : iNew ia env st = some (.fdk (kvs.map (·.1)) (kvs.map (·.2)), st) := by
  unfold iNew iGc
  rw [iFrz_e, h, ob_s, frzV_dct new_at]
  have e : (st ++ [SO.dK kvs]).set st.length SO.gone = st ++ [SO.dK kvs].set (st.length - st.length) SO.gone := List.set_append_right _ SO.gone (Nat.le_refl _)
  simp only [Option.map_some, e]
  rw [gc_app (by unfold rlt; exact rlts_nr _ hx)]
/-- .. where the store has changed, too -/
theorem new_ch (h : ia env st = some (.ref k, s)) (hk : s[k]? = some (.lst xs)) (hle : st.length ≤ k) (hx : nrs xs = true) (h2 : ∀ i so, i < st.length → s[i]? = some so → st[i]? = some so ∨ rltO st.length so) : iNew ia env st = some (.frz xs, s.take st.length) := by
  unfold iNew iGc
  rw [iFrz_e, h, ob_s, frzV_lst hk]
  simp only [Option.map_some]
  rw [gc_take (by unfold rlt; exact rlts_nr _ hx)]
  · congr 2
    apply List.ext_getElem?
    intro i
    rw [List.getElem?_take, List.getElem?_take]
    split
    · rw [List.getElem?_set_ne (by omega)]
    · rfl
  · intro i so hi e
    rw [List.getElem?_set_ne (by omega)] at e
    exact h2 i so hi e
/-! ### a list as it is written down -/
theorem iLst_new (h : ir env st = some (xs, st)) (hx : nrs xs = true) (hl : xs.length ≤ 9000000 := by decide) : iNew (iLst ir) env st = some (.frz xs, st) :=
  new_l (by simp [h, hl]) hx
/-! ### comparisons, items, membership, lengths -/
@[simp] theorem pairsOf_tup : pairsOf st (.tup xs) = none := rfl
@[simp] theorem pairsOf_frz : pairsOf st (.frz xs) = none := rfl
@[simp] theorem pairsOf_str {a : Str} : pairsOf st (.str a) = none := rfl
@[simp] theorem pairsOf_int {a : Int} : pairsOf st (.int a) = none := rfl
@[simp] theorem pairsOf_bl {a : Bool} : pairsOf st (.bl a) = none := rfl
@[simp] theorem pairsOf_non : pairsOf st .non = none := rfl
theorem pairsOf_lst (h : st[n]? = some (.lst xs)) : pairsOf st (.ref n) = none := by simp only [pairsOf, h]
theorem pairsOf_dct {kvs : List (Key × PV)} (h : st[n]? = some (.dK kvs)) : pairsOf st (.ref n) = some kvs := by simp only [pairsOf, h]
@[simp] theorem fEqB_e : fEqB x y st = (eqB st x y).map fun b => (.bl b, st) := rfl
@[simp] theorem fNeB_e : fNeB x y st = (eqB st x y).map fun b => (.bl (!b), st) := rfl
theorem eqB_l (h : pairsOf st x = none) : eqB st x y = eqP st x y := by
  unfold eqB
  rw [h]
theorem eqB_r (h : pairsOf st y = none) : eqB st x y = eqP st x y := by
  unfold eqB
  rw [h]
  cases pairsOf st x <;> rfl
@[simp] theorem eqB_str {a : Str} : eqB st x (.str a) = eqP st x (.str a) := eqB_r rfl
@[simp] theorem eqB_int {a : Int} : eqB st x (.int a) = eqP st x (.int a) := eqB_r rfl
@[simp] theorem eqB_bl {a : Bool} : eqB st x (.bl a) = eqP st x (.bl a) := eqB_r rfl
@[simp] theorem eqB_tup : eqB st x (.tup ys) = eqP st x (.tup ys) := eqB_r rfl
@[simp] theorem eqB_frz : eqB st x (.frz ys) = eqP st x (.frz ys) := eqB_r rfl
@[simp] theorem fSubB_t {i : Int} : fSubB (.tup xs) (.int i) st = (atI xs i).map fun v => (v, st) := rfl
@[simp] theorem fSubB_f {i : Int} : fSubB (.frz xs) (.int i) st = (atI xs i).map fun v => (v, st) := rfl
theorem fSubB_l {i : Int} (h : st[n]? = some (.lst xs)) : fSubB (.ref n) (.int i) st = (atI xs i).map fun v => (v, st) := by
  unfold fSubB
  rw [pairsOf_lst h]
  show (match itemsOf st (.ref n) with
      | some xs => (atI xs i).map fun v => (v, st)
      | none => none) = _
  rw [itemsOf_r, h]
theorem fSubB_d {kvs : List (Key × PV)} {q : Key} (h : st[n]? = some (.dK kvs)) (hk : keyP y = some q) : fSubB (.ref n) y st = (findP kvs q).map fun v => (v, st) := by
  unfold fSubB
  rw [pairsOf_dct h, hk]
@[simp] theorem keyP_s {a : Str} : keyP (.str a) = some (.inr a) := rfl
@[simp] theorem keyP_i {a : Int} : keyP (.int a) = some (.inl a) := rfl
@[simp] theorem fInB_e : fInB x y st = (inB st x y).map fun b => (.bl b, st) := rfl
@[simp] theorem fNotInB_e : fNotInB x y st = (inB st x y).map fun b => (.bl (!b), st) := rfl
@[simp] theorem inB_st {a : Str} : inB st (.str a) (.tup ys) = (mapO flatP ys).map fun ws => inV (.str a) ws := rfl
@[simp] theorem inB_sf {a : Str} : inB st (.str a) (.frz ys) = (mapO flatP ys).map fun ws => inV (.str a) ws := rfl
theorem inB_d {kvs : List (Key × PV)} {q : Key} (h : st[n]? = some (.dK kvs)) (hk : keyP x = some q) : inB st x (.ref n) = some (findP kvs q).isSome := by
  unfold inB
  rw [pairsOf_dct h, hk]
@[simp] theorem fLenB_t : fLenB (.tup xs) st = some (.int xs.length, st) := rfl
@[simp] theorem fLenB_f : fLenB (.frz xs) st = some (.int xs.length, st) := rfl
@[simp] theorem fLenB_s {a : Str} : fLenB (.str a) st = if a.length ≤ 9000000 then some (.int (a.length : Int), st) else none := by
  have e : fLenB (.str a) st = fLen (.str a) st := rfl
  rw [e, fLen_s]
theorem fLenB_l (h : st[n]? = some (.lst xs)) : fLenB (.ref n) st = some (.int xs.length, st) := by
  have e : ownPairs st (.ref n) = none := by simp only [ownPairs, h]
  unfold fLenB
  rw [e]
  exact fLen_l h
theorem fLenB_d {kvs : List (Key × PV)} (h : st[n]? = some (.dK kvs)) : fLenB (.ref n) st = some (.int kvs.length, st) := by
  have e : ownPairs st (.ref n) = some kvs := by simp only [ownPairs, h]
  unfold fLenB
  rw [e]
/-! ### attributes, methods, classes, tables -/
@[simp] theorem iFld_e {cs : List Str} : iFld cs f ia env st = ob (ia env st) fun x s1 => fFld cs f x s1 := rfl
theorem fFld_e {cs : List Str} {fs : List (Str × PV)} (h : s[n]? = some (.ins c fs)) (hc : cs.contains c = true) (hf : fs.lookup f = some v) : fFld cs f (.ref n) s = some (v, s) := by
  simp only [fFld, h, hc, hf, if_true, Option.map_some]
theorem setFld_e {cs : List Str} {fs : List (Str × PV)} (h : s[n]? = some (.ins c fs)) (hc : cs.contains c = true) (hl : fs.length < 900) : setFld cs f (.ref n) y s = some (s.set n (.ins c (putP1 f y fs))) := by
  have hl' : decide (fs.length < 900) = true := decide_eq_true hl
  simp only [setFld, h, hc, hl', Bool.and_self, if_true]
@[simp] theorem iSetFld_e {cs : List Str} : iSetFld cs f io ie env st = ob (ie env st) fun y s1 => ob (io env s1) fun x s2 => (setFld cs f x y s2).map fun s3 => .nx env s3 := rfl
theorem meth_e {tbl : List (Str × FA)} {fs : List (Str × PV)} {F : FA} {q : Str} (h1 : io env st = some (.ref n, s1)) (h2 : s1[n]? = some (.ins c fs)) (h3 : tbl.lookup c = some F) (h4 : fs.lookup q = none) : iMeth q tbl io ir env st = ob (ir env s1) fun xs s2 => F (.ref n :: xs) s2 := by
  simp only [iMeth, h1, ob_s, h2, h3, h4]
theorem make_e {F : FA} (h : ir env st = some (xs, s1)) (hF : F (.ref s1.length :: xs) (s1 ++ [.ins c []]) = some (.non, s2)) : iMake c F ir env st = some (.ref s1.length, s2) := by
  simp only [iMake, h, ob_s, hF]
@[simp] theorem fTab_s {tab : List (Str × PV)} {a : Str} : fTab tab (.str a) st = (tab.lookup a).map fun v => (v, st) := rfl
@[simp] theorem fInTab_s {tab : List (Str × PV)} {a : Str} {b : Bool} : fInTab tab b (.str a) st = some (.bl (xor b (tab.lookup a).isSome), st) := rfl
@[simp] theorem iDict0_e : (fun (_ : PEnv) (st : Sto) => some (alloc (.dK []) st)) env st = some (.ref st.length, st ++ [.dK []]) := rfl
theorem append_e (h1 : io env st = some (.ref n, s1)) (h2 : s1[n]? = some (.lst ys)) (h3 : ie env s1 = some (x, s2)) (h4 : s2[n]? = some (.lst xs)) (hl : xs.length < 9000000) : iAppend io ie env st = some (.non, s2.set n (.lst (xs ++ [x]))) := by
  simp only [iAppend, h1, ob_s, h2, h3, h4, hl, if_true]
theorem fSetA_d {kvs : List (Key × PV)} {q : Key} (h : st[n]? = some (.dK kvs)) (hk : keyP y = some q) (hn : nodupK kvs = true) (hl : kvs.length < 9000000) : fSetA (.ref n) y v st = some (st.set n (.dK (putP kvs q v))) := by
  have hl' : decide (kvs.length < 9000000) = true := decide_eq_true hl
  simp only [fSetA, h, hk, hn, hl', Bool.and_self, if_true]
end
end IL

/-! how long data are when they are written; data that are good for ==, repr and to be let go -/
namespace IL
open PySem PySem.Spec PyProof.Rows L2
mutual
/-- at most so many signs -/
def wt : PV → Nat
  | .str x => 10 * x.length + 2
  | .int i => if i.natAbs < 10 ^ 30 then 31 else 10 ^ 9
  | .tup xs => 4 + wts xs
  | .frz xs => 4 + wts xs
  | _ => 5
def wts : List PV → Nat
  | [] => 0
  | x :: xs => wt x + 2 + wts xs
end
theorem textFrom_le : ∀ (ts : List Str) (k : Nat) (acc : Str), (textFrom k acc ts).length ≤ acc.length + piled ts
  | [], _, acc => Nat.le_refl _
  | t :: r, k, acc => by
    have ih := textFrom_le r (k + 1) (acc ++ (if k > 0 then ", " else "" : String) ++ t)
    have e : (acc ++ (if k > 0 then ", " else "" : String) ++ t).length ≤ acc.length + 2 + t.length := by
      rw [strLen_append, strLen_append]
      split
      · exact Nat.le_refl _
      · show acc.length + 0 + t.length ≤ _
        omega
    rw [piled_cons]
    show (textFrom (k + 1) _ r).length ≤ _
    omega
theorem listText_le (ts : List Str) : (listText ts).length ≤ piled ts + 2 := by
  unfold listText
  rw [strLen_append]
  have h := textFrom_le ts 0 "["
  have e1 : ((("[" : String) : Str)).length = 1 := rfl
  have e2 : ((("]" : String) : Str)).length = 1 := rfl
  omega
theorem tupleText_le (ts : List Str) : (tupleText ts).length ≤ piled ts + 4 := by
  unfold tupleText
  rw [strLen_append, strLen_append]
  have e1 : ((("(" : String) : Str)).length = 1 := rfl
  have e3 : (((if ts.length == 1 then ",)" else ")" : String) : Str)).length ≤ 2 := by split <;> decide
  by_cases h : ts = []
  · subst h
    have : (Str.join ", " ([] : List Str)).length = 0 := rfl
    omega
  · have := join_length_add ts h
    omega
mutual
theorem shown_le : ∀ (x : PV) (n : Nat), gd x n = true → wt x < 10 ^ 9 → (datP x).shown.length ≤ wt x
  | .non, _, _, _ => by show (("None" : Str)).length ≤ wt .non; simp only [wt]; decide
  | .bl true, _, _, _ => by show (("True" : Str)).length ≤ wt (.bl true); simp only [wt]; decide
  | .bl false, _, _, _ => by show (("False" : Str)).length ≤ wt (.bl false); simp only [wt]; decide
  | .int i, _, _, hw => by
    show ((toString i : String) : Str).length ≤ wt (.int i)
    unfold wt at hw ⊢
    split
    · rename_i h
      rw [PySem.ofString_length]
      exact int_text_length_le10 (k := 30) (by decide) h
    · rename_i h
      rw [if_neg h] at hw
      omega
  | .str x, n, h, _ => by
    unfold gd at h
    show (reprText x).length ≤ wt (.str x)
    unfold wt
    refine StrLaws.reprText_len x fun c hc => ?_
    unfold PyData.strOk at h
    rw [Array.all_eq_true_iff_forall_mem] at h
    have := of_decide_eq_true (h c (by simpa using hc))
    omega
  | .tup xs, n, h, hw => by
    unfold gd at h
    rw [Bool.and_eq_true] at h
    show (tupleText (PyData.shownAll (datPs xs))).length ≤ wt (.tup xs)
    have h1 := tupleText_le (PyData.shownAll (datPs xs))
    unfold wt at hw ⊢
    have h2 := showns_le xs _ h.2 (by omega)
    omega
  | .frz xs, n, h, hw => by
    unfold gd at h
    rw [Bool.and_eq_true] at h
    show (listText (PyData.shownAll (datPs xs))).length ≤ wt (.frz xs)
    have h1 := listText_le (PyData.shownAll (datPs xs))
    unfold wt at hw ⊢
    have h2 := showns_le xs _ h.2 (by omega)
    omega
  | .ref _, _, h, _ => by simp [gd] at h
  | .ty _, _, h, _ => by simp [gd] at h
  | .fdk _ _, _, h, _ => by simp [gd] at h
theorem showns_le : ∀ (xs : List PV) (n : Nat), gds xs n = true → wts xs < 10 ^ 9 → piled (PyData.shownAll (datPs xs)) ≤ wts xs
  | [], _, _, _ => by show piled [] ≤ _; rw [piled_nil]; exact Nat.zero_le _
  | x :: xs, n, h, hw => by
    unfold gds at h
    rw [Bool.and_eq_true] at h
    show piled ((datP x).shown :: PyData.shownAll (datPs xs)) ≤ wts (x :: xs)
    rw [piled_cons]
    unfold wts at hw ⊢
    have h1 := shown_le x n h.1 (by omega)
    have h2 := showns_le xs n h.2 (by omega)
    omega
end
mutual
theorem dat_ok : ∀ (x : PV) (n : Nat), gd x n = true → wt x < 10 ^ 9 → (datP x).showable = true ∧ (datP x).hasDict = false
  | .non, _, _, _ => ⟨by simp [datP, PyData.showable], by simp [datP, PyData.hasDict]⟩
  | .bl b, _, _, _ => ⟨by simp [datP, PyData.showable], by simp [datP, PyData.hasDict]⟩
  | .str b, _, _, _ => ⟨by simp [datP, PyData.showable], by simp [datP, PyData.hasDict]⟩
  | .int i, _, _, hw => by
    refine ⟨?_, by simp [datP, PyData.hasDict]⟩
    unfold wt at hw
    have h : i.natAbs < 10 ^ 30 := by
      by_cases h : i.natAbs < 10 ^ 30
      · exact h
      · rw [if_neg h] at hw; omega
    show decide (i.natAbs.log2 < 1920) = true
    exact decide_eq_true (Nat.lt_of_lt_of_le (PySem.Flt.log2_lt_of (by decide) (Nat.lt_of_lt_of_le h (by decide : 10 ^ 30 ≤ 2 ^ 100))) (by decide))
  | .tup xs, n, h, hw => by
    unfold gd at h
    rw [Bool.and_eq_true] at h
    unfold wt at hw
    obtain ⟨a, b⟩ := dats_ok xs _ h.2 (by omega)
    exact ⟨by simp only [datP, PyData.showable]; exact a, by simp only [datP, PyData.hasDict]; exact b⟩
  | .frz xs, n, h, hw => by
    unfold gd at h
    rw [Bool.and_eq_true] at h
    unfold wt at hw
    obtain ⟨a, b⟩ := dats_ok xs _ h.2 (by omega)
    exact ⟨by simp only [datP, PyData.showable]; exact a, by simp only [datP, PyData.hasDict]; exact b⟩
  | .ref _, _, h, _ => by simp [gd] at h
  | .ty _, _, h, _ => by simp [gd] at h
  | .fdk _ _, _, h, _ => by simp [gd] at h
theorem dats_ok : ∀ (xs : List PV) (n : Nat), gds xs n = true → wts xs < 10 ^ 9 → PyData.showableAll (datPs xs) = true ∧ PyData.hasDictAll (datPs xs) = false
  | [], _, _, _ => ⟨by simp [datPs, PyData.showableAll], by simp [datPs, PyData.hasDictAll]⟩
  | x :: xs, n, h, hw => by
    unfold gds at h
    rw [Bool.and_eq_true] at h
    unfold wts at hw
    obtain ⟨a, b⟩ := dat_ok x n h.1 (by omega)
    obtain ⟨c, d⟩ := dats_ok xs n h.2 (by omega)
    exact ⟨by simp only [datPs, PyData.showableAll, a, c, Bool.and_self], by simp only [datPs, PyData.hasDictAll, b, d, Bool.or_self]⟩
end
/-- data: no deeper than n, no longer than w when they are written -/
structure Gd (n w : Nat) (x : PV) : Prop where
  g : gd x n = true
  r : nr x = true
  w : wt x ≤ w
structure Gds (n w : Nat) (xs : List PV) : Prop where
  g : gds xs n = true
  r : nrs xs = true
  w : wts xs ≤ w
mutual
theorem gd_mono : ∀ (x : PV) {n m : Nat}, gd x n = true → n ≤ m → gd x m = true
  | .non, _, _, _, _ => by simp [gd]
  | .bl b, _, _, _, _ => by simp [gd]
  | .int b, _, _, _, _ => by simp [gd]
  | .str b, _, _, h, _ => by simpa [gd] using h
  | .tup xs, n, m, h, hm => by
    unfold gd at h ⊢
    rw [Bool.and_eq_true, decide_eq_true_eq] at h ⊢
    exact ⟨by omega, gds_mono xs h.2 (by omega)⟩
  | .frz xs, n, m, h, hm => by
    unfold gd at h ⊢
    rw [Bool.and_eq_true, decide_eq_true_eq] at h ⊢
    exact ⟨by omega, gds_mono xs h.2 (by omega)⟩
  | .ref _, _, _, h, _ => by simp [gd] at h
  | .ty _, _, _, h, _ => by simp [gd] at h
  | .fdk _ _, _, _, h, _ => by simp [gd] at h
theorem gds_mono : ∀ (xs : List PV) {n m : Nat}, gds xs n = true → n ≤ m → gds xs m = true
  | [], _, _, _, _ => by simp [gds]
  | x :: xs, n, m, h, hm => by
    unfold gds at h ⊢
    rw [Bool.and_eq_true] at h ⊢
    exact ⟨gd_mono x h.1 hm, gds_mono xs h.2 hm⟩
end
theorem Gd.mono {n m w v : Nat} {x : PV} (h : Gd n w x) (hn : n ≤ m) (hw : w ≤ v) : Gd m v x := ⟨gd_mono x h.g hn, h.r, Nat.le_trans h.w hw⟩
theorem Gds.mono {n m w v : Nat} {xs : List PV} (h : Gds n w xs) (hn : n ≤ m) (hw : w ≤ v) : Gds m v xs := ⟨gds_mono xs h.g hn, h.r, Nat.le_trans h.w hw⟩
theorem Gds.nil {n w : Nat} : Gds n w [] := ⟨by simp [gds], by simp [nrs], by simp [wts]⟩
theorem Gds.cons {n w v : Nat} {x : PV} {xs : List PV} (h : Gd n w x) (t : Gds n v xs) : Gds n (w + 2 + v) (x :: xs) := by
  refine ⟨?_, ?_, ?_⟩
  · unfold gds; rw [h.g, t.g]; rfl
  · unfold nrs; rw [h.r, t.r]; rfl
  · unfold wts; have := h.w; have := t.w; omega
theorem Gds.append {n w v : Nat} {xs ys : List PV} (h : Gds n w xs) (t : Gds n v ys) : Gds n (w + v) (xs ++ ys) := by
  induction xs generalizing w with
  | nil => exact t.mono (Nat.le_refl _) (by omega)
  | cons x xs ih =>
    obtain ⟨g, r, hw⟩ := h
    unfold gds at g
    unfold nrs at r
    unfold wts at hw
    rw [Bool.and_eq_true] at g r
    have i := ih (w := wts xs) ⟨g.2, r.2, Nat.le_refl _⟩
    exact (Gds.cons (w := wt x) ⟨g.1, r.1, Nat.le_refl _⟩ i).mono (Nat.le_refl _) (by omega)
theorem Gd.tup {n w : Nat} {xs : List PV} (h : Gds n w xs) : Gd (n + 1) (w + 4) (.tup xs) := by
  refine ⟨?_, ?_, ?_⟩
  · unfold gd; rw [Nat.add_sub_cancel, h.g]; simp
  · unfold nr; exact h.r
  · unfold wt; have := h.w; omega
theorem Gd.frz {n w : Nat} {xs : List PV} (h : Gds n w xs) : Gd (n + 1) (w + 4) (.frz xs) := by
  refine ⟨?_, ?_, ?_⟩
  · unfold gd; rw [Nat.add_sub_cancel, h.g]; simp
  · unfold nr; exact h.r
  · unfold wt; have := h.w; omega
theorem Gd.str {n w : Nat} {x : Str} (h : PyData.strOk x = true) (hw : 10 * x.length + 2 ≤ w) : Gd n w (.str x) := ⟨by simpa [gd] using h, by simp [nr], by simpa [wt] using hw⟩
theorem Gd.int {n w : Nat} {i : Int} (h : i.natAbs < 10 ^ 30) (hw : 31 ≤ w) : Gd n w (.int i) := ⟨by simp [gd], by simp [nr], by unfold wt; rw [if_pos h]; exact hw⟩
theorem Gd.bl {n w : Nat} {b : Bool} (hw : 5 ≤ w) : Gd n w (.bl b) := ⟨by simp [gd], by simp [nr], by simpa [wt] using hw⟩
theorem Gds.all {n w : Nat} : ∀ {xs : List PV}, (∀ x ∈ xs, Gd n w x) → Gds n (xs.length * (w + 2)) xs
  | [], _ => Gds.nil
  | x :: xs, h => by
    have := Gds.cons (h x (List.mem_cons_self ..)) (Gds.all fun y hy => h y (List.mem_cons_of_mem _ hy))
    refine this.mono (Nat.le_refl _) ?_
    rw [List.length_cons, Nat.succ_mul]
    omega
theorem Gds.mem {n w : Nat} : ∀ {xs : List PV}, Gds n w xs → ∀ x ∈ xs, Gd n w x
  | x :: xs, h, y, hy => by
    obtain ⟨g, r, hw⟩ := h
    unfold gds at g
    unfold nrs at r
    unfold wts at hw
    rw [Bool.and_eq_true] at g r
    rcases List.mem_cons.mp hy with e | hy
    · subst e
      exact ⟨g.1, r.1, by omega⟩
    · exact Gds.mem ⟨g.2, r.2, by omega⟩ y hy
theorem repr_gd {n w : Nat} {x : PV} {st : Sto} (h : Gd n w x) (hn : n ≤ 60) (hw : w ≤ 16000000) : reprOk (datP x) = true ∧ toD st 70 x = some (datP x) := by
  obtain ⟨h1, h2, h3⟩ := gd_dat (st := st) x n 70 h.g (by omega)
  have hw' : wt x < 10 ^ 9 := Nat.lt_of_le_of_lt (Nat.le_trans h.w hw) (by decide)
  obtain ⟨h4, h5⟩ := dat_ok x n h.g hw'
  have h6 := shown_le x n h.g hw'
  have := h.w
  refine ⟨?_, h1⟩
  unfold reprOk
  simp only [Bool.and_eq_true, Bool.not_eq_true', decide_eq_true_eq]
  exact ⟨⟨⟨h4, h5⟩, by omega⟩, by omega⟩
theorem repr_frz {n w : Nat} {xs : List PV} {st : Sto} (h : Gd n w (.frz xs)) (hn : n ≤ 60) (hw : w ≤ 16000000) : fReprD (.frz xs) st = some (.str (datP (.frz xs)).shown, st) := by
  obtain ⟨h1, h2⟩ := repr_gd (st := st) h hn hw
  simp only [fReprD, h2, h1, if_true]
theorem repr_tup {n w : Nat} {xs : List PV} {st : Sto} (h : Gd n w (.tup xs)) (hn : n ≤ 60) (hw : w ≤ 16000000) : fReprD (.tup xs) st = some (.str (datP (.tup xs)).shown, st) := by
  obtain ⟨h1, h2⟩ := repr_gd (st := st) h hn hw
  simp only [fReprD, h2, h1, if_true]
end IL

/-! rules for simp, of values that are new and not written -/
namespace IL
open PySem PySem.Spec PyProof.Rows L2
section
variable {st s s1 s2 : Sto} {env : PEnv} {x y z v : PV} {xs ys : List PV} {ia ib ic ie io : IE} {ir : IA} {m k n : Nat} {c f : Str}
theorem iNew_e : iNew ia env st = (ob (ia env st) fun x s => some (frzV s x)).map fun r => (r.1, gcS st r.2 r.1) := rfl
@[simp] theorem frzV_newl : frzV (s ++ [.lst xs]) (.ref s.length) = (.frz xs, s ++ [.gone]) := by
  rw [frzV_lst new_at]
  congr 1
  have := List.set_append_right (s := s) (t := [SO.lst xs]) s.length SO.gone (Nat.le_refl _)
  rw [this]
  simp
@[simp] theorem frzV_newd {kvs : List (Key × PV)} : frzV (s ++ [.dK kvs]) (.ref s.length) = (.fdk (kvs.map (·.1)) (kvs.map (·.2)), s ++ [.gone]) := by
  rw [frzV_dct new_at]
  congr 1
  have := List.set_append_right (s := s) (t := [SO.dK kvs]) s.length SO.gone (Nat.le_refl _)
  rw [this]
  simp
theorem gcS_nr {l : Sto} (h : nr v = true) : gcS st (st ++ l) v = st := gc_app (rlt_nr _ h)
theorem gcS_nr0 (h : nr v = true) : gcS st st v = st := gc_id (rlt_nr _ h)
theorem gcS_same (h : s.length = st.length) : gcS st s v = s := by
  unfold gcS
  split
  · rw [← h, List.take_length]
  · rfl
theorem def_same {nN : Nat} {b : IS} (hl : xs.length = n) (h : b (xs.map some ++ List.replicate (nN - n) none) st = some (.rt v s)) (he : s.length = st.length) : iDef n nN b xs st = some (v, s) := by
  rw [def_rt hl h, gcS_same he]
theorem def_same0 {nN : Nat} {b : IS} {e : PEnv} (hl : xs.length = n) (h : b (xs.map some ++ List.replicate (nN - n) none) st = some (.nx e s)) (he : s.length = st.length) : iDef n nN b xs st = some (.non, s) := by
  rw [def_nx hl h, gcS_same he]
@[simp] theorem fAdd_f : fAdd (.frz xs) (.frz ys) st = if xs.length + ys.length ≤ 9000000 then some (.ref st.length, st ++ [.lst (xs ++ ys)]) else none := rfl
theorem fAdd_l (h : st[n]? = some (.lst xs)) : fAdd (.ref n) (.frz ys) st = if xs.length + ys.length ≤ 9000000 then some (.ref st.length, st ++ [.lst (xs ++ ys)]) else none := by
  show (match listOf st (.ref n), listOf st (.frz ys) with
    | some a, some b => if a.length + b.length ≤ 9000000 then some (alloc (.lst (a ++ b)) st) else none
    | _, _ => none) = _
  simp only [listOf, h]
  rfl
theorem findP_put {v : PV} {k : Key} : ∀ {kvs : List (Key × PV)} {j : Key}, findP (putP kvs k v) j = if j = k then some v else findP kvs j
  | [], j => by
    by_cases h : j = k
    · simp [putP, findP, h]
    · simp [putP, findP, h, Ne.symm h]
  | p :: r, j => by
    have ih := findP_put (v := v) (k := k) (kvs := r) (j := j)
    by_cases h : j = k <;> by_cases h2 : p.1 = k <;> by_cases h3 : p.1 = j <;> simp_all [putP, findP]
@[simp] theorem findP_put_self {v : PV} {k : Key} {kvs : List (Key × PV)} : findP (putP kvs k v) k = some v := by rw [findP_put, if_pos rfl]
end
end IL

/-! a dict that nobody writes is walked -/
namespace IL
open PySem PySem.Spec PyProof.Rows L2
def kPV : Key → PV
  | .inl i => .int i
  | .inr x => .str x
section
variable {X : Cx} {W : WX} {pos : Pos} {ia : IS}
/-- a walk over src, however it is read -/
theorem for_core {K : PySem.W.Frag} {src : Src} {J : It} {H1 : Hp} {ρ1 : Rho} {D : L2.Ends} {ig : IG} {T : List Nat} {env : PEnv} {σ : L2.St} {s1 : Sto} {f : Fl} (O : SrcOk K src J H1 ρ1) (E : RepE K H1 ρ1 env σ) (S1 : RepS K H1 ρ1 s1) (h : loop src.at_ ig ia (src.n + 1) 0 env s1 = some f) (q : PostF K W D H1 ρ1 f) :
    ∃ W2 : Nat → Nat → L2.St → Hp → Prop, (∃ m, W2 0 m σ H1) ∧ ∀ (i m : Nat) (σ : L2.St) (H : Hp), W2 i m σ H → J.stop i H ∧ D.nx σ H ∨ J.go i H ∧ ∃ N : L2.St → Hp → Prop, (∀ (σ' : L2.St) (H' : Hp), N σ' H' → ∃ m', m' < m ∧ W2 (i + 1) m' σ' H') ∧
      ∀ (x : V) (H' : Hp), J.yld i H x H' → tIG K T ig x σ H' fun σ2 H2 => tIS K W ia { nx := N, rt := D.rt, bk := D.nx, ct := N } σ2 H2 := by
    refine ⟨fun i m σ' H' => ∃ env' st' ρ' f', Grow H1 ρ1 H' ρ' ∧ RepE K H' ρ' env' σ' ∧ RepS K H' ρ' st' ∧ loop src.at_ ig ia m i env' st' = some f' ∧ PostF K W D H' ρ' f', ⟨src.n + 1, env, s1, ρ1, f, Grow.refl, E, S1, h, q⟩, ?_⟩
    rintro i m σ' H' ⟨env', st', ρ', f', G', E', S', hl, q'⟩
    cases m with
    | zero => cases hl
    | succ m =>
      unfold loop at hl
      obtain ⟨o1, o2⟩ := O H' ρ' st' G' S' i
      split at hl
      · cases hl
      · rename_i e1
        cases hl
        exact .inl ⟨o1 e1, q' σ' H' ρ' Grow.refl S' E'⟩
      · rename_i x e1
        obtain ⟨go, yl⟩ := o2 x e1
        split at hl
        · cases hl
        · rename_i env1 e2
          refine .inr ⟨go, fun σ2 H2 => ∃ m', m' < m + 1 ∧ ∃ env' st' ρ' f', Grow H1 ρ1 H2 ρ' ∧ RepE K H2 ρ' env' σ2 ∧ RepS K H2 ρ' st' ∧ loop src.at_ ig ia m' (i + 1) env' st' = some f' ∧ PostF K W D H2 ρ' f', fun σ2 H2 n => n, fun v H2 y => ?_⟩
          obtain ⟨ρ2, G2, S2, R2⟩ := yl v H2 y
          refine ⟨env', st', ρ2, x, env1, E'.grow S' G2, S2, R2, e2, fun σ3 E3 _ _ => ?_⟩
          cases e3 : ia env1 st' with
          | none => rw [e3] at hl; cases hl
          | some fl =>
            rw [e3] at hl
            refine ⟨env1, st', ρ2, fl, E3, S2, e3, ?_⟩
            cases fl with
            | nx e s => exact fun σ4 H4 ρ4 G4 S4 E4 => ⟨m, Nat.lt_succ_self m, e, s, ρ4, f', (G'.trans G2).trans G4, E4, S4, hl, q'.grow (G2.trans G4)⟩
            | ct e s => exact fun σ4 H4 ρ4 G4 S4 E4 => ⟨m, Nat.lt_succ_self m, e, s, ρ4, f', (G'.trans G2).trans G4, E4, S4, hl, q'.grow (G2.trans G4)⟩
            | bk e s => cases hl; exact fun σ4 H4 ρ4 G4 S4 E4 => q' σ4 H4 ρ4 (G2.trans G4) S4 E4
            | rt v s => cases hl; exact fun v H4 ρ4 G4 S4 R4 => q' v H4 ρ4 (G2.trans G4) S4 R4
            | er e c fs s => cases hl; exact fun C d σ4 H4 ρ4 vs hc G4 => q' C d σ4 H4 ρ4 vs hc (G2.trans G4)
theorem srcK_ok {K : PySem.W.Frag} {H0 : Hp} {ρ0 : Rho} {d : Addr} {od : Obj} {kvs : List (Key × V)} (h : H0 d = some (.frz od (.dK kvs))) (sd : ρ0.Safe d) : SrcOk K (srcT ((kvs.map (·.1)).map kPV)) (Itk d od kvs) H0 ρ0 := fun H ρ st G S i => by
  have h1 := G.lck d od _ sd h
  refine ⟨fun hs => ?_, fun x hs => ?_⟩
  · simp only [srcT, Option.some.injEq, List.getElem?_eq_none_iff, List.length_map] at hs
    exact ⟨h1, hs⟩
  · simp only [srcT, Option.some.injEq, List.getElem?_map, Option.map_eq_some_iff] at hs
    obtain ⟨k, ⟨p, hp, rfl⟩, rfl⟩ := hs
    refine ⟨⟨h1, (List.getElem?_eq_some_iff.mp hp).1⟩, fun w H' y => ?_⟩
    obtain ⟨rfl, k, v, e, rfl⟩ := y
    rw [hp] at e; cases e
    refine ⟨ρ, Grow.refl, S, ?_⟩
    cases k <;> (unfold kPV Rep; rfl)
def iForK (i : Nat) (ig : IG) (body : IS) : IS := fun env st => match env[i]? with
  | some (some (.fdk ks _)) => loop (srcT (ks.map kPV)).at_ ig body (ks.length + 1) 0 env st
  | _ => none
theorem PS.or {st : Stmt} {t t' : TS} (h : PS X st t) (h' : PS X st t') : PS X st (fun D σ H => t D σ H ∨ t' D σ H) := ⟨fun pins s σ H D I q => q.elim (h.run pins s σ H D I) (h'.run pins s σ H D I)⟩
theorem rd_lock {H : Hp} {d : Addr} {od : Obj} {u : HO} (h : H d = some u) (hu : NF u) : ∀ a w, NF w → Rd H a w → Rd (upd H d (.frz od u)) a w := fun a w hw r => by
  by_cases e : a = d
  · subst e
    rcases r with r | ⟨o, r⟩
    · rw [h] at r; cases r
      exact .inr ⟨od, upd_same⟩
    · rw [h] at r; cases r
      exact absurd hu (by simp [NF])
  · unfold Rd at r ⊢
    rw [upd_ne e]; exact r
theorem rd_unlock {H : Hp} {d : Addr} {od : Obj} {u : HO} (h : H d = some (.frz od u)) : ∀ a w, NF w → Rd H a w → Rd (upd H d u) a w := fun a w hw r => by
  by_cases e : a = d
  · subst e
    rcases r with r | ⟨o, r⟩
    · rw [h] at r; cases r
      exact absurd hw (by simp [NF])
    · rw [h] at r; cases r
      exact .inl upd_same
  · unfold Rd at r ⊢
    rw [upd_ne e]; exact r
theorem grow_lock {H : Hp} {ρ : Rho} {d : Addr} {od : Obj} {u : HO} (h : H d = some u) (hu : NF u) : Grow H ρ (upd H d (.frz od u)) ρ :=
  ⟨⟨[], by simp, fun _ h => by simp at h⟩, fun _ h => h, fun b w hw _ r => rd_lock h hu b w hw r, fun b e => by
    by_cases hb : b = d
    · subst hb; rw [upd_same] at e; cases e
    · rw [upd_ne hb] at e; exact e, fun b o w _ e => by
    have hb : b ≠ d := fun z => by
      rw [z, h] at e; cases e
      exact hu
    rw [upd_ne hb]; exact e⟩
/-- locked, walked, unlocked -/
theorem grow_locked {H H2 : Hp} {ρ ρ2 : Rho} {d : Addr} {od : Obj} {u : HO} (h : H d = some u) (hu : NF u) (g : Grow (upd H d (.frz od u)) ρ H2 ρ2) (h2 : H2 d = some (.frz od u)) : Grow H ρ (upd H2 d u) ρ2 := by
  have G := (grow_lock (ρ := ρ) (od := od) h hu).trans g
  refine ⟨G.ext, G.ded, fun b w hw sb r => rd_unlock h2 b w hw (G.keep b w hw sb r), fun b e => ?_, fun b o w sb e => ?_⟩
  · by_cases hb : b = d
    · subst hb; rw [upd_same] at e; cases e
    · rw [upd_ne hb] at e; exact G.dom b e
  · have hb : b ≠ d := fun z => by
      rw [z, h] at e; cases e
      exact hu
    rw [upd_ne hb]; exact G.lck b o w sb e
theorem s_forK {iter tg : Expr} {body : List Stmt} {i : Nat} {T : List Nat} {ig : IG} (hp : PassesOwn (model X.prog X.w) X.A X.env X.xe) (hc : X.calm = true) (he : PE X iter (tVar i)) (hg : PG X tg (tIG X.K T ig)) (hb : PSs X body (tIS X.K W ia))
    (hs : ∀ x, foldedSetIterable iter X.env x = pure x := by intro _; rfl) : PS X (.For tg iter body [] pos) (tIS X.K W (iForK i ig ia)) :=
  PS.imp (PS.or (ps_lock (ps_for hp hc (pi_keys he) hg hb hs)) (ps_for hp hc (pi_keys he) hg hb hs)) fun D σ H ⟨env, s, ρ, f, E, S, h, q⟩ => by
    unfold iForK at h
    split at h
    · rename_i ks xs e
      obtain ⟨v, hv, R⟩ := E.at_ i _ e
      unfold Rep at R
      obtain ⟨d, vs, rfl, ⟨kvs, rd, sd, hk, hvs⟩, _⟩ := R
      subst hk
      have hn : (srcT ((kvs.map (·.1)).map kPV)).n = (kvs.map (·.1)).length := by simp [srcT]
      rcases rd with rd | ⟨od, rd⟩
      · refine .inl ⟨d, .dK kvs, rd, trivial, fun od => ?_⟩
        have r1 := rd_lock (od := od) rd trivial
        have E1 := E.rdk r1
        have S1 := S.rdk r1 sd (fun a ha => upd_ne ha)
        refine ⟨.ref d, hv, d, od, rfl, .inl ⟨kvs, upd_same, ?_⟩⟩
        refine for_core (srcK_ok upd_same sd) E1 S1 (by rw [hn]; exact h) ?_
        have fin : ∀ {H2 : Hp} {ρ2 : Rho}, Grow (upd H d (.frz od (.dK kvs))) ρ H2 ρ2 → H2 d = some (.frz od (.dK kvs)) ∧ Grow H ρ (upd H2 d (.dK kvs)) ρ2 ∧ ρ2.Safe d ∧ (∀ a w, NF w → Rd H2 a w → Rd (upd H2 d (.dK kvs)) a w) := fun g => by
          have h2 := g.lck d od _ sd upd_same
          exact ⟨h2, grow_locked rd trivial g h2, g.safe (by rw [upd_same]; simp) sd, rd_unlock h2⟩
        cases f with
        | nx e s => exact fun σ' H2 ρ2 g S2 E2 => ⟨(fin g).1, q σ' _ ρ2 (fin g).2.1 (S2.rdk (fin g).2.2.2 (fin g).2.2.1 (fun a ha => upd_ne ha)) (E2.rdk (fin g).2.2.2)⟩
        | ct e s => exact fun σ' H2 ρ2 g S2 E2 => ⟨(fin g).1, q σ' _ ρ2 (fin g).2.1 (S2.rdk (fin g).2.2.2 (fin g).2.2.1 (fun a ha => upd_ne ha)) (E2.rdk (fin g).2.2.2)⟩
        | bk e s => exact fun σ' H2 ρ2 g S2 E2 => ⟨(fin g).1, q σ' _ ρ2 (fin g).2.1 (S2.rdk (fin g).2.2.2 (fin g).2.2.1 (fun a ha => upd_ne ha)) (E2.rdk (fin g).2.2.2)⟩
        | rt v s => exact fun w H2 ρ2 g S2 R2 => ⟨(fin g).1, q w _ ρ2 (fin g).2.1 (S2.rdk (fin g).2.2.2 (fin g).2.2.1 (fun a ha => upd_ne ha)) (Rep.rdk (fin g).2.2.2 _ _ R2)⟩
        | er e c fs s => exact fun C d2 σ' H2 ρ2 vs hc g => q C d2 σ' H2 ρ2 vs hc ((grow_lock rd trivial).trans g)
      · exact .inr ⟨.ref d, hv, d, od, rfl, .inl ⟨kvs, rd, for_core (srcK_ok rd sd) E S (by rw [hn]; exact h) q⟩⟩
    · cases h
theorem loop_srcT {ig : IG} {body : IS} {all : List PV} {env : PEnv} {st : Sto} : loop (srcT all).at_ ig body (all.length + 1) 0 env st = foldT ig body all env st := loop_foldT all [] env st rfl
theorem iForK_e {i : Nat} {ig : IG} {body : IS} {env : PEnv} {st : Sto} {ks : List Key} {xs : List PV} (h : env[i]? = some (some (.fdk ks xs))) : iForK i ig body env st = foldT ig body (ks.map kPV) env st := by
  unfold iForK
  rw [h]
  have := loop_srcT (ig := ig) (body := body) (all := ks.map kPV) (env := env) (st := st)
  rw [List.length_map] at this
  exact this
end
end IL

/-! a dict comprehension over a list, of what leaves the store -/
namespace IL
open PySem PySem.Spec PyProof.Rows L2
def putAllP {α : Type} (key : α → Key) (val : α → PV) : List (Key × PV) → List α → List (Key × PV)
  | acc, [] => acc
  | acc, x :: xs => putAllP key val (putP acc (key x) (val x)) xs
section
variable {α : Type} {key : α → Key} {val f : α → PV} {ig : IG} {t : IT} {ek e : IE} {w : PEnv} {st : Sto}
theorem putP_some' {σ : List (Key × PV)} {k : Key} {v : PV} : findP σ k ≠ none → (putP σ k v).map (·.1) = σ.map (·.1) := by
  induction σ with
  | nil => intro h; exact absurd rfl h
  | cons p r ih =>
    obtain ⟨k', x⟩ := p
    intro h
    unfold findP at h
    unfold putP
    by_cases e : k' = k
    · rw [if_pos e]; rfl
    · rw [if_neg e] at h ⊢
      simp [ih h]
theorem putP_none' {σ : List (Key × PV)} {k : Key} {v : PV} (h : findP σ k = none) : putP σ k v = σ ++ [(k, v)] ∧ k ∉ σ.map (·.1) := by
  induction σ with
  | nil => exact ⟨rfl, by simp⟩
  | cons p r ih =>
    obtain ⟨k', x⟩ := p
    unfold findP at h
    unfold putP
    by_cases e : k' = k
    · rw [if_pos e] at h; cases h
    · rw [if_neg e] at h ⊢
      rw [(ih h).1]
      refine ⟨rfl, ?_⟩
      simp only [List.map_cons, List.mem_cons, not_or]
      exact ⟨fun z => e z.symm, (ih h).2⟩
theorem nodupK_put' {σ : List (Key × PV)} {k : Key} {v : PV} (h : nodupK σ = true) : nodupK (putP σ k v) = true ∧ (putP σ k v).length ≤ σ.length + 1 := by
  have h1 : (σ.map (·.1)).Nodup := of_decide_eq_true h
  unfold nodupK
  cases e : findP σ k with
  | some v' =>
    have q := putP_some' (v := v) (show findP σ k ≠ none by rw [e]; simp)
    refine ⟨decide_eq_true (by rw [q]; exact h1), ?_⟩
    have := congrArg List.length q
    simp only [List.length_map] at this
    omega
  | none =>
    obtain ⟨q1, q2⟩ := putP_none' (v := v) e
    refine ⟨decide_eq_true ?_, by rw [q1, List.length_append]; simp⟩
    rw [q1, List.map_append, List.nodup_append]
    refine ⟨h1, by simp, fun a ha b hb hab => ?_⟩
    simp only [List.map_cons, List.map_nil, List.mem_singleton] at hb
    subst hb; subst hab
    exact q2 ha
theorem dc_loop {all : List PV} (M : α → Prop) (h : ∀ x, M x → ∀ s, ∃ env1 kx, ig (f x) w s = some env1 ∧ t env1 s = some (true, s) ∧ ek env1 s = some (kx, s) ∧ e env1 s = some (val x, s) ∧ keyP kx = some (key x)) :
    ∀ (ys : List α) (pre : List PV) (acc : List (Key × PV)), all = pre ++ ys.map f → (∀ y ∈ ys, M y) → nodupK acc = true → acc.length + ys.length < 9000000 →
      dcLoop (srcT all).at_ ig t ek e st.length w (ys.length + 1) pre.length (st ++ [.dK acc]) = some (st ++ [.dK (putAllP key val acc ys)])
  | [], pre, acc, he, _, _, _ => by
    rw [List.map_nil, List.append_nil] at he
    subst he
    show dcLoop (srcT all).at_ ig t ek e st.length w 1 all.length (st ++ [.dK acc]) = _
    unfold dcLoop
    simp [srcT, putAllP]
  | y :: ys, pre, acc, he, hM, hn, hl => by
    obtain ⟨env1, kx, h1, h2, h3, h4, h5⟩ := h y (hM y (List.mem_cons_self ..)) (st ++ [.dK acc])
    have hat : (srcT all).at_ (st ++ [.dK acc]) pre.length = some (some (f y)) := by
      simp only [srcT, he, List.map_cons]
      rw [List.getElem?_append_right (Nat.le_refl _)]; simp
    have ih := dc_loop (all := all) M h ys (pre ++ [f y]) (putP acc (key y) (val y)) (by rw [he]; simp) (fun z hz => hM z (List.mem_cons_of_mem _ hz)) (nodupK_put' hn).1 (by have := (nodupK_put' (k := key y) (v := val y) hn).2; simp only [List.length_cons] at hl; omega)
    rw [List.length_append, List.length_singleton] at ih
    have hs : (st ++ [SO.dK acc]).set st.length (.dK (putP acc (key y) (val y))) = st ++ [.dK (putP acc (key y) (val y))] := by
      rw [List.set_append_right _ _ (Nat.le_refl _)]; simp
    have hc : (nodupK acc && decide (acc.length < 9000000)) = true := by
      rw [hn, Bool.true_and]; exact decide_eq_true (by simp only [List.length_cons] at hl; omega)
    rw [List.length_cons]
    unfold dcLoop
    rw [hat]
    simp only [h1, h2, h3, h4, h5, new_at, hc, if_true, hs]
    exact ih
theorem dc_new {xs : List α} {ie : IE} {vs : List Nat} {env : PEnv} (hi : ie env st = some (.frz (xs.map f), st)) (hl : xs.length < 9000000)
    (h : ∀ x, x ∈ xs → ∀ s, ∃ env1 kx, ig (f x) (wipeE env vs) s = some env1 ∧ t env1 s = some (true, s) ∧ ek env1 s = some (kx, s) ∧ e env1 s = some (val x, s) ∧ keyP kx = some (key x)) (hv : nrs ((putAllP key val [] xs).map (·.2)) = true) :
    iNew (iDc (iWalk ie) ig t ek e vs) env st = some (.fdk ((putAllP key val [] xs).map (·.1)) ((putAllP key val [] xs).map (·.2)), st) := by
  refine new_d ?_ hv
  have hd := dc_loop (st := st) (t := t) (ek := ek) (e := e) (all := xs.map f) (fun x => x ∈ xs) h xs [] [] rfl (fun _ h => h) rfl (by simpa using hl)
  have hn : (srcT (xs.map f)).n = xs.length := by simp [srcT]
  unfold iDc
  rw [iWalk_e, hi]
  simp only [ob_s, hn]
  rw [List.length_nil] at hd
  rw [hd]
  rfl
end
end IL

/-! a text that repr gives has signs as texts have -/
namespace IL
open PySem PySem.Spec PyProof.Rows L2
theorem ok_iff {s : Str} : PyData.strOk s = true ↔ ∀ c ∈ s.cps.toList, c < 1114112 := by
  unfold PyData.strOk
  rw [Array.all_eq_true_iff_forall_mem]
  simp
theorem ok_of (s : String) : PyData.strOk (Str.ofString s) = true := by
  rw [ok_iff, PyProof.Rows.signs_ofString]
  intro c hc
  obtain ⟨ch, _, rfl⟩ := List.mem_map.mp hc
  have := ch.valid
  unfold Char.toNat
  unfold UInt32.isValidChar Nat.isValidChar at this
  omega
theorem ok_app {a b : Str} (ha : PyData.strOk a = true) (hb : PyData.strOk b = true) : PyData.strOk (a ++ b) = true := by
  rw [ok_iff] at *
  intro c hc
  have e : (a ++ b).cps.toList = a.cps.toList ++ b.cps.toList := by
    show (a.cps ++ b.cps).toList = _
    simp
  rw [e] at hc
  rcases List.mem_append.mp hc with h | h
  · exact ha c h
  · exact hb c h
theorem ok_hex {c w : Nat} : ∀ x ∈ (List.replicate (w - (List.map Char.toNat (Nat.toDigits 16 c)).length) 48 ++ List.map Char.toNat (Nat.toDigits 16 c)), x < 1114112 := by
  intro x hx
  rcases List.mem_append.mp hx with h | h
  · have := (List.mem_replicate.mp h).2
    omega
  · obtain ⟨ch, _, rfl⟩ := List.mem_map.mp h
    have := ch.valid
    unfold Char.toNat
    unfold UInt32.isValidChar Nat.isValidChar at this
    omega
theorem ok_char {q c : Nat} (hc : c < 1114112) : ∀ x ∈ Builtin.Str.reprChar q c, x < 1114112 := by
  intro x hx
  unfold Builtin.Str.reprChar at hx
  simp only at hx
  split at hx
  · simp at hx; omega
  · split at hx
    · simp at hx; omega
    · split at hx
      · simp at hx; omega
      · split at hx
        · simp at hx; omega
        · split at hx
          · simp at hx; omega
          · split at hx
            · rcases List.mem_append.mp hx with h | h
              · simp at h; omega
              · exact ok_hex x h
            · split at hx
              · rcases List.mem_append.mp hx with h | h
                · simp at h; omega
                · exact ok_hex x h
              · rcases List.mem_append.mp hx with h | h
                · simp at h; omega
                · exact ok_hex x h
theorem ok_fold {q : Nat} : ∀ (cs : List Nat) (out : Array Nat), (∀ c ∈ cs, c < 1114112) → (∀ c ∈ out.toList, c < 1114112) → ∀ c ∈ (cs.foldl (fun out c => out ++ (Builtin.Str.reprChar q c).toArray) out).toList, c < 1114112
  | [], out, _, h => h
  | x :: cs, out, hc, h => by
    rw [List.foldl_cons]
    refine ok_fold cs _ (fun c hm => hc c (List.mem_cons_of_mem _ hm)) fun c hm => ?_
    rw [Array.toList_append] at hm
    rcases List.mem_append.mp hm with hm | hm
    · exact h c hm
    · exact ok_char (hc x (List.mem_cons_self ..)) c hm
theorem ok_repr {x : Str} (h : PyData.strOk x = true) : PyData.strOk (reprText x) = true := by
  rw [ok_iff] at *
  have hq : reprQuote x < 1114112 := by unfold reprQuote; split <;> omega
  intro c hc
  unfold reprText at hc
  rw [Array.toList_push] at hc
  rcases List.mem_append.mp hc with hc | hc
  · rw [← Array.foldl_toList] at hc
    exact ok_fold x.cps.toList _ h (by simp; omega) c hc
  · simp at hc; omega
theorem ok_from : ∀ (ts : List Str) (k : Nat) (acc : Str), (∀ t ∈ ts, PyData.strOk t = true) → PyData.strOk acc = true → PyData.strOk (textFrom k acc ts) = true
  | [], k, acc, _, h => h
  | t :: r, k, acc, ht, h => by
    show PyData.strOk (textFrom (k + 1) (acc ++ (if k > 0 then ", " else "" : String) ++ t) r) = true
    exact ok_from r (k + 1) _ (fun u hu => ht u (List.mem_cons_of_mem _ hu)) (ok_app (ok_app h (ok_of _)) (ht t (List.mem_cons_self ..)))
theorem ok_join {s : Str} (hs : PyData.strOk s = true) : ∀ (ts : List Str), (∀ t ∈ ts, PyData.strOk t = true) → PyData.strOk (Str.join s ts) = true
  | [], _ => ok_of ""
  | [t], h => h t (List.mem_cons_self ..)
  | t :: u :: r, h => by
    have ih := ok_join hs (u :: r) fun x hx => h x (List.mem_cons_of_mem _ hx)
    show PyData.strOk (t ++ s ++ Str.join s (u :: r)) = true
    exact ok_app (ok_app (h t (List.mem_cons_self ..)) hs) ih
mutual
theorem shown_ok : ∀ (x : PV) (n : Nat), gd x n = true → PyData.strOk (datP x).shown = true
  | .non, _, _ => ok_of "None"
  | .bl true, _, _ => ok_of "True"
  | .bl false, _, _ => ok_of "False"
  | .int i, _, _ => ok_of (toString i)
  | .str x, n, h => by
    unfold gd at h
    exact ok_repr h
  | .tup xs, n, h => by
    unfold gd at h
    rw [Bool.and_eq_true] at h
    show PyData.strOk (tupleText (PyData.shownAll (datPs xs))) = true
    unfold tupleText
    exact ok_app (ok_app (ok_of _) (ok_join (ok_of _) _ (showns_ok xs _ h.2))) (ok_of _)
  | .frz xs, n, h => by
    unfold gd at h
    rw [Bool.and_eq_true] at h
    show PyData.strOk (listText (PyData.shownAll (datPs xs))) = true
    unfold listText
    exact ok_app (ok_from _ _ _ (showns_ok xs _ h.2) (ok_of _)) (ok_of _)
  | .ref _, _, h => by simp [gd] at h
  | .ty _, _, h => by simp [gd] at h
  | .fdk _ _, _, h => by simp [gd] at h
theorem showns_ok : ∀ (xs : List PV) (n : Nat), gds xs n = true → ∀ t ∈ PyData.shownAll (datPs xs), PyData.strOk t = true
  | [], _, _ => fun t ht => by
    have e : PyData.shownAll (datPs []) = [] := rfl
    rw [e] at ht; cases ht
  | x :: xs, n, h => fun t ht => by
    unfold gds at h
    rw [Bool.and_eq_true] at h
    have e : PyData.shownAll (datPs (x :: xs)) = (datP x).shown :: PyData.shownAll (datPs xs) := rfl
    rw [e] at ht
    rcases List.mem_cons.mp ht with z | ht
    · rw [z]; exact shown_ok x n h.1
    · exact showns_ok xs n h.2 t ht
end
theorem eq_repr {st : Sto} {x : PV} {n : Nat} (h : gd x n = true) : fEqB (.str (datP x).shown) (.str (datP x).shown) st = some (.bl true, st) := by
  rw [fEqB_e, eqB_str, eqP_s, shown_ok x n h]
  simp
end IL

/-! expressions and defs that may raise -/
namespace IL
open PySem PySem.Spec PyProof.Rows L2

inductive RX where
  | ok (v : PV) | er (c : Str) (fs : List (Str × PV))
inductive RL where
  | ok (xs : List PV) | er (c : Str) (fs : List (Str × PV))
abbrev IX := PEnv → Sto → Option (RX × Sto)
abbrev IXA := PEnv → Sto → Option (RL × Sto)
abbrev FX := List PV → Sto → Option (RX × Sto)
section
variable (K : PySem.W.Frag) (W : WX)
/-- an exception behind H, at the slots σ -/
def PostE (H : Hp) (ρ : Rho) (σ : L2.St) (c : Str) (fs : List (Str × PV)) (s : Sto) : Prop := ∀ C d H' ρ' vs, ClsAt K c C → Grow H ρ H' ρ' → RepS K H' ρ' s → RepF K H' ρ' fs vs → H' d = some (.xd vs) → W (.ref C) (some d) σ H'
def PostX (H : Hp) (ρ : Rho) (σ : L2.St) (Q : VK) : RX × Sto → Prop
  | (.ok z, s) => ∀ v H' ρ', Grow H ρ H' ρ' → RepS K H' ρ' s → Rep K H' ρ' z v → Q v H'
  | (.er c fs, s) => PostE K W H ρ σ c fs s
def PostL (H : Hp) (ρ : Rho) (σ : L2.St) (Q : List V → Hp → Prop) : RL × Sto → Prop
  | (.ok z, s) => ∀ v H' ρ', Grow H ρ H' ρ' → RepS K H' ρ' s → Reps K H' ρ' z v → Q v H'
  | (.er c fs, s) => PostE K W H ρ σ c fs s
def tIX (i : IX) : TE := fun σ H Q => ∃ env st ρ r, RepE K H ρ env σ ∧ RepS K H ρ st ∧ i env st = some r ∧ PostX K W H ρ σ Q r
def tIXA (i : IXA) : TA := fun σ H Q => ∃ env st ρ r, RepE K H ρ env σ ∧ RepS K H ρ st ∧ i env st = some r ∧ PostL K W H ρ σ Q r
end
section
variable {K : PySem.W.Frag} {W : WX} {H H' : Hp} {ρ ρ' : Rho} {σ : L2.St}
theorem PostE.grow {c : Str} {fs : List (Str × PV)} {s : Sto} (h : PostE K W H ρ σ c fs s) (g : Grow H ρ H' ρ') : PostE K W H' ρ' σ c fs s := fun C d H2 ρ2 vs hc G => h C d H2 ρ2 vs hc (g.trans G)
theorem PostX.grow {Q : VK} {r : RX × Sto} (h : PostX K W H ρ σ Q r) (g : Grow H ρ H' ρ') : PostX K W H' ρ' σ Q r := by
  obtain ⟨r, s⟩ := r
  cases r with
  | ok z => exact fun v H2 ρ2 G => h v H2 ρ2 (g.trans G)
  | er c fs => exact PostE.grow h g
theorem PostL.grow {Q : List V → Hp → Prop} {r : RL × Sto} (h : PostL K W H ρ σ Q r) (g : Grow H ρ H' ρ') : PostL K W H' ρ' σ Q r := by
  obtain ⟨r, s⟩ := r
  cases r with
  | ok z => exact fun v H2 ρ2 G => h v H2 ρ2 (g.trans G)
  | er c fs => exact PostE.grow h g
end
/-- what does not raise -/
def iOk (ie : IE) : IX := fun env st => ob (ie env st) fun x s => some (.ok x, s)
def iOks (ir : IA) : IXA := fun env st => ob (ir env st) fun x s => some (.ok x, s)
/-- f(..), f may raise -/
def iCallX (f : FX) (ir : IA) : IX := fun env st => ob (ir env st) fun xs s => f xs s
/-- .. and so may what it is given -/
def iCallXX (f : FX) (ir : IXA) : IX := fun env st => ob (ir env st) fun r s => match r with
  | .ok xs => f xs s
  | .er c fs => some (.er c fs, s)
def iConsX (ix : IX) (ir : IXA) : IXA := fun env st => ob (ix env st) fun r s => match r with
  | .ok x => ob (ir env s) fun r2 s2 => match r2 with
    | .ok xs => some (.ok (x :: xs), s2)
    | .er c fs => some (.er c fs, s2)
  | .er c fs => some (.er c fs, s)
/-- the values where nothing was raised -/
def pureF (f : FX) : FA := fun xs st => match f xs st with
  | some (.ok v, s) => some (v, s)
  | _ => none
/-- a tuple, a list -/
def iTupX (ir : IXA) : IX := fun env st => ob (ir env st) fun r s => match r with
  | .ok xs => if xs.length ≤ 9000000 then some (.ok (.tup xs), s) else none
  | .er c fs => some (.er c fs, s)
def iLstX (ir : IXA) : IX := fun env st => ob (ir env st) fun r s => match r with
  | .ok xs => if xs.length ≤ 9000000 then some (.ok (.ref s.length), s ++ [.lst xs]) else none
  | .er c fs => some (.er c fs, s)
end IL

/-! rules of what may raise -/
namespace IL
open PySem PySem.Spec PyProof.Rows L2
section
variable {X : Cx} {W : WX} {e : Expr} {es : List Expr} {pos : Pos} {ie : IE} {ix : IX} {ir : IA} {iy : IXA}
theorem x_ok (h : PE X e (tI X.K ie)) : PE X e (tIX X.K W (iOk ie)) := PE.imp h fun σ H Q ⟨env, st, ρ, r, E, S, h, q⟩ => by
  obtain ⟨x, s1, h1, h⟩ := ob_some h
  cases h
  exact ⟨env, st, ρ, x, s1, E, S, h1, q⟩
theorem x_oks (h : PA X es (tIA X.K ir)) : PA X es (tIXA X.K W (iOks ir)) := PA.imp h fun σ H Q ⟨env, st, ρ, r, E, S, h, q⟩ => by
  obtain ⟨x, s1, h1, h⟩ := ob_some h
  cases h
  exact ⟨env, st, ρ, x, s1, E, S, h1, q⟩
theorem x_cons (ha : PE X e (tIX X.K W ix)) (hr : PA X es (tIXA X.K W iy)) (hs : starEach (e :: es) X.env = (false, eval e X.env) :: starEach es X.env := by rfl) : PA X (e :: es) (tIXA X.K W (iConsX ix iy)) :=
  PA.imp (pa_cons ha hr hs) fun σ H Q ⟨env, st, ρ, r, E, S, h, q⟩ => by
    obtain ⟨r1, s1, h1, h⟩ := ob_some h
    refine ⟨env, st, ρ, (r1, s1), E, S, h1, ?_⟩
    cases r1 with
    | er c fs => cases h; exact q
    | ok x =>
      intro v H1 ρ1 G1 S1 R1
      obtain ⟨r2, s2, h2, h⟩ := ob_some h
      refine ⟨env, s1, ρ1, (r2, s2), E.grow S G1, S1, h2, ?_⟩
      cases r2 with
      | er c fs => cases h; exact PostE.grow q G1
      | ok xs =>
        cases h
        intro vs H2 ρ2 G2 S2 R2
        exact q (v :: vs) H2 ρ2 (G1.trans G2) S2 (by unfold Reps; exact ⟨v, vs, rfl, Rep.grow S1 G2 _ _ R1, R2⟩)
theorem x_tup {x1} (h : PA X es (tIXA X.K W iy)) : PE X (.Tuple es x1 pos) (tIX X.K W (iTupX iy)) :=
  PE.imp (pe_tup h) fun σ H Q ⟨env, st, ρ, r, E, S, h, q⟩ => by
    obtain ⟨r1, s1, h1, h⟩ := ob_some h
    refine ⟨env, st, ρ, (r1, s1), E, S, h1, ?_⟩
    cases r1 with
    | er c fs => cases h; exact q
    | ok xs =>
      simp only at h
      split at h
      · rename_i hl
        cases h
        exact fun vs H1 ρ1 G1 S1 R1 => ⟨line5 (by rw [← R1.length]; exact hl), fun p hp => q _ _ ρ1 (G1.trans (grow_new hp)) (S1.new hp) (new_tup S1 R1 hp)⟩
      · cases h
theorem x_lst (h : PA X es (tIXA X.K W iy)) : PE X (.List es pos) (tIX X.K W (iLstX iy)) :=
  PE.imp (pe_lst h) fun σ H Q ⟨env, st, ρ, r, E, S, h, q⟩ => by
    obtain ⟨r1, s1, h1, h⟩ := ob_some h
    refine ⟨env, st, ρ, (r1, s1), E, S, h1, ?_⟩
    cases r1 with
    | er c fs => cases h; exact q
    | ok xs =>
      simp only at h
      split at h
      · rename_i hl
        cases h
        refine fun vs H1 ρ1 G1 S1 R1 => ⟨line5 (by rw [← R1.length]; exact hl), fun p hp => ?_⟩
        obtain ⟨a1, a2, a3⟩ := new_lst S1 R1 hp
        exact q _ _ _ (G1.trans a1) a2 a3
      · cases h
end
/-! ### defs that may raise -/
abbrev WC (E : XK) : WX := fun c d _ H => E c d H
def spX (K : PySem.W.Frag) (n : Nat) (f : FX) : Sp := fun vs H Q E => vs.length = n ∧ ∃ st ρ xs r, RepS K H ρ st ∧ Reps K H ρ xs vs ∧ f xs st = some r ∧ PostX K (WC E) H ρ [] Q r
def ArX (n : Nat) (f : FX) : Prop := ∀ xs st r, f xs st = some r → xs.length = n
structure CalX (P : Program) (w : World) (K : PySem.W.Frag) (mg : Str → Option Value) (base : Heap) (k : Nat) (x : Str) (n : Nat) (f : FX) : Prop where
  ex : ∃ (fa : Addr) (fd : FuncData) (ps : List Str), FnOk P w K mg base (L2N.CX P w) k fa fd ps (spX K n f) ∧ mg x = some (.ref fa) ∧ PySem.W.keepIn K (.ref fa) = true ∧ Binds K fd ps []
theorem PostX.at {K : PySem.W.Frag} {W : WX} {H : Hp} {ρ : Rho} {σ : L2.St} {Q : VK} {r : RX × Sto} (h : PostX K W H ρ σ Q r) : PostX K (WC (WE W σ)) H ρ [] Q r := by
  obtain ⟨r, s⟩ := r
  cases r with
  | ok z => exact h
  | er c fs => exact h
section
variable {X : Cx} {W : WX} {x : Str} {p pos : Pos} {e : Expr} {es : List Expr} {ir : IA} {iy : IXA} {k j n : Nat} {f : FX}
theorem x_call (c : CalX X.prog X.w X.K X.mg X.base k x n f) (hn : ArX n f) (hr : Room j X.A) (hk : k ≤ j) (hg : Gl X x) (tk : L2N.Takes X W) (ha : PA X (e :: es) (tIA X.K ir))
    (hdb : (x == ("__debug__" : Str)) = false := by decide) (he : starEach (e :: es) X.env = (false, eval e X.env) :: starEach es X.env := by rfl) (hpl : (backTo pos (starEach es X.env)).any (·.1) = false := by rfl) :
    PE X (.Call (.Name x p) (e :: es) [] pos) (tIX X.K W (iCallX f ir)) := by
  obtain ⟨fa, fd, ps, F, hm, kp, b⟩ := c.ex
  refine PE.imp (pe_callS (E := WE W) F (hr.mono hk) hg hm kp b (fun σ => L2N.passAt tk σ) ha hdb he hpl) fun σ H Q ⟨env, st, ρ, r, E, S, h, q⟩ => ?_
  obtain ⟨xs, s1, h1, h⟩ := ob_some h
  exact ⟨env, st, ρ, xs, s1, E, S, h1, fun vs H1 ρ1 G1 S1 R1 => ⟨by rw [← R1.length]; exact hn _ _ _ h, s1, ρ1, xs, r, S1, R1, h, (q.grow G1).at⟩⟩
theorem x_callX (c : CalX X.prog X.w X.K X.mg X.base k x n f) (hn : ArX n f) (hr : Room j X.A) (hk : k ≤ j) (hg : Gl X x) (tk : L2N.Takes X W) (ha : PA X (e :: es) (tIXA X.K W iy))
    (hdb : (x == ("__debug__" : Str)) = false := by decide) (he : starEach (e :: es) X.env = (false, eval e X.env) :: starEach es X.env := by rfl) (hpl : (backTo pos (starEach es X.env)).any (·.1) = false := by rfl) :
    PE X (.Call (.Name x p) (e :: es) [] pos) (tIX X.K W (iCallXX f iy)) := by
  obtain ⟨fa, fd, ps, F, hm, kp, b⟩ := c.ex
  refine PE.imp (pe_callS (E := WE W) F (hr.mono hk) hg hm kp b (fun σ => L2N.passAt tk σ) ha hdb he hpl) fun σ H Q ⟨env, st, ρ, r, E, S, h, q⟩ => ?_
  obtain ⟨r1, s1, h1, h⟩ := ob_some h
  refine ⟨env, st, ρ, (r1, s1), E, S, h1, ?_⟩
  cases r1 with
  | er c fs => cases h; exact q
  | ok xs => exact fun vs H1 ρ1 G1 S1 R1 => ⟨by rw [← R1.length]; exact hn _ _ _ h, s1, ρ1, xs, r, S1, R1, h, (q.grow G1).at⟩
theorem passF {P : Program} {w : World} : ∀ (X : Cx) (pins : List (Addr × Obj)) (σ : L2.St) (H : Hp) (s : Shared) (e : Value) (s' : Shared), Inv X pins σ H s → L2N.CX P w X.stack H s (fun _ _ _ => False) e s' → X.xe e s' :=
  fun X pins σ H s e s' _ ⟨_, _, _, _, _, _, _, _, _, _, _, _, h⟩ => h.elim
/-- .. where it does not raise -/
theorem x_callP (c : CalX X.prog X.w X.K X.mg X.base k x n f) (hn : ArX n f) (hr : Room j X.A) (hk : k ≤ j) (hg : Gl X x) (ha : PA X (e :: es) (tIA X.K ir))
    (hdb : (x == ("__debug__" : Str)) = false := by decide) (he : starEach (e :: es) X.env = (false, eval e X.env) :: starEach es X.env := by rfl) (hpl : (backTo pos (starEach es X.env)).any (·.1) = false := by rfl) :
    PE X (.Call (.Name x p) (e :: es) [] pos) (tI X.K (iCall (pureF f) ir)) := by
  obtain ⟨fa, fd, ps, F, hm, kp, b⟩ := c.ex
  refine PE.imp (pe_call (dvs := []) (E := fun _ _ _ => False) F (hr.mono hk) hg hm kp b .nil (passF X) ha hdb he hpl) fun σ H Q ⟨env, st, ρ, z, st', E, S, h, q⟩ => ?_
  obtain ⟨xs, s1, h1, h⟩ := ob_some h
  have hf : f xs s1 = some (.ok z, st') := by
    unfold pureF at h
    split at h
    · rename_i v s e1
      cases h; exact e1
    · cases h
  refine ⟨env, st, ρ, xs, s1, E, S, h1, fun vs H1 ρ1 G1 S1 R1 => ?_⟩
  show spX X.K n f (vs ++ []) H1 Q _
  rw [List.append_nil]
  exact ⟨by rw [← R1.length]; exact hn _ _ _ hf, s1, ρ1, xs, _, S1, R1, hf, fun v H2 ρ2 G2 S2 R2 => q v H2 ρ2 (G1.trans G2) S2 R2⟩
end
/-! ### statements -/
def iAsgX (ig : IG) (ix : IX) : IS := fun env st => ob (ix env st) fun r s => match r with
  | .ok x => (match ig x env s with
    | some env' => some (.nx env' s)
    | none => none)
  | .er c fs => some (.er env c fs s)
def iRetX (ix : IX) : IS := fun env st => ob (ix env st) fun r s => match r with
  | .ok x => some (.rt x s)
  | .er c fs => some (.er env c fs s)
def iDropX (ix : IX) : IS := fun env st => ob (ix env st) fun r s => match r with
  | .ok _ => some (.nx env s)
  | .er c fs => some (.er env c fs s)
section
variable {X : Cx} {W : WX} {pos : Pos} {e : Expr} {ix : IX}
theorem er_to {K : PySem.W.Frag} {W : WX} {D : L2.Ends} {H : Hp} {ρ : Rho} {σ : L2.St} {env : PEnv} {st s : Sto} {c : Str} {fs : List (Str × PV)} (E : RepE K H ρ env σ) (S : RepS K H ρ st) (q : PostF K W D H ρ (.er env c fs s)) : PostE K W H ρ σ c fs s :=
  fun C d H' ρ' vs hc G S' R' hd => q C d σ H' ρ' vs hc G S' (E.grow S G) R' hd
theorem s_asgX {tg : Expr} {T : List Nat} {ig : IG} (he : PE X e (tIX X.K W ix)) (hg : PG X tg (tIG X.K T ig)) (hs : swapsWithSole [tg] e pos.line X.env = pure false := by rfl) (hw : swappedStores [tg] e X.env = pure none := by rfl)
    (h1 : (assignEach [tg] X.env).map (·.2) = [assign tg X.env] := by rfl) : PS X (.Assign [tg] e pos) (tIS X.K W (iAsgX ig ix)) := PS.imp (ps_asg he hg hs hw h1) fun D σ H ⟨env, s, ρ, f, E, S, h, q⟩ => by
  obtain ⟨r, s1, h1, h⟩ := ob_some h
  refine ⟨env, s, ρ, (r, s1), E, S, h1, ?_⟩
  cases r with
  | er c fs => cases h; exact er_to E S q
  | ok x =>
    intro v H1 ρ1 G1 S1 R1
    simp only at h
    split at h
    · rename_i env' hg
      cases h
      exact ⟨env, _, ρ1, x, env', E.grow S G1, S1, R1, hg, fun σ' E' _ _ => q σ' H1 ρ1 G1 S1 E'⟩
    · cases h
theorem s_setX {i : Nat} {x : Str} {pos' : Pos} (hN : X.N.Nodup) (hi : X.N[i]? = some x) (hx : Loc X.env.scope x) (he : PE X e (tIX X.K W ix)) (hs : swapsWith e (some (.Name x pos')) pos.line X.env = pure false := by rfl)
    (hf : X.fn x = true ∨ X.env.scope.names.lookup x = some .local := by first | exact .inl rfl | exact .inr rfl | assumption) : PS X (.Assign [.Name x pos'] e pos) (tIS X.K W (iAsgX (gN i) ix)) :=
  PS.imp (ps_set hN hi hx he hs hf) fun D σ H ⟨env, s, ρ, f, E, S, h, q⟩ => by
    obtain ⟨r, s1, h1, h⟩ := ob_some h
    refine ⟨env, s, ρ, (r, s1), E, S, h1, ?_⟩
    cases r with
    | er c fs => cases h; exact er_to E S q
    | ok x =>
      cases h
      exact fun v H1 ρ1 G1 S1 R1 => q _ H1 ρ1 G1 S1 ((E.grow S G1).set R1 i)
theorem s_retX (he : PE X e (tIX X.K W ix)) : PS X (.Return (some e) pos) (tIS X.K W (iRetX ix)) := PS.imp (ps_ret he) fun D σ H ⟨env, s, ρ, f, E, S, h, q⟩ => by
  obtain ⟨r, s1, h1, h⟩ := ob_some h
  refine ⟨env, s, ρ, (r, s1), E, S, h1, ?_⟩
  cases r with
  | er c fs => cases h; exact er_to E S q
  | ok x =>
    cases h
    exact fun v H1 ρ1 G1 S1 R1 => q v H1 ρ1 G1 S1 R1
theorem s_exprX (he : PE X e (tIX X.K W ix)) (hs : swapsWith e none pos.line X.env = pure false := by rfl) : PS X (.Expr e pos) (tIS X.K W (iDropX ix)) := PS.imp (ps_expr he hs) fun D σ H ⟨env, s, ρ, f, E, S, h, q⟩ => by
  obtain ⟨r, s1, h1, h⟩ := ob_some h
  refine ⟨env, s, ρ, (r, s1), E, S, h1, ?_⟩
  cases r with
  | er c fs => cases h; exact er_to E S q
  | ok x =>
    cases h
    exact fun v H1 ρ1 G1 S1 R1 => q σ H1 ρ1 G1 S1 (E.grow S G1)
end
/-! ### a def that may raise -/
noncomputable def iDefX (n nN : Nat) (b : IS) : FX := fun xs st => if xs.length = n then (match b (xs.map some ++ List.replicate (nN - n) none) st with
  | some (.nx _ s) => some (.ok .non, gcS st s .non)
  | some (.rt v s) => some (.ok v, gcS st s v)
  | some (.er _ c fs s) => some (.er c fs, s)
  | _ => none) else none
theorem ar_defX {n nN : Nat} {b : IS} : ArX n (iDefX n nN b) := fun xs st r h => by
  unfold iDefX at h
  split at h
  · assumption
  · cases h
theorem body_toX {K : PySem.W.Frag} {N ps : List Str} {ib : IS} {vs : List V} {H : Hp} {Q : VK} {E : XK} (h : spX K ps.length (iDefX ps.length N.length ib) vs H Q E) : tIS K (WC E) ib { nx := fun _ H' => Q .non H', rt := Q } (L2.start N vs) H := by
  obtain ⟨hl, s1, ρ, xs, r, S1, R1, h, q⟩ := h
  unfold iDefX at h
  split at h
  · have E1 := repE_start R1 N
    rw [hl] at E1
    split at h
    · rename_i e1 s2 e
      cases h
      refine ⟨_, s1, ρ, _, E1, S1, e, fun σ' H' ρ' G S' E' => ?_⟩
      obtain ⟨ρ2, G2, S2, R2⟩ := gc_to (v := .non) (u := .non) S1 G S' (by unfold Rep; rfl)
      exact q .non H' ρ2 G2 S2 R2
    · rename_i v s2 e
      cases h
      refine ⟨_, s1, ρ, _, E1, S1, e, fun v H' ρ' G S' R' => ?_⟩
      obtain ⟨ρ2, G2, S2, R2⟩ := gc_to S1 G S' R'
      exact q v H' ρ2 G2 S2 R2
    · rename_i e1 c fs s2 e
      cases h
      exact ⟨_, s1, ρ, _, E1, S1, e, fun C d σ' H' ρ' ws hc G S' E' R' hd => q C d H' ρ' ws hc G S' R' hd⟩
    · cases h
  · cases h
theorem cal_X {P : Program} {w : World} {K : PySem.W.Frag} {mg : Str → Option Value} {base : Heap} {x : Str} {st : Stmt} {f : Addr} {fd : FuncData} {N ps : List Str} {k : Nat} {ib : IS} (F : C8.Def K mg x st f fd) (b : Binds K fd ps []) (S : FnScope N ps (C8.fnScope st))
    (hb : ∀ (cdv : Value) (A : Around) (outer : List PySem.Env) (s : Shared) (H : Hp) (E : XK), Room k (A.deeper (envOfC x (C8.fnScope st) s.heap.objs.size f cdv)) →
      L2N.Takes (cxOf (L2N.CX P w) P w K mg base N x (C8.fnScope st) f cdv A outer s H E) (WC E) →
      PSs (cxOf (L2N.CX P w) P w K mg base N x (C8.fnScope st) f cdv A outer s H E) (C8.fnBody st) (tIS K (WC E) ib)) : CalX P w K mg base (k + 1) x ps.length (iDefX ps.length N.length ib) := by
  obtain ⟨oc, od, dV, kV, doc, pm, an, cdv, ct, osl, rfl, lk, hcd⟩ := F.fn.ex
  refine ⟨f, _, ps, fn_of lk hcd S (fun vs H Q E h => h.1) fun A outer s H vs Q E hr hsp => ?_, F.mgf, F.kp, b⟩
  exact ⟨_, hb cdv A outer s H E hr (L2N.takes_of rfl rfl rfl rfl), body_toX hsp⟩
end IL

/-! a program's exception that is made where nothing is handled: its context is None (what layer JX raises with, said with L2N's promise) -/
namespace IL
open PySem PySem.Spec PyProof.Rows L2
/-- what stands in the heap as the exception is new: the tuple of its values, and it itself -/
def hNew (h : Heap) (us : List Value) (C : Addr) : Heap := (h.push (W.kdv_tup us)).push (HandSPX.excO C h.objs.size)
theorem hNew_keeps {h : Heap} {us : List Value} {C b : Addr} {o : Obj} (q : h.get? b = some o) : (hNew h us C).get? b = some o := by
  unfold hNew
  exact Heap.get?_push_of_some _ (Heap.get?_push_of_some _ q)
theorem hNew_at {h : Heap} {us : List Value} {C : Addr} : (hNew h us C).get? (h.objs.size + 1) = some (HandSPX.excO C h.objs.size) := by
  unfold hNew
  heap_get
/-- with it there is one more in hand -/
theorem inv_hNew {X : Cx} {pins : List (Addr × Obj)} {σ : L2.St} {H : Hp} {h : Heap} {g : Array GenState} {d : Drawn} {t : Nat} {os : OsState} {C : Addr} (us : List Value) (I : Inv X pins σ H ⟨h, g, d, t, os⟩) :
    Inv X pins σ (upd H (h.objs.size + 1) (exo (h.objs.size + 1) C none)) ⟨hNew h us C, g, d, t, os⟩ :=
  I.laid (t' := t) (h' := hNew h us C) (fun _ _ => hNew_keeps) (Nat.le_succ _) (exo_ok hNew_at)
variable {X : Cx} {e : Expr} {es : List Expr} {ta : TA} {p pos : Pos}
theorem pmk_oexN {CX : CXT} {x : Str} {C fI : Addr} {k : Nat} {fd : FuncData} {ps : List Str} {sp : Sp} {ds : List Value} {dvs : List V} (T : OexC X.K C)
    (iC : W.findIn X.K (.ref C) "__init__" = some (some (.ref fI)))
    (tI : W.typeIn X.K (.ref fI) = some (.type "function"))
    (F1 : FnOk X.prog X.w X.K X.mg X.base CX k fI fd ps sp) (hr : Room (k + 1) X.A)
    (hb : Binds X.K fd ps ds) (hd : Vals dvs ds) (hx : Passes CX X (fun _ _ _ => False))
    (hg : Gl X x) (hm : X.mg x = some (.ref C)) (ha : PA X (e :: es) ta)
    (hdb : (x == ("__debug__" : Str)) = false := by decide)
    (he : starEach (e :: es) X.env = (false, eval e X.env) :: starEach es X.env := by rfl)
    (hpl : (backTo pos (starEach es X.env)).any (·.1) = false := by rfl) :
    L2N.PMk X (.Call (.Name x p) (e :: es) [] pos) (tMkO C sp dvs ta) := by
  intro pins s σ H Q I h
  obtain ⟨nm, qn, N, bs, bm, sn, sub, ab, col, dd, k0, k1, k2, k3, k5, hC, hbm⟩ := T.cls
  refine wpAny_Call_Name_kw (ld_glob I hg hm ?_ hdb)
  have args := ha.run pos pins s σ H _ I h
  refine W.callWith_K (h₀ := X.base) I.ok.mod.kin T.kC (thn args ?_) he hpl
  rintro us ⟨hp, g, dr, tk, os⟩ ⟨vs, H1, I1, r1, hz, q1⟩
  refine ⟨I1.kIn, ?_⟩
  show wpAny _ _ (call (.ref C) us) _ _ _
  have free : H1 (hp.objs.size + 1) = none := I1.hok.fresh (Nat.le_succ _)
  have start := q1 _ free
  have I2 := inv_hNew (C := C) us I1
  have rv2 : Vals (V.ref (hp.objs.size + 1) :: (vs ++ dvs)) (Value.ref (hp.objs.size + 1) :: (us ++ ds)) := .cons rfl (r1.append hd)
  have long : (Value.ref (hp.objs.size + 1) :: us ++ ds).length = ps.length := (rv2.length.symm.trans (F1.len _ _ _ _ start) |> fun z => by first | exact z | exact z.symm)
  have few : us.length ≤ sizeLine := by
    have z := Paired.length r1
    rw [sizeLine_eq]
    omega
  have body := F1.run _ X.stack _ _ ⟨Value.ref (hp.objs.size + 1) :: us, []⟩ (Value.ref (hp.objs.size + 1) :: (us ++ ds)) _ _ (fun _ _ _ => False)
    (hr.make C us []) (I2.env0.make C us [])
    (hb _ (Value.ref (hp.objs.size + 1) :: us) I2.kIn long) rv2 start
  refine wpAny_call (HandSPX.call_own F.excBase_ValueError (fun Y => HandSPX.refsVE_contains Y bm hbm) (I1.kIn _ _ hC)
    (W.looks_findIn I1.kIn iC) (fun self => W.bind_fn I1.kIn self tI) few (codeAny_mono body ?_))
  intro r s2 done
  cases r with
  | error er => exact hx pins σ _ _ er s2 I2 done
  | ok fl =>
    cases fl with
    | next => exact done.elim
    | brk => exact done.elim
    | cont => exact done.elim
    | ret u =>
      obtain ⟨v, H2, os2, bare2, un2, hok2, rv, ev, d, fs, ea, ed, hd1, q2⟩ := done
      subst ev
      obtain ⟨h2, g2, d2, t2, o2⟩ := s2
      obtain ⟨t0, G, J, kG, ge, hoe, na⟩ := mk_end0 (d2 := d2) (t2 := t2) I1 (Nat.le_succ _) (fun _ _ => hNew_keeps) un2 hok2 os2 bare2 ea ed hd1
      have zn : L2N.Zn (.ref C) (some d) ({ cls := .ref C, dict := some d, data := .fields #[.ref t0, .none, .none, .none, .bool false, .none] } : Obj) := ⟨rfl, rfl, fun vs e => by cases e; rfl⟩
      exact ⟨rv, hp.objs.size + 1, _, _, ⟨G, g2, d2, t2, o2⟩, _, .ref C, some d, rfl, J, kG, ge, hoe, zn, rfl, rfl, na, rfl, bare2, raises_own T.exC T.tyC, q2⟩
end IL

/-! the program's exceptions: made, raised -/
namespace IL
open PySem PySem.Spec PyProof.Rows L2
section
variable {X : Cx} {e : Expr} {es : List Expr} {ta : TA} {p1 p2 pos : Pos}
/-- B.__init__(self, ..), B the own base class -/
theorem pe_basei {B : Str} {CF : Addr} {mc : Value} {pl : Sem Bool} (hg : Gl X B) (hm : X.mg B = some (.ref CF)) (sp : PySem.W.specialIn X.K (.ref CF) "__getattribute__" = some (some (.builtin "type.__getattribute__"))) (rd : PySem.W.readsIn X.K CF mc = true)
    (vV : PySem.W.findCls X.K (.ref CF) mc "__init__" = some (.val (.builtin "ValueError.__init__"))) (ha : PA X (e :: es) ta) (hdb : (B == ("__debug__" : Str)) = false := by decide)
    (hc : eval (.Call (.Attribute (.Name B p1) "__init__" p2) (e :: es) [] pos) X.env = (do
      let ov ← eval (.Name B p1) X.env
      standAt p2.atName
      let (f, first) ← holding [ov] (getMethod ov "__init__" pl)
      callWith pos f first (backTo pos (starEach (e :: es) X.env)) (backToKw pos (keywordEach [] X.env))) := by rfl)
    (he : starEach (e :: es) X.env = (false, eval e X.env) :: starEach es X.env := by rfl) (hpl : (backTo pos (starEach es X.env)).any (·.1) = false := by rfl) :
    PE X (.Call (.Attribute (.Name B p1) "__init__" p2) (e :: es) [] pos) (tVeI X.K ta) := by
  refine ⟨fun pins s σ H Q I h => PySem.W.methodCall_KW (ld_glob I hg hm ?_ hdb) hc⟩
  refine PySem.W.method_cls (Inv.tok I _).kIn sp (PySem.W.cls_value (Inv.tok I _).kIn rd vV (by decide +kernel) ?_)
  refine PyProof.Rows.callWith_method1 (thn (ha.run pos pins _ σ H _ ((I.tok _).tok _) h) ?_) he hpl
  rintro us s1 ⟨vs, H1, I1, r1, a, C, ws, rfl, hl, T, ea, q⟩
  cases r1 with
  | @cons _ u0 _ ur ra rw' =>
    obtain rfl : u0 = Value.ref a := ra
    exact oinit_ok T I1 ea (by rw [← Paired.length rw', sizeLine_eq]; omega) fun s' J => ⟨.non, H1, J, rfl, q⟩
end
/-- what an __init__ of one field does -/
def spInit (K : PySem.W.Frag) (C : Addr) (n : Str) (ok : V → Prop) : Sp := fun vs H Q _ => ∃ (a : Addr) (v : V), vs = [.ref a, v] ∧ H a = some (exo a C none) ∧ ok v ∧ ∀ d, H d = none → d ≠ a → Q .non (upd (upd H d (exd d [(n, v)])) a (exo a C (some d)))
/-- a small int -/
def okInt (v : V) : Prop := ∃ i : Int, v = .int i ∧ i.natAbs.log2 < 1920
section
variable {X : Cx} {n B : Str} {ej : Expr} {tj : TE} {p1 p2 p3 p4 p5 p6 p7 p8 p9 : Pos} {C : Addr} {ok : V → Prop}
/-- the text of an __init__ of one field -/
theorem init_b {mc : Value} {CF : Addr} {pl : Sem Bool} (hN0 : X.N[0]? = some ("self" : Str)) (hN1 : X.N[1]? = some n) (v0 : Vis X.env.scope "self") (v1 : Vis X.env.scope n) (hd : (n == ("__debug__" : Str)) = false) (hcd : (n == ("__classdict__" : Str)) = false)
    (hg : Gl X B) (hm : X.mg B = some (.ref CF)) (sp : PySem.W.specialIn X.K (.ref CF) "__getattribute__" = some (some (.builtin "type.__getattribute__"))) (rd : PySem.W.readsIn X.K CF mc = true)
    (vV : PySem.W.findCls X.K (.ref CF) mc "__init__" = some (.val (.builtin "ValueError.__init__"))) (T : OexC X.K C) (hno : PySem.W.findIn X.K (.ref C) n = some none)
    (hj : PE X ej tj) (hjt : ∀ (σ : L2.St) (H : Hp) (Q : VK) (v : V), σ[1]? = some (some v) → ok v → (∀ s : Str, Q (.str s) H) → tj σ H Q) (hdb : (B == ("__debug__" : Str)) = false := by decide)
    (hs1 : swapsWith (.Call (.Attribute (.Name B p1) "__init__" p2) [.Name "self" p3, ej] [] p4) none p5.line X.env = pure false := by rfl)
    (hs2 : swapsWith (.Name n p8) (some (.Attribute (.Name "self" p6) n p7)) p9.line X.env = pure false := by rfl)
    (hc : eval (.Call (.Attribute (.Name B p1) "__init__" p2) [.Name "self" p3, ej] [] p4) X.env = (do
      let ov ← eval (.Name B p1) X.env
      standAt p2.atName
      let (f, first) ← holding [ov] (getMethod ov "__init__" pl)
      callWith p4 f first (backTo p4 (starEach [.Name "self" p3, ej] X.env)) (backToKw p4 (keywordEach [] X.env))) := by rfl)
    (he : starEach [.Name "self" p3, ej] X.env = (false, eval (.Name "self" p3) X.env) :: starEach [ej] X.env := by rfl) (he2 : starEach [ej] X.env = (false, eval ej X.env) :: starEach [] X.env := by rfl) (hpl : (backTo p4 (starEach [ej] X.env)).any (·.1) = false := by rfl) :
    PSs X [.Expr (.Call (.Attribute (.Name B p1) "__init__" p2) [.Name "self" p3, ej] [] p4) p5, .Assign [.Attribute (.Name "self" p6) n p7] (.Name n p8) p9]
      (fun D σ H => ∃ (a : Addr) (v : V), σ[0]? = some (some (.ref a)) ∧ σ[1]? = some (some v) ∧ H a = some (exo a C none) ∧ ok v ∧ ∀ d, H d = none → d ≠ a → D.nx σ (upd (upd H d (exd d [(n, v)])) a (exo a C (some d)))) := by
  have h1 := ps_expr (pe_basei (pl := pl) hg hm sp rd vV (pa_cons (pe_var (pos := p3) hN0 v0) (pa_cons hj pa_nil he2) he) hdb hc he hpl) hs1
  have h2 := ps_ost (f := n) (p' := p7) (pe_var (pos := p6) hN0 v0) (pe_var (pos := p8) hN1 v1 hd hcd) hs2
  refine PSs.imp (pss_cons h1 (pss_one h2)) fun D σ H ⟨a, v, s0, s1, ea, hv, q⟩ => ?_
  refine ⟨.ref a, s0, hjt σ H _ v s1 hv fun s => ⟨a, C, [.str s], rfl, by simp, T, ea, ?_⟩⟩
  exact ⟨v, s1, .ref a, s0, a, C, rfl, T, hno, .inl ⟨ea, fun dx h1 h2 => q dx h1 h2⟩⟩
end
/-- a class that may be raised by its name, with one field -/
structure RaiJ (P : Program) (w : World) (K : PySem.W.Frag) (mg : Str → Option Value) (base : Heap) (k : Nat) (c n : Str) (ok : V → Prop) : Prop where
  ex : ∃ (C fI : Addr) (fd : FuncData), ClsAt K c C ∧ mg c = some (.ref C) ∧ OexC K C ∧ PySem.W.findIn K (.ref C) "__init__" = some (some (.ref fI)) ∧ PySem.W.typeIn K (.ref fI) = some (.type "function") ∧
    FnOk P w K mg base C8.CX0 k fI fd ["self", n] (spInit K C n ok) ∧ Binds K fd ["self", n] []
/-- raise c(x) -/
def iRaise (c n : Str) (okP : PV → Bool) (ie : IE) : IS := fun env st => ob (ie env st) fun x s => if okP x then some (.er env c [(n, x)] s) else none
def okPI : PV → Bool
  | .int i => decide (i.natAbs < 10 ^ 30)
  | _ => false
theorem okPI_ok {K : PySem.W.Frag} {H : Hp} {ρ : Rho} {x : PV} {v : V} (h : okPI x = true) (r : Rep K H ρ x v) : okInt v := by
  unfold okPI at h
  split at h
  · rename_i i
    unfold Rep at r
    rw [decide_eq_true_eq] at h
    refine ⟨i, r, ?_⟩
    by_cases h0 : i.natAbs = 0
    · rw [h0]; decide
    · have h2 : i.natAbs < 2 ^ 1920 := Nat.lt_of_lt_of_le h (Nat.le_trans (by decide : (10 : Nat) ^ 30 ≤ 2 ^ 100) (Nat.pow_le_pow_right (by decide) (by decide)))
      exact (Nat.log2_lt h0).mpr h2
  · cases h
theorem s_raise {X : Cx} {W : WX} {c n : Str} {ok : V → Prop} {okP : PV → Bool} {ie : IE} {e : Expr} {p pos pos2 : Pos} {k j : Nat} (r : RaiJ X.prog X.w X.K X.mg X.base k c n ok) (hok : ∀ (H : Hp) (ρ : Rho) (x : PV) (v : V), okP x = true → Rep X.K H ρ x v → ok v) (hr : Room j X.A) (hk : k + 1 ≤ j) (hg : Gl X c) (hc : X.calm = true) (tk : L2N.Takes X W)
    (ha : PE X e (tI X.K ie)) (hdb : (c == ("__debug__" : Str)) = false := by decide) (he : starEach [e] X.env = (false, eval e X.env) :: starEach [] X.env := by rfl) (hpl : (backTo pos (starEach [] X.env)).any (·.1) = false := by rfl) :
    PS X (.Raise (some (.Call (.Name c p) [e] [] pos)) none pos2) (tIS X.K W (iRaise c n okP ie)) := by
  obtain ⟨C, fI, fd, hC, hm, T, iC, tI, F, b⟩ := r.ex
  refine PS.imp (L2N.ps_raise hc tk (pmk_oexN (dvs := []) T iC tI F (hr.mono hk) b .nil C8.pass0 hg hm (pa_cons ha pa_nil he) hdb he hpl)) fun D σ H ⟨env, st, ρ, f, E, S, h, q⟩ => ?_
  obtain ⟨x, s1, h1, h⟩ := ob_some h
  split at h
  · rename_i hx
    cases h
    refine ⟨env, st, ρ, x, s1, E, S, h1, fun v H1 ρ1 G1 S1 R1 => ⟨by simp, fun a ha => ?_⟩⟩
    refine ⟨a, v, by simp, upd_same, hok H1 ρ1 x v hx R1, fun d hd hda => ⟨rfl, d, [(n, v)], upd_same, by rw [upd_ne hda]; exact upd_same, by rw [← upd_ne (H := H1) (o := exo a C none) hda]; exact hd, ?_⟩⟩
    have hd1 : H1 d = none := by rw [← upd_ne (H := H1) (o := exo a C none) hda]; exact hd
    have eH : upd (del (upd (upd (upd H1 a (exo a C none)) d (exd d [(n, v)])) a (exo a C (some d))) a) d (.xd [(n, v)]) = upd H1 d (.xd [(n, v)]) := by
      funext b
      by_cases hb : b = d
      · subst hb; rw [upd_same, upd_same]
      · rw [upd_ne hb, upd_ne hb]
        by_cases hba : b = a
        · subst hba; rw [del_same, ha]
        · rw [del_ne hba, upd_ne hba, upd_ne hb, upd_ne hba]
    rw [eH]
    have G2 : Grow H1 ρ1 (upd H1 d (.xd [(n, v)])) ρ1 := grow_new hd1
    exact q C d σ _ ρ1 [(n, v)] hC (G1.trans G2) (S1.new hd1) ((E.grow S G1).grow S1 G2) ⟨v, [], rfl, Rep.grow S1 G2 _ _ R1, rfl⟩ upd_same
  · cases h
end IL

/-! try .. except C as n .. else: an exception that is caught -/
namespace IL
open PySem PySem.Spec PyProof.Rows L2
/-- the wish of a clause 'except c as n' that catches: slot i is n's -/
def wCatch (K : PySem.W.Frag) (c : Value) (i : Nat) (ts : Addr → Value → Option Addr → TS) (D : L2.Ends) : WX := fun cls d sl G =>
  PySem.W.exmOne K cls c = some true ∧ ∀ x, G x = none → ts x cls d ⟨fun τ G' => D.nx (τ.set i none) G', D.rt, fun τ G' => D.bk (τ.set i none) G', fun τ G' => D.ct (τ.set i none) G'⟩ (sl.set i (some (.ref x))) G
section
variable {X : Cx} {x n : Str} {c : Value} {i : Nat} {body suite orelse : List Stmt} {b₀ : Stmt} {np pos pos' : Pos} {tb : WX → TS} {ts : Addr → Value → Option Addr → TS} {u : TS}
theorem ps_catch (stk : X.stack = X.env :: X.outer) (frm : X.env.frame = some X.env.locals) (ndN : X.N.Nodup) (slot : X.N[i]? = some n) (loc : X.env.kindOf n = some .local) (nms : Names X x c)
    (inner : ∀ (V : WX) (pl : List (Addr × Obj)) (out : Value → Shared → Prop), L2N.Takes (X.tr pl out) V → PassesOwn (model X.prog X.w) X.A X.env out → PSs (X.tr pl out) body (tb V))
    (hand : ∀ (x : Addr) (ox : Obj) (cls : Value) (d : Option Addr) (pl : List (Addr × Obj)), L2N.Zn cls d ox → (∃ us, ox.data = .fields us) → PSs (X.suite x ((x, ox) :: pl)) (b₀ :: suite) (ts x cls d)) (last : PSs X orelse u) :
    PS X (.Try body [.ExceptHandler (some (.Name x np)) (some n) (b₀ :: suite) pos'] orelse [] pos) (fun D sl G => tb (wCatch X.K c i ts D) { D with nx := u D } sl G) := by
  constructor
  intro pl s0 sl G D Iv hyp
  have good := Iv.ok
  have frames : X.A.frames = some (X.env :: X.outer) := by rw [good.frames, stk]
  apply wpAny_Try_except
  have main := (inner (wCatch X.K c i ts D) (X.pn ++ pl) (fun ev t1 => wpAny (model X.prog X.w) X.A (noteFrame ev X.env) (fun _ t2 => wpAny (model X.prog X.w) X.A (setFlight ev none)
    (fun _ t3 => wpAny (model X.prog X.w) X.A (handleBy ev X.env [.ExceptHandler (some (.Name x np)) (some n) (b₀ :: suite) pos']) (SP X pl D) X.xe t3) X.xe t2) X.xe t1) ?caught PassesOwn.looking).run [] s0 sl G { D with nx := u D } (Iv.toTry _) hyp
  case caught =>
    intro ev t ⟨ad, Bs, sB, pl', sl', G', cls, d, eqv, Jt, nBs, upT, skT, nAd, osT, agT, yes, act⟩
    subst eqv
    have J := Jt.ofTry good
    rw [show (X.tr (X.pn ++ pl) _).stack = X.env :: X.outer from stk] at skT
    show wpAny (model X.prog X.w) X.A (noteFrame (.ref ad) X.env) _ _ _
    refine L2N.Sky.land L2N.Zn.steady frames frm skT ?_
    intro g3 fly3 up3
    have J3 := J.landed (s' := { t with heap := g3 }) nBs fly3.1 (upT.trans up3) osT agT
    obtain ⟨ob3, us3, at3, z3, dat3⟩ := fly3.there
    have noFrame : ad ∉ frs (X.env :: X.outer) := fun mm => by
      obtain ⟨_, ob, at0, nf⟩ := fly3.2.2.1.mem mm
      rw [at3] at at0
      cases at0
      exact nf _ dat3
    have noLoc : ad ≠ X.env.locals := fun q => noFrame (List.mem_filterMap.mpr ⟨X.env, by simp, by rw [frm, q]⟩)
    have noFs : ad ∉ X.fs := fun mm => by
      obtain ⟨en, hen, q⟩ := List.mem_filterMap.mp mm
      exact noFrame (List.mem_filterMap.mpr ⟨en, List.mem_cons_of_mem _ hen, q⟩)
    have Su := J3.suite at3 dat3 nAd noLoc noFs
    refine wpAny_handleBy_cons (codeAny_handlers_test ?_) (fun q => by cases q)
    have lk : PySem.W.Looks (model X.prog X.w) g3 (typeOf (.ref ad)) cls := fun A' Q' E' s' kk q => wpAny_typeOf_ref (kk _ _ at3) (by rw [z3.1]; exact q)
    have matches_ := PySem.W.exm_one (M := model X.prog X.w) J3.kIn lk yes
    suffices goal : ∀ {Q' : Value → Shared → Prop} {E' : Value → Shared → Prop}, Q' c { t with heap := g3 } → wpAny (model X.prog X.w) (X.A.mark (some (.ref ad))) (eval (.Name x np) X.env) Q' E' { t with heap := g3 } by
      refine goal (matches_.here (codeAny_handlers_suite_as (HandSPX.lands_againZ fly3 ?_)))
      intro g4 fly4 up4
      have J4 := J.landed (s' := { t with heap := g4 }) nBs fly4.1 ((upT.trans up3).trans up4) osT agT
      obtain ⟨ob4, us4, at4, z4, dat4⟩ := fly4.there
      have Su4 := J4.suite at4 dat4 nAd noLoc noFs
      refine store_ok (X := X.suite ad ((ad, ob4) :: (X.pn ++ pl))) (v := .ref ad) Su4 ndN slot (.inl loc) rfl ?_ (.inr loc)
      intro t5 Su5
      refine wpAny_mono ((hand ad ob4 cls d (X.pn ++ pl) z4 ⟨_, dat4⟩).run [] t5 _ G' _ Su5 (act ad nAd)) ?_ (fun _ _ q => q.elim)
      intro fl t6 done
      have away : ∀ {τ : L2.St} {G6 : Hp} {R : Shared → Prop}, Inv (X.suite ad ((ad, ob4) :: (X.pn ++ pl))) [] τ G6 t6 → (∀ t7, Inv X pl (τ.set i none) G6 t7 → R t7) →
          wpAny (model X.prog X.w) X.A (do bindName X.env n .none; unbindBehindTheSuite X.env n pos') (fun _ t7 => R t7) X.xe t6 := fun {τ G6 R} J6 hR => gone_ok (J6.unsuite good) ndN slot loc hR
      cases fl with
      | ret val =>
        obtain ⟨v6, τ, G6, J6, rel, w6⟩ := done
        exact away J6 fun t7 J7 => ⟨_, _, _, J7, rel, w6⟩
      | next | brk | cont =>
        obtain ⟨τ, G6, J6, w6⟩ := done
        exact away J6 fun t7 J7 => ⟨_, _, J7, w6⟩
    intro Q' E' q
    obtain ⟨gl, dbg, mine | ⟨noG, blt, nn⟩⟩ := nms
    · exact ld_glob (X := X.suite ad ((ad, ob3) :: (X.pn ++ pl))) Su gl mine q dbg
    · exact ld_blt (X := X.suite ad ((ad, ob3) :: (X.pn ++ pl))) Su gl noG blt q nn dbg
  refine wpAny_mono main ?_ (fun _ _ q => q)
  intro fl t1 done
  cases fl with
  | next =>
    obtain ⟨τ, G1, J1, w1⟩ := done
    exact last.run pl t1 τ G1 D (J1.ofTry good) w1
  | brk | cont =>
    obtain ⟨τ, G1, J1, w1⟩ := done
    exact ⟨τ, G1, J1.ofTry good, w1⟩
  | ret val =>
    obtain ⟨v1, τ, G1, J1, rel, w1⟩ := done
    exact ⟨v1, τ, G1, J1.ofTry good, rel, w1⟩
end
end IL

/-! in an except suite: the exception that is in hand -/
namespace IL
open PySem PySem.Spec PyProof.Rows L2
abbrev JP := L2.St → Hp → Rho → Prop
/-- kept as heaps grow -/
def Keeps (K : PySem.W.Frag) (J : JP) : Prop := ∀ {σ : L2.St} {H H' : Hp} {ρ ρ' : Rho} {st : Sto}, RepS K H ρ st → Grow H ρ H' ρ' → J σ H ρ → J σ H' ρ'
section
variable (K : PySem.W.Frag) (J : JP)
def tJ (i : IE) : TE := fun σ H Q => ∃ env st ρ x st', RepE K H ρ env σ ∧ RepS K H ρ st ∧ J σ H ρ ∧ i env st = some (x, st') ∧ ∀ v H' ρ', Grow H ρ H' ρ' → RepS K H' ρ' st' → Rep K H' ρ' x v → Q v H'
def tJA (i : IA) : TA := fun σ H Q => ∃ env st ρ x st', RepE K H ρ env σ ∧ RepS K H ρ st ∧ J σ H ρ ∧ i env st = some (x, st') ∧ ∀ v H' ρ', Grow H ρ H' ρ' → RepS K H' ρ' st' → Reps K H' ρ' x v → Q v H'
def tJT (i : IT) : TT := fun σ H Q => ∃ env st ρ x st', RepE K H ρ env σ ∧ RepS K H ρ st ∧ J σ H ρ ∧ i env st = some (x, st') ∧ ∀ H' ρ', Grow H ρ H' ρ' → RepS K H' ρ' st' → Q x H'
def tJS (W : WX) (i : IS) : TS := fun D σ H => ∃ env st ρ f, RepE K H ρ env σ ∧ RepS K H ρ st ∧ J σ H ρ ∧ i env st = some f ∧ PostF K W D H ρ f
end
section
variable {X : Cx} {J : JP} {W : WX} {a b c e : Expr} {es rest : List Expr} {p q : List Stmt} {pos : Pos} {ia ib ic : IE} {ir : IA} {ta tb : IT} {sa sb : IS}
theorem j_e (h : PE X e (tI X.K ia)) : PE X e (tJ X.K J ia) := PE.imp h fun σ H Q ⟨env, st, ρ, x, st', E, S, _, h, q⟩ => ⟨env, st, ρ, x, st', E, S, h, q⟩
theorem j_a (h : PA X es (tIA X.K ir)) : PA X es (tJA X.K J ir) := PA.imp h fun σ H Q ⟨env, st, ρ, x, st', E, S, _, h, q⟩ => ⟨env, st, ρ, x, st', E, S, h, q⟩
theorem j_t (h : PT X e (tIT X.K ta)) : PT X e (tJT X.K J ta) := PT.imp h fun σ H Q ⟨env, st, ρ, x, st', E, S, _, h, q⟩ => ⟨env, st, ρ, x, st', E, S, h, q⟩
theorem j_cons (hJ : Keeps X.K J) (ha : PE X e (tJ X.K J ia)) (hr : PA X es (tJA X.K J ir)) (hs : starEach (e :: es) X.env = (false, eval e X.env) :: starEach es X.env := by rfl) : PA X (e :: es) (tJA X.K J (iCons ia ir)) :=
  PA.imp (pa_cons ha hr hs) fun σ H Q ⟨env, st, ρ, z, st', E, S, hj, h, q⟩ => by
    obtain ⟨x, s1, h1, h⟩ := ob_some h
    obtain ⟨xs, s2, h2, h⟩ := ob_some h
    cases h
    refine ⟨env, st, ρ, x, s1, E, S, hj, h1, fun v H1 ρ1 G1 S1 R1 => ⟨env, s1, ρ1, xs, _, E.grow S G1, S1, hJ S G1 hj, h2, fun vs H2 ρ2 G2 S2 R2 => ?_⟩⟩
    exact q (v :: vs) H2 ρ2 (G1.trans G2) S2 (by unfold Reps; exact ⟨v, vs, rfl, Rep.grow S1 G2 _ _ R1, R2⟩)
theorem j_tup {x1} (h : PA X es (tJA X.K J ir)) : PE X (.Tuple es x1 pos) (tJ X.K J (iTup ir)) :=
  PE.imp (pe_tup h) fun σ H Q ⟨env, st, ρ, z, st', E, S, hj, h, q⟩ => by
    obtain ⟨xs, s1, h1, h⟩ := ob_some h
    split at h
    · rename_i hl
      cases h
      exact ⟨env, st, ρ, xs, _, E, S, hj, h1, fun vs H1 ρ1 G1 S1 R1 => ⟨line5 (by rw [← R1.length]; exact hl), fun p hp => q _ _ ρ1 (G1.trans (grow_new hp)) (S1.new hp) (new_tup S1 R1 hp)⟩⟩
    · cases h
theorem j_truth (ha : PE X a (tJ X.K J ia)) (he : ∀ whole, isTrue a X.env whole = (do let v ← whole; standAt a.pos; holding [v] (truthy v))) : PT X a (tJT X.K J (iTest ia)) :=
  PT.imp (pt_truth ha he) fun σ H Q ⟨env, st, ρ, z, st', E, S, hj, h, q⟩ => by
    obtain ⟨x, s1, h1, h⟩ := ob_some h
    obtain ⟨h2, h3⟩ := map_pair h
    simp only at h2 h3
    subst h3
    exact ⟨env, st, ρ, x, _, E, S, hj, h1, fun v H1 ρ1 G1 S1 R1 => ⟨z, tru_rep S1 R1 h2, q H1 ρ1 G1 S1⟩⟩
theorem j_not (ha : PT X a (tJT X.K J ta)) : PT X (.UnaryOp .Not a pos) (tJT X.K J (iNot ta)) :=
  PT.imp (pt_not ha) fun σ H Q ⟨env, st, ρ, z, st', E, S, hj, h, q⟩ => by
    obtain ⟨k, s1, h1, h⟩ := ob_some h
    cases h
    exact ⟨env, st, ρ, k, _, E, S, hj, h1, fun H1 ρ1 G1 S1 => q H1 ρ1 G1 S1⟩
theorem j_or1 (ha : PT X a (tJT X.K J ta)) : PW X (.BoolOp .Or [a] pos) (tJT X.K J ta) := pw_or1 ha
theorem j_or (hJ : Keeps X.K J) (ha : PT X a (tJT X.K J ta)) (hb : PW X (.BoolOp .Or (b :: rest) pos) (tJT X.K J tb)) : PW X (.BoolOp .Or (a :: b :: rest) pos) (tJT X.K J (iOr ta tb)) :=
  PW.imp (pw_or ha hb) fun σ H Q ⟨env, st, ρ, z, st', E, S, hj, h, q⟩ => by
    obtain ⟨k, s1, h1, h⟩ := ob_some h
    refine ⟨env, st, ρ, k, s1, E, S, hj, h1, fun H1 ρ1 G1 S1 => ?_⟩
    cases k with
    | true =>
      rw [if_pos rfl]
      cases h
      exact q H1 ρ1 G1 S1
    | false =>
      rw [if_neg Bool.false_ne_true]
      exact ⟨env, s1, ρ1, z, st', E.grow S G1, S1, hJ S G1 hj, h, fun H2 ρ2 G2 S2 => q H2 ρ2 (G1.trans G2) S2⟩
theorem j_chainT (hJ : Keeps X.K J) {op op' : CmpOp} {r r' : R2} {f g : F2} (ho : OpR X (compareOp op) r) (hf : OpI X.K r f) (ho' : OpR X (compareOp op') r') (hg : OpI X.K r' g) (ha : PE X a (tJ X.K J ia)) (hb : PE X b (tJ X.K J ib)) (hc : PE X c (tJ X.K J ic))
    (hm : lastMarks [op, op'] [b, c] = false := by with_unfolding_all rfl) : PT X (.Compare a [op, op'] [b, c] pos) (tJT X.K J (iTestB (iChain f g ia ib ic))) :=
  PT.imp (pt_chain ho ho' ha hb hc hm) fun σ H Q ⟨env, st, ρ, z, st', E, S, hj, h, q⟩ => by
    obtain ⟨x0, s0, h0, h⟩ := ob_some h
    obtain ⟨h2, h3⟩ := map_pair h
    simp only at h2 h3
    subst h3
    obtain ⟨x, s1, h1, h⟩ := ob_some h0
    obtain ⟨y, s2, hy, h⟩ := ob_some h
    obtain ⟨w, s3, hw, h⟩ := ob_some h
    refine ⟨env, st, ρ, x, s1, E, S, hj, h1, fun vx H1 ρ1 G1 S1 R1 => ⟨env, s1, ρ1, y, s2, E.grow S G1, S1, hJ S G1 hj, hy, fun vy H2 ρ2 G2 S2 R2 => ?_⟩⟩
    refine hf H2 ρ2 s2 x y vx vy w s3 _ S2 (Rep.grow S1 G2 _ _ R1) R2 hw fun v H3 ρ3 G3 S3 R3 => ?_
    have fin : ∀ {v : V} {H5 : Hp} {ρ5 : Rho}, Grow H ρ H5 ρ5 → RepS X.K H5 ρ5 st' → Rep X.K H5 ρ5 x0 v → ∃ k, v = .bl k ∧ Q k H5 := fun {v H5 ρ5} G5 S5 R5 => by
      cases x0 <;> simp only [isBl, Option.some.injEq, reduceCtorEq] at h2
      subst h2
      unfold Rep at R5
      exact ⟨_, R5, q H5 ρ5 G5 S5⟩
    split at h
    · unfold Rep at R3
      subst R3
      obtain ⟨w, s4, h4, h⟩ := ob_some h
      refine ⟨true, rfl, ?_⟩
      rw [if_pos rfl]
      refine ⟨env, s3, ρ3, w, s4, ((E.grow S G1).grow S1 G2).grow S2 G3, S3, hJ S2 G3 (hJ S1 G2 (hJ S G1 hj)), h4, fun vw H4 ρ4 G4 S4 R4 => ?_⟩
      exact hg H4 ρ4 s4 y w vy vw x0 st' _ S4 (Rep.grow S3 G4 _ _ (Rep.grow S2 G3 _ _ R2)) R4 h fun v H5 ρ5 G5 S5 R5 => fin ((((G1.trans G2).trans G3).trans G4).trans G5) S5 R5
    · unfold Rep at R3
      subst R3
      cases h
      refine ⟨false, rfl, ?_⟩
      rw [if_neg Bool.false_ne_true]
      exact fin ((G1.trans G2).trans G3) S3 (by unfold Rep; rfl)
    · cases h
theorem j_if (hc : PT X c (tJT X.K J ta)) (ha : PSs X p (tIS X.K W sa)) (hb : PSs X q (tIS X.K W sb)) : PS X (.If c p q pos) (tJS X.K J W (iIfS ta sa sb)) :=
  PS.imp (ps_if hc ha hb) fun D σ H ⟨env, s, ρ, f, E, S, hj, h, q⟩ => by
    obtain ⟨k, s1, h1, h⟩ := ob_some h
    refine ⟨env, s, ρ, k, s1, E, S, hj, h1, fun H1 ρ1 G1 S1 => ?_⟩
    cases k with
    | true =>
      rw [if_pos rfl]
      exact ⟨env, s1, ρ1, f, E.grow S G1, S1, h, q.grow G1⟩
    | false =>
      rw [if_neg Bool.false_ne_true]
      exact ⟨env, s1, ρ1, f, E.grow S G1, S1, h, q.grow G1⟩
theorem j_ret (he : PE X e (tJ X.K J ia)) : PS X (.Return (some e) pos) (tJS X.K J W (iRet ia)) := PS.imp (ps_ret he) fun D σ H ⟨env, s, ρ, f, E, S, hj, h, q⟩ => by
  obtain ⟨x, s1, h1, h⟩ := ob_some h
  cases h
  exact ⟨env, s, ρ, x, _, E, S, hj, h1, fun v H1 ρ1 G1 S1 R1 => q v H1 ρ1 G1 S1 R1⟩
theorem j_one {st : Stmt} (h1 : PS X st (tJS X.K J W sa)) : PSs X [st] (tJS X.K J W sa) := pss_one h1
end
/-! ### the exception -/
/-- slot i holds the exception at a, whose dict d has these fields -/
def XJ (K : PySem.W.Frag) (a : Addr) (d : Option Addr) (i : Nat) (fs : List (Str × PV)) : JP := fun σ H ρ => σ[i]? = some (some (.ref a)) ∧ ∃ dd vs, d = some dd ∧ Rd H dd (.xd vs) ∧ ρ.Safe dd ∧ RepF K H ρ fs vs
theorem xj_keeps {K : PySem.W.Frag} {a : Addr} {d : Option Addr} {i : Nat} {fs : List (Str × PV)} : Keeps K (XJ K a d i fs) := fun S g ⟨h, dd, vs, e, r, s, f⟩ => ⟨h, dd, vs, e, g.rd s r, g.safe (Rd.ne_none r) s, RepF.grow S g _ _ f⟩
def iExF (fs : List (Str × PV)) (n : Str) : IE := fun _ st => (fs.lookup n).map fun x => (x, st)
theorem repF_lookup {K : PySem.W.Frag} {H : Hp} {ρ : Rho} {n : Str} {x : PV} : ∀ {fs : List (Str × PV)} {vs : List (Str × V)}, RepF K H ρ fs vs → fs.lookup n = some x → ∃ v, vs.lookup n = some v ∧ Rep K H ρ x v
  | [], _, _, h => by cases h
  | (m, y) :: fs, vs, r, h => by
    obtain ⟨v, rr, rfl, r1, r2⟩ := r
    rw [List.lookup_cons] at h ⊢
    cases hb : (n == m) with
    | true =>
      rw [hb] at h
      cases h
      exact ⟨v, rfl, r1⟩
    | false =>
      rw [hb] at h
      exact repF_lookup r2 h
theorem j_exf {X : Cx} {a C : Addr} {oe : Obj} {d : Option Addr} {pn : List (Addr × Obj)} {i : Nat} {m n : Str} {p pos : Pos} {fs : List (Str × PV)} (T : XfC X.K C) (hno : PySem.W.findIn X.K (.ref C) n = some none) (hz : Zc (.ref C) d oe) (hf : ∃ vs, oe.data = .fields vs)
    (hN : X.N[i]? = some m) (hv : Vis X.env.scope m) (hd : (m == ("__debug__" : Str)) = false := by decide) (hcd : (m == ("__classdict__" : Str)) = false := by decide) (hb : attributeBase (.Name m p) n X.env (eval (.Name m p) X.env) = eval (.Name m p) X.env := by rfl) :
    PE (X.suite a ((a, oe) :: pn)) (.Attribute (.Name m p) n pos) (tJ X.K (XJ X.K a d i fs) (iExF fs n)) := by
  constructor
  rintro pins s σ H Q I ⟨env, st, ρ, x, st', E, S, ⟨hi, dd, vs, rfl, r, sf, rf⟩, h, q⟩
  obtain ⟨h2, rfl⟩ := map_pair h
  simp only at h2
  obtain ⟨v, hl, rv⟩ := repF_lookup rf h2
  have he : PE (X.suite a ((a, oe) :: pn)) (.Name m p) (tVar i) := pe_var hN hv hd hcd
  refine attr_of hb (thn (he.run pins s σ H (fun y G => y = .ref a ∧ G = H) I ⟨.ref a, hi, rfl, rfl⟩) ?_)
  rintro u s1 ⟨y, G, I1, ry, rfl, rfl⟩
  obtain rfl : u = Value.ref a := ry
  obtain ⟨hget, _⟩ := I1.pin (a, oe) (List.mem_append_left _ List.mem_cons_self)
  obtain ⟨us, hdat⟩ := hf
  obtain ⟨mA, hns, hr⟩ := (r.ok I1.hok : ObjOk X.prog X.w _ s1.heap dd (.xd vs))
  obtain ⟨od, ho, hlk⟩ := lookIn_ns hns
  obtain ⟨u2, hu, ru⟩ := RelO.some_of (v := v) (o := mA n) (by rw [← hl]; exact hr n)
  have at_ : PySem.W.InstAt s1.heap a oe C (some od) := ⟨hget, hz.1, by unfold PySem.W.notCls; rw [hdat] <;> rfl, by rw [hz.2]; exact ho⟩
  exact HandSPX.exc_get I1.kIn at_ T.ga T.gg T.exC (PySem.W.findObj_own T.hdC hno rfl (by rw [hlk, hu])) (handed_of ru) ⟨v, _, I1.tok _, ru, q v _ ρ Grow.refl S rv⟩
/-- isinstance(e, D2) -/
theorem call_isX {X : Cx} {a D : Addr} {oe : Obj} {d : Option Addr} {pn : List (Addr × Obj)} (C : ExcC X.K D) (hz : Zc (.ref D) d oe) (hf : ∃ vs, oe.data = .fields vs) :
    CallR (X.suite a ((a, oe) :: pn)) (.builtin "isinstance") (fun xs H Q => ∃ (D2 : Addr) (b : Bool) (dd : Addr) (vs : List (Str × V)), xs = [.ref a, .ref D2] ∧ d = some dd ∧ Rd H dd (.xd vs) ∧ PySem.W.kitOne X.K (.ref D) (.ref D2) = some b ∧ Q (.bl b) H) := by
  rintro pins s σ H xs us Q I r ⟨D2, b, dd, vs, rfl, rfl, rd, e, q⟩
  cases r with
  | cons rx rr =>
    cases rr with
    | cons rt rr =>
      cases rr
      cases rx
      cases rt
      obtain ⟨hget, _⟩ := I.pin (a, oe) (List.mem_append.mpr (.inl List.mem_cons_self))
      obtain ⟨us, hv⟩ := hf
      obtain ⟨mA, hns, hr⟩ := (rd.ok I.hok : ObjOk X.prog X.w _ s.heap dd (.xd vs))
      obtain ⟨od, ho, hlk⟩ := lookIn_ns hns
      have at_ : PySem.W.InstAt s.heap a oe D (some od) := ⟨hget, hz.1, by unfold PySem.W.notCls; rw [hv] <;> rfl, by rw [hz.2]; exact ho⟩
      have hcl : (PySem.W.clsIn X.K D).isSome = true := by
        obtain ⟨cd, hc, _⟩ := PySem.W.any_some C.hd
        rw [hc]; rfl
      exact PySem.W.kia_one (PySem.W.kitx_exc hcl C.hg C.hk C.hs C.ha C.hn C.ht C.hm) I.kIn at_ e (fun z => nomatch z) fun tk => ⟨.bl b, H, I.kept (t' := tk) fun _ _ z => z, rfl, q⟩
theorem j_isx {X : Cx} {a D D2 : Addr} {oe : Obj} {d : Option Addr} {pn : List (Addr × Obj)} {i : Nat} {m y : Str} {p p2 p3 pos : Pos} {fs : List (Str × PV)} {b : Bool} (C : ExcC X.K D) (hz : Zc (.ref D) d oe) (hf : ∃ vs, oe.data = .fields vs) (hk : PySem.W.kitOne X.K (.ref D) (.ref D2) = some b)
    (hN : X.N[i]? = some m) (hv : Vis X.env.scope m) (hg : Gl X "isinstance") (hm : X.mg "isinstance" = none) (hv2 : bootBuiltins "isinstance" = some (.builtin "isinstance")) (hgy : Gl X y) (hmy : X.mg y = some (.ref D2))
    (hd : (m == ("__debug__" : Str)) = false := by decide) (hcd : (m == ("__classdict__" : Str)) = false := by decide) (hdy : (y == ("__debug__" : Str)) = false := by decide)
    (h1 : starEach [.Name m p2, .Name y p3] X.env = (false, eval (.Name m p2) X.env) :: starEach [.Name y p3] X.env := by rfl) (h2 : starEach [.Name y p3] X.env = (false, eval (.Name y p3) X.env) :: starEach [] X.env := by rfl)
    (hpl : (backTo pos (starEach [.Name y p3] X.env)).any (·.1) = false := by rfl) :
    PE (X.suite a ((a, oe) :: pn)) (.Call (.Name "isinstance" p) [.Name m p2, .Name y p3] [] pos) (tJ X.K (XJ X.K a d i fs) (iC (.bl b))) := by
  have he : PE (X.suite a ((a, oe) :: pn)) (.Name m p2) (tVar i) := pe_var hN hv hd hcd
  have hy : PE (X.suite a ((a, oe) :: pn)) (.Name y p3) (tC (.ref D2)) := pe_glob hgy hmy rfl hdy
  refine PE.imp (pe_callB (X := X.suite a ((a, oe) :: pn)) (call_isX C hz hf) hg hm hv2 (pa_cons he (pa_cons hy pa_nil h2) h1) (by decide) (by decide) h1 hpl) ?_
  rintro σ H Q ⟨env, st, ρ, x, st', E, S, ⟨hi, dd, vs, rfl, r, sf, rf⟩, h, q⟩
  cases h
  exact ⟨.ref a, hi, D2, b, dd, vs, rfl, rfl, r, hk, q (.bl b) H ρ Grow.refl S (by unfold Rep; rfl)⟩
end IL

/-! try .. except C as n .. else, as a plain function -/
namespace IL
open PySem PySem.Spec PyProof.Rows L2
/-- a class that is caught by its name -/
structure CatJ (K : PySem.W.Frag) (mg : Str → Option Value) (c : Str) : Prop where
  ex : ∃ C : Addr, ClsAt K c C ∧ mg c = some (.ref C) ∧ PySem.W.exmOne K (.ref C) (.ref C) = some true
def iCatch (cn : Str) (b : IS) (i : Nat) (h : List (Str × PV) → IS) (els : IS) : IS := fun env st => match b env st with
  | some (.nx e s) => els e s
  | some (.er e c fs s) => if c = cn ∧ i < e.length then (match h fs (e.set i none) s with
    | some (.nx e2 s2) => some (.nx (e2.set i none) s2)
    | some (.bk e2 s2) => some (.bk (e2.set i none) s2)
    | some (.ct e2 s2) => some (.ct (e2.set i none) s2)
    | some (.rt v s2) => some (.rt v s2)
    | _ => none) else none
  | o => o
theorem RepE.drop {K : PySem.W.Frag} {H : Hp} {ρ : Rho} {env : PEnv} {σ : L2.St} (E : RepE K H ρ env σ) (i : Nat) (v : Option V) : RepE K H ρ (env.set i none) (σ.set i v) := by
  refine ⟨by simpa using E.len, fun j y hj => ?_⟩
  by_cases e : i = j
  · subst e
    rw [List.getElem?_set] at hj
    simp only [if_true] at hj
    split at hj <;> cases hj
  · rw [List.getElem?_set_ne e] at hj
    obtain ⟨w, a, b⟩ := E.at_ j y hj
    exact ⟨w, by rw [List.getElem?_set_ne e]; exact a, b⟩
theorem RepS.safeX {K : PySem.W.Frag} {H : Hp} {ρ : Rho} {st : Sto} (S : RepS K H ρ st) {d : Addr} {vs : List (Str × V)} (h : H d = some (.xd vs)) : ρ.Safe d := .inl fun hm => by
  obtain ⟨n, so, _, _, r⟩ := S.mem hm
  rcases r.some with ⟨w, e⟩ | ⟨w, e⟩ | ⟨C, dx, w, e⟩ <;> rcases e with e | ⟨o', e⟩ <;> (rw [h] at e; cases e)
section
variable {X : Cx} {W : WX} {n cn : Str} {i : Nat} {body suite orelse : List Stmt} {b₀ : Stmt} {np pos pos' : Pos} {ib els : IS} {ih : List (Str × PV) → IS}
theorem s_catch (stk : X.stack = X.env :: X.outer) (frm : X.env.frame = some X.env.locals) (ndN : X.N.Nodup) (slot : X.N[i]? = some n) (loc : X.env.kindOf n = some .local) (cj : CatJ X.K X.mg cn) (hg : Gl X cn)
    (inner : ∀ (V : WX) (pl : List (Addr × Obj)) (out : Value → Shared → Prop), L2N.Takes (X.tr pl out) V → PSs (X.tr pl out) body (tIS X.K V ib))
    (hand : ∀ (C x : Addr) (ox : Obj) (d : Option Addr) (pl : List (Addr × Obj)) (fs : List (Str × PV)), ClsAt X.K cn C → L2N.Zn (.ref C) d ox → (∃ us, ox.data = .fields us) → PSs (X.suite x ((x, ox) :: pl)) (b₀ :: suite) (tJS X.K (XJ X.K x d i fs) W0 (ih fs)))
    (last : PSs X orelse (tIS X.K W els)) (hdb : (cn == ("__debug__" : Str)) = false := by decide) :
    PS X (.Try body [.ExceptHandler (some (.Name cn np)) (some n) (b₀ :: suite) pos'] orelse [] pos) (tIS X.K W (iCatch cn ib i ih els)) := by
  obtain ⟨C, hC, hm, hx⟩ := cj.ex
  have base := ps_catch (X := X) (x := cn) (n := n) (c := .ref C) (i := i) (np := np) (pos := pos) (pos' := pos') (tb := fun V => tIS X.K V ib) (ts := fun x cls d D σ H => ∃ C fs, cls = .ref C ∧ ClsAt X.K cn C ∧ tJS X.K (XJ X.K x d i fs) W0 (ih fs) D σ H) stk frm ndN slot loc ⟨hg, hdb, .inl hm⟩ (fun V pl out tk _ => inner V pl out tk)
    (fun x ox cls d pl hz hd => ⟨fun pins s σ H D I h => by
      obtain ⟨C, fs, rfl, hC, h⟩ := h
      exact (hand C x ox d pl fs hC hz hd).run pins s σ H D I h⟩) last
  refine PS.imp base fun D σ H ⟨env, st, ρ, f, E, S, h, q⟩ => ?_
  unfold iCatch at h
  split at h
  · rename_i e s hb
    exact ⟨env, st, ρ, _, E, S, hb, fun σ' H' ρ' G S' E' => ⟨e, s, ρ', f, E', S', h, q.grow G⟩⟩
  · rename_i e c fs s hb
    split at h
    · rename_i hc
      obtain ⟨rfl, hi⟩ := hc
      refine ⟨env, st, ρ, _, E, S, hb, fun C' d σ' H' ρ' vs hC' G S' E' R' hd => ?_⟩
      have eC : C' = C := by
        have h1 := hC'
        unfold ClsAt at h1 hC
        rw [hC] at h1
        cases h1; rfl
      subst eC
      refine ⟨hx, fun x hxn => ⟨C', fs, rfl, hC', ?_⟩⟩
      have li : i < σ'.length := by rw [← E'.len]; exact hi
      have XJ' : XJ X.K x (some d) i fs (σ'.set i (some (.ref x))) H' ρ' := ⟨by rw [List.getElem?_set_self li], d, vs, rfl, .of hd, S'.safeX hd, R'⟩
      split at h
      · rename_i e2 s2 hh
        cases h
        exact ⟨e.set i none, s, ρ', _, E'.drop i _, S', XJ', hh, fun τ H2 ρ2 G2 S2 E2 => q _ H2 ρ2 (G.trans G2) S2 (E2.drop i none)⟩
      · rename_i e2 s2 hh
        cases h
        exact ⟨e.set i none, s, ρ', _, E'.drop i _, S', XJ', hh, fun τ H2 ρ2 G2 S2 E2 => q _ H2 ρ2 (G.trans G2) S2 (E2.drop i none)⟩
      · rename_i e2 s2 hh
        cases h
        exact ⟨e.set i none, s, ρ', _, E'.drop i _, S', XJ', hh, fun τ H2 ρ2 G2 S2 E2 => q _ H2 ρ2 (G.trans G2) S2 (E2.drop i none)⟩
      · rename_i v s2 hh
        cases h
        exact ⟨e.set i none, s, ρ', _, E'.drop i _, S', XJ', hh, fun v H2 ρ2 G2 S2 R2 => q v H2 ρ2 (G.trans G2) S2 R2⟩
      · cases h
    · cases h
  · rename_i h1 h2
    refine ⟨env, st, ρ, f, E, S, h, ?_⟩
    cases f with
    | nx e s => exact (h1 e s h).elim
    | er e c fs s => exact (h2 e c fs s h).elim
    | rt v s => exact q
    | bk e s => exact q
    | ct e s => exact q
end
end IL

/-! enumerate(text) -/
namespace IL
open PySem PySem.Spec PyProof.Rows L2
def Itn (x : Str) : It := ⟨fun k _ => k < x.cps.size, fun k G v G' => ∃ T c, v = .ref T ∧ G T = none ∧ x.cps[k]? = some c ∧ G' = upd G T (.tup [.int (k : Nat), .str ⟨#[c]⟩]), fun k _ => x.cps.size ≤ k⟩
theorem draws_text {prog : Program} {w : World} {A : Around} (hh : A.handled = none) (it : Addr) (x : Str) (t : Tok) {ty : String} (hty : ty = "str_ascii_iterator" ∨ ty = "str_iterator") :
    Draws prog w A it [it] x.cps.size (fun k v => ∃ c u, x.cps[k]? = some c ∧ v = .str ⟨#[c]⟩ u) (fun k h => h.IsStrIter it ty x t k) := by
  rcases hty with e | e <;> rw [e]
  · exact Draws.strAscii hh it x t
  · exact Draws.strWide hh it x t
theorem turn_enumT {P : Program} {w : World} {K : PySem.W.Frag} {elts : List Expr} {kk : Nat} {tpos : Pos} (en it : Addr) (x : Str) (t : Tok) {ty : String} (hty : ty = "str_ascii_iterator" ∨ ty = "str_iterator") :
    Turn P w K (.Tuple elts kk tpos) (Itn x) [en, it] en (fun k h => k ≤ x.cps.size ∧ (∃ old, IsEnum h en it ((k : Nat) : Int) old) ∧ h.IsStrIter it ty x t k ∧ en ≠ it) where
  mem := List.mem_cons_self ..
  obj := fun k h st b hb => by
    obtain ⟨_, ⟨old, ie⟩, ⟨ob, at0, _, dat⟩, _⟩ := st
    rcases List.mem_cons.mp hb with rfl | hb
    · exact ⟨_, ie, fun v z => nomatch z⟩
    · rw [List.mem_singleton] at hb
      subst hb
      exact ⟨ob, at0, fun v z => by rw [dat] at z; cases z⟩
  keep := fun k h h' st kp => by
    obtain ⟨le, ⟨old, ie⟩, ⟨ob, at0, r⟩, ne⟩ := st
    exact ⟨le, ⟨old, kp en (by simp) _ ie⟩, ⟨ob, kp it (by simp) ob at0, r⟩, ne⟩
  item := by
    intro X hP hw hK hc k pins s sl G E Iv hf st lt
    subst hP hw hK
    obtain ⟨_, ⟨old, ie⟩, si, ne⟩ := st
    have ltk : k < x.cps.size := lt
    have l1 : en < s.heap.objs.size := Heap.lt_size ie
    have l2 : it < s.heap.objs.size := by obtain ⟨_, q, _⟩ := si; exact Heap.lt_size q
    refine wpAny_pyNext_enum_itemD (draws_text (A := X.A.in1) (Iv.ok.hd hc) it x t hty) ie si ltk ne (by simpa using ne) fun y h' tk py out si' tup sz kp => ?_
    obtain ⟨c, u, hcx, rfl⟩ := py
    refine ⟨_, rfl, wpAny_letOwnedTupleGo_enum (s := { s with heap := h', toks := tk + 1 }) out fun h'' ie' sb => ?_⟩
    have tup2 : h''.get? s.heap.objs.size = some { cls := .type "tuple", data := .seq #[.int k tk, .str ⟨#[c]⟩ u] } := (sb.2 _ (Nat.ne_of_gt l1)).trans tup
    have fresh : ObjOk X.prog X.w (upd G s.heap.objs.size (.tup [.int (k : Nat), .str ⟨#[c]⟩])) h'' s.heap.objs.size (.tup [.int (k : Nat), .str ⟨#[c]⟩]) :=
      ⟨show 2 ≤ sizeLine by decide, [.int k tk, .str ⟨#[c]⟩ u], .cons ⟨_, rfl⟩ (.cons ⟨_, rfl⟩ .nil), ⟨_, tup2, rfl, _, rfl⟩⟩
    have Iv2 : Inv X pins sl (upd G s.heap.objs.size (.tup [.int (k : Nat), .str ⟨#[c]⟩])) { s with heap := h'', toks := tk + 1 } :=
      Iv.turnedNew (ch := [en, it]) (fun b ob hb q => (sb.2 b (fun z => hb (by simp [z]))).trans (kp b ob (fun z => hb (by simp [z])) (fun z => hb (by simp [z])) q)) hf (Nat.le_refl _) fresh
    refine ⟨.ref s.heap.objs.size, _, Iv2, rfl, ⟨_, c, rfl, Iv.hok.fresh (Nat.le_refl _), hcx, rfl⟩, ⟨ltk, ⟨.str ⟨#[c]⟩ u, ?_⟩, ?_, ne⟩, fun b hb => ?_⟩
    · rw [show ((k + 1 : Nat) : Int) = (k : Int) + 1 by omega]
      exact ie'
    · obtain ⟨ob, at0, r⟩ := si'
      exact ⟨ob, (sb.2 it (Ne.symm ne)).trans at0, r⟩
    · have lb : b < s.heap.objs.size := by
        rcases List.mem_cons.mp hb with rfl | hb
        · exact l1
        · rw [List.mem_singleton] at hb; subst hb; exact l2
      rw [upd_ne (Nat.ne_of_lt lb)]
      exact (hf b hb).1
  done := by
    intro X hP hw hK hc k pins s sl G E Iv hf st ge
    subst hP hw hK
    obtain ⟨le, ⟨old, ie⟩, si, ne⟩ := st
    have ek : k = x.cps.size := Nat.le_antisymm le ge
    subst ek
    obtain ⟨f0, f1, f2, f3, f4, f5⟩ := hf it (by simp)
    exact wpAny_pyNext_enum_endD (draws_text (A := X.A.in1) (Iv.ok.hd hc) it x t hty) ie si fun h' eb => ⟨rfl, Iv.turned (t' := s.toks) (fun b o hb q => eb b o hb q) f0 f1 f3 f4 f5⟩
  self := fun A i s Q E st h => by
    obtain ⟨_, ⟨old, ie⟩, _⟩ := st
    exact wpAny_pyIter_enum ie h
def iEnT (ta : TA) : TI := fun σ H R => ta σ H fun vs H1 => ∃ x : Str, vs = [.str x] ∧ R (Itn x) H1
theorem pi_enumT {X : Cx} {e : Expr} {ta : TA} {p pos tpos : Pos} {elts : List Expr} {kk : Nat} (hg : Gl X "enumerate") (hm : X.mg "enumerate" = none) (ha : PA X [e] ta) (hs : starEach [e] X.env = [(false, eval e X.env)] := by rfl) :
    PI X (.Tuple elts kk tpos) (.Call (.Name "enumerate" p) [e] [] pos) (iEnT ta) := by
  constructor
  intro pins s sl G R Iv h
  refine Call_ (ld_blt Iv hg hm boot_enumerate (PyProof.Rows.callWith_type1 (thn (ha.run pos pins s sl G _ Iv h) ?_) hs rfl))
  rintro us s1 ⟨vs, G1, I1, r1, x, rfl, q⟩
  cases r1 with
  | cons r rr =>
    cases rr
    obtain ⟨t, rfl⟩ := r
    refine call_enumerate_str fun h' ie si sz kp => wpAny_pyIter_enum ie ?_
    have I2 : Inv X pins sl G1 { s1 with heap := h' } := I1.kept (t' := s1.toks) kp
    have hty : strIterType x = "str_ascii_iterator" ∨ strIterType x = "str_iterator" := by
      unfold strIterType
      split
      · exact .inl rfl
      · exact .inr rfl
    refine ⟨s1.heap.objs.size + 1, [s1.heap.objs.size + 1, s1.heap.objs.size], _, _, G1, rfl, I2, turn_enumT (s1.heap.objs.size + 1) s1.heap.objs.size x t hty, ⟨Nat.zero_le _, ⟨.none, ie⟩, si, Nat.succ_ne_self _⟩, fun b hb => ?_, q⟩
    have ge : s1.heap.objs.size ≤ b := by
      rcases List.mem_cons.mp hb with rfl | hb
      · exact Nat.le_succ _
      · rw [List.mem_singleton] at hb; subst hb; exact Nat.le_refl _
    exact I1.fpOk ge (I1.hok.fresh ge)
end IL

/-! enumerate over texts, while True, int(text), a replaced text behind a written one; an exception's making; facts of an exception that is caught -/
namespace IL
open PySem PySem.Spec PyProof.Rows L2 CwR
/-! ### enumerate(text) -/
def srcEnT (x : Str) : Src := ⟨x.cps.size, fun _ i => some ((x.cps[i]?).map fun c => .tup [.int (i : Nat), .str ⟨#[c]⟩])⟩
theorem srcEnT_ok {K : PySem.W.Frag} {H0 : Hp} {ρ0 : Rho} {x : Str} : SrcOk K (srcEnT x) (Itn x) H0 ρ0 := fun H ρ st G S i => by
  refine ⟨fun hs => ?_, fun y hs => ?_⟩
  · simp only [srcEnT, Option.some.injEq, Option.map_eq_none_iff] at hs
    exact Array.getElem?_eq_none_iff.mp hs
  · simp only [srcEnT, Option.some.injEq] at hs
    cases e : x.cps[i]? with
    | none => rw [e] at hs; cases hs
    | some c =>
      rw [e] at hs
      cases hs
      refine ⟨(Array.getElem?_eq_some_iff.mp e).1, fun w H' y => ?_⟩
      obtain ⟨T, c', rfl, hT, e', rfl⟩ := y
      rw [e] at e'; cases e'
      obtain ⟨g1, g2, g3⟩ := pair_new (i := i) (x := .str ⟨#[c]⟩) S (by unfold Rep; rfl) hT
      exact ⟨ρ, g1, g2, g3⟩
def iEnumT (ir : IA) : II := fun env st => ob (ir env st) fun xs s => match xs with
  | [.str x] => some (srcEnT x, s)
  | _ => none
theorem i_enumT {X : Cx} {e : Expr} {ir : IA} {p tpos pos : Pos} {elts : List Expr} {kk : Nat} (hg : Gl X "enumerate") (hm : X.mg "enumerate" = none) (ha : PA X [e] (tIA X.K ir)) (hs : starEach [e] X.env = [(false, eval e X.env)] := by rfl) :
    PI X (.Tuple elts kk tpos) (.Call (.Name "enumerate" p) [e] [] pos) (tII X.K (iEnumT ir)) := PI.imp (pi_enumT hg hm ha hs) fun σ H R ⟨env, s, ρ, src, st', E, S, h, q⟩ => by
  obtain ⟨xs, s1, h1, h⟩ := ob_some h
  split at h
  · rename_i x
    cases h
    refine ⟨env, s, ρ, _, _, E, S, h1, fun v H1 ρ1 G1 S1 R1 => ?_⟩
    obtain ⟨w, rfl, R9⟩ := one_arg R1
    unfold Rep at R9
    subst R9
    exact ⟨x, rfl, q _ H1 ρ1 G1 S1 srcEnT_ok⟩
  · cases h
/-! ### while True -/
theorem t_true {X : Cx} {b : Bool} {j : Nat} {pos : Pos} : PT X (.Constant (.bool b) j pos) (tIT X.K (iTest (iC (.bl b)))) := r_truth r_bl (by intro _; rfl)
/-! ### int(text) -/
def fIntS : F1 := fun x st => match x with
  | .int i => some (.int i, st)
  | .bl b => some (.int (if b then 1 else 0), st)
  | .str a => if a.length ≤ 640 then (PySem.intText? a).map fun n => (.int n, st) else none
  | _ => none
def rIntS : List V → Hp → VK → Prop := fun xs H Q => ((∃ i, xs = [.int i] ∧ Q (.int i) H) ∨ ∃ k : Bool, xs = [.bl k] ∧ Q (.int (if k then 1 else 0)) H) ∨ ∃ a n, xs = [.str a] ∧ PySem.intText? a = some n ∧ a.length ≤ 640 ∧ Q (.int n) H
theorem call_intS {X : Cx} : CallR X (.type "int") rIntS := CallR.or call_int1 call_int_str
theorem f_intS {K : PySem.W.Frag} : CallI K rIntS (a1 fIntS) := call1 fun H ρ st x vx z st' Q S R h q => by
  unfold fIntS at h
  split at h
  · unfold Rep at R
    subst R
    cases h
    exact .inl (.inl ⟨_, rfl, q _ H ρ Grow.refl S (by unfold Rep; rfl)⟩)
  · unfold Rep at R
    subst R
    cases h
    exact .inl (.inr ⟨_, rfl, q _ H ρ Grow.refl S (by unfold Rep; rfl)⟩)
  · unfold Rep at R
    subst R
    split at h
    · rename_i hl
      obtain ⟨n, e, hz⟩ := map_some h
      cases hz
      exact .inr ⟨_, n, rfl, e, hl, q _ H ρ Grow.refl S (by unfold Rep; rfl)⟩
    · cases h
  · cases h
/-! ### "a" + x.replace("b", "c") -/
def iRep (ia : IE) (y z : Str) : IE := fun env st => ob (ia env st) fun x s => match x with
  | .str a => if a.length + (a.length + 1) * z.length ≤ 9000000 then some (.str (Txt.replace a y z), s) else none
  | _ => none
theorem pe_behind {X : Cx} {a : Str} {e : Expr} {te : TE} {op : Operator} {r : R2} {j : Nat} {c pos : Pos} (ho : OpR X (binaryOp op) r) (hb : PET X e te) : PE X (.BinOp (.Constant (.str a) j c) op e pos) (tOp r (tC (.str a)) te) := by
  refine ⟨fun pins s σ H Q I h => wpAny_BinOp (Calls.Constant_str ?_)⟩
  exact thn (hb pins { s with toks := s.toks + 1 } σ H _ (Nat.le_add_left 1 s.toks) (I.tok (s.toks + 1)) h) fun u s2 ⟨y, H2, I2, r2, q2⟩ => ho pins s2 σ H2 (.str a) y (.str a s.toks) u Q I2 ⟨s.toks, rfl⟩ r2 q2
theorem r_behindRep {X : Cx} {a y z : Str} {o : Expr} {io : IE} {op : Operator} {r : R2} {f : F2} {j k l : Nat} {c c0 c1 apos cpos pos : Pos} (ho : OpR X (binaryOp op) r) (hf : OpI X.K r f) (he : PE X o (tI X.K io)) (hyz : (y == z) = false := by decide)
    (hst : starEach [.Constant (.str y) k c0, .Constant (.str z) l c1] X.env = [(false, eval (.Constant (.str y) k c0) X.env), (false, eval (.Constant (.str z) l c1) X.env)] := by rfl)
    (hbase : attributeBase o "replace" X.env (eval o X.env) = eval o X.env := by rfl) (hline : (apos.endLine == cpos.line) = true := by rfl) :
    PE X (.BinOp (.Constant (.str a) j c) op (.Call (.Attribute o "replace" apos) [.Constant (.str y) k c0, .Constant (.str z) l c1] [] cpos) pos) (tI X.K (iBin f (iC (.str a)) (iRep io y z))) :=
  PE.imp (pe_behind ho (pet_replC he hyz hst hbase hline)) fun σ H Q ⟨env, st, ρ, w, st', E, S, h, q⟩ => by
    obtain ⟨x0, s0, h0, h⟩ := ob_some h
    cases h0
    obtain ⟨x1, s1, h1, h⟩ := ob_some h
    obtain ⟨x2, s2, h2, h3⟩ := ob_some h1
    refine ⟨env, st, ρ, x2, s2, E, S, h2, fun v H1 ρ1 G1 S1 R1 => ?_⟩
    split at h3
    · rename_i b
      split at h3
      · rename_i hl
        cases h3
        unfold Rep at R1
        subst R1
        refine ⟨b, rfl, by omega, ?_⟩
        exact hf H1 ρ1 _ (.str a) (.str (Txt.replace b y z)) (.str a) (.str (Txt.replace b y z)) w st' Q S1 (by unfold Rep; rfl) (by unfold Rep; rfl) h fun v2 H2 ρ2 G2 S2 R2 => q v2 H2 ρ2 (G1.trans G2) S2 R2
      · cases h3
    · cases h3
/-! ### the facts of a caught exception -/
structure AtJ (K : PySem.W.Frag) (c n : Str) : Prop where
  ex : ∃ C : Addr, ClsAt K c C ∧ XfC K C ∧ PySem.W.findIn K (.ref C) n = some none
structure IsJ (K : PySem.W.Frag) (mg : Str → Option Value) (c y : Str) (b : Bool) : Prop where
  ex : ∃ C D : Addr, ClsAt K c C ∧ mg y = some (.ref D) ∧ PySem.W.kitOne K (.ref C) (.ref D) = some b ∧ ExcC K C
theorem clsAt_one {K : PySem.W.Frag} {c : Str} {C D : Addr} (h : ClsAt K c C) (h' : ClsAt K c D) : C = D := by
  unfold ClsAt at h h'
  rw [h] at h'
  cases h'; rfl
section
variable {X : Cx} {a C : Addr} {oe : Obj} {d : Option Addr} {pn : List (Addr × Obj)} {i : Nat} {m n y cn : Str} {p p2 p3 pos : Pos} {fs : List (Str × PV)}
theorem j_at (T : AtJ X.K cn n) (hC : ClsAt X.K cn C) (hz : Zc (.ref C) d oe) (hf : ∃ vs, oe.data = .fields vs)
    (hN : X.N[i]? = some m) (hv : Vis X.env.scope m) (hd : (m == ("__debug__" : Str)) = false := by decide) (hcd : (m == ("__classdict__" : Str)) = false := by decide) (hb : attributeBase (.Name m p) n X.env (eval (.Name m p) X.env) = eval (.Name m p) X.env := by rfl) :
    PE (X.suite a ((a, oe) :: pn)) (.Attribute (.Name m p) n pos) (tJ X.K (XJ X.K a d i fs) (iExF fs n)) := by
  obtain ⟨D, hD, T, hno⟩ := T.ex
  cases clsAt_one hC hD
  exact j_exf T hno hz hf hN hv hd hcd hb
theorem j_is {b : Bool} (T : IsJ X.K X.mg cn y b) (hC : ClsAt X.K cn C) (hz : Zc (.ref C) d oe) (hf : ∃ vs, oe.data = .fields vs)
    (hN : X.N[i]? = some m) (hv : Vis X.env.scope m) (hg : Gl X "isinstance") (hm : X.mg "isinstance" = none) (hgy : Gl X y) (hv2 : bootBuiltins "isinstance" = some (.builtin "isinstance") := by decide +kernel)
    (hd : (m == ("__debug__" : Str)) = false := by decide) (hcd : (m == ("__classdict__" : Str)) = false := by decide) (hdy : (y == ("__debug__" : Str)) = false := by decide)
    (h1 : starEach [.Name m p2, .Name y p3] X.env = (false, eval (.Name m p2) X.env) :: starEach [.Name y p3] X.env := by rfl) (h2 : starEach [.Name y p3] X.env = (false, eval (.Name y p3) X.env) :: starEach [] X.env := by rfl)
    (hpl : (backTo pos (starEach [.Name y p3] X.env)).any (·.1) = false := by rfl) :
    PE (X.suite a ((a, oe) :: pn)) (.Call (.Name "isinstance" p) [.Name m p2, .Name y p3] [] pos) (tJ X.K (XJ X.K a d i fs) (iC (.bl b))) := by
  obtain ⟨D, D2, hD, hmy, hk, T⟩ := T.ex
  cases clsAt_one hC hD
  exact j_isx T hz hf hk hN hv hg hm hv2 hgy hmy hd hcd hdy h1 h2 hpl
end
end IL

/-! the message of an exception of one field that is an int; IfExp whose parts may raise -/
namespace IL
open PySem PySem.Spec PyProof.Rows L2
theorem fmt2_int {c : Str} (hc : c.length ≤ 1000) : ∀ (σ : L2.St) (H : Hp) (Q : VK) (v : V), σ[1]? = some (some v) → okInt v → (∀ s : Str, Q (.str s) H) → (fun (σ : L2.St) (H : Hp) (Q : VK) => tJs [tC (.str c), tFmt (tVar 1)] Str.empty σ H fun out H1 => Q (.str out) H1) σ H Q := by
  intro σ H Q v hv ⟨i, e, hi⟩ q
  subst e
  have l1 : (Str.empty ++ c).length ≤ 1000 := by rw [PySem.Str.length_append]; show 0 + c.length ≤ 1000; omega
  have l2 := int_text_len_1921 hi
  refine ⟨c, rfl, Nat.le_trans l1 (by decide), .int i, hv, .inr ⟨i, rfl, hi, Str.ofString (toString i), rfl, ?_, q _⟩⟩
  rw [PySem.Str.length_append]
  exact Nat.le_trans (Nat.add_le_add l1 l2) (by decide)
def iIfX (it : IT) (ia ib : IX) : IX := fun env st => ob (it env st) fun b s => if b then ia env s else ib env s
theorem x_if {X : Cx} {W : WX} {c a b : Expr} {pos : Pos} {it : IT} {ia ib : IX} (hc : PT X c (tIT X.K it)) (ha : PE X a (tIX X.K W ia)) (hb : PE X b (tIX X.K W ib)) : PE X (.IfExp c a b pos) (tIX X.K W (iIfX it ia ib)) :=
  PE.imp (pe_ifExp hc ha hb) fun σ H Q ⟨env, st, ρ, r, E, S, h, q⟩ => by
    obtain ⟨k, s1, h1, h⟩ := ob_some h
    refine ⟨env, st, ρ, k, s1, E, S, h1, fun H1 ρ1 G1 S1 => ?_⟩
    cases k with
    | true =>
      rw [if_pos rfl] at h ⊢
      exact ⟨env, s1, ρ1, r, E.grow S G1, S1, h, q.grow G1⟩
    | false =>
      rw [if_neg Bool.false_ne_true] at h ⊢
      exact ⟨env, s1, ρ1, r, E.grow S G1, S1, h, q.grow G1⟩
end IL
namespace IL
open PySem PySem.Spec PyProof.Rows L2
section
variable {X : Cx} {J : JP} {a b c : Expr} {pos : Pos} {ia ib : IE} {it : IT}
theorem j_ifExp (hJ : Keeps X.K J) (hc : PT X c (tJT X.K J it)) (ha : PE X a (tJ X.K J ia)) (hb : PE X b (tJ X.K J ib)) : PE X (.IfExp c a b pos) (tJ X.K J (iIf it ia ib)) :=
  PE.imp (pe_ifExp hc ha hb) fun σ H Q ⟨env, st, ρ, z, st', E, S, hj, h, q⟩ => by
    obtain ⟨k, s1, h1, h⟩ := ob_some h
    refine ⟨env, st, ρ, k, s1, E, S, hj, h1, fun H1 ρ1 G1 S1 => ?_⟩
    cases k with
    | true =>
      rw [if_pos rfl]
      exact ⟨env, s1, ρ1, z, st', E.grow S G1, S1, hJ S G1 hj, h, fun v H2 ρ2 G2 S2 R2 => q v H2 ρ2 (G1.trans G2) S2 R2⟩
    | false =>
      rw [if_neg Bool.false_ne_true]
      exact ⟨env, s1, ρ1, z, st', E.grow S G1, S1, hJ S G1 hj, h, fun v H2 ρ2 G2 S2 R2 => q v H2 ρ2 (G1.trans G2) S2 R2⟩
end
end IL

/-! rules for simp, of what may raise; texts of signs -/
namespace IL
open PySem PySem.Spec PyProof.Rows L2 SX
section
variable {st s s1 s2 : Sto} {env : PEnv} {x y z v : PV} {xs ys : List PV} {ia ib ic ie io : IE} {ix iy : IX} {ir : IA} {iq : IXA} {m k n : Nat} {c f : Str} {t : IT}
@[simp] theorem iOk_e : iOk ie env st = ob (ie env st) fun x s => some (.ok x, s) := rfl
@[simp] theorem iOks_e : iOks ir env st = ob (ir env st) fun x s => some (.ok x, s) := rfl
@[simp] theorem iCallX_e {F : FX} : iCallX F ir env st = ob (ir env st) fun xs s => F xs s := rfl
@[simp] theorem iConsX_e : iConsX ix iq env st = ob (ix env st) fun r s => match r with
  | .ok x => ob (iq env s) fun r2 s2 => match r2 with
    | .ok xs => some (.ok (x :: xs), s2)
    | .er c fs => some (.er c fs, s2)
  | .er c fs => some (.er c fs, s) := rfl
@[simp] theorem iTupX_e : iTupX iq env st = ob (iq env st) fun r s => match r with
  | .ok xs => if xs.length ≤ 9000000 then some (.ok (.tup xs), s) else none
  | .er c fs => some (.er c fs, s) := rfl
@[simp] theorem iAsgX_e {g : IG} : iAsgX g ix env st = ob (ix env st) fun r s => match r with
  | .ok x => (match g x env s with
    | some env' => some (.nx env' s)
    | none => none)
  | .er c fs => some (.er env c fs s) := rfl
@[simp] theorem iRetX_e : iRetX ix env st = ob (ix env st) fun r s => match r with
  | .ok x => some (.rt x s)
  | .er c fs => some (.er env c fs s) := rfl
@[simp] theorem iRaise_e {okP : PV → Bool} : iRaise c f okP ie env st = ob (ie env st) fun x s => if okP x then some (.er env c [(f, x)] s) else none := rfl
@[simp] theorem iIfX_e : iIfX t ix iy env st = ob (t env st) fun b s => if b then ix env s else iy env s := rfl
@[simp] theorem okPI_i {i : Int} : okPI (.int i) = decide (i.natAbs < 10 ^ 30) := rfl
@[simp] theorem iExF_e {fs : List (Str × PV)} : iExF fs f env st = (fs.lookup f).map fun x => (x, st) := rfl
@[simp] theorem fIntS_s {a : Str} : fIntS (.str a) st = if a.length ≤ 640 then (PySem.intText? a).map fun n => (.int n, st) else none := rfl
@[simp] theorem fIntS_i {i : Int} : fIntS (.int i) st = some (.int i, st) := rfl
@[simp] theorem iEnumT_e : iEnumT ir env st = ob (ir env st) fun xs s => match xs with
  | [.str x] => some (srcEnT x, s)
  | _ => none := rfl
theorem defX_rt {nN : Nat} {b : IS} (hl : xs.length = n) (h : b (xs.map some ++ List.replicate (nN - n) none) st = some (.rt v s)) : iDefX n nN b xs st = some (.ok v, gcS st s v) := by
  unfold iDefX
  rw [if_pos hl, h]
theorem defX_er {nN : Nat} {b : IS} {e : PEnv} {fs : List (Str × PV)} (hl : xs.length = n) (h : b (xs.map some ++ List.replicate (nN - n) none) st = some (.er e c fs s)) : iDefX n nN b xs st = some (.er c fs, s) := by
  unfold iDefX
  rw [if_pos hl, h]
/-- the value has no number: the store is as it was -/
theorem defX_pure {nN : Nat} {b : IS} {l : Sto} (hl : xs.length = n) (h : b (xs.map some ++ List.replicate (nN - n) none) st = some (.rt v (st ++ l))) (hv : nr v = true) : iDefX n nN b xs st = some (.ok v, st) := by
  rw [defX_rt hl h, gc_app (rlt_nr _ hv)]
theorem defX_pure0 {nN : Nat} {b : IS} (hl : xs.length = n) (h : b (xs.map some ++ List.replicate (nN - n) none) st = some (.rt v st)) (hv : nr v = true) : iDefX n nN b xs st = some (.ok v, st) := by
  rw [defX_rt hl h, gc_id (rlt_nr _ hv)]
theorem set_last {a b : SO} : (st ++ [a]).set st.length b = st ++ [b] := by
  have := List.set_append_right (s := st) (t := [a]) st.length b (Nat.le_refl _)
  rw [this]
  simp
end
/-! ### texts -/
section
variable {st : Sto} {l : List Nat}
theorem cut_SX (lo hi : Nat) : cutS (S l) (some (lo : Int)) (some (hi : Int)) = S ((l.drop lo).take (hi - lo)) := by
  unfold cutS
  rw [HT.sIx_nat, HT.sIx_nat, S_len]
  refine congrArg S ?_
  show (l.drop (min lo l.length)).take (min hi l.length - min lo l.length) = _
  by_cases h : lo ≤ l.length
  · rw [Nat.min_eq_left h]
    by_cases h2 : hi ≤ l.length
    · rw [Nat.min_eq_left h2]
    · rw [show min hi l.length = l.length by omega]
      rw [List.take_of_length_le (by rw [List.length_drop]; omega), List.take_of_length_le (by rw [List.length_drop]; omega)]
  · rw [show min lo l.length = l.length by omega]
    rw [List.drop_eq_nil_of_le (Nat.le_refl _), List.drop_eq_nil_of_le (by omega)]
    simp
theorem fSl_SX {lo hi : Nat} (hl : l.length ≤ 9000000) : fSl (.str (S l)) (some (lo : Int)) (some (hi : Int)) st = some (.str (S ((l.drop lo).take (hi - lo))), st) := by
  show (if (S l).length ≤ 9000000 then some (PV.str (cutS (S l) (some (lo : Int)) (some (hi : Int))), st) else none) = _
  rw [S_len, if_pos hl, cut_SX]
/-- one sign -/
theorem fSl_1 {p q : Int} {i : Nat} (hl : l.length ≤ 9000000) (hp : p = (i : Int)) (hq : q = ((i + 1 : Nat) : Int)) : fSl (.str (S l)) (some p) (some q) st = some (.str (S ((l.drop i).take 1)), st) := by
  rw [hp, hq, fSl_SX hl, show i + 1 - i = 1 by omega]
theorem fSl_to {p : Int} {i : Nat} (hl : l.length ≤ 9000000) (hp : p = (i : Int)) : fSl (.str (S l)) none (some p) st = some (.str (S (l.take i)), st) := by
  show (if (S l).length ≤ 9000000 then some (PV.str (cutS (S l) none (some p)), st) else none) = _
  rw [S_len, if_pos hl, hp]
  unfold cutS
  rw [HT.sIx_nat, HT.sIx_none, S_len]
  have e : (l.drop 0).take (min i l.length - 0) = l.take i := by
    rw [List.drop_zero, Nat.sub_zero]
    by_cases h : i ≤ l.length
    · rw [Nat.min_eq_left h]
    · rw [show min i l.length = l.length by omega, List.take_of_length_le (Nat.le_refl _), List.take_of_length_le (by omega)]
  show some (PV.str (S ((l.drop 0).take (min i l.length - 0))), st) = _
  rw [e]
theorem fSl_from {p : Int} {i : Nat} (hl : l.length ≤ 9000000) (hp : p = (i : Int)) : fSl (.str (S l)) (some p) none st = some (.str (S (l.drop i)), st) := by
  show (if (S l).length ≤ 9000000 then some (PV.str (cutS (S l) (some p) none), st) else none) = _
  rw [S_len, if_pos hl, hp]
  unfold cutS
  rw [HT.sIx_nat, HT.sIx_none, S_len]
  have e : (l.drop (min i l.length)).take (l.length - min i l.length) = l.drop i := by
    by_cases h : i ≤ l.length
    · rw [Nat.min_eq_left h, List.take_of_length_le (by rw [List.length_drop]; omega)]
    · rw [show min i l.length = l.length by omega, List.drop_eq_nil_of_le (Nat.le_refl _), List.drop_eq_nil_of_le (by omega)]
      simp
  show some (PV.str (S ((l.drop (min i l.length)).take (l.length - min i l.length))), st) = _
  rw [e]
/-- good for == -/
def okL (l : List Nat) : Prop := ∀ c ∈ l, c < 1114112
theorem okL_iff : PyData.strOk (S l) = true ↔ okL l := ok_iff
theorem okL.drop (h : okL l) (i : Nat) : okL (l.drop i) := fun c hc => h c (List.mem_of_mem_drop hc)
theorem okL.take (h : okL l) (i : Nat) : okL (l.take i) := fun c hc => h c (List.mem_of_mem_take hc)
theorem okL.app {m : List Nat} (h : okL l) (h2 : okL m) : okL (l ++ m) := fun c hc => (List.mem_append.mp hc).elim (h c) (h2 c)
theorem eqP_SX {a b : List Nat} (ha : okL a) (hb : okL b) : eqP st (.str (S a)) (.str (S b)) = some (decide (a = b)) := by
  rw [eqP_s, okL_iff.mpr ha, okL_iff.mpr hb]
  simp only [Bool.and_self, if_true]
  rw [S_beq_eq]
/-- the first sign is c -/
theorem eqP_hd {c : Nat} {b : Str} (hb : b = S [c]) (hc : c < 1114112) (h : okL l) : eqP st (.str (S (l.take 1))) (.str b) = some (decide (l.head? = some c)) := by
  rw [hb, eqP_SX (h.take 1) (fun d hd => by rw [List.mem_singleton] at hd; rw [hd]; exact hc)]
  cases l with
  | nil => simp
  | cons d r => simp
/-- lo <= the first sign <= hi -/
theorem ltS_hd_lo {c : Nat} {b : Str} (hb : b = S [c]) : ltS (S (l.take 1)) b = (match l.head? with
  | some d => decide (d < c)
  | none => true) := by
  subst hb
  cases l with
  | nil => rfl
  | cons d r => exact ltS_lo d c
theorem ltS_hd_hi {c : Nat} {b : Str} (hb : b = S [c]) : ltS b (S (l.take 1)) = (match l.head? with
  | some d => decide (c < d)
  | none => false) := by
  subst hb
  cases l with
  | nil => rfl
  | cons d r => exact ltS_lo c d
end
end IL

/-! x in a tuple of data of any depth -/
namespace IL
open PySem PySem.Spec PyProof.Rows L2 SX
def rInDT (K : PySem.W.Frag) : R2 := fun x y H Q => ∃ d ds, Dp K H x d ∧ Dp K H y (.tuple ds) ∧ SeqAt.shaped d = true ∧ SeqAt.shaped (.tuple ds) = true ∧ Q (.bl (ds.any fun z => PyData.eqv z d)) H
theorem op_inDT {X : Cx} (hu : X.A.units + 65 < cLine) : OpR X (compareOp .In) (rInDT X.K) := by
  intro pins s σ H x y v u Q I rx ry h
  obtain ⟨d, ds, hd, he, sd, se, q⟩ := h
  obtain ⟨as, r1⟩ := Dp.reads I d x v hd rx
  obtain ⟨bs, r2⟩ := Dp.reads I (.tuple ds) y u he ry
  exact SeqAt.in_tuple_reads r2 r1 (SeqAt.canLay_of_shaped se) (SeqAt.canLay_of_shaped sd) (room_in_shaped sd hu) ⟨.bl _, H, I, rfl, q⟩
def inT (st : Sto) (x y : PV) : Option Bool := match toD st 70 x, toD st 70 y with
  | some d, some (.tuple ds) => if SeqAt.shaped d && SeqAt.shaped (.tuple ds) then some (ds.any fun z => PyData.eqv z d) else none
  | _, _ => none
def inC (st : Sto) (x y : PV) : Option Bool := match inB st x y with
  | some b => some b
  | none => inT st x y
def fInC : F2 := fun x y st => (inC st x y).map fun b => (.bl b, st)
def rInC (K : PySem.W.Frag) : R2 := fun x y H Q => rInAll K x y H Q ∨ rInDT K x y H Q
theorem op_inC {X : Cx} (hu : X.A.units + 65 < cLine) : OpR X (compareOp .In) (rInC X.K) := OpR.or (op_inAll (by omega)) (op_inDT hu)
theorem f_inC {K : PySem.W.Frag} : OpI K (rInC K) fInC := by
  intro H ρ st x y vx vy z st' Q S Rx Ry h q
  obtain ⟨b, e, hz⟩ := map_some h
  unfold inC at e
  split at e
  · rename_i b' e1
    cases e
    refine .inl (f_inB H ρ st x y vx vy z st' Q S Rx Ry ?_ q)
    unfold fInB
    rw [e1]
    exact congrArg some hz
  · cases hz
    unfold inT at e
    split at e
    · rename_i d ds e1 e2
      split at e
      · rename_i hs
        rw [Bool.and_eq_true] at hs
        cases e
        exact .inr ⟨d, ds, toD_dp S _ _ _ _ Rx e1, toD_dp S _ _ _ _ Ry e2, hs.1, hs.2, q (.bl _) H ρ Grow.refl S (by unfold Rep; rfl)⟩
      · cases e
    · cases e
@[simp] theorem fInC_e {st : Sto} {x y : PV} : fInC x y st = (inC st x y).map fun b => (.bl b, st) := rfl
@[simp] theorem inC_s {st : Sto} {a : Str} {ys : List PV} {ws : List V} (h : mapO flatP ys = some ws) : inC st (.str a) (.tup ys) = some (inV (.str a) ws) := by
  unfold inC
  rw [inB_st, h]
  rfl
theorem inC_B {st : Sto} {x y : PV} {b : Bool} (h : inB st x y = some b) : inC st x y = some b := by
  unfold inC
  rw [h]
end IL
namespace IL
open PySem PySem.Spec PyProof.Rows L2 SX
/-! ### "a" * k, k up to 1, too -/
def fMulA : F2 := fun x y st => match fMul x y st with
  | some r => some r
  | none => match x, y with
    | .str a, .int k => if -1000 ≤ k ∧ k ≤ 1 then some (.str (Txt.mul a k), st) else none
    | _, _ => none
def rMulS1 : R2 := fun x y H Q => ∃ a k, x = .str a ∧ y = .int k ∧ (-1000 ≤ k ∧ k ≤ 1) ∧ Q (.str (Txt.mul a k)) H
theorem op_mulS1 {X : Cx} : OpR X (binaryOp .Mult) rMulS1 := by
  intro pins s σ H x y v u Q I rx ry h
  obtain ⟨a, k, rfl, rfl, ⟨h0, h1⟩, q⟩ := h
  obtain ⟨t, rfl⟩ := rx
  obtain ⟨t', rfl⟩ := ry
  have hk : ¬ k < 1 → (k == 1 || a.length == 0) = false → False := fun h2 h3 => by
    have : k = 1 := by omega
    subst this
    simp at h3
  refine PySem.SB.mul ⟨?_, fun h2 h3 => (hk h2 h3).elim, fun h2 h3 => (hk h2 h3).elim⟩ fun tk k' => ⟨.str _, H, I.tok _, ⟨_, rfl⟩, q⟩
  rw [decide_eq_false (by omega), decide_eq_false (by omega)]; rfl
def rMulA (K : PySem.W.Frag) : R2 := fun x y H Q => rMul K x y H Q ∨ rMulS1 x y H Q
theorem op_mulA {X : Cx} : OpR X (binaryOp .Mult) (rMulA X.K) := OpR.or op_mulI op_mulS1
theorem f_mulA {K : PySem.W.Frag} : OpI K (rMulA K) fMulA := by
  intro H ρ st x y vx vy z st' Q S Rx Ry h q
  unfold fMulA at h
  split at h
  · rename_i r e
    exact .inl (f_mul H ρ st x y vx vy z st' Q S Rx Ry (e.trans h) q)
  · cases x with
    | str a =>
      cases y with
      | int k =>
        simp only at h
        split at h
        · rename_i hk
          cases h
          unfold Rep at Rx Ry
          exact .inr ⟨a, k, Rx, Ry, hk, q _ H ρ Grow.refl S (by unfold Rep; rfl)⟩
        · cases h
      | _ => cases h
    | _ => cases h
@[simp] theorem fMulA_i {m n : Int} {st : Sto} : fMulA (.int m) (.int n) st = if cMul m n then some (.int (m * n), st) else none := by
  unfold fMulA
  rw [fMul_i]
  cases cMul m n <;> rfl
theorem fMulA_s {a : Str} {k : Int} {st : Sto} (h : cRep a.length k = true) : fMulA (.str a) (.int k) st = some (.str (repStr a k.toNat), st) := by
  have : fMul (.str a) (.int k) st = some (.str (repStr a k.toNat), st) := by
    show (if cRep a.length k then some (PV.str (repStr a k.toNat), st) else none) = _
    rw [h]
    rfl
  unfold fMulA
  rw [this]
theorem fMulA_s1 {a : Str} {k : Int} {st : Sto} (h0 : -1000 ≤ k) (h1 : k ≤ 1) : fMulA (.str a) (.int k) st = some (.str (Txt.mul a k), st) := by
  have hc : cRep a.length k = false := by
    rw [Bool.eq_false_iff]
    intro h
    have := cRep_of h
    omega
  have : fMul (.str a) (.int k) st = none := by
    show (if cRep a.length k then some (PV.str (repStr a k.toNat), st) else none) = _
    rw [hc]
    rfl
  unfold fMulA
  rw [this]
  show (if -1000 ≤ k ∧ k ≤ 1 then some (PV.str (Txt.mul a k), st) else none) = _
  rw [if_pos ⟨h0, h1⟩]
end IL

set_option maxHeartbeats 2000000
/-! iterators of tuples at their end, where an exception is handled -/
namespace IL
open PySem PySem.Spec PyProof.Rows L2 HotX
section
variable {prog : Program} {w : World} {A : Around} {E : Value → Shared → Prop} {s : Shared}
theorem tuple_over_hot {it t x1 : Addr} {k : Nat} {row : Array Value} {R : Option Value → Shared → Prop} (hot : HotAt A x1 s.heap) (walk : s.heap.IsTupleIter it t k) (seq : s.heap.IsTuple t row) (over : row[k]? = none) (apart : x1 ≠ it)
    (fin : ∀ h', Heap.ExtBut it s.heap h' → R none { s with heap := h' }) : wpAny (model prog w) A (pyNext (.ref it)) R E s := by
  obtain ⟨oi, gi, ci, di⟩ := id walk
  obtain ⟨ot, gt, _, nt, dt⟩ := seq
  obtain ⟨hand, ox, vx, gx, dx, cx⟩ := hot
  have slot := F.slot_tuple_iterator_next
  unfold pyNext
  refine wpAny_bind (wpAny_attempt (wpAny_callSpecial?_slot (name := Str.ofString "__next__") walk.typeIs slot (wpAny_call_entry slot walk.typeIs F.entry_tuple_iterator_next ?_ (F.args_tuple_iterator_next_1 _))))
  show wpAny _ _ (field (Value.ref it) 0 >>= _) _ _ s
  refine wpAny_bind (wpAny_field gi di (x := Value.ref t) rfl ?_)
  show wpAny _ _ (if (Value.ref t == Value.none) = true then _ else _) _ _ _
  rw [if_neg (by exact Bool.false_ne_true)]
  show wpAny _ _ (field (Value.ref it) 1 >>= _) _ _ s
  refine wpAny_bind (wpAny_field gi di (x := Value.int k 0) rfl ?_)
  show wpAny _ _ (seqItems? (Value.ref t) >>= _) _ _ s
  refine wpAny_bind (wpAny_seqItems gt dt ?_)
  simp only [over, Int.toNat_natCast]
  refine wpAny_bind (wpAny_rule (wpAny_bind (wpAny_setField gi di (by simp) (?_ : wpAny _ _ (newExc (.type "StopIteration") [] >>= _) _ _ _))))
  refine wpAny_bind ?_
  simp only [newTuple, newExc]
  refine wpAny_bind (wpAny_newObj_type (wpAny_bind (m := firstArgMember _ _) (wpAny_of_eq (a := Value.none) (by first | rfl | (simp only [firstArgMember]; rfl)) (wpAny_newObj_type ?_ (by size_fits)))) (by size_fits))
  have gx2 := (Heap.get?_update_other s.heap (Obj.mapFields (·.setIfInBounds 0 Value.none)) (Ne.symm apart)).trans gx
  have gx3 := Heap.get?_push_of_some { cls := .type "tuple", data := .seq #[] } gx2
  refine raiseNew_hot ⟨hand, ox, vx, Heap.get?_push_of_some _ gx3, dx, cx⟩ (Nat.ne_of_lt (Heap.lt_size gx3)) (Heap.get?_push_size _ rfl) rfl (by simp; omega) ?_
  refine wpAny_bind (wpAny_isInstance (T := "StopIteration") (b := true) ⟨_, Heap.get?_update_self _ (Heap.get?_push_size _ rfl) rfl, rfl⟩ isSubtype_stop (wpAny_pure (fin _ fun b o hb e => ?_)))
  have e3 := Heap.get?_push_of_some { cls := .type "tuple", data := .seq #[] } ((Heap.get?_update_other s.heap (Obj.mapFields (·.setIfInBounds 0 Value.none)) (Ne.symm hb)).trans e)
  exact (Heap.get?_update_other _ _ (Nat.ne_of_gt (Heap.lt_size e3))).trans (Heap.get?_push_of_some _ e3)
end
open L2H
/-- a walk over a tuple there -/
theorem turn_tupH {P : Program} {w : World} {K : PySem.W.Frag} {tg : Expr} (a it : Addr) : TurnH P w K tg (Itt K a) [it] it (fun i h => h.IsTupleIter it a i) := by
  refine ⟨by simp, fun i h st b hb => ?_, fun i h h' st k => st.at fun o e => k it (by simp) o e, ?_, ?_, fun _ _ _ _ _ st h => wpAny_pyIter_tupleiter st h⟩
  · rw [List.mem_singleton] at hb
    subst hb
    obtain ⟨o, e, _, d⟩ := st
    exact ⟨o, e, fun v z => by rw [d] at z; cases z⟩
  · intro X eP ew eK hc i pins s σ H E I hf st hg
    subst eP ew eK
    obtain ⟨xs, x, hq, hx⟩ := hg
    obtain ⟨its, rv, tup, _⟩ := I.tuple hq
    obtain ⟨u, hu, ru⟩ := rv.get hx
    obtain ⟨n0, n1, _, n3, n4, n5⟩ := hf it (by simp)
    refine wpAny_pyNext_tuple_item st (show s.heap.IsTuple a its.toArray from tup) (x := u) (by simpa using hu) fun h2 st2 same => ?_
    have J : Inv X pins σ H { s with heap := h2 } := I.turned (t' := s.toks) (fun b o hb e => (same.2 b hb).trans e) n0 n1 n3 n4 n5
    obtain ⟨o, e, c, d⟩ := id st2
    refine ⟨u, rfl, go_of (s := { s with heap := h2 }) e c d (by decide) ⟨x, H, J, ru, ⟨rfl, fun ys hy => ?_⟩, st2, fun b hb => (hf b hb).1⟩⟩
    rw [I.tuple_inj hy hq]
    exact hx
  · intro X eP ew eK hc i pins s σ H E I hf st hg
    subst eP ew eK
    obtain ⟨xs, hq, hx⟩ := hg
    obtain ⟨its, rv, tup, _⟩ := I.tuple hq
    obtain ⟨n0, n1, _, n3, n4, n5⟩ := hf it (by simp)
    obtain ⟨p, ⟨hand, vs, ep, cp⟩, hp⟩ := hc
    have hl := rv.length
    have gp := (I.pin p (List.mem_append_left _ hp)).1
    have apart : p.1 ≠ it := n5 p (List.mem_append_left _ hp)
    exact tuple_over_hot ⟨hand, p.2, vs, gp, ep, cp⟩ st (show s.heap.IsTuple a its.toArray from tup) (by simp; omega) apart fun h2 eb => ⟨rfl, I.turned (t' := s.toks) (fun b o hb e => eb b o hb e) n0 n1 n3 n4 n5⟩
theorem pi_tupH {X : Cx} {tg l : Expr} {tl : TE} (hl : PE X l tl) : PIH X tg l (L2.iTup X.K tl) := by
  constructor
  intro pins s σ H R I h
  refine thn (hl.run pins s σ H _ I h) fun v s1 ⟨x, H1, I1, r1, a, e, ⟨xs, hq⟩, q⟩ => ?_
  subst e
  cases r1
  obtain ⟨its, _, tup, _⟩ := I1.tuple hq
  refine wpAny_pyIter_tuple (show s1.heap.IsTuple a its.toArray from tup) ⟨s1.heap.objs.size, [s1.heap.objs.size], _, _, H1, rfl, I1.kept (t' := s1.toks) fun b o e => Heap.get?_push_of_some _ e, turn_tupH a _, ⟨_, Heap.get?_push_size _ rfl, rfl, rfl⟩, fun b hb => ?_, q⟩
  rw [List.mem_singleton] at hb
  subst hb
  exact I1.fpOk (Nat.le_refl _) (I1.hok.fresh (Nat.le_refl _))
end IL

set_option maxHeartbeats 2000000
/-! a comprehension's block that keeps the pins of what is around it -/
namespace IL
open PySem PySem.Spec PyProof.Rows L2 HotX L2H
/-- the block of a comprehension, with the pins around it -/
abbrev blkP (X : Cx) (s : Shared) (H : Hp) (scope : Scope) (cenv : PySem.Env) (fp : List Addr) : Cx := { X.blk s H scope cenv fp with pn := X.pn }
theorem blk_pins {X : Cx} {pins : List (Addr × Obj)} {σ σ' : L2.St} {H : Hp} {s s' : Shared} {scope : Scope} {cenv : PySem.Env} {fp : List Addr} (I : Inv X pins σ H s) (J : Inv (X.blk s H scope cenv fp) [] σ' H s') (kp : ∀ b o, s.heap.get? b = some o → s'.heap.get? b = some o) (hL : cenv.locals = s.heap.objs.size) :
    Inv (blkP X s H scope cenv fp) [] σ' H s' := by
  have k := J.ok
  refine ⟨⟨k.mod, k.kind, k.glob, k.blt, k.above, k.inj, k.has, k.cab, k.hd, k.frames, k.stk, k.exf, k.bs, k.bsz, k.noex, k.exfs, k.funs, k.frf⟩, J.os, J.bare, J.base, J.loc, J.cell, J.free, J.freeC, fun p hp => ?_, J.hok, J.len⟩
  have hp' : p ∈ X.pn := by simpa using hp
  have q := I.pin p (List.mem_append_left _ hp')
  refine ⟨kp _ _ q.1, q.2.1, ?_, ?_, q.2.2.2.2⟩
  · show p.1 ≠ cenv.locals
    rw [hL]
    exact Nat.ne_of_lt (Heap.lt_size q.1)
  · exact fun hm => (List.mem_cons.mp (I.stkSub p.1 hm)).elim q.2.2.1 q.2.2.2.1
theorem hot_blk {X : Cx} {s : Shared} {H : Hp} {scope : Scope} {cenv : PySem.Env} {fp : List Addr} (h : HotC X) : HotC (blkP X s H scope cenv fp) := h
end IL

set_option maxHeartbeats 2000000
/-! a comprehension where an exception is handled -/
namespace IL
open PySem PySem.Spec PyProof.Rows L2 HotX L2H
section
variable {X : Cx}
theorem lc_hot {pins : List (Addr × Obj)} {s : Shared} {σ : L2.St} {H : Hp} {Q : VK} {elt tg iter : Expr} {ifs : List Expr} {scope : Scope} {own : List (Str × Nat)} {pos pos' : Pos} {wi : TI} {g : TG} {tt : TT} {te : TE} {use : Option (Value → Sem Unit)} {Qf : Value → Shared → Prop}
    (hot : HotC X) (nd : X.N.Nodup) (Iv : Inv X pins σ H s) (walk : PIH X tg iter wi) (ok : BlkOk X.N X.env.scope scope own)
    (gg : ∀ (s : Shared) (H : Hp) (C : Addr) (cl : List (Str × Addr)) (fp : List Addr), PG (blkP X s H scope (compEnvC scope cl C X.env) fp) tg g) (gt : ∀ (s : Shared) (H : Hp) (C : Addr) (cl : List (Str × Addr)) (fp : List Addr), PTs (blkP X s H scope (compEnvC scope cl C X.env) fp) ifs tt)
    (ge : ∀ (s : Shared) (H : Hp) (C : Addr) (cl : List (Str × Addr)) (fp : List Addr), PE (blkP X s H scope (compEnvC scope cl C X.env) fp) elt te) (fold : ∀ x, foldedSetIterable iter X.env x = pure x)
    (wish : tLc wi g tt te (own.map (·.2)) σ H Q)
    (after : ∀ D C s' m H', Inv X pins σ H' s' → Q (.ref D) H' → s'.heap.Ns C m → FpOk X pins H' C → compPost (model X.prog X.w) X.A X.xe use Qf (.ref D) C (.ok .next) s') :
    wpAny (model X.prog X.w) X.A (comprehension (.ListComp elt [⟨tg, iter, ifs, 0⟩] scope pos) scope X.env pos' (newList []) false (eval iter X.env) use) Qf X.xe s := by
  have free : ∀ y ∈ scope.names, y.2 = .free → ∃ c, X.env.cells.lookup y.1 = some c := fun y hy e =>
    (ok.free y hy e).elim (fun k => Iv.ok.has _ (.inl k)) fun k => Iv.ok.has _ (.inr k)
  refine wpAny_comprehension_free (use := use) rfl fold (closure_ok free) ok.kind (fun y hy e => by rw [ok.uniq y hy, e]) (thn (walk.run pins s σ H _ Iv wish) fun xv t1 at1 => thn at1 fun itv t2 at2 => ?_)
  obtain ⟨it, fp, tn, J, Ha, e, Ia, T, sta, fra, q⟩ := at2
  subst e
  refine wpAny_newObj_type (newEnv_comp ?_) (by show 0 ≤ sizeLine; decide)
  generalize eD : t2.heap.objs.size = D
  have nD : Ha D = none := Ia.hok.fresh (Nat.le_of_eq eD)
  obtain ⟨W, ⟨m0, w0⟩, turn⟩ := q D nD
  generalize e3 : ({ t2 with heap := t2.heap.push { cls := .type "list", data := .seq ([] : List Value).toArray } } : Shared) = t3
  have Ib : Inv X pins σ (upd Ha D (.lst [])) t3 := by
    subst e3
    refine Ia.laid (t' := t2.toks) (fun b o e => Heap.get?_push_of_some _ e) (Nat.le_of_eq eD) ⟨Nat.zero_le _, [], 0, .nil, ?_⟩
    subst eD
    exact Heap.get?_push_size _ rfl
  have hp3 : t3.heap = t2.heap.push { cls := .type "list", data := .seq ([] : List Value).toArray } := by subst e3; rfl
  have low : ∀ b ∈ fp, b < t2.heap.objs.size := fun b hb => by
    obtain ⟨o, e, _⟩ := T.obj _ _ sta b hb
    exact Heap.lt_size e
  have frb : ∀ b ∈ fp, FpOk X pins (upd Ha D (.lst [])) b ∧ b < t3.heap.objs.size := fun b hb => by
    have lt := low b hb
    constructor
    · refine ⟨?_, (fra b hb).2⟩
      rw [upd_ne (by subst eD; exact Nat.ne_of_lt lt)]
      exact (fra b hb).1
    · rw [hp3, Heap.size_push]
      exact Nat.lt_succ_of_lt lt
  have stb : tn 0 t3.heap := T.keep _ _ _ sta fun b _ o e => by rw [hp3]; exact Heap.get?_push_of_some _ e
  have Ic0 := block_start Ib ok nd frb
  have Ic := blk_pins Ib Ic0 (fun b o e => pushCells_keeps _ _ _ _ (Heap.get?_push_of_some _ e)) rfl
  have pg := gg t3 (upd Ha D (.lst [])) t3.heap.objs.size (cellsFrom (t3.heap.objs.size + 1) scope.names (cloFrom X.env.cells scope.names [])) fp
  have pt := gt t3 (upd Ha D (.lst [])) t3.heap.objs.size (cellsFrom (t3.heap.objs.size + 1) scope.names (cloFrom X.env.cells scope.names [])) fp
  have pe := ge t3 (upd Ha D (.lst [])) t3.heap.objs.size (cellsFrom (t3.heap.objs.size + 1) scope.names (cloFrom X.env.cells scope.names [])) fp
  show codeAny _ _ (.compStart (.ListComp elt [⟨tg, iter, ifs, 0⟩] scope pos) 0 (.ref it) (.ref D) (compEnvC scope (cellsFrom (t3.heap.objs.size + 1) scope.names (cloFrom X.env.cells scope.names [])) t3.heap.objs.size X.env)) (compPost (model X.prog X.w) X.A X.xe use Qf (.ref D) t3.heap.objs.size) { t3 with heap := pushCells (t3.heap.push { cls := .type "dict", data := .dict #[] }) scope.names }
  have nfp : ∀ b ∈ fp, (upd Ha D (.lst [])) b = none := fun b hb => (frb b hb).1.1
  generalize ece : compEnvC scope (cellsFrom (t3.heap.objs.size + 1) scope.names (cloFrom X.env.cells scope.names [])) t3.heap.objs.size X.env = ce at Ic pg pt pe ⊢
  have cL : ce.locals = t3.heap.objs.size := by subst ece; rfl
  generalize eH : upd Ha D (.lst []) = Hb at Ib Ic pg pt pe w0 nfp frb
  generalize e4 : ({ t3 with heap := pushCells (t3.heap.push { cls := .type "dict", data := .dict #[] }) scope.names } : Shared) = t4 at Ic ⊢
  have stc : tn 0 t4.heap := T.keep _ _ _ stb fun b _ o e => by subst e4; exact pushCells_keeps _ _ _ _ (Heap.get?_push_of_some _ e)
  have stat : ∀ {σ' : L2.St} {H' : Hp} {s' : Shared}, Inv (blkP X t3 Hb scope ce fp) [] σ' H' s' → (∀ b ∈ fp, H' b = none) → ∀ b ∈ fp, FpOk (blkP X t3 Hb scope ce fp) [] H' b := fun {σ' H' s'} I' hn b hb =>
    ⟨hn b hb, (I'.ok.exf b hb).1, I'.ok.exfs b hb, .inl hb, fun x c e => (I'.ok.exf b hb).2 x c e, fun p hp => (frb b hb).1.2.2.2.2.2 p (List.mem_append_left _ (by simpa using hp))⟩
  have hotB : HotC (blkP X t3 Hb scope ce fp) := hot_blk hot
  have loop : codeAny (model X.prog X.w) X.A (.compLoop (.ListComp elt [⟨tg, iter, ifs, 0⟩] scope pos) 0 (.ref it) (.ref D) ce) (compPost (model X.prog X.w) X.A X.xe use Qf (.ref D) t3.heap.objs.size) t4 := by
    refine compLoop_any (fun n s' => ∃ i H', Inv (blkP X t3 Hb scope ce fp) [] (wipe σ (own.map (·.2))) H' s' ∧ tn i s'.heap ∧ (∀ b ∈ fp, H' b = none) ∧ W i n H') ?_ m0 ⟨0, Hb, Ic, stc, nfp, w0⟩
    rintro n t5 ⟨i, Hc, Id, std, nd5, w5⟩
    rcases turn i n Hc w5 with ⟨stop, qq⟩ | ⟨go, Nx, hNx, step⟩
    · refine thnF (T.done (blkP X t3 Hb scope ce fp) rfl rfl rfl hotB i [] t5 _ Hc (fun _ _ => False) Id (stat Id nd5) std stop) fun r t6 ⟨hr, If⟩ => ?_
      subst hr
      have Ig : Inv X pins σ Hc t6 := Ib.call' (ch := fp) If.os If.base If.hok If.bare fun b hb => ⟨(frb b hb).1.2.2.2.1, (frb b hb).1.2.1, (frb b hb).1.2.2.2.2.1, (frb b hb).1.2.2.2.2.2⟩
      have nC : Hc t3.heap.objs.size = none := cL ▸ (If.free : Hc ce.locals = none)
      obtain ⟨m, ns, _⟩ := If.loc
      have ns' : t6.heap.Ns t3.heap.objs.size m := cL ▸ (ns : t6.heap.Ns ce.locals m)
      exact after D _ t6 m Hc Ig qq ns' (Ib.fpOk (Nat.le_refl _) nC)
    · refine thnF (T.item (blkP X t3 Hb scope ce fp) rfl rfl rfl hotB i [] t5 _ Hc (fun _ _ => False) Id (stat Id nd5) std go) fun r t6 ⟨u, hr, at6⟩ => ?_
      subst hr
      refine thnF at6 fun _ t7 ⟨x, He, If, rx, yx, stf, nf⟩ => ?_
      have If' := If.pinned (stat If nf) (T.obj _ _ stf)
      refine thnF (pg.run _ t7 _ He x u _ If' rx (step x He yx)) fun _ t8 ⟨σ8, Hg, Ig, wp8, q8⟩ => ?_
      refine thnF (pt.run _ t8 σ8 Hg _ Ig q8) fun b t9 ⟨Hh, Ih, q9⟩ => ?_
      have over : ∀ {s' : Shared} {H' : Hp}, Inv (blkP X t3 Hb scope ce fp) ([] ++ pinsAt fp t7.heap) σ8 H' s' → Nx H' → ∃ m, m < n ∧ ∃ i H', Inv (blkP X t3 Hb scope ce fp) [] (wipe σ (own.map (·.2))) H' s' ∧ tn i s'.heap ∧ (∀ b ∈ fp, H' b = none) ∧ W i m H' := fun {s' H'} I' nx => by
        obtain ⟨m', lt, w'⟩ := hNx H' nx
        have stays : ∀ b ∈ fp, ∀ o, t7.heap.get? b = some o → s'.heap.get? b = some o ∧ H' b = none := fun b hb o e =>
          have z := I'.pin (b, o) (List.mem_append_right _ (List.mem_append_right _ (mem_pinsAt hb e)))
          ⟨z.1, z.2.1⟩
        refine ⟨m', lt, i + 1, H', (I'.unpinned (pins := [])).weak (by rw [← wp8, wipe_length]) (fun j v e => ?_), T.keep _ _ _ stf fun b hb o e => (stays b hb o e).1, fun b hb => ?_, w'⟩
        · rw [← wp8] at e
          exact (wipe_some e).1
        · obtain ⟨o, e, _⟩ := T.obj _ _ stf b hb
          exact (stays b hb o e).2
      cases b with
      | false =>
        simp only [if_false, Bool.false_eq_true] at q9 ⊢
        exact over Ih q9
      | true =>
        simp only [if_true] at q9 ⊢
        refine thnF (pe.run _ t9 σ8 Hh _ Ih q9) fun z t10 ⟨yv, Hi, Ii, ry, acc, hD, hz, nx⟩ => ?_
        exact app_ok (X := blkP X t3 Hb scope ce fp) Ii hD hz ry fun t11 Ij => over Ij nx
  exact codeAny_compStart_list loop (T.self X.A 0 _ _ _ stc loop)
/-- as a value -/
theorem pe_lcH {elt tg iter : Expr} {ifs : List Expr} {scope : Scope} {own : List (Str × Nat)} {pos : Pos} {wi : TI} {g : TG} {tt : TT} {te : TE} (hot : HotC X) (nd : X.N.Nodup) (walk : PIH X tg iter wi) (ok : BlkOk X.N X.env.scope scope own)
    (gg : ∀ (s : Shared) (H : Hp) (C : Addr) (cl : List (Str × Addr)) (fp : List Addr), PG (blkP X s H scope (compEnvC scope cl C X.env) fp) tg g) (gt : ∀ (s : Shared) (H : Hp) (C : Addr) (cl : List (Str × Addr)) (fp : List Addr), PTs (blkP X s H scope (compEnvC scope cl C X.env) fp) ifs tt)
    (ge : ∀ (s : Shared) (H : Hp) (C : Addr) (cl : List (Str × Addr)) (fp : List Addr), PE (blkP X s H scope (compEnvC scope cl C X.env) fp) elt te) (fold : ∀ x, foldedSetIterable iter X.env x = pure x := by intro _; rfl) :
    PE X (.ListComp elt [⟨tg, iter, ifs, 0⟩] scope pos) (tLc wi g tt te (own.map (·.2))) := by
  constructor
  intro pins s σ H Q I h
  rw [eval_ListComp]
  refine lc_hot hot nd I walk ok gg gt ge fold h fun D C s' m H' I' q hn ⟨f0, f1, _, f3, f4, f5⟩ => ⟨m, hn, fun h2 same => ?_⟩
  exact ⟨.ref D, H', I'.turned (t' := s'.toks) (fun b o hb e => (same.2 b hb).trans e) f0 f1 f3 f4 f5, rfl, q⟩
end
end IL

set_option maxHeartbeats 2000000
/-! all(xs) of a list where an exception is handled -/
namespace IL
open PySem PySem.Spec PyProof.Rows L2 HotX L2H
section
variable {prog : Program} {w : World} {A : Around} {E : Value → Shared → Prop} {s : Shared}
theorem list_over_hot {it t x1 : Addr} {k : Nat} {row : Array Value} {R : Option Value → Shared → Prop} (hot : HotAt A x1 s.heap) (walk : s.heap.IsListIter it t k) (seq : s.heap.IsList t row) (over : row[k]? = none) (apart : x1 ≠ it)
    (fin : ∀ h', Heap.ExtBut it s.heap h' → R none { s with heap := h' }) : wpAny (model prog w) A (pyNext (.ref it)) R E s := by
  obtain ⟨oi, gi, ci, di⟩ := id walk
  obtain ⟨ot, gt, _, nt, dt⟩ := seq
  obtain ⟨hand, ox, vx, gx, dx, cx⟩ := hot
  have slot := slot_listiter_next
  unfold pyNext
  refine wpAny_bind (wpAny_attempt (wpAny_callSpecial?_slot (name := Str.ofString "__next__") walk.typeIs slot (wpAny_call_entry slot walk.typeIs entry_listiter_next ?_ (args_listiter_next _))))
  show wpAny _ _ (field (Value.ref it) 0 >>= _) _ _ s
  refine wpAny_bind (wpAny_field gi di (x := Value.ref t) rfl ?_)
  show wpAny _ _ (if (Value.ref t == Value.none) = true then _ else _) _ _ _
  rw [if_neg (by exact Bool.false_ne_true)]
  show wpAny _ _ (field (Value.ref it) 1 >>= _) _ _ s
  refine wpAny_bind (wpAny_field gi di (x := Value.int k 0) rfl ?_)
  show wpAny _ _ (seqItems? (Value.ref t) >>= _) _ _ s
  refine wpAny_bind (wpAny_seqItems gt dt ?_)
  simp only [over, Int.toNat_natCast]
  refine wpAny_bind (wpAny_rule (wpAny_bind (wpAny_setField gi di (by simp) (?_ : wpAny _ _ (newExc (.type "StopIteration") [] >>= _) _ _ _))))
  refine wpAny_bind ?_
  simp only [newTuple, newExc]
  refine wpAny_bind (wpAny_newObj_type (wpAny_bind (m := firstArgMember _ _) (wpAny_of_eq (a := Value.none) (by first | rfl | (simp only [firstArgMember]; rfl)) (wpAny_newObj_type ?_ (by size_fits)))) (by size_fits))
  have gx2 := (Heap.get?_update_other s.heap (Obj.mapFields (·.setIfInBounds 0 Value.none)) (Ne.symm apart)).trans gx
  have gx3 := Heap.get?_push_of_some { cls := .type "tuple", data := .seq #[] } gx2
  refine raiseNew_hot ⟨hand, ox, vx, Heap.get?_push_of_some _ gx3, dx, cx⟩ (Nat.ne_of_lt (Heap.lt_size gx3)) (Heap.get?_push_size _ rfl) rfl (by simp; omega) ?_
  refine wpAny_bind (wpAny_isInstance (T := "StopIteration") (b := true) ⟨_, Heap.get?_update_self _ (Heap.get?_push_size _ rfl) rfl, rfl⟩ isSubtype_stop (wpAny_pure (fin _ fun b o hb e => ?_)))
  have e3 := Heap.get?_push_of_some { cls := .type "tuple", data := .seq #[] } ((Heap.get?_update_other s.heap (Obj.mapFields (·.setIfInBounds 0 Value.none)) (Ne.symm hb)).trans e)
  exact (Heap.get?_update_other _ _ (Nat.ne_of_gt (Heap.lt_size e3))).trans (Heap.get?_push_of_some _ e3)
theorem HotAt.stays {x1 : Addr} {h h2 : Heap} (hot : HotAt A x1 h) (k : ∀ o, h.get? x1 = some o → h2.get? x1 = some o) : HotAt A x1 h2 := by
  obtain ⟨hand, ox, vx, gx, r⟩ := hot
  exact ⟨hand, ox, vx, k _ gx, r⟩
/-- a walk over a list there -/
theorem walks_hot (it t x1 : Addr) (ne : t ≠ it) (apart : x1 ≠ it) (row : Array Value) :
    Walks prog w A it [it, t, x1] [it] row.size (fun i v => row[i]? = some v) (fun i h => h.IsListIter it t i ∧ h.IsList t row ∧ HotAt A x1 h) := by
  refine ⟨fun b hb => by rw [List.mem_singleton] at hb; simp [hb], fun _ _ _ st k => ⟨st.1.at fun o e => k it (by simp) o e, st.2.1.at fun o e => k t (by simp) o e, HotAt.stays st.2.2 fun o e => k x1 (by simp) o e⟩, fun i s Q E lt st q => ?_, fun s Q E st q => ?_, fun _ _ _ _ st q => wpAny_pyIter_listiter st.1 q⟩
  · refine wpAny_pyNext_list_item st.1 st.2.1 (x := row[i]) (by simp [lt]) fun h2 it2 same => ?_
    exact q _ h2 s.toks (by simp [lt]) ⟨it2, st.2.1.extBut same.extBut ne, HotAt.stays st.2.2 fun o e => same.extBut x1 o apart e⟩ fun b o hb e => same.extBut b o (fun z => hb (by simp [z])) e
  · exact list_over_hot st.2.2 st.1 st.2.1 (by simp) apart fun h2 ext => q h2 s.toks fun b o hb e => ext b o (fun z => hb (by simp [z])) e
end
theorem cr_allH {X : Cx} (hot : HotC X) : CallR X (.builtin "all") (rAll X.K) := by
  intro pins s σ H vs us Q I r h
  obtain ⟨a, bs, rfl, hs, q⟩ := h
  obtain ⟨its, rv, hl, _⟩ := I.list hs
  rw [Vals.ref1 r]
  have bools := rv.bls
  obtain ⟨p, ⟨hand, vx, dp, cp⟩, hp⟩ := hot
  have gp := (I.pin p (List.mem_append_left _ hp)).1
  refine call_all_walk (iter_any hl.isList fun s2 e2 st ne => ?_)
  subst e2
  have apart : p.1 ≠ s.heap.objs.size := Nat.ne_of_lt (Heap.lt_size gp)
  refine ⟨_, _, _, _, _, _, _, rfl, walks_hot (A := X.A.in1) _ a p.1 ne apart its.toArray, ⟨st.1, st.2, hand, p.2, vx, Heap.get?_push_of_some _ gp, dp, cp⟩, truth_bools bools, fun h2 tk keep => ⟨.bl _, H, I.kept fun b o eo => keep b o (fun hm => ?_) (Heap.get?_push_of_some _ eo), ?_, q⟩⟩
  · rw [List.mem_singleton] at hm
    exact absurd (hm ▸ Heap.lt_size eo) (Nat.lt_irrefl _)
  · show Value.bool _ = Value.bool _
    rw [bools, ← L2.all_range, List.size_toArray, List.length_map]
end IL

/-! in an except suite something is handled whose context is None: defs can be called there -/
namespace IL
open PySem PySem.Spec PyProof.Rows L2 HotX L2H
theorem hot_suite {X : Cx} {x : Addr} {ox : Obj} {cls : Value} {d : Option Addr} {pl : List (Addr × Obj)} (z : L2N.Zn cls d ox) (hd : ∃ us, ox.data = .fields us) : HotC (X.suite x ((x, ox) :: pl)) :=
  ⟨(x, ox), ⟨rfl, hd.choose, hd.choose_spec, z.2.2 _ hd.choose_spec⟩, List.mem_cons_self⟩
end IL

/-! defs that are called where an exception is handled -/
namespace IL
open PySem PySem.Spec PyProof.Rows L2 HotX L2H
structure CalH (P : Program) (w : World) (K : PySem.W.Frag) (mg : Str → Option PySem.Value) (base : Heap) (k : Nat) (x : Str) (n : Nat) (f : FA) : Prop where
  ex : ∃ (fa : Addr) (fd : FuncData) (ps : List Str), FnH P w K mg base C8.CX0 k fa fd ps (spI K n f) ∧ mg x = some (.ref fa) ∧ PySem.W.keepIn K (.ref fa) = true ∧ Binds K fd ps []
section
variable {X : Cx} {x : Str} {p pos : Pos} {e : Expr} {es : List Expr} {ir : IA} {k j n : Nat} {F : FA}
theorem h_call (c : CalH X.prog X.w X.K X.mg X.base k x n F) (hn : Ar n F) (hr : RoomH j X.A) (hc : HotC X) (hk : k ≤ j) (hg : Gl X x) (ha : PA X (e :: es) (tIA X.K ir))
    (hdb : (x == ("__debug__" : Str)) = false := by decide) (he : starEach (e :: es) X.env = (false, eval e X.env) :: starEach es X.env := by rfl) (hpl : (backTo pos (starEach es X.env)).any (·.1) = false := by rfl) :
    PE X (.Call (.Name x p) (e :: es) [] pos) (tI X.K (iCall F ir)) := by
  obtain ⟨fa, fd, ps, Fn, hm, kp, b⟩ := c.ex
  refine PE.imp (pe_callH (E := fun _ _ _ _ => False) Fn (hr.mono hk) hc hg hm kp b (fun σ => fun _ _ _ _ _ _ h => h.elim) ha hdb he hpl) fun σ H Q ⟨env, st, ρ, z, st', E, S, h, q⟩ => ?_
  obtain ⟨xs, s1, h1, h⟩ := ob_some h
  exact ⟨env, st, ρ, xs, s1, E, S, h1, fun vs H1 ρ1 G1 S1 R1 => ⟨by rw [← R1.length]; exact hn _ _ _ h, s1, ρ1, xs, z, st', S1, R1, h, fun v H' ρ' G S' R' => q v H' ρ' (G1.trans G) S' R'⟩⟩
theorem roomH_suite {a : Addr} {pn : List (Addr × Obj)} (hr : Room j X.A) : RoomH j (X.suite a pn).A := ⟨hr.dp, hr.un⟩
theorem roomH_suite' {a : Addr} {pn : List (Addr × Obj)} (hr : RoomH j X.A) : RoomH j (X.suite a pn).A := ⟨hr.dp, hr.un⟩
end
theorem cal_H {P : Program} {w : World} {K : PySem.W.Frag} {mg : Str → Option PySem.Value} {base : Heap} {x : Str} {st : Stmt} {f : Addr} {fd : FuncData} {N ps : List Str} {k : Nat} {ib : IS} (F : C8.Def K mg x st f fd) (b : Binds K fd ps []) (S : FnScope N ps (C8.fnScope st))
    (hb : ∀ (cdv : PySem.Value) (A : Around) (outer : List PySem.Env) (s : Shared) (H : Hp) (E : XK) (p : Addr × Obj), Hot1 A p → RoomH k (A.deeper (envOfC x (C8.fnScope st) s.heap.objs.size f cdv)) →
      PSs (cxH C8.CX0 P w K mg base N x (C8.fnScope st) f cdv A outer s H E p) (C8.fnBody st) (tIS K W0 ib)) : CalH P w K mg base (k + 1) x ps.length (iDef ps.length N.length ib) := by
  obtain ⟨oc, od, dV, kV, doc, pm, an, cdv, ct, osl, rfl, lk, hcd⟩ := F.fn.ex
  exact ⟨f, _, ps, fn_ofH lk hcd S (fun vs H Q E h => h.1) fun A outer s H vs Q E p hp hr hsp => ⟨_, hb cdv A outer s H E p hp hr, body_to hsp⟩, F.mgf, F.kp, b⟩
end IL

/-! comprehensions over tuples, as plain functions, where an exception is handled -/
namespace IL
open PySem PySem.Spec PyProof.Rows L2 HotX L2H
theorem PIH.impH {X : Cx} {tg iter : Expr} {t t' : TI} (h : PIH X tg iter t) (i : ∀ σ H R, t' σ H R → t σ H R) : PIH X tg iter t' := ⟨fun pins s σ H R I q => h.run pins s σ H R I (i _ _ _ q)⟩
def iWalkT (ie : IE) : II := fun env st => ob (ie env st) fun x s => match x with
  | .tup xs => some (srcT xs, s)
  | _ => none
section
variable {X : Cx} {e : Expr} {ie : IE} {it : IT}
theorem i_walkH {tg : Expr} (he : PE X e (tI X.K ie)) : PIH X tg e (tII X.K (iWalkT ie)) := PIH.impH (pi_tupH he) fun σ H R ⟨env, s, ρ, src, st', E, S, h, q⟩ => by
  obtain ⟨x, s1, h1, h⟩ := ob_some h
  cases x with
  | tup xs =>
    cases h
    refine ⟨env, s, ρ, _, _, E, S, h1, fun v H1 ρ1 G1 S1 R1 => ?_⟩
    unfold Rep at R1
    obtain ⟨a, vs, rfl, t1, t2⟩ := R1
    exact ⟨a, rfl, ⟨vs, t1⟩, q _ H1 ρ1 G1 S1 (srcT_ok S1 t1 t2)⟩
  | _ => cases h
theorem r_lcH {elt tg iter : Expr} {ifs : List Expr} {scope : Scope} {own : List (Str × Nat)} {pos : Pos} {ii : II} {T : List Nat} {ig : IG} (hot : HotC X) (hN : X.N.Nodup) (hi : PIH X tg iter (tII X.K ii)) (ok : BlkOk X.N X.env.scope scope own)
    (hT : ∀ i ∈ T, i ∈ own.map (·.2))
    (hg : ∀ (s : Shared) (H : Hp) (C : Addr) (cl : List (Str × Addr)) (fp : List Addr), PG (blkP X s H scope (compEnvC scope cl C X.env) fp) tg (tIG X.K T ig)) (ht : ∀ (s : Shared) (H : Hp) (C : Addr) (cl : List (Str × Addr)) (fp : List Addr), PTs (blkP X s H scope (compEnvC scope cl C X.env) fp) ifs (tIT X.K it))
    (he : ∀ (s : Shared) (H : Hp) (C : Addr) (cl : List (Str × Addr)) (fp : List Addr), PE (blkP X s H scope (compEnvC scope cl C X.env) fp) elt (tI X.K ie)) (hs : ∀ x, foldedSetIterable iter X.env x = pure x := by intro _; rfl) :
    PE X (.ListComp elt [⟨tg, iter, ifs, 0⟩] scope pos) (tI X.K (iLc ii ig it ie (own.map (·.2)))) :=
  PE.imp (pe_lcH hot hN hi ok hg ht he hs) fun _ _ _ h => lc_to hT h
end
end IL

/-! pop(), extend, reversed, f-strings, isinstance of one of two types -/
namespace IL
open PySem PySem.Spec PyProof.Rows L2 RT
section
variable {X : Cx} {o e e1 e2 : Expr} {es : List Expr} {ia ib ie : IE} {pos : Pos}
theorem Reps.dropLast {K : PySem.W.Frag} {H : Hp} {ρ : Rho} {xs : List PV} {vs : List V} (r : Reps K H ρ xs vs) : Reps K H ρ xs.dropLast vs.dropLast := by
  rw [List.dropLast_eq_take, List.dropLast_eq_take, ← r.length]
  exact Reps.take _ r
/-- xs.pop() -/
def iPop (io : IE) : IE := fun env st => ob (io env st) fun o s1 => match o with
  | .ref n => match s1[n]? with
    | some (.lst xs) => match xs[xs.length - 1]? with
      | some y => some (y, s1.set n (.lst xs.dropLast))
      | none => none
    | _ => none
  | _ => none
theorem r_pop {apos cpos : Pos} (ho : PE X o (tI X.K ia)) (hbase : attributeBase o "pop" X.env (eval o X.env) = eval o X.env := by rfl) (hline : (apos.endLine == cpos.line) = true := by rfl) :
    PE X (.Call (.Attribute o "pop" apos) [] [] cpos) (tI X.K (iPop ia)) :=
  PE.imp (pe_bm0 PySem.F.plainAttrs_list PySem.F.slot_list_pop PySem.F.type_list_pop mt_pop ho hbase hline) fun σ H Q ⟨env, st, ρ, z, st', E, S, h, q⟩ => by
    obtain ⟨x, s1, h1, h⟩ := ob_some h
    refine ⟨env, st, ρ, x, s1, E, S, h1, fun vx H1 ρ1 G1 S1 R1 => ?_⟩
    split at h
    · rename_i n
      split at h
      · rename_i xs e0
        split at h
        · rename_i y ey
          cases h
          unfold Rep at R1
          obtain ⟨a, rfl, i1⟩ := R1
          obtain ⟨b1, hb1, vs1, h3, r1⟩ := S1.at_ _ _ e0
          rw [i1] at hb1; cases hb1
          have ndd := S1.lv _ _ _ e0 (by simp) i1
          obtain ⟨v, hv, rv⟩ := r1.get ey
          have g : Grow H1 ρ1 (upd H1 a (.lst vs1.dropLast)) ρ1 := grow_write h3 (List.mem_of_getElem? i1) ndd
          refine ⟨.inl ⟨rfl, vs1, .of h3⟩, a, vs1, v, rfl, rfl, h3, by rw [← r1.length]; exact hv, ?_⟩
          exact q v _ ρ1 (G1.trans g) (S1.write (so := .lst xs.dropLast) i1 ndd h3 ⟨_, upd_same, Reps.grow S1 g _ _ r1.dropLast⟩) (Rep.grow S1 g _ _ rv)
        · cases h
      · cases h
    · cases h
/-- xs.extend(ys), both written here -/
def iExtend (io ie : IE) : IE := fun env st => ob (io env st) fun o s1 => match o with
  | .ref n => match s1[n]? with
    | some (.lst _) => ob (ie env s1) fun x s2 => match x with
      | .ref m => match s2[n]?, s2[m]? with
        | some (.lst xs), some (.lst ys) => if xs.length + ys.length ≤ 9000000 then some (.non, s2.set n (.lst (xs ++ ys))) else none
        | _, _ => none
      | _ => none
    | _ => none
  | _ => none
theorem r_extend {apos cpos : Pos} (ho : PE X o (tI X.K ia)) (he : PE X e (tI X.K ib))
    (hbase : attributeBase o "extend" X.env (eval o X.env) = eval o X.env := by rfl)
    (hfew : ((backTo cpos (starEach (e :: []) X.env)).all (fun x => !x.1) && (backToKw cpos (keywordEach [] X.env)).all (fun x => x.1.isSome)
      && decide ((e :: []).length + ([] : List Keyword).length + (if ([] : List Keyword).isEmpty then 0 else 1) < 30)) = true := by rfl)
    (hline : (apos.endLine == cpos.line) = true := by rfl) (hs : starEach (e :: []) X.env = (false, eval e X.env) :: starEach [] X.env := by rfl) (hplain : (backTo cpos (starEach [] X.env)).any (·.1) = false := by rfl) :
    PE X (.Call (.Attribute o "extend" apos) [e] [] cpos) (tI X.K (iExtend ia ib)) :=
  PE.imp (pe_bm PySem.F.plainAttrs_list PySem.F.slot_list_extend PySem.F.type_list_extend mt_extend ho (pa_cons he pa_nil hs) hbase hfew hline hs hplain) fun σ H Q ⟨env, st, ρ, z, st', E, S, h, q⟩ => by
    obtain ⟨x, s1, h1, h⟩ := ob_some h
    refine ⟨env, st, ρ, x, s1, E, S, h1, fun vx H1 ρ1 G1 S1 R1 => ?_⟩
    split at h
    · rename_i n
      split at h
      · rename_i ws e0
        obtain ⟨y, s2, h2, h⟩ := ob_some h
        split at h
        · rename_i m
          split at h
          · rename_i xs ys ex ey
            split at h
            · rename_i hl
              cases h
              unfold Rep at R1
              obtain ⟨a, rfl, i1⟩ := R1
              refine ⟨?_, env, s1, ρ1, .ref m, s2, E.grow S G1, S1, h2, fun vy H2 ρ2 G2 S2 R2 => ?_⟩
              · obtain ⟨b1, hb1, vs1, h3, r1⟩ := S1.at_ _ _ e0
                rw [i1] at hb1; cases hb1
                exact .inl ⟨rfl, vs1, .of h3⟩
              · have i2 := G2.ix i1
                obtain ⟨b1, hb1, vs1, h3, r1⟩ := S2.at_ _ _ ex
                rw [i2] at hb1; cases hb1
                have ndd := S2.lv _ _ _ ex (by simp) i2
                unfold Rep at R2
                obtain ⟨b, rfl, j2⟩ := R2
                obtain ⟨b2, hb2, vs2, h4, r2⟩ := S2.at_ _ _ ey
                rw [j2] at hb2; cases hb2
                have g : Grow H2 ρ2 (upd H2 a (.lst (vs1 ++ vs2))) ρ2 := grow_write h3 (List.mem_of_getElem? i2) ndd
                refine ⟨a, b, vs1, vs2, rfl, rfl, h3, h4, ?_, ?_⟩
                · rw [← r1.length, ← r2.length]
                  exact Nat.le_trans hl (by decide)
                · exact q .non _ ρ2 ((G1.trans G2).trans g) (S2.write (so := .lst (xs ++ ys)) i2 ndd h3 ⟨_, upd_same, Reps.grow S2 g _ _ (r1.append r2)⟩) (by unfold Rep; rfl)
            · cases h
          · cases h
        · cases h
      · cases h
    · cases h
/-- reversed(xs), a list that nobody writes, or a tuple -/
def iRevW (ie : IE) : II := fun env st => ob (ie env st) fun x s => match x with
  | .tup xs => some (srcT xs.reverse, s)
  | .frz xs => some (srcT xs.reverse, s)
  | _ => none
theorem rev_at {xs : List PV} {i : Nat} (h : i < xs.length) : xs.reverse[i]? = xs[xs.length - 1 - i]? := List.getElem?_reverse h
theorem srcRT_ok {K : PySem.W.Frag} {H0 : Hp} {ρ0 : Rho} {st0 : Sto} {xs : List PV} {vs : List V} {a : Addr} (S0 : RepS K H0 ρ0 st0) (h : SqT K H0 a vs) (r : Reps K H0 ρ0 xs vs) : SrcOk K (srcT xs.reverse) (ItvT K a vs.length) H0 ρ0 := fun H ρ st G S i => by
  have h1 := SqT.grow S0 G h
  have r1 := Reps.grow S0 G _ _ r
  have hl := r1.length
  refine ⟨fun hs => ?_, fun x hs => ?_⟩
  · simp only [srcT, Option.some.injEq, List.getElem?_eq_none_iff, List.length_reverse] at hs
    show vs.length ≤ i
    omega
  · simp only [srcT, Option.some.injEq] at hs
    have hi : i < xs.length := by
      have := (List.getElem?_eq_some_iff.mp hs).1
      rwa [List.length_reverse] at this
    rw [rev_at hi] at hs
    obtain ⟨v, hv, r⟩ := r1.get hs
    rw [hl] at hv
    refine ⟨⟨by omega, vs, v, h1, hv⟩, fun w H' y => ?_⟩
    obtain ⟨rfl, y⟩ := y
    have := y vs h1
    rw [hv] at this; cases this
    exact ⟨ρ, Grow.refl, S, r⟩
theorem srcRF_ok {K : PySem.W.Frag} {H0 : Hp} {ρ0 : Rho} {st0 : Sto} {xs : List PV} {vs : List V} {a : Addr} (S0 : RepS K H0 ρ0 st0) (h : FrzAt K H0 ρ0 a vs) (r : Reps K H0 ρ0 xs vs) : SrcOk K (srcT xs.reverse) (Itv K a vs.length) H0 ρ0 := fun H ρ st G S i => by
  have h1 := (h.grow G).sq
  have r1 := Reps.grow S0 G _ _ r
  have hl := r1.length
  refine ⟨fun hs => ?_, fun x hs => ?_⟩
  · simp only [srcT, Option.some.injEq, List.getElem?_eq_none_iff, List.length_reverse] at hs
    show vs.length ≤ i
    omega
  · simp only [srcT, Option.some.injEq] at hs
    have hi : i < xs.length := by
      have := (List.getElem?_eq_some_iff.mp hs).1
      rwa [List.length_reverse] at this
    rw [rev_at hi] at hs
    obtain ⟨v, hv, r⟩ := r1.get hs
    rw [hl] at hv
    refine ⟨⟨by omega, vs, v, h1, hv⟩, fun w H' y => ?_⟩
    obtain ⟨rfl, y⟩ := y
    have := y vs h1
    rw [hv] at this; cases this
    exact ⟨ρ, Grow.refl, S, r⟩
theorem i_revW {tg : Expr} {p : Pos} (hg : Gl X "reversed") (hm : X.mg "reversed" = none) (he : PE X e (tI X.K ie)) (hs : starEach [e] X.env = (false, eval e X.env) :: starEach [] X.env := by rfl) : PI X tg (.Call (.Name "reversed" p) [e] [] pos) (tII X.K (iRevW ie)) :=
  PI.imp (pi_revA hg hm he hs) fun σ H R ⟨env, s, ρ, src, st', E, S, h, q⟩ => by
    obtain ⟨x, s1, h1, h⟩ := ob_some h
    refine ⟨env, s, ρ, _, _, E, S, h1, fun v H1 ρ1 G1 S1 R1 => ?_⟩
    split at h
    · cases h
      unfold Rep at R1
      obtain ⟨a, vs, rfl, t1, t2⟩ := R1
      exact ⟨a, vs, rfl, .inr ⟨t1, q _ H1 ρ1 G1 S1 (srcRT_ok S1 t1 t2)⟩⟩
    · cases h
      unfold Rep at R1
      obtain ⟨a, vs, rfl, t1, t2⟩ := R1
      exact ⟨a, vs, rfl, .inl ⟨t1.sq, q _ H1 ρ1 G1 S1 (srcRF_ok S1 t1 t2)⟩⟩
    · cases h
/-! ### f-strings of texts and ints -/
def txtP : PV → Option Str
  | .str y => if y.length ≤ 9000000 then some y else none
  | .int i => if decide (i.natAbs < 10 ^ 30) = true then some (Str.ofString (toString i)) else none
  | _ => none
def jsI : List IE → Str → PEnv → Sto → Option (Str × Sto)
  | [], acc, _, st => some (acc, st)
  | e :: es, acc, env, st => ob (e env st) fun x s => match txtP x with
    | some y => if acc.length + y.length ≤ 9000000 then jsI es (acc ++ y) env s else none
    | none => none
def iFStr (es : List IE) : IE := fun env st => (jsI es Str.empty env st).map fun r => (.str r.1, r.2)
/-- the parts -/
inductive FP (X : Cx) : List Expr → List TE → List IE → Prop
  | nil : FP X [] [] []
  | con {c : Str} {k : Nat} {pos : Pos} {es : List Expr} {ts : List TE} {is : List IE} (r : FP X es ts is) : FP X (.Constant (.str c) k pos :: es) (tC (.str c) :: ts) (iC (.str c) :: is)
  | fmt {e : Expr} {pos : Pos} {ie : IE} {es : List Expr} {ts : List TE} {is : List IE} (h : PE X e (tI X.K ie)) (r : FP X es ts is) : FP X (.FormattedValue e (-1) none pos :: es) (tFmt (tI X.K ie) :: ts) (ie :: is)
theorem FP.pj {ts : List TE} {is : List IE} (h : FP X es ts is) : PJ X es ts := by
  induction h with
  | nil => exact .nil
  | con _ ih => exact .cons pe_str ih
  | fmt h _ ih => exact .cons (pe_fmt h) ih
theorem fp_to {ts : List TE} {is : List IE} (h : FP X es ts is) : ∀ {env : PEnv} {σ : L2.St} {H : Hp} {ρ : Rho} {st st' : Sto} {acc z : Str} {Q : Str → Hp → Prop}, RepE X.K H ρ env σ → RepS X.K H ρ st → jsI is acc env st = some (z, st') →
    (∀ H' ρ', Grow H ρ H' ρ' → RepS X.K H' ρ' st' → Q z H') → tJs ts acc σ H Q := by
  induction h with
  | nil =>
    intro env σ H ρ st st' acc z Q E S h q
    cases h
    exact q H ρ Grow.refl S
  | @con c k pos es ts is _ ih =>
    intro env σ H ρ st st' acc z Q E S h q
    unfold jsI at h
    obtain ⟨x, s1, h1, h3⟩ := ob_some h
    clear h
    cases h1
    split at h3
    · rename_i y ey
      split at h3
      · rename_i hl
        have hy : y = c := by
          unfold txtP at ey
          simp only at ey
          split at ey
          · cases ey; rfl
          · cases ey
        subst hy
        exact ⟨y, rfl, by rw [PySem.Str.length_append]; exact Nat.le_trans hl (by decide), ih E S h3 q⟩
      · cases h3
    · cases h3
  | @fmt e pos ie es ts is he _ ih =>
    intro env σ H ρ st st' acc z Q E S h q
    unfold jsI at h
    obtain ⟨x, s1, h1, h⟩ := ob_some h
    split at h
    · rename_i y ey
      split at h
      · rename_i hl
        refine ⟨env, st, ρ, x, s1, E, S, h1, fun v H1 ρ1 G1 S1 R1 => ?_⟩
        have go : ∃ y' : Str, V.str y = .str y' ∧ (acc ++ y').length ≤ sizeLine ∧ tJs ts (acc ++ y') σ H1 Q := ⟨y, rfl, by rw [PySem.Str.length_append]; exact Nat.le_trans hl (by decide), ih (E.grow S G1) S1 h fun H' ρ' G' S' => q H' ρ' (G1.trans G') S'⟩
        unfold txtP at ey
        split at ey
        · rename_i y0
          split at ey
          · rename_i hz
            cases ey
            unfold Rep at R1
            subst R1
            exact .inl ⟨y, rfl, Nat.le_trans hz (by decide), go⟩
          · cases ey
        · rename_i i
          split at ey
          · rename_i hz
            cases ey
            obtain ⟨i', e', hi⟩ := okPI_ok (K := X.K) (H := H1) (ρ := ρ1) (x := .int i) (v := v) hz R1
            unfold Rep at R1
            rw [R1] at e'
            cases e'
            exact .inr ⟨i, R1, hi, go⟩
          · cases ey
        · cases ey
      · cases h
    · cases h
theorem r_fstr {v1 v2 : Expr} {rest : List Expr} {ts : List TE} {is : List IE} (h : FP X (v1 :: v2 :: rest) ts is) : PE X (.JoinedStr (v1 :: v2 :: rest) pos) (tI X.K (iFStr is)) :=
  PE.imp (pe_joined h.pj) fun σ H Q ⟨env, st, ρ, z, st', E, S, hz, q⟩ => by
    obtain ⟨r, h1, h2⟩ := map_some hz
    cases h2
    exact fp_to h E S (st' := r.2) (z := r.1) h1 fun H' ρ' G S' => q (.str r.1) H' ρ' G S' (by unfold Rep; rfl)
/-! ### isinstance(x, (a, b)) -/
def isP2 (st : Sto) (x : PV) (a b : String) : Option Bool := match tyName st x with
  | some n => match kitB n a, kitB n b with
    | some k, some l => some (k || l)
    | _, _ => none
  | none => none
def iIs2 (ie : IE) (a b : String) : IE := fun env st => ob (ie env st) fun x s => (isP2 s x a b).map fun k => (.bl k, s)
theorem r_is2 {a b : String} {k0 : Nat} {p tp : Pos} (hg : Gl X "isinstance") (hm : X.mg "isinstance" = none) (he : PE X e (tI X.K ie)) (h1 : PE X e1 (tI X.K (iC (.ty a)))) (h2 : PE X e2 (tI X.K (iC (.ty b))))
    (hs1 : starEach [e, .Tuple [e1, e2] k0 tp] X.env = (false, eval e X.env) :: starEach [.Tuple [e1, e2] k0 tp] X.env := by rfl) (hs2 : starEach [.Tuple [e1, e2] k0 tp] X.env = (false, eval (.Tuple [e1, e2] k0 tp) X.env) :: starEach [] X.env := by rfl)
    (hs3 : starEach [e1, e2] X.env = (false, eval e1 X.env) :: starEach [e2] X.env := by rfl) (hs4 : starEach [e2] X.env = (false, eval e2 X.env) :: starEach [] X.env := by rfl) (hpl : (backTo pos (starEach [.Tuple [e1, e2] k0 tp] X.env)).any (·.1) = false := by rfl) :
    PE X (.Call (.Name "isinstance" p) [e, .Tuple [e1, e2] k0 tp] [] pos) (tI X.K (iIs2 ie a b)) :=
  PE.imp (pe_callB call_isiT hg hm (by decide +kernel) (pa_cons he (pa_cons (pe_tup (pa_cons h1 (pa_cons h2 pa_nil hs4) hs3)) pa_nil hs2) hs1) (by decide) (by decide) hs1 hpl) fun σ H Q ⟨env, st, ρ, z, st', E, S, h, q⟩ => by
    obtain ⟨x, s1, h0, h⟩ := ob_some h
    obtain ⟨k, hk, hz⟩ := map_some h
    cases hz
    unfold isP2 at hk
    split at hk
    · rename_i n en
      split at hk
      · rename_i k1 k2 e1 e2
        cases hk
        refine ⟨env, st, ρ, x, st', E, S, h0, fun vx H1 ρ1 G1 S1 R1 => ?_⟩
        refine ⟨env, st', ρ1, .ty a, st', E.grow S G1, S1, rfl, fun va H2 ρ2 G2 S2 R2 => ?_⟩
        refine ⟨env, st', ρ2, .ty b, st', (E.grow S G1).grow S1 G2, S2, rfl, fun vb H3 ρ3 G3 S3 R3 => ⟨show 2 ≤ sizeLine by decide, fun tpl htp => ?_⟩⟩
        unfold Rep at R2 R3
        subst R2 R3
        have G4 : Grow H3 ρ3 (upd H3 tpl (.tup [.ty a, .ty b])) ρ3 := grow_new htp
        have S4 := S3.new (o := .tup [.ty a, .ty b]) htp
        have Gall := (G2.trans G3).trans G4
        refine ⟨vx, tpl, [.ty a, .ty b], .type n, [.type a, .type b], k1 || k2, rfl, upd_same, .cons (.ty a) (.cons (.ty b) .nil), tyName_rep S4 (Rep.grow S1 Gall _ _ R1) en, ?_, q _ _ ρ3 (G1.trans Gall) S4 (by unfold Rep; rfl)⟩
        unfold PySem.W.kitAny
        rw [kit_ty e1]
        cases k1 with
        | true => rfl
        | false =>
          unfold PySem.W.kitAny
          rw [kit_ty e2]
          cases k2 <;> rfl
      · cases hk
    · cases hk
end
end IL

/-! defs that call repr: promised where no repr is on its way (guards known) -/
namespace IL
open PySem PySem.Spec PyProof.Rows L2
/-- what a def does, called where no repr is on its way -/
structure FnG (P : Program) (w : World) (K : W.Frag) (mg : Str → Option Value) (base : Heap) (k : Nat) (f : Addr) (fd : FuncData) (ps : List Str) (sp : Sp) : Prop where
  few : ∀ vs H Q E, sp vs H Q E → vs.length = ps.length
  goes : ∀ (A : Around) (outer : List PySem.Env) (s : Shared) (H : Hp) (args : Args) (us : List Value) (vs : List V) (Q : VK) (E : XK), A.guards = some [] → Room k A → Env0 P w K mg base A outer s H →
    BindsTo s fd args (ps.zip us) → Vals vs us → sp vs H Q E → codeAny (model P w) A (.call (.ref f) args) (CR C8.CX0 outer P w H s Q E) s
structure CalG (P : Program) (w : World) (K : W.Frag) (mg : Str → Option Value) (base : Heap) (k : Nat) (x : Str) (n : Nat) (f : FA) : Prop where
  ex : ∃ (fa : Addr) (fd : FuncData) (ps : List Str), FnG P w K mg base k fa fd ps (spI K n f) ∧ mg x = some (.ref fa) ∧ W.keepIn K (.ref fa) = true ∧ Binds K fd ps []
section
variable {X : Cx} {x : Str} {p pos : Pos} {e : Expr} {es : List Expr} {ir : IA} {k j n : Nat} {F : FA}
/-- the called def at work -/
theorem goes_fn {pins : List (Addr × Obj)} {σ : L2.St} {H : Hp} {s : Shared} {Q : VK} {us : List Value} {vs : List V} {sp : Sp} {f : Addr} {fd : FuncData} {ps : List Str}
    (Fn : FnG X.prog X.w X.K X.mg X.base k f fd ps sp) (hG : X.A.guards = some []) (hr : Room k X.A) (hb : Binds X.K fd ps [])
    (I : Inv X pins σ H s) (r : Vals vs us) (h : sp vs H Q C8.E0) : wpAny (model X.prog X.w) X.A (call (.ref f) us) (EP X pins σ Q) X.xe s := by
  have fits : (us ++ []).length = ps.length := by
    rw [List.append_nil, ← r.length]
    exact Fn.few _ _ _ _ h
  have bound := hb s us I.kIn fits
  rw [List.append_nil] at bound
  have ran := Fn.goes X.A X.stack s H ⟨us, []⟩ us vs Q C8.E0 hG hr I.env0 bound r h
  refine wpAny_call (codeAny_mono ran ?_)
  intro res s' hq
  match res, hq with
  | .error e, hq => exact C8.pass0 (E := C8.E0) pins σ H s e s' I hq
  | .ok (.ret u), hq => exact I.after hq
  | .ok .next, hq => exact hq.elim
  | .ok .brk, hq => exact hq.elim
  | .ok .cont, hq => exact hq.elim
theorem g_call (c : CalG X.prog X.w X.K X.mg X.base k x n F) (hn : Ar n F) (hG : X.A.guards = some []) (hr : Room j X.A) (hk : k ≤ j) (hg : Gl X x) (ha : PA X (e :: es) (tIA X.K ir))
    (hdb : (x == ("__debug__" : Str)) = false := by decide) (he : starEach (e :: es) X.env = (false, eval e X.env) :: starEach es X.env := by rfl) (hpl : (backTo pos (starEach es X.env)).any (·.1) = false := by rfl) :
    PE X (.Call (.Name x p) (e :: es) [] pos) (tI X.K (iCall F ir)) := by
  obtain ⟨fa, fd, ps, Fn, hm, kp, b⟩ := c.ex
  constructor
  rintro pins s σ H Q I ⟨env, st, ρ, z, st', E, S, h, q⟩
  obtain ⟨xs, s1, h1, h⟩ := ob_some h
  refine wpAny_Call_Name_kw (ld_glob I hg hm ?_ hdb)
  have args := ha.run pos pins s σ H (fun vs H1 => spI X.K n F vs H1 Q C8.E0) I ⟨env, st, ρ, xs, s1, E, S, h1, fun vs H1 ρ1 G1 S1 R1 => ⟨by rw [← R1.length]; exact hn _ _ _ h, s1, ρ1, xs, z, st', S1, R1, h, fun v H' ρ' G' S' R' => q v H' ρ' (G1.trans G') S' R'⟩⟩
  refine W.callWith_K (h₀ := X.base) I.ok.mod.kin kp (thn args ?_) he hpl
  rintro us s2 ⟨vs, H1, I1, r, hs⟩
  exact ⟨I1.kIn, goes_fn Fn hG (hr.mono hk) b I1 r hs⟩
end
theorem fn_ofG {P : Program} {w : World} {K : W.Frag} {mg : Str → Option Value} {base : Heap} {k : Nat} {f : Addr} {fd : FuncData} {x : Str} {st : Stmt} {N ps : List Str} {sp : Sp} (Fu : C8.Fun K x x st f fd) (S : FnScope N ps (C8.fnScope st))
    (few : ∀ vs H Q E, sp vs H Q E → vs.length = ps.length)
    (hbody : ∀ (cdv : Value) (A : Around) (outer : List PySem.Env) (s : Shared) (H : Hp) (vs : List V) (Q : VK) (E : XK), A.guards = some [] → Room k (A.deeper (envOfC x (C8.fnScope st) s.heap.objs.size f cdv)) → sp vs H Q E →
      ∃ t, PSs (cxOf C8.CX0 P w K mg base N x (C8.fnScope st) f cdv A outer s H E) (C8.fnBody st) t ∧ t { nx := fun _ H' => Q .non H', rt := Q } (L2.start N vs) H) :
    FnG P w K mg base (k + 1) f fd ps sp := by
  obtain ⟨oc, od, dV, kV, doc, pm, an, cdv, ct, osl, rfl, lk, hcd⟩ := Fu.ex
  refine ⟨few, ?_⟩
  intro A outer s H args us vs Q E hG hr e0 hb r hsp
  have KX : K.In s.heap := e0.mod.kin.keeps fun b o e => (e0.bs b o e).1
  have lim : s.heap.NoLimit := e0.mod.nolimit.keeps fun b o e => (e0.bs b o e).1
  have places : ∀ y ∈ ps.zip us, (C8.fnScope st).names.lookup y.1 = some .local ∨ ((C8.fnScope st).names.lookup y.1 = some .cell ∧ ((cellsFrom (s.heap.objs.size + 1) (C8.fnScope st).names []).lookup y.1).isSome = true) := by
    rintro ⟨m, v⟩ hy
    cases S.par m (List.of_mem_zip hy).1 with
    | inl q => exact Or.inl q
    | inr q => exact Or.inr ⟨q, W.cellsFrom_some _ _ _ (Or.inl q)⟩
  obtain ⟨t, ht, hq⟩ := hbody cdv A outer s H vs Q E hG (hr.deeper _) hsp
  refine codeAny_call_function hr.depth (KX _ _ lk) rfl S.co S.gen rfl (W.codeRec_of KX hcd) (hb _ _ _ _ ?_)
  refine wpAny_newFunctionEnv_cells S.kind places ?_
  intro env he s1 x1
  subst he
  refine ⟨lim.keeps x1.toInCall.keep, codeAny_func ?_⟩
  have I : Inv (cxOf C8.CX0 P w K mg base N x (C8.fnScope st) f cdv A outer s H E) [] (L2.start N vs) H s1 := inv_start S hr.hd e0 (few _ _ _ _ hsp) r x1
  refine wpAny_mono (ht.run [] s1 (L2.start N vs) H _ I hq) ?_ (fun e s' hs => hs)
  intro fl s' hs
  match fl, hs with
  | .ret u, ⟨v, σ', H', J, rv, q⟩ => exact ⟨v, H', J.os, J.bare, J.base, J.hok, rv, q⟩
  | .next, ⟨σ', H', J, q⟩ => exact ⟨V.non, H', J.os, J.bare, J.base, J.hok, rfl, q⟩
  | .brk, ⟨_, _, _, q⟩ => exact q.elim
  | .cont, ⟨_, _, _, q⟩ => exact q.elim
theorem cal_G {P : Program} {w : World} {K : W.Frag} {mg : Str → Option Value} {base : Heap} {x : Str} {st : Stmt} {f : Addr} {fd : FuncData} {N ps : List Str} {k : Nat} {ib : IS} (F : C8.Def K mg x st f fd) (b : Binds K fd ps []) (S : FnScope N ps (C8.fnScope st))
    (hb : ∀ (cdv : Value) (A : Around) (outer : List PySem.Env) (s : Shared) (H : Hp) (E : XK), Room k (A.deeper (envOfC x (C8.fnScope st) s.heap.objs.size f cdv)) → (A.deeper (envOfC x (C8.fnScope st) s.heap.objs.size f cdv)).guards = some [] →
      PSs (cxOf C8.CX0 P w K mg base N x (C8.fnScope st) f cdv A outer s H E).nox (C8.fnBody st) (tIS K W0 ib)) : CalG P w K mg base (k + 1) x ps.length (iDef ps.length N.length ib) :=
  ⟨f, fd, ps, fn_ofG F.fn S (fun vs H Q E h => h.1) (fun cdv A outer s H vs Q E hG hr hsp => ⟨_, (hb cdv A outer s H E hr hG).nox, body_to hsp⟩), F.mgf, F.kp, b⟩
theorem calG_zero {P : Program} {w : World} {K : W.Frag} {mg : Str → Option Value} {base : Heap} {x : Str} {st : Stmt} {f : Addr} {fd : FuncData} {ps : List Str} {k : Nat} (F : C8.Def K mg x st f fd) (b : Binds K fd ps []) : CalG P w K mg base k x ps.length (fun _ _ => none) :=
  ⟨f, fd, ps, ⟨fun _ _ _ _ h => h.1, fun A outer s H args us vs Q E _ _ _ _ _ h => by
    obtain ⟨_, s1, ρ, xs, z, st', S1, R1, h, q⟩ := h
    cases h⟩, F.mgf, F.kp, b⟩
end IL

/-! repr of any data -/
namespace IL
open PySem PySem.Spec PyProof.Rows L2
section
variable {X : Cx}
def rReprS : List V → Hp → VK → Prop := fun xs H Q => ∃ x : Str, xs = [.str x] ∧ (reprText x).length ≤ sizeLine ∧ Q (.str (reprText x)) H
theorem cr_reprS : CallR X (.builtin "repr") rReprS := by
  intro pins s σ H xs us Q I r h
  obtain ⟨x, rfl, hz, q⟩ := h
  cases r with
  | @cons _ u0 _ ur ra rb =>
    cases rb
    obtain ⟨t, rfl⟩ := (show ∃ t, u0 = Value.str x t from ra)
    exact PySem.P.repr_of_str ⟨.str _, H, I.tok _, ⟨_, rfl⟩, q⟩ hz
def rReprN : List V → Hp → VK → Prop := fun xs H Q => xs = [.non] ∧ Q (.str "None") H
theorem cr_reprN : CallR X (.builtin "repr") rReprN := by
  intro pins s σ H xs us Q I r h
  obtain ⟨rfl, q⟩ := h
  cases r with
  | @cons _ u0 _ ur ra rb =>
    cases rb
    obtain rfl : u0 = Value.none := ra
    exact PySem.P.repr_of_none ⟨.str _, H, I.tok _, ⟨_, rfl⟩, q⟩
def rReprI : List V → Hp → VK → Prop := fun xs H Q => ∃ i : Int, xs = [.int i] ∧ i.natAbs.log2 < 1920 ∧ Q (.str (toString i)) H
def rReprA (K : PySem.W.Frag) : List V → Hp → VK → Prop := fun xs H Q => (rReprB xs H Q ∨ rReprD K xs H Q) ∨ rReprS xs H Q ∨ rReprN xs H Q ∨ rReprI xs H Q
theorem cr_reprA (hG : X.A.guards = some []) (hu : X.A.units + 64 < cLine) : CallR X (.builtin "repr") (rReprA X.K) :=
  CallR.or (cr_repr2 hG hu) (CallR.or cr_reprS (CallR.or cr_reprN SkE.call_repr_int))
def fReprA : F1 := fun x st => match x with
  | .str y => if (reprText y).length ≤ 16000000 then some (.str (reprText y), st) else none
  | .non => some (.str "None", st)
  | .int i => if decide (i.natAbs < 10 ^ 30) = true then some (.str (toString i), st) else none
  | x => fReprD x st
theorem f_reprA {K : PySem.W.Frag} : CallI K (rReprA K) (a1 fReprA) := call1 fun H ρ st x vx z st' Q S R h q => by
  have rest : fReprD x st = some (z, st') → rReprA K [vx] H Q := fun h => by
    have h2 : a1 fReprD [x] st = some (z, st') := h
    exact .inl (f_reprD H ρ st [x] [vx] z st' Q S (by unfold Reps; exact ⟨vx, [], rfl, R, by unfold Reps; rfl⟩) h2 q)
  unfold fReprA at h
  split at h
  · split at h
    · rename_i y hz
      cases h
      unfold Rep at R
      subst R
      exact .inr (.inl ⟨y, rfl, Nat.le_trans hz (by decide), q _ H ρ Grow.refl S (by unfold Rep; rfl)⟩)
    · cases h
  · cases h
    unfold Rep at R
    subst R
    exact .inr (.inr (.inl ⟨rfl, q _ H ρ Grow.refl S (by unfold Rep; rfl)⟩))
  · split at h
    · rename_i i hz
      cases h
      obtain ⟨i', e', hi⟩ := okPI_ok (K := K) (H := H) (ρ := ρ) (x := .int i) (v := vx) hz R
      unfold Rep at R
      rw [R] at e'
      cases e'
      exact .inr (.inr (.inr ⟨i, by rw [R], hi, q _ H ρ Grow.refl S (by unfold Rep; rfl)⟩))
    · cases h
  · exact rest h
/-- what repr is of data -/
theorem repr_all {n w : Nat} {x : PV} {st : Sto} (h : Gd n w x) (hn : n ≤ 60) (hw : w ≤ 16000000) (hx : ∀ ks xs, x ≠ .fdk ks xs) : fReprA x st = some (.str (datP x).shown, st) := by
  have hg := h.g
  have hw2 := h.w
  cases x with
  | non => rfl
  | bl b => cases b <;> rfl
  | int i =>
    unfold wt at hw2
    have hi : i.natAbs < 10 ^ 30 := by
      split at hw2
      · assumption
      · exfalso
        have : (10 : Nat) ^ 9 ≤ 16000000 := Nat.le_trans hw2 hw
        exact absurd this (by decide)
    show (if decide (i.natAbs < 10 ^ 30) = true then some (PV.str (toString i), st) else none) = _
    rw [if_pos (decide_eq_true hi)]
    rfl
  | str y =>
    have h6 := shown_le (.str y) n h.g (Nat.lt_of_le_of_lt (Nat.le_trans h.w hw) (by decide))
    have h7 : (reprText y).length ≤ 16000000 := Nat.le_trans h6 (Nat.le_trans h.w hw)
    show (if (reprText y).length ≤ 16000000 then some (PV.str (reprText y), st) else none) = _
    rw [if_pos h7]
    rfl
  | tup xs => exact repr_tup h hn hw
  | frz xs => exact repr_frz h hn hw
  | ref k => simp [gd] at hg
  | ty k => simp [gd] at hg
  | fdk ks xs => exact (hx ks xs rfl).elim
/-! ### the first sign -/
def hd0 (x : Str) : Option Nat := x.cps[0]?
theorem hd0_app {a b : Str} {c : Nat} (h : hd0 a = some c) : hd0 (a ++ b) = some c := by
  unfold hd0 at h ⊢
  have hl : 0 < a.cps.size := (Array.getElem?_eq_some_iff.mp h).1
  show (a.cps ++ b.cps)[0]? = some c
  rw [Array.getElem?_append_left hl]
  exact h
theorem hd0_from : ∀ (ts : List Str) (k : Nat) (acc : Str) {c : Nat}, hd0 acc = some c → hd0 (textFrom k acc ts) = some c
  | [], _, _, _, h => h
  | t :: r, k, acc, c, h => hd0_from r (k + 1) _ (hd0_app (hd0_app h))
theorem hd0_list (ts : List Str) : hd0 (listText ts) = some 91 := hd0_app (hd0_from ts 0 _ rfl)
theorem hd0_tup (ts : List Str) : hd0 (tupleText ts) = some 40 := hd0_app (hd0_app rfl)
theorem hd0_fold {f : Nat → Array Nat} {q : Nat} : ∀ (l : List Nat) (acc : Array Nat), acc[0]? = some q → (l.foldl (fun out c => out ++ f c) acc)[0]? = some q
  | [], _, h => h
  | c :: r, acc, h => by
    rw [List.foldl_cons]
    refine hd0_fold r _ ?_
    rw [Array.getElem?_append_left (Array.getElem?_eq_some_iff.mp h).1]
    exact h
theorem hd0_repr (x : Str) : hd0 (reprText x) = some (reprQuote x) := by
  unfold hd0 reprText
  rw [← Array.foldl_toList]
  have h := hd0_fold (f := fun c => (Builtin.Str.reprChar (reprQuote x) c).toArray) (q := reprQuote x) x.cps.toList #[reprQuote x] rfl
  rw [Array.getElem?_push]
  split
  · rename_i e
    have := (Array.getElem?_eq_some_iff.mp h).1
    omega
  · exact h
end
end IL

namespace J51
open PySem PySem.Spec PyProof.Rows L2 IL CwR HotX L2H
/-! ## the program's defs as plain functions -/
def top (i : Nat) : Stmt := PySem.Challenge.pw_flowreprise_k51_written_data.main.body.getD i (.Pass ⟨0, 0, 0, 0⟩)
abbrev s_encode : Stmt := top 7
theorem sc_encode : FnScope ["data", "parts", "waiting", "thing", "is_data", "first", "last", "item"] ["data"] (C8.fnScope s_encode) := ⟨rfl, rfl, rfl, by decide +kernel, rfl, by decide +kernel, by decide +kernel⟩
abbrev s__plain_form : Stmt := top 8
theorem sc__plain_form : FnScope ["thing"] ["thing"] (C8.fnScope s__plain_form) := ⟨rfl, rfl, rfl, by decide +kernel, rfl, by decide +kernel, by decide +kernel⟩
abbrev s_decode : Stmt := top 9
theorem sc_decode : FnScope ["text", "data", "behind"] ["text"] (C8.fnScope s_decode) := ⟨rfl, rfl, rfl, by decide +kernel, rfl, by decide +kernel, by decide +kernel⟩
abbrev s_read_form : Stmt := top 10
theorem sc_read_form : FnScope ["text", "start", "rows", "signs", "at", "letter", "items", "data"] ["text", "start"] (C8.fnScope s_read_form) := ⟨rfl, rfl, rfl, by decide +kernel, rfl, by decide +kernel, by decide +kernel⟩
abbrev s__read_plain : Stmt := top 11
theorem sc__read_plain : FnScope ["text", "at", "letter", "size", "behind"] ["text", "at"] (C8.fnScope s__read_plain) := ⟨rfl, rfl, rfl, by decide +kernel, rfl, by decide +kernel, by decide +kernel⟩
abbrev s__read_number : Stmt := top 12
theorem sc__read_number : FnScope ["text", "start", "sign", "is_signed", "first", "behind", "digits", "number"] ["text", "start", "sign", "is_signed"] (C8.fnScope s__read_number) := ⟨rfl, rfl, rfl, by decide +kernel, rfl, by decide +kernel, by decide +kernel⟩
abbrev s__law_state : Stmt := top 14
theorem sc__law_state : FnScope ["script", "cells", "cell"] ["script"] (C8.fnScope s__law_state) := ⟨rfl, rfl, rfl, by decide +kernel, rfl, by decide +kernel, by decide +kernel⟩
abbrev s__law_take : Stmt := top 15
theorem sc__law_take : FnScope ["state", "most", "cells", "at", "cell", "mixed"] ["state", "most"] (C8.fnScope s__law_take) := ⟨rfl, rfl, rfl, by decide +kernel, rfl, by decide +kernel, by decide +kernel⟩
abbrev s__law_data : Stmt := top 17
theorem sc__law_data : FnScope ["state", "deep", "kind", "parts", "numbers", "k"] ["state", "deep"] (C8.fnScope s__law_data) := ⟨rfl, rfl, rfl, by decide +kernel, rfl, by decide +kernel, by decide +kernel⟩
abbrev s__law_form : Stmt := top 18
theorem sc__law_form : FnScope ["data", "inner", "part"] ["data"] (C8.fnScope s__law_form) := ⟨rfl, rfl, rfl, by decide +kernel, rfl, by decide +kernel, by decide +kernel⟩
abbrev s__law_number : Stmt := top 19
theorem sc__law_number : FnScope ["text", "at", "end", "minus", "last", "first", "size"] ["text", "at", "end", "minus"] (C8.fnScope s__law_number) := ⟨rfl, rfl, rfl, by decide +kernel, rfl, by decide +kernel, by decide +kernel⟩
abbrev s__law_read : Stmt := top 20
theorem sc__law_read : FnScope ["text", "at", "sign", "told"] ["text", "at"] (C8.fnScope s__law_read) := ⟨rfl, rfl, rfl, by decide +kernel, rfl, by decide +kernel, by decide +kernel⟩
abbrev s__law_items : Stmt := top 21
theorem sc__law_items : FnScope ["text", "at", "end", "parts", "turn", "told"] ["text", "at", "end"] (C8.fnScope s__law_items) := ⟨rfl, rfl, rfl, by decide +kernel, rfl, by decide +kernel, by decide +kernel⟩
abbrev s__law_due : Stmt := top 22
theorem sc__law_due : FnScope ["text", "told"] ["text"] (C8.fnScope s__law_due) := ⟨rfl, rfl, rfl, by decide +kernel, rfl, by decide +kernel, by decide +kernel⟩
abbrev s__law_told : Stmt := top 23
theorem sc__law_told : FnScope ["text", "e"] ["text"] (C8.fnScope s__law_told) := ⟨rfl, rfl, rfl, by decide +kernel, rfl, by decide +kernel, by decide +kernel⟩
abbrev s_law : Stmt := top 24
theorem sc_law : FnScope ["script", "state", "data", "kept", "text", "turn", "at", "piece", "other", "due"] ["script"] (C8.fnScope s_law) := ⟨rfl, rfl, rfl, by decide +kernel, rfl, by decide +kernel, by decide +kernel⟩
abbrev s_FormError___init__ : Stmt := inClass (top 2) 0
theorem sc_FormError___init__ : FnScope ["self", "at"] ["self", "at"] (C8.fnScope s_FormError___init__) := ⟨rfl, rfl, rfl, by decide +kernel, rfl, by decide +kernel, by decide +kernel⟩
abbrev I_encode : Nat := 0
abbrev I__plain_form : Nat := 1
abbrev I_decode : Nat := 2
abbrev I_read_form : Nat := 3
abbrev I__read_plain : Nat := 4
abbrev I__read_number : Nat := 5
abbrev I__law_state : Nat := 6
abbrev I__law_take : Nat := 7
abbrev I__law_data : Nat := 8
abbrev I__law_form : Nat := 9
abbrev I__law_number : Nat := 10
abbrev I__law_read : Nat := 11
abbrev I__law_items : Nat := 12
abbrev I__law_due : Nat := 13
abbrev I__law_told : Nat := 14
abbrev I_law : Nat := 15
abbrev N_law : List Str := ["script", "state", "data", "kept", "text", "turn", "at", "piece", "other", "due"]
def allStrs : List Str := (["[", "]", "(", ")", "", "z", "y", "n", ";", "i", ":", "t", "FormError", "at", "-", "0"] : List Str) ++ (["9", "a", "i1;", "(x", "12:", "True", "False", "0123456789", "zyn", "data", "wrong", "([", "1", "x"] : List Str)
def Sx (i : Nat) : Str := allStrs.getD i ""
abbrev S_x5b : Str := Sx 0
abbrev S_x5d : Str := Sx 1
abbrev S_x28 : Str := Sx 2
abbrev S_x29 : Str := Sx 3
abbrev S_ : Str := Sx 4
abbrev S_z : Str := Sx 5
abbrev S_y : Str := Sx 6
abbrev S_n : Str := Sx 7
abbrev S_x3b : Str := Sx 8
abbrev S_i : Str := Sx 9
abbrev S_x3a : Str := Sx 10
abbrev S_t : Str := Sx 11
abbrev S_FormError : Str := Sx 12
abbrev S_at : Str := Sx 13
abbrev S_x2d : Str := Sx 14
abbrev S_0 : Str := Sx 15
abbrev S_9 : Str := Sx 16
abbrev S_a : Str := Sx 17
abbrev S_i1x3b : Str := Sx 18
abbrev S_x28x : Str := Sx 19
abbrev S_12x3a : Str := Sx 20
abbrev S_True : Str := Sx 21
abbrev S_False : Str := Sx 22
abbrev S_0123456789 : Str := Sx 23
abbrev S_zyn : Str := Sx 24
abbrev S_data : Str := Sx 25
abbrev S_wrong : Str := Sx 26
abbrev S_x28x5b : Str := Sx 27
abbrev S_1 : Str := Sx 28
abbrev S_x : Str := Sx 29
@[simp] theorem Sx_eq {i j : Nat} (hi : i < 30) (hj : j < 30) : (Sx i == Sx j) = decide (i = j) := (by decide +kernel : ∀ i : Fin 30, ∀ j : Fin 30, (Sx i == Sx j) = decide (i.val = j.val)) ⟨i, hi⟩ ⟨j, hj⟩
@[simp] theorem Sx_inj {i j : Nat} (hi : i < 30) (hj : j < 30) : (Sx i = Sx j) = (i = j) := propext ⟨fun e => by have h := Sx_eq hi hj; rw [e] at h; exact of_decide_eq_true (h.symm.trans (beq_self_eq_true _)), fun e => by rw [e]⟩
@[simp] theorem Sx_ok {i : Nat} (hi : i < 30) : PyData.strOk (Sx i) = true := (by decide +kernel : ∀ i : Fin 30, PyData.strOk (Sx i) = true) ⟨i, hi⟩
def lens : List Nat := [1, 1, 1, 1, 0, 1, 1, 1, 1, 1, 1, 1, 9, 2, 1, 1, 1, 1, 3, 2, 3, 4, 5, 10, 3, 4, 5, 2, 1, 1]
@[simp] theorem Sx_len {i : Nat} (hi : i < 30) : (Sx i).length = lens.getD i 0 := (by decide +kernel : ∀ i : Fin 30, (Sx i).length = lens.getD i 0) ⟨i, hi⟩
@[simp] theorem eqP_S {st : Sto} {i j : Nat} (hi : i < 30) (hj : j < 30) : eqP st (.str (Sx i)) (.str (Sx j)) = some (decide (i = j)) := by rw [eqP_s, Sx_ok hi, Sx_ok hj, Sx_eq hi hj]; rfl
abbrev c_MOST_DIGITS : PV := (.int 16)
abbrev tab_WORDS : List (Str × PV) := [(S_z, .non), (S_y, (.bl true)), (S_n, (.bl false))]
abbrev tab_CLOSING : List (Str × PV) := [(S_x28, (.str S_x29)), (S_x5b, (.str S_x5d))]
noncomputable def b_encode (F : Nat → FA) (G : Nat → FX) : IS := (iSeq (iAsg (gN 1) (iLst iNil)) (iSeq (iAsg (gN 2) (iLst (iCons (iTup (iCons (iVar 0) (iCons (iC (.bl true)) iNil))) iNil))) (iSeq (iWhile (iTest (iVar 2)) (iSeq (iAsg (gT 2 (gCs (gN 3) (gCs (gN 4) gNs))) (iPop (iVar 2))) (iIfS (iNot (iTest (iVar 4))) (iDrop (iAppend (iVar 1) (iVar 3))) (iIfS (iTest (iIs2 (iVar 3) "list" "tuple")) (iSeq (iAsg (gT 2 (gCs (gN 5) (gCs (gN 6) gNs))) (iIf (iTest (iCall (a2 fIsi) (iCons (iVar 3) (iCons (iC (.ty "list")) iNil)))) (iTup (iCons (iC (.str S_x5b)) (iCons (iC (.str S_x5d)) iNil))) (iTup (iCons (iC (.str S_x28)) (iCons (iC (.str S_x29)) iNil))))) (iSeq (iDrop (iAppend (iVar 1) (iVar 5))) (iSeq (iDrop (iAppend (iVar 2) (iTup (iCons (iVar 6) (iCons (iC (.bl false)) iNil))))) (iDrop (iExtend (iVar 2) (iLc (iRevW (iVar 3)) (gN 7) iYes (iTup (iCons (iVar 7) (iCons (iC (.bl true)) iNil))) [7])))))) (iDrop (iAppend (iVar 1) (iCall (F I__plain_form) (iCons (iVar 3) iNil)))))))) (iRet (iJoin (iC (.str S_)) (iVar 1))))))
noncomputable def b__plain_form (F : Nat → FA) (G : Nat → FX) : IS := (iSeq (iIfS (iTestB (iBin fIs (iVar 0) (iC .non))) (iRet (iC (.str S_z))) iSkip) (iSeq (iIfS (iTest (iCall (a2 fIsi) (iCons (iVar 0) (iCons (iC (.ty "bool")) iNil)))) (iRet (iIf (iTest (iVar 0)) (iC (.str S_y)) (iC (.str S_n)))) iSkip) (iSeq (iIfS (iTest (iCall (a2 fIsi) (iCons (iVar 0) (iCons (iC (.ty "int")) iNil)))) (iRet (iFStr [(iC (.str S_i)), (iVar 0), (iC (.str S_x3b))])) iSkip) (iRet (iFStr [(iC (.str S_t)), (iCall (a1 fLenB) (iCons (iVar 0) iNil)), (iC (.str S_x3a)), (iVar 0)])))))
noncomputable def b_decode (F : Nat → FA) (G : Nat → FX) : IS := (iSeq (iAsgX (gT 2 (gCs (gN 1) (gCs (gN 2) gNs))) (iCallX (G I_read_form) (iCons (iVar 0) (iCons (iC (.int 0)) iNil)))) (iSeq (iIfS (iTestB (iBin fLt (iVar 2) (iCall (a1 fLenB) (iCons (iVar 0) iNil)))) (iRaise S_FormError S_at okPI (iVar 2)) iSkip) (iRet (iVar 1))))
noncomputable def b_read_form (F : Nat → FA) (G : Nat → FX) : IS := (iSeq (iAsg (gN 2) (iLst (iCons (iLst iNil) iNil))) (iSeq (iAsg (gN 3) (iLst iNil)) (iSeq (iAsg (gN 4) (iVar 1)) (iSeq (iWhile (iNot (iTest (iBin fSubB (iVar 2) (iC (.int 0))))) (iSeq (iAsg (gN 5) (iSl fSl (iVar 0) (iPart (iVar 4)) (iPart (iBin fAdd (iVar 4) (iC (.int 1)))))) (iIfS (iTestB (iUn (fInTab tab_CLOSING false) (iVar 5))) (iSeq (iDrop (iAppend (iVar 2) (iLst iNil))) (iSeq (iDrop (iAppend (iVar 3) (iVar 5))) (iAugAdd 4 (iC (.int 1))))) (iIfS (iAnd (iTest (iVar 3)) (iTestB (iBin fEqB (iVar 5) (iUn (fTab tab_CLOSING) (iBin fSubB (iVar 3) (iUn fNeg (iC (.int 1)))))))) (iSeq (iAsg (gN 6) (iPop (iVar 2))) (iSeq (iDrop (iAppend (iBin fSubB (iVar 2) (iUn fNeg (iC (.int 1)))) (iIf (iTestB (iBin fEqB (iPop (iVar 3)) (iC (.str S_x28)))) (iCall (a1 fTuple) (iCons (iFrz (iVar 6)) iNil)) (iFrz (iVar 6))))) (iAugAdd 4 (iC (.int 1))))) (iSeq (iAsgX (gT 2 (gCs (gN 7) (gCs (gN 4) gNs))) (iCallX (G I__read_plain) (iCons (iVar 0) (iCons (iVar 4) iNil)))) (iDrop (iAppend (iBin fSubB (iVar 2) (iUn fNeg (iC (.int 1)))) (iVar 7)))))))) (iRet (iTup (iCons (iBin fSubB (iBin fSubB (iVar 2) (iC (.int 0))) (iC (.int 0))) (iCons (iVar 4) iNil))))))))
noncomputable def b__read_plain (F : Nat → FA) (G : Nat → FX) : IS := (iSeq (iAsg (gN 2) (iSl fSl (iVar 0) (iPart (iVar 1)) (iPart (iBin fAdd (iVar 1) (iC (.int 1)))))) (iSeq (iIfS (iTestB (iUn (fInTab tab_WORDS false) (iVar 2))) (iRet (iTup (iCons (iUn (fTab tab_WORDS) (iVar 2)) (iCons (iBin fAdd (iVar 1) (iC (.int 1))) iNil)))) iSkip) (iSeq (iIfS (iTestB (iBin fEqB (iVar 2) (iC (.str S_i)))) (iRetX (iCallX (G I__read_number) (iCons (iVar 0) (iCons (iBin fAdd (iVar 1) (iC (.int 1))) (iCons (iC (.str S_x3b)) (iCons (iC (.bl true)) iNil)))))) iSkip) (iSeq (iIfS (iTestB (iBin fEqB (iVar 2) (iC (.str S_t)))) (iSeq (iAsgX (gT 2 (gCs (gN 3) (gCs (gN 4) gNs))) (iCallX (G I__read_number) (iCons (iVar 0) (iCons (iBin fAdd (iVar 1) (iC (.int 1))) (iCons (iC (.str S_x3a)) (iCons (iC (.bl false)) iNil)))))) (iSeq (iIfS (iTestB (iBin fGt (iBin fAdd (iVar 4) (iVar 3)) (iCall (a1 fLenB) (iCons (iVar 0) iNil)))) (iRaise S_FormError S_at okPI (iBin fAdd (iVar 1) (iC (.int 1)))) iSkip) (iRet (iTup (iCons (iSl fSl (iVar 0) (iPart (iVar 4)) (iPart (iBin fAdd (iVar 4) (iVar 3)))) (iCons (iBin fAdd (iVar 4) (iVar 3)) iNil)))))) iSkip) (iRaise S_FormError S_at okPI (iVar 1))))))
noncomputable def b__read_number (F : Nat → FA) (G : Nat → FX) : IS := (iSeq (iAsg (gN 4) (iIf (iAnd (iTest (iVar 3)) (iTestB (iBin fEqB (iSl fSl (iVar 0) (iPart (iVar 1)) (iPart (iBin fAdd (iVar 1) (iC (.int 1))))) (iC (.str S_x2d))))) (iBin fAdd (iVar 1) (iC (.int 1))) (iVar 1))) (iSeq (iAsg (gN 5) (iVar 4)) (iSeq (iWhile (iAnd (iTestB (iChain fLe fLe (iC (.str S_0)) (iSl fSl (iVar 0) (iPart (iVar 5)) (iPart (iBin fAdd (iVar 5) (iC (.int 1))))) (iC (.str S_9)))) (iTestB (iBin fLt (iBin fSub (iVar 5) (iVar 4)) (iC c_MOST_DIGITS)))) (iAugAdd 5 (iC (.int 1)))) (iSeq (iAsg (gN 6) (iSl fSl (iVar 0) (iPart (iVar 4)) (iPart (iVar 5)))) (iSeq (iIfS (iOr (iTestB (iBin fEqB (iVar 6) (iC (.str S_)))) (iTestB (iBin fNeB (iSl fSl (iVar 0) (iPart (iVar 5)) (iPart (iBin fAdd (iVar 5) (iC (.int 1))))) (iVar 2)))) (iRaise S_FormError S_at okPI (iVar 1)) iSkip) (iSeq (iIfS (iAnd (iTestB (iBin fEqB (iBin fSubB (iVar 6) (iC (.int 0))) (iC (.str S_0)))) (iOr (iTestB (iBin fGt (iVar 4) (iVar 1))) (iTestB (iBin fNeB (iVar 6) (iC (.str S_0)))))) (iRaise S_FormError S_at okPI (iVar 1)) iSkip) (iSeq (iAsg (gN 7) (iCall (a1 fIntS) (iCons (iVar 6) iNil))) (iRet (iTup (iCons (iIf (iTestB (iBin fGt (iVar 4) (iVar 1))) (iUn fNeg (iVar 7)) (iVar 7)) (iCons (iBin fAdd (iVar 5) (iC (.int 1))) iNil)))))))))))
noncomputable def b__law_state (F : Nat → FA) (G : Nat → FX) : IS := (iSeq (iAsg (gN 1) (iLc (iWalk (iSl fSl (iVar 0) iNo (iPart (iC (.int 63))))) (gN 2) iYes (iCall (a1 fAbs) (iCons (iVar 2) iNil)) [2])) (iSeq (iIfS (iTestB (iBin fEqB (iCall (a1 fLenB) (iCons (iVar 1) iNil)) (iC (.int 0)))) (iAsg (gN 1) (iLst (iCons (iC (.int 0)) iNil))) iSkip) (iRet (iLst (iCons (iC (.int 0)) (iCons (iVar 1) iNil))))))
noncomputable def b__law_take (F : Nat → FA) (G : Nat → FX) : IS := (iSeq (iIfS (iTestB (iBin fLt (iVar 1) (iC (.int 1)))) (iRet (iC (.int 0))) iSkip) (iSeq (iAsg (gN 2) (iBin fSubB (iVar 0) (iC (.int 1)))) (iSeq (iAsg (gN 3) (iBin fMod (iBin fSubB (iVar 0) (iC (.int 0))) (iCall (a1 fLenB) (iCons (iVar 2) iNil)))) (iSeq (iAsg (gN 4) (iBin fSubB (iVar 2) (iVar 3))) (iSeq (iIfS (iTestB (iBin fGe (iVar 4) (iC (.int 1000000000000000000)))) (iSeq (iSetIx fSetA (iVar 2) (iVar 3) (iBin fDiv (iVar 4) (iVar 1))) (iRet (iBin fMod (iVar 4) (iVar 1)))) iSkip) (iSeq (iSetIx fSetA (iVar 0) (iC (.int 0)) (iBin fAdd (iBin fSubB (iVar 0) (iC (.int 0))) (iC (.int 1)))) (iSeq (iAsg (gN 5) (iBin fMod (iCall (a1 fIntS) (iCons (iBin fAdd (iBin fMulA (iVar 4) (iC (.int 48271))) (iBin fMulA (iBin fSubB (iVar 0) (iC (.int 0))) (iC (.int 69621)))) iNil)) (iC (.int 2147483647)))) (iSeq (iAsg (gN 5) (iBin fMod (iCall (a1 fIntS) (iCons (iBin fAdd (iBin fMulA (iVar 5) (iC (.int 16807))) (iBin fMulA (iBin fSubB (iVar 0) (iC (.int 0))) (iC (.int 7919)))) iNil)) (iC (.int 1000000007)))) (iRet (iBin fMod (iBin fDiv (iVar 5) (iC (.int 7))) (iVar 1)))))))))))
noncomputable def b__law_data (F : Nat → FA) (G : Nat → FX) : IS := (iSeq (iAsg (gN 2) (iCall (F I__law_take) (iCons (iVar 0) (iCons (iC (.int 9)) iNil)))) (iSeq (iIfS (iOr (iTestB (iBin fEqB (iVar 1) (iC (.int 0)))) (iTestB (iBin fLt (iVar 2) (iC (.int 6))))) (iSeq (iAsg (gN 4) (iNew (iLst (iCons (iC (.int 0)) (iCons (iC (.int 1)) (iCons (iUn fNeg (iC (.int 1))) (iCons (iC (.int 10)) (iCons (iC (.int 999999999999)) (iCons (iUn fNeg (iC (.int 1000000000000))) (iCons (iC (.int 9999999999999999)) iNil)))))))))) (iRet (iBin fSubB (iNew (iLst (iCons (iC .non) (iCons (iC (.bl true)) (iCons (iC (.bl false)) (iCons (iBin fSubB (iVar 4) (iCall (F I__law_take) (iCons (iVar 0) (iCons (iC (.int 7)) iNil)))) (iCons (iBin fSubB (iNew (iLst (iCons (iC (.str S_)) (iCons (iC (.str S_a)) (iCons (iC (.str S_i1x3b)) (iCons (iC (.str S_x28x)) (iCons (iC (.str S_12x3a)) iNil))))))) (iCall (F I__law_take) (iCons (iVar 0) (iCons (iC (.int 5)) iNil)))) (iCons (iC (.int 7)) iNil)))))))) (iCall (F I__law_take) (iCons (iVar 0) (iCons (iC (.int 6)) iNil)))))) iSkip) (iSeq (iAsg (gN 3) (iNew (iLc (iRange1 (iCons (iCall (F I__law_take) (iCons (iVar 0) (iCons (iC (.int 4)) iNil))) iNil)) (gN 5) iYes (iCall (F I__law_data) (iCons (iVar 0) (iCons (iBin fSub (iVar 1) (iC (.int 1))) iNil))) [5]))) (iSeq (iIfS (iTestB (iBin fLt (iVar 2) (iC (.int 8)))) (iRet (iCall (a1 fTuple) (iCons (iVar 3) iNil))) iSkip) (iRet (iVar 3))))))
noncomputable def b__law_form (F : Nat → FA) (G : Nat → FX) : IS := (iSeq (iIfS (iTestB (iBin fIs (iVar 0) (iC .non))) (iRet (iC (.str S_z))) iSkip) (iSeq (iIfS (iTestB (iBin fEqB (iCall (a1 fReprA) (iCons (iVar 0) iNil)) (iC (.str S_True)))) (iRet (iC (.str S_y))) iSkip) (iSeq (iIfS (iTestB (iBin fEqB (iCall (a1 fReprA) (iCons (iVar 0) iNil)) (iC (.str S_False)))) (iRet (iC (.str S_n))) iSkip) (iSeq (iIfS (iTest (iCall (a2 fIsi) (iCons (iVar 0) (iCons (iC (.ty "int")) iNil)))) (iRet (iBin fAdd (iBin fAdd (iC (.str S_i)) (iCall (a1 fStr) (iCons (iVar 0) iNil))) (iC (.str S_x3b)))) iSkip) (iSeq (iIfS (iTest (iCall (a2 fIsi) (iCons (iVar 0) (iCons (iC (.ty "str")) iNil)))) (iRet (iBin fAdd (iBin fAdd (iBin fAdd (iC (.str S_t)) (iCall (a1 fStr) (iCons (iCall (a1 fLenB) (iCons (iVar 0) iNil)) iNil))) (iC (.str S_x3a))) (iVar 0))) iSkip) (iSeq (iAsg (gN 1) (iJoin (iC (.str S_)) (iNew (iLc (iWalk (iVar 0)) (gN 2) iYes (iCall (F I__law_form) (iCons (iVar 2) iNil)) [2])))) (iSeq (iIfS (iTest (iCall (a2 fIsi) (iCons (iVar 0) (iCons (iC (.ty "tuple")) iNil)))) (iRet (iBin fAdd (iBin fAdd (iC (.str S_x28)) (iVar 1)) (iC (.str S_x29)))) iSkip) (iRet (iBin fAdd (iBin fAdd (iC (.str S_x5b)) (iVar 1)) (iC (.str S_x5d)))))))))))
noncomputable def b__law_number (F : Nat → FA) (G : Nat → FX) : IS := (iSeq (iAsg (gN 4) (iVar 1)) (iSeq (iIfS (iAnd (iTest (iVar 3)) (iTestB (iBin fEqB (iSl fSl (iVar 0) (iPart (iVar 4)) (iPart (iBin fAdd (iVar 4) (iC (.int 1))))) (iC (.str S_x2d))))) (iAsg (gN 4) (iBin fAdd (iVar 4) (iC (.int 1)))) iSkip) (iSeq (iAsg (gN 5) (iVar 4)) (iSeq (iWhile (iAnd (iTestB (iBin fLt (iVar 4) (iCall (a1 fLenB) (iCons (iVar 0) iNil)))) (iAnd (iTestB (iBin fInC (iBin fSubB (iVar 0) (iVar 4)) (iC (.str S_0123456789)))) (iTestB (iBin fLt (iBin fSub (iVar 4) (iVar 5)) (iC (.int 17)))))) (iAsg (gN 4) (iBin fAdd (iVar 4) (iC (.int 1))))) (iSeq (iAsg (gN 6) (iBin fSub (iVar 4) (iVar 5))) (iSeq (iIfS (iOr (iTestB (iBin fEqB (iVar 6) (iC (.int 0)))) (iOr (iTestB (iBin fGt (iVar 6) (iC (.int 16)))) (iOr (iTestB (iBin fNeB (iSl fSl (iVar 0) (iPart (iVar 4)) (iPart (iBin fAdd (iVar 4) (iC (.int 1))))) (iVar 2))) (iAnd (iTestB (iBin fEqB (iBin fSubB (iVar 0) (iVar 5)) (iC (.str S_0)))) (iOr (iTestB (iBin fGt (iVar 6) (iC (.int 1)))) (iTestB (iBin fGt (iVar 5) (iVar 1)))))))) (iRet (iC .non)) iSkip) (iRet (iTup (iCons (iCall (a1 fIntS) (iCons (iSl fSl (iVar 0) (iPart (iVar 1)) (iPart (iVar 4))) iNil)) (iCons (iBin fAdd (iVar 4) (iC (.int 1))) iNil))))))))))
noncomputable def b__law_read (F : Nat → FA) (G : Nat → FX) : IS := (iSeq (iAsg (gN 2) (iSl fSl (iVar 0) (iPart (iVar 1)) (iPart (iBin fAdd (iVar 1) (iC (.int 1)))))) (iSeq (iIfS (iAnd (iTestB (iBin fNeB (iVar 2) (iC (.str S_)))) (iTestB (iBin fInC (iVar 2) (iC (.str S_zyn))))) (iRet (iTup (iCons (iC (.str S_data)) (iCons (iBin fSubB (iNew (iDict (iPCons (iC (.str S_z)) (iC .non) (iPCons (iC (.str S_y)) (iC (.bl true)) (iPCons (iC (.str S_n)) (iC (.bl false)) iPNil))))) (iVar 2)) (iCons (iBin fAdd (iVar 1) (iC (.int 1))) iNil))))) iSkip) (iSeq (iIfS (iTestB (iBin fEqB (iVar 2) (iC (.str S_i)))) (iSeq (iAsg (gN 3) (iCall (F I__law_number) (iCons (iVar 0) (iCons (iBin fAdd (iVar 1) (iC (.int 1))) (iCons (iC (.str S_x3b)) (iCons (iC (.bl true)) iNil)))))) (iSeq (iIfS (iTestB (iBin fIs (iVar 3) (iC .non))) (iRet (iTup (iCons (iC (.str S_wrong)) (iCons (iBin fAdd (iVar 1) (iC (.int 1))) iNil)))) iSkip) (iRet (iTup (iCons (iC (.str S_data)) (iCons (iBin fSubB (iVar 3) (iC (.int 0))) (iCons (iBin fSubB (iVar 3) (iC (.int 1))) iNil))))))) iSkip) (iSeq (iIfS (iTestB (iBin fEqB (iVar 2) (iC (.str S_t)))) (iSeq (iAsg (gN 3) (iCall (F I__law_number) (iCons (iVar 0) (iCons (iBin fAdd (iVar 1) (iC (.int 1))) (iCons (iC (.str S_x3a)) (iCons (iC (.bl false)) iNil)))))) (iSeq (iIfS (iOr (iTestB (iBin fIs (iVar 3) (iC .non))) (iTestB (iBin fGt (iBin fAdd (iBin fSubB (iVar 3) (iC (.int 1))) (iBin fSubB (iVar 3) (iC (.int 0)))) (iCall (a1 fLenB) (iCons (iVar 0) iNil))))) (iRet (iTup (iCons (iC (.str S_wrong)) (iCons (iBin fAdd (iVar 1) (iC (.int 1))) iNil)))) iSkip) (iRet (iTup (iCons (iC (.str S_data)) (iCons (iSl fSl (iVar 0) (iPart (iBin fSubB (iVar 3) (iC (.int 1)))) (iPart (iBin fAdd (iBin fSubB (iVar 3) (iC (.int 1))) (iBin fSubB (iVar 3) (iC (.int 0)))))) (iCons (iBin fAdd (iBin fSubB (iVar 3) (iC (.int 1))) (iBin fSubB (iVar 3) (iC (.int 0)))) iNil))))))) iSkip) (iSeq (iIfS (iAnd (iTestB (iBin fNeB (iVar 2) (iC (.str S_)))) (iTestB (iBin fInC (iVar 2) (iC (.str S_x28x5b))))) (iRet (iCall (F I__law_items) (iCons (iVar 0) (iCons (iBin fAdd (iVar 1) (iC (.int 1))) (iCons (iBin fSubB (iNew (iLst (iCons (iC (.str S_x29)) (iCons (iC (.str S_x5d)) iNil)))) (iCall (a1 fIntS) (iCons (iBin fEqB (iVar 2) (iC (.str S_x5b))) iNil))) iNil))))) iSkip) (iRet (iTup (iCons (iC (.str S_wrong)) (iCons (iVar 1) iNil)))))))))
noncomputable def b__law_items (F : Nat → FA) (G : Nat → FX) : IS := (iSeq (iAsg (gN 3) (iLst iNil)) (iSeq (iFor (iRange1 (iCons (iBin fAdd (iCall (a1 fLenB) (iCons (iVar 0) iNil)) (iC (.int 1))) iNil)) (gN 4) (iSeq (iIfS (iTestB (iBin fEqB (iSl fSl (iVar 0) (iPart (iVar 1)) (iPart (iBin fAdd (iVar 1) (iC (.int 1))))) (iVar 2))) (iSeq (iIfS (iTestB (iBin fEqB (iVar 2) (iC (.str S_x29)))) (iRet (iTup (iCons (iC (.str S_data)) (iCons (iCall (a1 fTuple) (iCons (iVar 3) iNil)) (iCons (iBin fAdd (iVar 1) (iC (.int 1))) iNil))))) iSkip) (iRet (iTup (iCons (iC (.str S_data)) (iCons (iFrz (iVar 3)) (iCons (iBin fAdd (iVar 1) (iC (.int 1))) iNil)))))) iSkip) (iSeq (iAsg (gN 5) (iCall (F I__law_read) (iCons (iVar 0) (iCons (iVar 1) iNil)))) (iSeq (iIfS (iTestB (iBin fEqB (iBin fSubB (iVar 5) (iC (.int 0))) (iC (.str S_wrong)))) (iRet (iVar 5)) iSkip) (iSeq (iDrop (iAppend (iVar 3) (iBin fSubB (iVar 5) (iC (.int 1))))) (iAsg (gN 1) (iBin fSubB (iVar 5) (iC (.int 2))))))))) (iRet (iTup (iCons (iC (.str S_wrong)) (iCons (iVar 1) iNil))))))
noncomputable def b__law_due (F : Nat → FA) (G : Nat → FX) : IS := (iSeq (iAsg (gN 1) (iCall (F I__law_read) (iCons (iVar 0) (iCons (iC (.int 0)) iNil)))) (iSeq (iIfS (iAnd (iTestB (iBin fEqB (iBin fSubB (iVar 1) (iC (.int 0))) (iC (.str S_data)))) (iTestB (iBin fLt (iBin fSubB (iVar 1) (iC (.int 2))) (iCall (a1 fLenB) (iCons (iVar 0) iNil))))) (iRet (iTup (iCons (iC (.str S_wrong)) (iCons (iBin fSubB (iVar 1) (iC (.int 2))) iNil)))) iSkip) (iRet (iSl fSl (iVar 1) iNo (iPart (iC (.int 2)))))))
noncomputable def b__law_told (F : Nat → FA) (G : Nat → FX) : IS := (iCatch S_FormError (iRetX (iTupX (iConsX (iOk (iC (.str S_data))) (iConsX (iCallX (G I_decode) (iCons (iVar 0) iNil)) (iOks iNil))))) 1 (fun fs => (iRet (iTup (iCons (iC (.str S_wrong)) (iCons (iExF fs S_at) (iCons (iC (.bl true)) iNil)))))) iSkip)
noncomputable def b_law (F : Nat → FA) (G : Nat → FX) : IS := (iSeq (iAsg (gN 1) (iCall (F I__law_state) (iCons (iVar 0) iNil))) (iSeq (iAsg (gN 2) (iCall (F I__law_data) (iCons (iVar 1) (iCons (iC (.int 4)) iNil)))) (iSeq (iAsg (gN 3) (iCall (a1 fReprA) (iCons (iVar 2) iNil))) (iSeq (iAsg (gN 4) (iCall (F I_encode) (iCons (iVar 2) iNil))) (iSeq (iIfS (iOr (iTestB (iBin fNeB (iVar 4) (iCall (F I__law_form) (iCons (iVar 2) iNil)))) (iOr (iTestB (iBin fNeB (iCall (a1 fReprA) (iCons (iCall (pureF (G I_decode)) (iCons (iVar 4) iNil)) iNil)) (iVar 3))) (iTestB (iBin fNeB (iCall (a1 fReprA) (iCons (iVar 2) iNil)) (iVar 3))))) (iRet (iC (.bl false))) iSkip) (iSeq (iFor (iRange1 (iCons (iC (.int 6)) iNil)) (gN 5) (iSeq (iAsg (gN 6) (iCall (F I__law_take) (iCons (iVar 1) (iCons (iBin fAdd (iCall (a1 fLenB) (iCons (iVar 4) iNil)) (iC (.int 1))) iNil)))) (iSeq (iAsg (gN 7) (iBin fSubB (iNew (iLst (iCons (iC (.str S_)) (iCons (iC (.str S_z)) (iCons (iC (.str S_i)) (iCons (iC (.str S_1)) (iCons (iC (.str S_x2d)) (iCons (iC (.str S_0)) (iCons (iC (.str S_x3b)) (iCons (iC (.str S_t)) (iCons (iC (.str S_x3a)) (iCons (iC (.str S_x28)) (iCons (iC (.str S_x29)) (iCons (iC (.str S_x5b)) (iCons (iC (.str S_x5d)) (iCons (iC (.str S_x)) iNil)))))))))))))))) (iCall (F I__law_take) (iCons (iVar 1) (iCons (iC (.int 14)) iNil))))) (iSeq (iAsg (gN 8) (iBin fAdd (iBin fAdd (iSl fSl (iVar 4) iNo (iPart (iVar 6))) (iVar 7)) (iSl fSl (iVar 4) (iPart (iBin fAdd (iVar 6) (iCall (F I__law_take) (iCons (iVar 1) (iCons (iC (.int 2)) iNil))))) iNo))) (iSeq (iAsg (gN 9) (iCall (F I__law_due) (iCons (iVar 8) iNil))) (iSeq (iIfS (iTestB (iBin fEqB (iBin fSubB (iVar 9) (iC (.int 0))) (iC (.str S_wrong)))) (iAsg (gN 9) (iBin fAdd (iVar 9) (iTup (iCons (iC (.bl true)) iNil)))) iSkip) (iIfS (iTestB (iBin fNeB (iCall (a1 fReprA) (iCons (iCall (F I__law_told) (iCons (iVar 8) iNil)) iNil)) (iCall (a1 fReprA) (iCons (iVar 9) iNil)))) (iRet (iC (.bl false))) iSkip))))))) (iRet (iC (.bl true)))))))))
noncomputable def FG : Nat → Nat → FA × FX
  | 0, _ => (fun _ _ => none, fun _ _ => none)
  | n + 1, 0 => (iDef 1 8 (b_encode (fun i => (FG n i).1) (fun i => (FG n i).2)), fun _ _ => none)
  | n + 1, 1 => (iDef 1 1 (b__plain_form (fun i => (FG n i).1) (fun i => (FG n i).2)), fun _ _ => none)
  | n + 1, 2 => (fun _ _ => none, iDefX 1 3 (b_decode (fun i => (FG n i).1) (fun i => (FG n i).2)))
  | n + 1, 3 => (fun _ _ => none, iDefX 2 8 (b_read_form (fun i => (FG n i).1) (fun i => (FG n i).2)))
  | n + 1, 4 => (fun _ _ => none, iDefX 2 5 (b__read_plain (fun i => (FG n i).1) (fun i => (FG n i).2)))
  | n + 1, 5 => (fun _ _ => none, iDefX 4 8 (b__read_number (fun i => (FG n i).1) (fun i => (FG n i).2)))
  | n + 1, 6 => (iDef 1 3 (b__law_state (fun i => (FG n i).1) (fun i => (FG n i).2)), fun _ _ => none)
  | n + 1, 7 => (iDef 2 6 (b__law_take (fun i => (FG n i).1) (fun i => (FG n i).2)), fun _ _ => none)
  | n + 1, 8 => (iDef 2 6 (b__law_data (fun i => (FG n i).1) (fun i => (FG n i).2)), fun _ _ => none)
  | n + 1, 9 => (iDef 1 3 (b__law_form (fun i => (FG n i).1) (fun i => (FG n i).2)), fun _ _ => none)
  | n + 1, 10 => (iDef 4 7 (b__law_number (fun i => (FG n i).1) (fun i => (FG n i).2)), fun _ _ => none)
  | n + 1, 11 => (iDef 2 4 (b__law_read (fun i => (FG n i).1) (fun i => (FG n i).2)), fun _ _ => none)
  | n + 1, 12 => (iDef 3 6 (b__law_items (fun i => (FG n i).1) (fun i => (FG n i).2)), fun _ _ => none)
  | n + 1, 13 => (iDef 1 2 (b__law_due (fun i => (FG n i).1) (fun i => (FG n i).2)), fun _ _ => none)
  | n + 1, 14 => (iDef 1 2 (b__law_told (fun i => (FG n i).1) (fun i => (FG n i).2)), fun _ _ => none)
  | n + 1, 15 => (iDef 1 10 (b_law (fun i => (FG n i).1) (fun i => (FG n i).2)), fun _ _ => none)
  | _ + 1, _ => (fun _ _ => none, fun _ _ => none)
noncomputable def FF (n i : Nat) : FA := (FG n i).1
noncomputable def GG (n i : Nat) : FX := (FG n i).2
theorem e_encode (n : Nat) : FF (n + 1) I_encode = iDef 1 8 (b_encode (FF n) (GG n)) := rfl
theorem ar_encode : ∀ n : Nat, Ar 1 (FF n I_encode)
  | 0 => fun _ _ _ h => nomatch h
  | n + 1 => by rw [e_encode]; exact ar_def
theorem e__plain_form (n : Nat) : FF (n + 1) I__plain_form = iDef 1 1 (b__plain_form (FF n) (GG n)) := rfl
theorem ar__plain_form : ∀ n : Nat, Ar 1 (FF n I__plain_form)
  | 0 => fun _ _ _ h => nomatch h
  | n + 1 => by rw [e__plain_form]; exact ar_def
theorem e_decode (n : Nat) : GG (n + 1) I_decode = iDefX 1 3 (b_decode (FF n) (GG n)) := rfl
theorem ar_decode : ∀ n : Nat, ArX 1 (GG n I_decode)
  | 0 => fun _ _ _ h => nomatch h
  | n + 1 => by rw [e_decode]; exact ar_defX
theorem e_read_form (n : Nat) : GG (n + 1) I_read_form = iDefX 2 8 (b_read_form (FF n) (GG n)) := rfl
theorem ar_read_form : ∀ n : Nat, ArX 2 (GG n I_read_form)
  | 0 => fun _ _ _ h => nomatch h
  | n + 1 => by rw [e_read_form]; exact ar_defX
theorem e__read_plain (n : Nat) : GG (n + 1) I__read_plain = iDefX 2 5 (b__read_plain (FF n) (GG n)) := rfl
theorem ar__read_plain : ∀ n : Nat, ArX 2 (GG n I__read_plain)
  | 0 => fun _ _ _ h => nomatch h
  | n + 1 => by rw [e__read_plain]; exact ar_defX
theorem e__read_number (n : Nat) : GG (n + 1) I__read_number = iDefX 4 8 (b__read_number (FF n) (GG n)) := rfl
theorem ar__read_number : ∀ n : Nat, ArX 4 (GG n I__read_number)
  | 0 => fun _ _ _ h => nomatch h
  | n + 1 => by rw [e__read_number]; exact ar_defX
theorem e__law_state (n : Nat) : FF (n + 1) I__law_state = iDef 1 3 (b__law_state (FF n) (GG n)) := rfl
theorem ar__law_state : ∀ n : Nat, Ar 1 (FF n I__law_state)
  | 0 => fun _ _ _ h => nomatch h
  | n + 1 => by rw [e__law_state]; exact ar_def
theorem e__law_take (n : Nat) : FF (n + 1) I__law_take = iDef 2 6 (b__law_take (FF n) (GG n)) := rfl
theorem ar__law_take : ∀ n : Nat, Ar 2 (FF n I__law_take)
  | 0 => fun _ _ _ h => nomatch h
  | n + 1 => by rw [e__law_take]; exact ar_def
theorem e__law_data (n : Nat) : FF (n + 1) I__law_data = iDef 2 6 (b__law_data (FF n) (GG n)) := rfl
theorem ar__law_data : ∀ n : Nat, Ar 2 (FF n I__law_data)
  | 0 => fun _ _ _ h => nomatch h
  | n + 1 => by rw [e__law_data]; exact ar_def
theorem e__law_form (n : Nat) : FF (n + 1) I__law_form = iDef 1 3 (b__law_form (FF n) (GG n)) := rfl
theorem ar__law_form : ∀ n : Nat, Ar 1 (FF n I__law_form)
  | 0 => fun _ _ _ h => nomatch h
  | n + 1 => by rw [e__law_form]; exact ar_def
theorem e__law_number (n : Nat) : FF (n + 1) I__law_number = iDef 4 7 (b__law_number (FF n) (GG n)) := rfl
theorem ar__law_number : ∀ n : Nat, Ar 4 (FF n I__law_number)
  | 0 => fun _ _ _ h => nomatch h
  | n + 1 => by rw [e__law_number]; exact ar_def
theorem e__law_read (n : Nat) : FF (n + 1) I__law_read = iDef 2 4 (b__law_read (FF n) (GG n)) := rfl
theorem ar__law_read : ∀ n : Nat, Ar 2 (FF n I__law_read)
  | 0 => fun _ _ _ h => nomatch h
  | n + 1 => by rw [e__law_read]; exact ar_def
theorem e__law_items (n : Nat) : FF (n + 1) I__law_items = iDef 3 6 (b__law_items (FF n) (GG n)) := rfl
theorem ar__law_items : ∀ n : Nat, Ar 3 (FF n I__law_items)
  | 0 => fun _ _ _ h => nomatch h
  | n + 1 => by rw [e__law_items]; exact ar_def
theorem e__law_due (n : Nat) : FF (n + 1) I__law_due = iDef 1 2 (b__law_due (FF n) (GG n)) := rfl
theorem ar__law_due : ∀ n : Nat, Ar 1 (FF n I__law_due)
  | 0 => fun _ _ _ h => nomatch h
  | n + 1 => by rw [e__law_due]; exact ar_def
theorem e__law_told (n : Nat) : FF (n + 1) I__law_told = iDef 1 2 (b__law_told (FF n) (GG n)) := rfl
theorem ar__law_told : ∀ n : Nat, Ar 1 (FF n I__law_told)
  | 0 => fun _ _ _ h => nomatch h
  | n + 1 => by rw [e__law_told]; exact ar_def
theorem e_law (n : Nat) : FF (n + 1) I_law = iDef 1 10 (b_law (FF n) (GG n)) := rfl
theorem ar_law : ∀ n : Nat, Ar 1 (FF n I_law)
  | 0 => fun _ _ _ h => nomatch h
  | n + 1 => by rw [e_law]; exact ar_def
/-- what the top has left: the built-ins' names, constants, classes; the defs, each at level n -/
structure Tb (P : Program) (w : World) (K : PySem.W.Frag) (mg : Str → Option Value) (base : Heap) (n : Nat) : Prop where
  z_abs : mg "abs" = none
  z_bool : mg "bool" = none
  z_int : mg "int" = none
  z_isinstance : mg "isinstance" = none
  z_len : mg "len" = none
  z_list : mg "list" = none
  z_range : mg "range" = none
  z_repr : mg "repr" = none
  z_reversed : mg "reversed" = none
  z_str : mg "str" = none
  z_tuple : mg "tuple" = none
  g_MOST_DIGITS : GC K mg "MOST_DIGITS" c_MOST_DIGITS
  t_WORDS : KTab K w mg "WORDS" tab_WORDS
  t_CLOSING : KTab K w mg "CLOSING" tab_CLOSING
  c_encode : CalJ P w K mg base (2 * n + 2) "encode" 1 (FF n I_encode)
  c__plain_form : CalJ P w K mg base (2 * n + 2) "_plain_form" 1 (FF n I__plain_form)
  c_decode : CalX P w K mg base (2 * n + 2) "decode" 1 (GG n I_decode)
  c_read_form : CalX P w K mg base (2 * n + 2) "read_form" 2 (GG n I_read_form)
  c__read_plain : CalX P w K mg base (2 * n + 2) "_read_plain" 2 (GG n I__read_plain)
  c__read_number : CalX P w K mg base (2 * n + 2) "_read_number" 4 (GG n I__read_number)
  c__law_state : CalJ P w K mg base (2 * n + 2) "_law_state" 1 (FF n I__law_state)
  c__law_take : CalJ P w K mg base (2 * n + 2) "_law_take" 2 (FF n I__law_take)
  c__law_data : CalJ P w K mg base (2 * n + 2) "_law_data" 2 (FF n I__law_data)
  c__law_form : CalG P w K mg base (2 * n + 2) "_law_form" 1 (FF n I__law_form)
  c__law_number : CalJ P w K mg base (2 * n + 2) "_law_number" 4 (FF n I__law_number)
  c__law_read : CalJ P w K mg base (2 * n + 2) "_law_read" 2 (FF n I__law_read)
  c__law_items : CalJ P w K mg base (2 * n + 2) "_law_items" 3 (FF n I__law_items)
  c__law_due : CalJ P w K mg base (2 * n + 2) "_law_due" 1 (FF n I__law_due)
  c__law_told : CalJ P w K mg base (2 * n + 2) "_law_told" 1 (FF n I__law_told)
  r_FormError : RaiJ P w K mg base 1 "FormError" "at" okInt
  h_FormError : CatJ K mg "FormError"
  at_FormError_at : AtJ K "FormError" "at"
  is_FormError_FlowError : IsJ K mg "FormError" "FlowError" true
section
variable {P : Program} {w : World} {K : PySem.W.Frag} {mg : Str → Option Value} {base : Heap} {n : Nat}
theorem k_encode (T : Tb P w K mg base n) {f : Addr} (cdv : Value) (A : Around) (outer : List PySem.Env) (s : Shared) (H : Hp) (E : XK) (hr : Room (2 * n + 3) (A.deeper (envOfC "encode" (C8.fnScope s_encode) s.heap.objs.size f cdv))) :
    PSs (cxOf CX0 P w K mg base ["data", "parts", "waiting", "thing", "is_data", "first", "last", "item"] "encode" (C8.fnScope s_encode) f cdv A outer s H E).nox (C8.fnBody s_encode) (tIS K W0 (b_encode (FF n) (GG n))) :=
  have nd := sc_encode.nd
  have hu := hu_of hr
  have hv : (A.deeper (envOfC "encode" (C8.fnScope s_encode) s.heap.objs.size f cdv)).units + 65 < cLine := by have := hr.un; omega
  (s_cons (s_set (i := 1) nd rfl (by first | exact .inl rfl | exact .inr rfl) (r_lst a_nil)) (s_cons (s_set (i := 2) nd rfl (by first | exact .inl rfl | exact .inr rfl) (r_lst (a_cons (r_tup (a_cons (r_var (i := 0) rfl (by first | exact .inl rfl | exact .inr (.inl rfl) | exact .inr (.inr rfl))) (a_cons r_bl a_nil))) a_nil))) (s_cons (s_while PassesOwn.never (r_truth (r_var (i := 2) rfl (by first | exact .inl rfl | exact .inr (.inl rfl) | exact .inr (.inr rfl))) (by intro _; rfl)) (s_cons (s_asg (r_pop (r_var (i := 2) rfl (by first | exact .inl rfl | exact .inr (.inl rfl) | exact .inr (.inr rfl)))) (g_tup rfl (gs_cons (g_name (i := 3) nd rfl (by first | exact .inl rfl | exact .inr rfl)) (gs_cons (g_name (i := 4) nd rfl (by first | exact .inl rfl | exact .inr rfl)) gs_nil)))) (s_one (s_if (r_not (r_truth (r_var (i := 4) rfl (by first | exact .inl rfl | exact .inr (.inl rfl) | exact .inr (.inr rfl))) (by intro _; rfl))) (s_one (s_expr (r_append (r_var (i := 1) rfl (by first | exact .inl rfl | exact .inr (.inl rfl) | exact .inr (.inr rfl))) (r_var (i := 3) rfl (by first | exact .inl rfl | exact .inr (.inl rfl) | exact .inr (.inr rfl)))))) (s_one (s_if (r_truth (r_is2 rfl T.z_isinstance (r_var (i := 3) rfl (by first | exact .inl rfl | exact .inr (.inl rfl) | exact .inr (.inr rfl))) (r_ty rfl T.z_list (by decide +kernel)) (r_ty rfl T.z_tuple (by decide +kernel))) (by intro _; rfl)) (s_cons (s_asg (r_ifExp (r_truth (r_callB call_isi f_isi rfl T.z_isinstance (by decide +kernel) (a_cons (r_var (i := 3) rfl (by first | exact .inl rfl | exact .inr (.inl rfl) | exact .inr (.inr rfl))) (a_cons (r_ty rfl T.z_list (by decide +kernel)) a_nil))) (by intro _; rfl)) (r_tup (a_cons r_str (a_cons r_str a_nil))) (r_tup (a_cons r_str (a_cons r_str a_nil)))) (g_tup rfl (gs_cons (g_name (i := 5) nd rfl (by first | exact .inl rfl | exact .inr rfl)) (gs_cons (g_name (i := 6) nd rfl (by first | exact .inl rfl | exact .inr rfl)) gs_nil)))) (s_cons (s_expr (r_append (r_var (i := 1) rfl (by first | exact .inl rfl | exact .inr (.inl rfl) | exact .inr (.inr rfl))) (r_var (i := 5) rfl (by first | exact .inl rfl | exact .inr (.inl rfl) | exact .inr (.inr rfl))))) (s_cons (s_expr (r_append (r_var (i := 2) rfl (by first | exact .inl rfl | exact .inr (.inl rfl) | exact .inr (.inr rfl))) (r_tup (a_cons (r_var (i := 6) rfl (by first | exact .inl rfl | exact .inr (.inl rfl) | exact .inr (.inr rfl))) (a_cons r_bl a_nil))))) (s_one (s_expr (r_extend (r_var (i := 2) rfl (by first | exact .inl rfl | exact .inr (.inl rfl) | exact .inr (.inr rfl))) (r_lc (own := [("item", 7)]) rfl nd (i_revW rfl T.z_reversed (r_var (i := 3) rfl (by first | exact .inl rfl | exact .inr (.inl rfl) | exact .inr (.inr rfl)))) (by first | exact blkOk_by (N := ["data", "parts", "waiting", "thing", "is_data", "first", "last", "item"]) (sc := C8.fnScope s_encode) (by decide +kernel) | exact blkOk_by rfl | exact blkOk_by (by with_unfolding_all rfl)) (by decide) (fun _ _ _ _ _ => (g_name (i := 7) nd rfl (by first | exact .inl rfl | exact .inr rfl))) (fun _ _ _ _ _ => t_yes) (fun _ _ _ _ _ => (r_tup (a_cons (r_var (i := 7) rfl (by first | exact .inl rfl | exact .inr (.inl rfl) | exact .inr (.inr rfl))) (a_cons r_bl a_nil))))))))))) (s_one (s_expr (r_append (r_var (i := 1) rfl (by first | exact .inl rfl | exact .inr (.inl rfl) | exact .inr (.inr rfl))) (j_call T.c__plain_form (ar__plain_form _) hr (Nat.le_succ _) rfl (a_cons (r_var (i := 3) rfl (by first | exact .inl rfl | exact .inr (.inl rfl) | exact .inr (.inr rfl))) a_nil))))))))))) (s_one (s_ret (r_join r_str (r_var (i := 1) rfl (by first | exact .inl rfl | exact .inr (.inl rfl) | exact .inr (.inr rfl)))))))))
theorem k__plain_form (T : Tb P w K mg base n) {f : Addr} (cdv : Value) (A : Around) (outer : List PySem.Env) (s : Shared) (H : Hp) (E : XK) (hr : Room (2 * n + 3) (A.deeper (envOfC "_plain_form" (C8.fnScope s__plain_form) s.heap.objs.size f cdv))) :
    PSs (cxOf CX0 P w K mg base ["thing"] "_plain_form" (C8.fnScope s__plain_form) f cdv A outer s H E).nox (C8.fnBody s__plain_form) (tIS K W0 (b__plain_form (FF n) (GG n))) :=
  have nd := sc__plain_form.nd
  have hu := hu_of hr
  have hv : (A.deeper (envOfC "_plain_form" (C8.fnScope s__plain_form) s.heap.objs.size f cdv)).units + 65 < cLine := by have := hr.un; omega
  (s_cons (s_if (r_cmpT op_isA f_is (r_var (i := 0) rfl (by first | exact .inl rfl | exact .inr (.inl rfl) | exact .inr (.inr rfl))) r_non (nomark _)) (s_one (s_ret r_str)) s_nil) (s_cons (s_if (r_truth (r_callB call_isi f_isi rfl T.z_isinstance (by decide +kernel) (a_cons (r_var (i := 0) rfl (by first | exact .inl rfl | exact .inr (.inl rfl) | exact .inr (.inr rfl))) (a_cons (r_ty rfl T.z_bool (by decide +kernel)) a_nil))) (by intro _; rfl)) (s_one (s_ret (r_ifExp (r_truth (r_var (i := 0) rfl (by first | exact .inl rfl | exact .inr (.inl rfl) | exact .inr (.inr rfl))) (by intro _; rfl)) r_str r_str))) s_nil) (s_cons (s_if (r_truth (r_callB call_isi f_isi rfl T.z_isinstance (by decide +kernel) (a_cons (r_var (i := 0) rfl (by first | exact .inl rfl | exact .inr (.inl rfl) | exact .inr (.inr rfl))) (a_cons (r_ty rfl T.z_int (by decide +kernel)) a_nil))) (by intro _; rfl)) (s_one (s_ret (r_fstr (.con (.fmt (r_var (i := 0) rfl (by first | exact .inl rfl | exact .inr (.inl rfl) | exact .inr (.inr rfl))) (.con .nil)))))) s_nil) (s_one (s_ret (r_fstr (.con (.fmt (r_callB cr_len f_lenB rfl T.z_len (by decide +kernel) (a_cons (r_var (i := 0) rfl (by first | exact .inl rfl | exact .inr (.inl rfl) | exact .inr (.inr rfl))) a_nil)) (.con (.fmt (r_var (i := 0) rfl (by first | exact .inl rfl | exact .inr (.inl rfl) | exact .inr (.inr rfl))) .nil))))))))))
theorem k_decode (T : Tb P w K mg base n) {f : Addr} (cdv : Value) (A : Around) (outer : List PySem.Env) (s : Shared) (H : Hp) (E : XK) (hr : Room (2 * n + 3) (A.deeper (envOfC "decode" (C8.fnScope s_decode) s.heap.objs.size f cdv))) (tk : L2N.Takes (cxOf (L2N.CX P w) P w K mg base ["text", "data", "behind"] "decode" (C8.fnScope s_decode) f cdv A outer s H E) (WC E)) :
    PSs (cxOf (L2N.CX P w) P w K mg base ["text", "data", "behind"] "decode" (C8.fnScope s_decode) f cdv A outer s H E) (C8.fnBody s_decode) (tIS K (WC E) (b_decode (FF n) (GG n))) :=
  have nd := sc_decode.nd
  have hu := hu_of hr
  have hv : (A.deeper (envOfC "decode" (C8.fnScope s_decode) s.heap.objs.size f cdv)).units + 65 < cLine := by have := hr.un; omega
  (s_cons (s_asgX (x_call T.c_read_form (ar_read_form _) hr (Nat.le_succ _) rfl tk (a_cons (r_var (i := 0) rfl (by first | exact .inl rfl | exact .inr (.inl rfl) | exact .inr (.inr rfl))) (a_cons r_int a_nil))) (g_tup rfl (gs_cons (g_name (i := 1) nd rfl (by first | exact .inl rfl | exact .inr rfl)) (gs_cons (g_name (i := 2) nd rfl (by first | exact .inl rfl | exact .inr rfl)) gs_nil)))) (s_cons (s_if (r_cmpT (op_ltA hr.units0) f_lt (r_var (i := 2) rfl (by first | exact .inl rfl | exact .inr (.inl rfl) | exact .inr (.inr rfl))) (r_callB cr_len f_lenB rfl T.z_len (by decide +kernel) (a_cons (r_var (i := 0) rfl (by first | exact .inl rfl | exact .inr (.inl rfl) | exact .inr (.inr rfl))) a_nil)) (nomark _)) (s_one (s_raise T.r_FormError (fun _ _ _ _ h r => okPI_ok h r) hr (by omega) rfl rfl tk (r_var (i := 2) rfl (by first | exact .inl rfl | exact .inr (.inl rfl) | exact .inr (.inr rfl))))) s_nil) (s_one (s_ret (r_var (i := 1) rfl (by first | exact .inl rfl | exact .inr (.inl rfl) | exact .inr (.inr rfl)))))))
theorem k_read_form (T : Tb P w K mg base n) {f : Addr} (cdv : Value) (A : Around) (outer : List PySem.Env) (s : Shared) (H : Hp) (E : XK) (hr : Room (2 * n + 3) (A.deeper (envOfC "read_form" (C8.fnScope s_read_form) s.heap.objs.size f cdv))) (tk : L2N.Takes (cxOf (L2N.CX P w) P w K mg base ["text", "start", "rows", "signs", "at", "letter", "items", "data"] "read_form" (C8.fnScope s_read_form) f cdv A outer s H E) (WC E)) :
    PSs (cxOf (L2N.CX P w) P w K mg base ["text", "start", "rows", "signs", "at", "letter", "items", "data"] "read_form" (C8.fnScope s_read_form) f cdv A outer s H E) (C8.fnBody s_read_form) (tIS K (WC E) (b_read_form (FF n) (GG n))) :=
  have nd := sc_read_form.nd
  have hu := hu_of hr
  have hv : (A.deeper (envOfC "read_form" (C8.fnScope s_read_form) s.heap.objs.size f cdv)).units + 65 < cLine := by have := hr.un; omega
  (s_cons (s_set (i := 2) nd rfl (by first | exact .inl rfl | exact .inr rfl) (r_lst (a_cons (r_lst a_nil) a_nil))) (s_cons (s_set (i := 3) nd rfl (by first | exact .inl rfl | exact .inr rfl) (r_lst a_nil)) (s_cons (s_set (i := 4) nd rfl (by first | exact .inl rfl | exact .inr rfl) (r_var (i := 1) rfl (by first | exact .inl rfl | exact .inr (.inl rfl) | exact .inr (.inr rfl)))) (s_cons (s_while (passes_of rfl) (r_not (r_truth (r_subB hu (r_var (i := 2) rfl (by first | exact .inl rfl | exact .inr (.inl rfl) | exact .inr (.inr rfl))) r_int (fun _ _ => rfl)) (by intro _; rfl))) (s_cons (s_set (i := 5) nd rfl (by first | exact .inl rfl | exact .inr rfl) (r_slice sl_any f_sl (r_var (i := 0) rfl (by first | exact .inl rfl | exact .inr (.inl rfl) | exact .inr (.inr rfl))) (o_some (r_var (i := 4) rfl (by first | exact .inl rfl | exact .inr (.inl rfl) | exact .inr (.inr rfl)))) (o_some (r_op op_addI f_add (r_var (i := 4) rfl (by first | exact .inl rfl | exact .inr (.inl rfl) | exact .inr (.inr rfl))) r_int)))) (s_one (s_if (j_inTabT T.t_CLOSING rfl (r_var (i := 5) rfl (by first | exact .inl rfl | exact .inr (.inl rfl) | exact .inr (.inr rfl)))) (s_cons (s_expr (r_append (r_var (i := 2) rfl (by first | exact .inl rfl | exact .inr (.inl rfl) | exact .inr (.inr rfl))) (r_lst a_nil))) (s_cons (s_expr (r_append (r_var (i := 3) rfl (by first | exact .inl rfl | exact .inr (.inl rfl) | exact .inr (.inr rfl))) (r_var (i := 5) rfl (by first | exact .inl rfl | exact .inr (.inl rfl) | exact .inr (.inr rfl))))) (s_one (s_augAdd (i := 4) nd rfl (by first | exact .inl rfl | exact .inr rfl) r_int)))) (s_one (s_if (PW.pt (w_and (r_truth (r_var (i := 3) rfl (by first | exact .inl rfl | exact .inr (.inl rfl) | exact .inr (.inr rfl))) (by intro _; rfl)) (w_and1 (r_cmpT (op_eqB hv) f_eqB (r_var (i := 5) rfl (by first | exact .inl rfl | exact .inr (.inl rfl) | exact .inr (.inr rfl))) (j_tab T.t_CLOSING rfl (r_subB hu (r_var (i := 3) rfl (by first | exact .inl rfl | exact .inr (.inl rfl) | exact .inr (.inr rfl))) (r_un un_neg f_neg r_int) (fun _ _ => rfl)) (fun _ _ => rfl)) (nomark _))))) (s_cons (s_set (i := 6) nd rfl (by first | exact .inl rfl | exact .inr rfl) (r_pop (r_var (i := 2) rfl (by first | exact .inl rfl | exact .inr (.inl rfl) | exact .inr (.inr rfl))))) (s_cons (s_expr (r_append (r_subB hu (r_var (i := 2) rfl (by first | exact .inl rfl | exact .inr (.inl rfl) | exact .inr (.inr rfl))) (r_un un_neg f_neg r_int) (fun _ _ => rfl)) (r_ifExp (r_cmpT (op_eqB hv) f_eqB (r_pop (r_var (i := 3) rfl (by first | exact .inl rfl | exact .inr (.inl rfl) | exact .inr (.inr rfl)))) r_str (nomark _)) (r_callTy call_tuple_of f_tuple rfl T.z_tuple (by decide +kernel) (a_cons (r_frz (r_var (i := 6) rfl (by first | exact .inl rfl | exact .inr (.inl rfl) | exact .inr (.inr rfl)))) a_nil)) (r_frz (r_var (i := 6) rfl (by first | exact .inl rfl | exact .inr (.inl rfl) | exact .inr (.inr rfl))))))) (s_one (s_augAdd (i := 4) nd rfl (by first | exact .inl rfl | exact .inr rfl) r_int)))) (s_cons (s_asgX (x_call T.c__read_plain (ar__read_plain _) hr (Nat.le_succ _) rfl tk (a_cons (r_var (i := 0) rfl (by first | exact .inl rfl | exact .inr (.inl rfl) | exact .inr (.inr rfl))) (a_cons (r_var (i := 4) rfl (by first | exact .inl rfl | exact .inr (.inl rfl) | exact .inr (.inr rfl))) a_nil))) (g_tup rfl (gs_cons (g_name (i := 7) nd rfl (by first | exact .inl rfl | exact .inr rfl)) (gs_cons (g_name (i := 4) nd rfl (by first | exact .inl rfl | exact .inr rfl)) gs_nil)))) (s_one (s_expr (r_append (r_subB hu (r_var (i := 2) rfl (by first | exact .inl rfl | exact .inr (.inl rfl) | exact .inr (.inr rfl))) (r_un un_neg f_neg r_int) (fun _ _ => rfl)) (r_var (i := 7) rfl (by first | exact .inl rfl | exact .inr (.inl rfl) | exact .inr (.inr rfl))))))))))))) (s_one (s_ret (r_tup (a_cons (r_subB hu (r_subB hu (r_var (i := 2) rfl (by first | exact .inl rfl | exact .inr (.inl rfl) | exact .inr (.inr rfl))) r_int (fun _ _ => rfl)) r_int (fun _ _ => rfl)) (a_cons (r_var (i := 4) rfl (by first | exact .inl rfl | exact .inr (.inl rfl) | exact .inr (.inr rfl))) a_nil)))))))))
theorem k__read_plain (T : Tb P w K mg base n) {f : Addr} (cdv : Value) (A : Around) (outer : List PySem.Env) (s : Shared) (H : Hp) (E : XK) (hr : Room (2 * n + 3) (A.deeper (envOfC "_read_plain" (C8.fnScope s__read_plain) s.heap.objs.size f cdv))) (tk : L2N.Takes (cxOf (L2N.CX P w) P w K mg base ["text", "at", "letter", "size", "behind"] "_read_plain" (C8.fnScope s__read_plain) f cdv A outer s H E) (WC E)) :
    PSs (cxOf (L2N.CX P w) P w K mg base ["text", "at", "letter", "size", "behind"] "_read_plain" (C8.fnScope s__read_plain) f cdv A outer s H E) (C8.fnBody s__read_plain) (tIS K (WC E) (b__read_plain (FF n) (GG n))) :=
  have nd := sc__read_plain.nd
  have hu := hu_of hr
  have hv : (A.deeper (envOfC "_read_plain" (C8.fnScope s__read_plain) s.heap.objs.size f cdv)).units + 65 < cLine := by have := hr.un; omega
  (s_cons (s_set (i := 2) nd rfl (by first | exact .inl rfl | exact .inr rfl) (r_slice sl_any f_sl (r_var (i := 0) rfl (by first | exact .inl rfl | exact .inr (.inl rfl) | exact .inr (.inr rfl))) (o_some (r_var (i := 1) rfl (by first | exact .inl rfl | exact .inr (.inl rfl) | exact .inr (.inr rfl)))) (o_some (r_op op_addI f_add (r_var (i := 1) rfl (by first | exact .inl rfl | exact .inr (.inl rfl) | exact .inr (.inr rfl))) r_int)))) (s_cons (s_if (j_inTabT T.t_WORDS rfl (r_var (i := 2) rfl (by first | exact .inl rfl | exact .inr (.inl rfl) | exact .inr (.inr rfl)))) (s_one (s_ret (r_tup (a_cons (j_tab T.t_WORDS rfl (r_var (i := 2) rfl (by first | exact .inl rfl | exact .inr (.inl rfl) | exact .inr (.inr rfl))) (fun _ _ => rfl)) (a_cons (r_op op_addI f_add (r_var (i := 1) rfl (by first | exact .inl rfl | exact .inr (.inl rfl) | exact .inr (.inr rfl))) r_int) a_nil))))) s_nil) (s_cons (s_if (r_cmpT (op_eqB hv) f_eqB (r_var (i := 2) rfl (by first | exact .inl rfl | exact .inr (.inl rfl) | exact .inr (.inr rfl))) r_str (nomark _)) (s_one (s_retX (x_call T.c__read_number (ar__read_number _) hr (Nat.le_succ _) rfl tk (a_cons (r_var (i := 0) rfl (by first | exact .inl rfl | exact .inr (.inl rfl) | exact .inr (.inr rfl))) (a_cons (r_op op_addI f_add (r_var (i := 1) rfl (by first | exact .inl rfl | exact .inr (.inl rfl) | exact .inr (.inr rfl))) r_int) (a_cons r_str (a_cons r_bl a_nil))))))) s_nil) (s_cons (s_if (r_cmpT (op_eqB hv) f_eqB (r_var (i := 2) rfl (by first | exact .inl rfl | exact .inr (.inl rfl) | exact .inr (.inr rfl))) r_str (nomark _)) (s_cons (s_asgX (x_call T.c__read_number (ar__read_number _) hr (Nat.le_succ _) rfl tk (a_cons (r_var (i := 0) rfl (by first | exact .inl rfl | exact .inr (.inl rfl) | exact .inr (.inr rfl))) (a_cons (r_op op_addI f_add (r_var (i := 1) rfl (by first | exact .inl rfl | exact .inr (.inl rfl) | exact .inr (.inr rfl))) r_int) (a_cons r_str (a_cons r_bl a_nil))))) (g_tup rfl (gs_cons (g_name (i := 3) nd rfl (by first | exact .inl rfl | exact .inr rfl)) (gs_cons (g_name (i := 4) nd rfl (by first | exact .inl rfl | exact .inr rfl)) gs_nil)))) (s_cons (s_if (r_cmpT op_gtA f_gt (r_op op_addI f_add (r_var (i := 4) rfl (by first | exact .inl rfl | exact .inr (.inl rfl) | exact .inr (.inr rfl))) (r_var (i := 3) rfl (by first | exact .inl rfl | exact .inr (.inl rfl) | exact .inr (.inr rfl)))) (r_callB cr_len f_lenB rfl T.z_len (by decide +kernel) (a_cons (r_var (i := 0) rfl (by first | exact .inl rfl | exact .inr (.inl rfl) | exact .inr (.inr rfl))) a_nil)) (nomark _)) (s_one (s_raise T.r_FormError (fun _ _ _ _ h r => okPI_ok h r) hr (by omega) rfl rfl tk (r_op op_addI f_add (r_var (i := 1) rfl (by first | exact .inl rfl | exact .inr (.inl rfl) | exact .inr (.inr rfl))) r_int))) s_nil) (s_one (s_ret (r_tup (a_cons (r_slice sl_any f_sl (r_var (i := 0) rfl (by first | exact .inl rfl | exact .inr (.inl rfl) | exact .inr (.inr rfl))) (o_some (r_var (i := 4) rfl (by first | exact .inl rfl | exact .inr (.inl rfl) | exact .inr (.inr rfl)))) (o_some (r_op op_addI f_add (r_var (i := 4) rfl (by first | exact .inl rfl | exact .inr (.inl rfl) | exact .inr (.inr rfl))) (r_var (i := 3) rfl (by first | exact .inl rfl | exact .inr (.inl rfl) | exact .inr (.inr rfl)))))) (a_cons (r_op op_addI f_add (r_var (i := 4) rfl (by first | exact .inl rfl | exact .inr (.inl rfl) | exact .inr (.inr rfl))) (r_var (i := 3) rfl (by first | exact .inl rfl | exact .inr (.inl rfl) | exact .inr (.inr rfl)))) a_nil))))))) s_nil) (s_one (s_raise T.r_FormError (fun _ _ _ _ h r => okPI_ok h r) hr (by omega) rfl rfl tk (r_var (i := 1) rfl (by first | exact .inl rfl | exact .inr (.inl rfl) | exact .inr (.inr rfl)))))))))
theorem k__read_number (T : Tb P w K mg base n) {f : Addr} (cdv : Value) (A : Around) (outer : List PySem.Env) (s : Shared) (H : Hp) (E : XK) (hr : Room (2 * n + 3) (A.deeper (envOfC "_read_number" (C8.fnScope s__read_number) s.heap.objs.size f cdv))) (tk : L2N.Takes (cxOf (L2N.CX P w) P w K mg base ["text", "start", "sign", "is_signed", "first", "behind", "digits", "number"] "_read_number" (C8.fnScope s__read_number) f cdv A outer s H E) (WC E)) :
    PSs (cxOf (L2N.CX P w) P w K mg base ["text", "start", "sign", "is_signed", "first", "behind", "digits", "number"] "_read_number" (C8.fnScope s__read_number) f cdv A outer s H E) (C8.fnBody s__read_number) (tIS K (WC E) (b__read_number (FF n) (GG n))) :=
  have nd := sc__read_number.nd
  have hu := hu_of hr
  have hv : (A.deeper (envOfC "_read_number" (C8.fnScope s__read_number) s.heap.objs.size f cdv)).units + 65 < cLine := by have := hr.un; omega
  (s_cons (s_set (i := 4) nd rfl (by first | exact .inl rfl | exact .inr rfl) (r_ifExp (PW.pt (w_and (r_truth (r_var (i := 3) rfl (by first | exact .inl rfl | exact .inr (.inl rfl) | exact .inr (.inr rfl))) (by intro _; rfl)) (w_and1 (r_cmpT (op_eqB hv) f_eqB (r_slice sl_any f_sl (r_var (i := 0) rfl (by first | exact .inl rfl | exact .inr (.inl rfl) | exact .inr (.inr rfl))) (o_some (r_var (i := 1) rfl (by first | exact .inl rfl | exact .inr (.inl rfl) | exact .inr (.inr rfl)))) (o_some (r_op op_addI f_add (r_var (i := 1) rfl (by first | exact .inl rfl | exact .inr (.inl rfl) | exact .inr (.inr rfl))) r_int))) r_str (nomark _))))) (r_op op_addI f_add (r_var (i := 1) rfl (by first | exact .inl rfl | exact .inr (.inl rfl) | exact .inr (.inr rfl))) r_int) (r_var (i := 1) rfl (by first | exact .inl rfl | exact .inr (.inl rfl) | exact .inr (.inr rfl))))) (s_cons (s_set (i := 5) nd rfl (by first | exact .inl rfl | exact .inr rfl) (r_var (i := 4) rfl (by first | exact .inl rfl | exact .inr (.inl rfl) | exact .inr (.inr rfl)))) (s_cons (s_while (passes_of rfl) (PW.pt (w_and (r_chainT (op_leA hr.units0) f_le (op_leA hr.units0) f_le r_str (r_slice sl_any f_sl (r_var (i := 0) rfl (by first | exact .inl rfl | exact .inr (.inl rfl) | exact .inr (.inr rfl))) (o_some (r_var (i := 5) rfl (by first | exact .inl rfl | exact .inr (.inl rfl) | exact .inr (.inr rfl)))) (o_some (r_op op_addI f_add (r_var (i := 5) rfl (by first | exact .inl rfl | exact .inr (.inl rfl) | exact .inr (.inr rfl))) r_int))) r_str) (w_and1 (r_cmpT (op_ltA hr.units0) f_lt (r_op op_subI f_sub (r_var (i := 5) rfl (by first | exact .inl rfl | exact .inr (.inl rfl) | exact .inr (.inr rfl))) (r_var (i := 4) rfl (by first | exact .inl rfl | exact .inr (.inl rfl) | exact .inr (.inr rfl)))) (r_glob rfl T.g_MOST_DIGITS) (nomark _))))) (s_one (s_augAdd (i := 5) nd rfl (by first | exact .inl rfl | exact .inr rfl) r_int))) (s_cons (s_set (i := 6) nd rfl (by first | exact .inl rfl | exact .inr rfl) (r_slice sl_any f_sl (r_var (i := 0) rfl (by first | exact .inl rfl | exact .inr (.inl rfl) | exact .inr (.inr rfl))) (o_some (r_var (i := 4) rfl (by first | exact .inl rfl | exact .inr (.inl rfl) | exact .inr (.inr rfl)))) (o_some (r_var (i := 5) rfl (by first | exact .inl rfl | exact .inr (.inl rfl) | exact .inr (.inr rfl)))))) (s_cons (s_if (PW.pt (w_or (r_cmpT (op_eqB hv) f_eqB (r_var (i := 6) rfl (by first | exact .inl rfl | exact .inr (.inl rfl) | exact .inr (.inr rfl))) r_str (nomark _)) (w_or1 (r_cmpT (op_neB hv) f_neB (r_slice sl_any f_sl (r_var (i := 0) rfl (by first | exact .inl rfl | exact .inr (.inl rfl) | exact .inr (.inr rfl))) (o_some (r_var (i := 5) rfl (by first | exact .inl rfl | exact .inr (.inl rfl) | exact .inr (.inr rfl)))) (o_some (r_op op_addI f_add (r_var (i := 5) rfl (by first | exact .inl rfl | exact .inr (.inl rfl) | exact .inr (.inr rfl))) r_int))) (r_var (i := 2) rfl (by first | exact .inl rfl | exact .inr (.inl rfl) | exact .inr (.inr rfl))) (nomark _))))) (s_one (s_raise T.r_FormError (fun _ _ _ _ h r => okPI_ok h r) hr (by omega) rfl rfl tk (r_var (i := 1) rfl (by first | exact .inl rfl | exact .inr (.inl rfl) | exact .inr (.inr rfl))))) s_nil) (s_cons (s_if (PW.pt (w_and (r_cmpT (op_eqB hv) f_eqB (r_subB hu (r_var (i := 6) rfl (by first | exact .inl rfl | exact .inr (.inl rfl) | exact .inr (.inr rfl))) r_int (fun _ _ => rfl)) r_str (nomark _)) (w_and1 (PW.pt (w_or (r_cmpT op_gtA f_gt (r_var (i := 4) rfl (by first | exact .inl rfl | exact .inr (.inl rfl) | exact .inr (.inr rfl))) (r_var (i := 1) rfl (by first | exact .inl rfl | exact .inr (.inl rfl) | exact .inr (.inr rfl))) (nomark _)) (w_or1 (r_cmpT (op_neB hv) f_neB (r_var (i := 6) rfl (by first | exact .inl rfl | exact .inr (.inl rfl) | exact .inr (.inr rfl))) r_str (nomark _)))))))) (s_one (s_raise T.r_FormError (fun _ _ _ _ h r => okPI_ok h r) hr (by omega) rfl rfl tk (r_var (i := 1) rfl (by first | exact .inl rfl | exact .inr (.inl rfl) | exact .inr (.inr rfl))))) s_nil) (s_cons (s_set (i := 7) nd rfl (by first | exact .inl rfl | exact .inr rfl) (r_callTy call_intS f_intS rfl T.z_int (by decide +kernel) (a_cons (r_var (i := 6) rfl (by first | exact .inl rfl | exact .inr (.inl rfl) | exact .inr (.inr rfl))) a_nil))) (s_one (s_ret (r_tup (a_cons (r_ifExp (r_cmpT op_gtA f_gt (r_var (i := 4) rfl (by first | exact .inl rfl | exact .inr (.inl rfl) | exact .inr (.inr rfl))) (r_var (i := 1) rfl (by first | exact .inl rfl | exact .inr (.inl rfl) | exact .inr (.inr rfl))) (nomark _)) (r_un un_neg f_neg (r_var (i := 7) rfl (by first | exact .inl rfl | exact .inr (.inl rfl) | exact .inr (.inr rfl)))) (r_var (i := 7) rfl (by first | exact .inl rfl | exact .inr (.inl rfl) | exact .inr (.inr rfl)))) (a_cons (r_op op_addI f_add (r_var (i := 5) rfl (by first | exact .inl rfl | exact .inr (.inl rfl) | exact .inr (.inr rfl))) r_int) a_nil))))))))))))
theorem k__law_state (T : Tb P w K mg base n) {f : Addr} (cdv : Value) (A : Around) (outer : List PySem.Env) (s : Shared) (H : Hp) (E : XK) (hr : Room (2 * n + 3) (A.deeper (envOfC "_law_state" (C8.fnScope s__law_state) s.heap.objs.size f cdv))) :
    PSs (cxOf CX0 P w K mg base ["script", "cells", "cell"] "_law_state" (C8.fnScope s__law_state) f cdv A outer s H E).nox (C8.fnBody s__law_state) (tIS K W0 (b__law_state (FF n) (GG n))) :=
  have nd := sc__law_state.nd
  have hu := hu_of hr
  have hv : (A.deeper (envOfC "_law_state" (C8.fnScope s__law_state) s.heap.objs.size f cdv)).units + 65 < cLine := by have := hr.un; omega
  (s_cons (s_setLc (i := 1) rfl rfl (sw_true rfl rfl rfl (by decide +kernel)) (own := [("cell", 2)]) rfl nd (i_walk (r_slice sl_any f_sl (r_var (i := 0) rfl (by first | exact .inl rfl | exact .inr (.inl rfl) | exact .inr (.inr rfl))) o_none (o_some r_int))) (by first | exact blkOk_by (N := ["script", "cells", "cell"]) (sc := C8.fnScope s__law_state) (by decide +kernel) | exact blkOk_by rfl | exact blkOk_by (by with_unfolding_all rfl)) (by decide) (fun _ _ _ _ _ => (g_name (i := 2) nd rfl (by first | exact .inl rfl | exact .inr rfl))) (fun _ _ _ _ _ => t_yes) (fun _ _ _ _ _ => (r_callB call_abs f_abs rfl T.z_abs (by decide +kernel) (a_cons (r_var (i := 2) rfl (by first | exact .inl rfl | exact .inr (.inl rfl) | exact .inr (.inr rfl))) a_nil)))) (s_cons (s_if (r_cmpT (op_eqB hv) f_eqB (r_callB cr_len f_lenB rfl T.z_len (by decide +kernel) (a_cons (r_var (i := 1) rfl (by first | exact .inl rfl | exact .inr (.inl rfl) | exact .inr (.inr rfl))) a_nil)) r_int (nomark _)) (s_one (s_set (i := 1) nd rfl (by first | exact .inl rfl | exact .inr rfl) (r_lst (a_cons r_int a_nil)))) s_nil) (s_one (s_ret (r_lst (a_cons r_int (a_cons (r_var (i := 1) rfl (by first | exact .inl rfl | exact .inr (.inl rfl) | exact .inr (.inr rfl))) a_nil)))))))
theorem k__law_take (T : Tb P w K mg base n) {f : Addr} (cdv : Value) (A : Around) (outer : List PySem.Env) (s : Shared) (H : Hp) (E : XK) (hr : Room (2 * n + 3) (A.deeper (envOfC "_law_take" (C8.fnScope s__law_take) s.heap.objs.size f cdv))) :
    PSs (cxOf CX0 P w K mg base ["state", "most", "cells", "at", "cell", "mixed"] "_law_take" (C8.fnScope s__law_take) f cdv A outer s H E).nox (C8.fnBody s__law_take) (tIS K W0 (b__law_take (FF n) (GG n))) :=
  have nd := sc__law_take.nd
  have hu := hu_of hr
  have hv : (A.deeper (envOfC "_law_take" (C8.fnScope s__law_take) s.heap.objs.size f cdv)).units + 65 < cLine := by have := hr.un; omega
  (s_cons (s_if (r_cmpT (op_ltA hr.units0) f_lt (r_var (i := 1) rfl (by first | exact .inl rfl | exact .inr (.inl rfl) | exact .inr (.inr rfl))) r_int (nomark _)) (s_one (s_ret r_int)) s_nil) (s_cons (s_set (i := 2) nd rfl (by first | exact .inl rfl | exact .inr rfl) (r_subB hu (r_var (i := 0) rfl (by first | exact .inl rfl | exact .inr (.inl rfl) | exact .inr (.inr rfl))) r_int (fun _ _ => rfl))) (s_cons (s_set (i := 3) nd rfl (by first | exact .inl rfl | exact .inr rfl) (r_op op_modN f_mod (r_subB hu (r_var (i := 0) rfl (by first | exact .inl rfl | exact .inr (.inl rfl) | exact .inr (.inr rfl))) r_int (fun _ _ => rfl)) (r_callB cr_len f_lenB rfl T.z_len (by decide +kernel) (a_cons (r_var (i := 2) rfl (by first | exact .inl rfl | exact .inr (.inl rfl) | exact .inr (.inr rfl))) a_nil)))) (s_cons (s_set (i := 4) nd rfl (by first | exact .inl rfl | exact .inr rfl) (r_subB hu (r_var (i := 2) rfl (by first | exact .inl rfl | exact .inr (.inl rfl) | exact .inr (.inr rfl))) (r_var (i := 3) rfl (by first | exact .inl rfl | exact .inr (.inl rfl) | exact .inr (.inr rfl))) (fun _ _ => rfl))) (s_cons (s_if (r_cmpT op_ge f_ge (r_var (i := 4) rfl (by first | exact .inl rfl | exact .inr (.inl rfl) | exact .inr (.inr rfl))) r_int (nomark _)) (s_cons (s_setIx (set_any hu) f_setA (r_var (i := 2) rfl (by first | exact .inl rfl | exact .inr (.inl rfl) | exact .inr (.inr rfl))) (r_var (i := 3) rfl (by first | exact .inl rfl | exact .inr (.inl rfl) | exact .inr (.inr rfl))) (r_op op_divI f_div (r_var (i := 4) rfl (by first | exact .inl rfl | exact .inr (.inl rfl) | exact .inr (.inr rfl))) (r_var (i := 1) rfl (by first | exact .inl rfl | exact .inr (.inl rfl) | exact .inr (.inr rfl))))) (s_one (s_ret (r_op op_modN f_mod (r_var (i := 4) rfl (by first | exact .inl rfl | exact .inr (.inl rfl) | exact .inr (.inr rfl))) (r_var (i := 1) rfl (by first | exact .inl rfl | exact .inr (.inl rfl) | exact .inr (.inr rfl))))))) s_nil) (s_cons (s_setIx (set_any hu) f_setA (r_var (i := 0) rfl (by first | exact .inl rfl | exact .inr (.inl rfl) | exact .inr (.inr rfl))) r_int (r_op op_addI f_add (r_subB hu (r_var (i := 0) rfl (by first | exact .inl rfl | exact .inr (.inl rfl) | exact .inr (.inr rfl))) r_int (fun _ _ => rfl)) r_int)) (s_cons (s_set (i := 5) nd rfl (by first | exact .inl rfl | exact .inr rfl) (r_op op_modN f_mod (r_callTy call_intS f_intS rfl T.z_int (by decide +kernel) (a_cons (r_op op_addI f_add (r_op op_mulA f_mulA (r_var (i := 4) rfl (by first | exact .inl rfl | exact .inr (.inl rfl) | exact .inr (.inr rfl))) r_int) (r_op op_mulA f_mulA (r_subB hu (r_var (i := 0) rfl (by first | exact .inl rfl | exact .inr (.inl rfl) | exact .inr (.inr rfl))) r_int (fun _ _ => rfl)) r_int)) a_nil)) r_int)) (s_cons (s_set (i := 5) nd rfl (by first | exact .inl rfl | exact .inr rfl) (r_op op_modN f_mod (r_callTy call_intS f_intS rfl T.z_int (by decide +kernel) (a_cons (r_op op_addI f_add (r_op op_mulA f_mulA (r_var (i := 5) rfl (by first | exact .inl rfl | exact .inr (.inl rfl) | exact .inr (.inr rfl))) r_int) (r_op op_mulA f_mulA (r_subB hu (r_var (i := 0) rfl (by first | exact .inl rfl | exact .inr (.inl rfl) | exact .inr (.inr rfl))) r_int (fun _ _ => rfl)) r_int)) a_nil)) r_int)) (s_one (s_ret (r_op op_modN f_mod (r_op op_divI f_div (r_var (i := 5) rfl (by first | exact .inl rfl | exact .inr (.inl rfl) | exact .inr (.inr rfl))) r_int) (r_var (i := 1) rfl (by first | exact .inl rfl | exact .inr (.inl rfl) | exact .inr (.inr rfl))))))))))))))
theorem k__law_data (T : Tb P w K mg base n) {f : Addr} (cdv : Value) (A : Around) (outer : List PySem.Env) (s : Shared) (H : Hp) (E : XK) (hr : Room (2 * n + 3) (A.deeper (envOfC "_law_data" (C8.fnScope s__law_data) s.heap.objs.size f cdv))) :
    PSs (cxOf CX0 P w K mg base ["state", "deep", "kind", "parts", "numbers", "k"] "_law_data" (C8.fnScope s__law_data) f cdv A outer s H E).nox (C8.fnBody s__law_data) (tIS K W0 (b__law_data (FF n) (GG n))) :=
  have nd := sc__law_data.nd
  have hu := hu_of hr
  have hv : (A.deeper (envOfC "_law_data" (C8.fnScope s__law_data) s.heap.objs.size f cdv)).units + 65 < cLine := by have := hr.un; omega
  (s_cons (s_set (i := 2) nd rfl (by first | exact .inl rfl | exact .inr rfl) (j_call T.c__law_take (ar__law_take _) hr (Nat.le_succ _) rfl (a_cons (r_var (i := 0) rfl (by first | exact .inl rfl | exact .inr (.inl rfl) | exact .inr (.inr rfl))) (a_cons r_int a_nil)))) (s_cons (s_if (PW.pt (w_or (r_cmpT (op_eqB hv) f_eqB (r_var (i := 1) rfl (by first | exact .inl rfl | exact .inr (.inl rfl) | exact .inr (.inr rfl))) r_int (nomark _)) (w_or1 (r_cmpT (op_ltA hr.units0) f_lt (r_var (i := 2) rfl (by first | exact .inl rfl | exact .inr (.inl rfl) | exact .inr (.inr rfl))) r_int (nomark _))))) (s_cons (s_set (i := 4) nd rfl (by first | exact .inl rfl | exact .inr rfl) (r_new (r_lst (a_cons r_int (a_cons r_int (a_cons (r_un un_neg f_neg r_int) (a_cons r_int (a_cons r_int (a_cons (r_un un_neg f_neg r_int) (a_cons r_int a_nil)))))))))) (s_one (s_ret (r_subB hu (r_new (r_lst (a_cons r_non (a_cons r_bl (a_cons r_bl (a_cons (r_subB hu (r_var (i := 4) rfl (by first | exact .inl rfl | exact .inr (.inl rfl) | exact .inr (.inr rfl))) (j_call T.c__law_take (ar__law_take _) hr (Nat.le_succ _) rfl (a_cons (r_var (i := 0) rfl (by first | exact .inl rfl | exact .inr (.inl rfl) | exact .inr (.inr rfl))) (a_cons r_int a_nil))) (fun _ _ => rfl)) (a_cons (r_subB hu (r_new (r_lst (a_cons r_str (a_cons r_str (a_cons r_str (a_cons r_str (a_cons r_str a_nil))))))) (j_call T.c__law_take (ar__law_take _) hr (Nat.le_succ _) rfl (a_cons (r_var (i := 0) rfl (by first | exact .inl rfl | exact .inr (.inl rfl) | exact .inr (.inr rfl))) (a_cons r_int a_nil))) (fun _ _ => rfl)) (a_cons r_int a_nil)))))))) (j_call T.c__law_take (ar__law_take _) hr (Nat.le_succ _) rfl (a_cons (r_var (i := 0) rfl (by first | exact .inl rfl | exact .inr (.inl rfl) | exact .inr (.inr rfl))) (a_cons r_int a_nil))) (fun _ _ => rfl))))) s_nil) (s_cons (s_setLcN (i := 3) rfl rfl (sw_true rfl rfl rfl (by decide +kernel)) (own := [("k", 5)]) rfl nd (i_range1 rfl T.z_range (a_cons (j_call T.c__law_take (ar__law_take _) hr (Nat.le_succ _) rfl (a_cons (r_var (i := 0) rfl (by first | exact .inl rfl | exact .inr (.inl rfl) | exact .inr (.inr rfl))) (a_cons r_int a_nil))) a_nil)) (by first | exact blkOk_by (N := ["state", "deep", "kind", "parts", "numbers", "k"]) (sc := C8.fnScope s__law_data) (by decide +kernel) | exact blkOk_by rfl | exact blkOk_by (by with_unfolding_all rfl)) (by decide) (fun _ _ _ _ _ => (g_name (i := 5) nd rfl (by first | exact .inl rfl | exact .inr rfl))) (fun _ _ _ _ _ => t_yes) (fun _ _ _ _ _ => (j_call T.c__law_data (ar__law_data _) hr (Nat.le_succ _) rfl (a_cons (r_var (i := 0) rfl (by first | exact .inl rfl | exact .inr (.inl rfl) | exact .inr (.inr rfl))) (a_cons (r_op op_subI f_sub (r_var (i := 1) rfl (by first | exact .inl rfl | exact .inr (.inl rfl) | exact .inr (.inr rfl))) r_int) a_nil))))) (s_cons (s_if (r_cmpT (op_ltA hr.units0) f_lt (r_var (i := 2) rfl (by first | exact .inl rfl | exact .inr (.inl rfl) | exact .inr (.inr rfl))) r_int (nomark _)) (s_one (s_ret (r_callTy call_tuple_of f_tuple rfl T.z_tuple (by decide +kernel) (a_cons (r_var (i := 3) rfl (by first | exact .inl rfl | exact .inr (.inl rfl) | exact .inr (.inr rfl))) a_nil)))) s_nil) (s_one (s_ret (r_var (i := 3) rfl (by first | exact .inl rfl | exact .inr (.inl rfl) | exact .inr (.inr rfl)))))))))
theorem k__law_form (T : Tb P w K mg base n) {f : Addr} (cdv : Value) (A : Around) (outer : List PySem.Env) (s : Shared) (H : Hp) (E : XK) (hr : Room (2 * n + 3) (A.deeper (envOfC "_law_form" (C8.fnScope s__law_form) s.heap.objs.size f cdv))) (hG : (A.deeper (envOfC "_law_form" (C8.fnScope s__law_form) s.heap.objs.size f cdv)).guards = some []) :
    PSs (cxOf CX0 P w K mg base ["data", "inner", "part"] "_law_form" (C8.fnScope s__law_form) f cdv A outer s H E).nox (C8.fnBody s__law_form) (tIS K W0 (b__law_form (FF n) (GG n))) :=
  have nd := sc__law_form.nd
  have hu := hu_of hr
  have hv : (A.deeper (envOfC "_law_form" (C8.fnScope s__law_form) s.heap.objs.size f cdv)).units + 65 < cLine := by have := hr.un; omega
  (s_cons (s_if (r_cmpT op_isA f_is (r_var (i := 0) rfl (by first | exact .inl rfl | exact .inr (.inl rfl) | exact .inr (.inr rfl))) r_non (nomark _)) (s_one (s_ret r_str)) s_nil) (s_cons (s_if (r_cmpT (op_eqB hv) f_eqB (r_callB (cr_reprA hG hr.units) f_reprA rfl T.z_repr (by decide +kernel) (a_cons (r_var (i := 0) rfl (by first | exact .inl rfl | exact .inr (.inl rfl) | exact .inr (.inr rfl))) a_nil)) r_str (nomark _)) (s_one (s_ret r_str)) s_nil) (s_cons (s_if (r_cmpT (op_eqB hv) f_eqB (r_callB (cr_reprA hG hr.units) f_reprA rfl T.z_repr (by decide +kernel) (a_cons (r_var (i := 0) rfl (by first | exact .inl rfl | exact .inr (.inl rfl) | exact .inr (.inr rfl))) a_nil)) r_str (nomark _)) (s_one (s_ret r_str)) s_nil) (s_cons (s_if (r_truth (r_callB call_isi f_isi rfl T.z_isinstance (by decide +kernel) (a_cons (r_var (i := 0) rfl (by first | exact .inl rfl | exact .inr (.inl rfl) | exact .inr (.inr rfl))) (a_cons (r_ty rfl T.z_int (by decide +kernel)) a_nil))) (by intro _; rfl)) (s_one (s_ret (r_op op_addI f_add (r_op op_addI f_add r_str (r_callTy call_str_int f_str rfl T.z_str (by decide +kernel) (a_cons (r_var (i := 0) rfl (by first | exact .inl rfl | exact .inr (.inl rfl) | exact .inr (.inr rfl))) a_nil))) r_str))) s_nil) (s_cons (s_if (r_truth (r_callB call_isi f_isi rfl T.z_isinstance (by decide +kernel) (a_cons (r_var (i := 0) rfl (by first | exact .inl rfl | exact .inr (.inl rfl) | exact .inr (.inr rfl))) (a_cons (r_ty rfl T.z_str (by decide +kernel)) a_nil))) (by intro _; rfl)) (s_one (s_ret (r_op op_addI f_add (r_op op_addI f_add (r_op op_addI f_add r_str (r_callTy call_str_int f_str rfl T.z_str (by decide +kernel) (a_cons (r_callB cr_len f_lenB rfl T.z_len (by decide +kernel) (a_cons (r_var (i := 0) rfl (by first | exact .inl rfl | exact .inr (.inl rfl) | exact .inr (.inr rfl))) a_nil)) a_nil))) r_str) (r_var (i := 0) rfl (by first | exact .inl rfl | exact .inr (.inl rfl) | exact .inr (.inr rfl)))))) s_nil) (s_cons (s_set (i := 1) nd rfl (by first | exact .inl rfl | exact .inr rfl) (r_join r_str (r_new (r_lc (own := [("part", 2)]) rfl nd (i_walk (r_var (i := 0) rfl (by first | exact .inl rfl | exact .inr (.inl rfl) | exact .inr (.inr rfl)))) (by first | exact blkOk_by (N := ["data", "inner", "part"]) (sc := C8.fnScope s__law_form) (by decide +kernel) | exact blkOk_by rfl | exact blkOk_by (by with_unfolding_all rfl)) (by decide) (fun _ _ _ _ _ => (g_name (i := 2) nd rfl (by first | exact .inl rfl | exact .inr rfl))) (fun _ _ _ _ _ => t_yes) (fun _ _ _ _ _ => (g_call T.c__law_form (ar__law_form _) hG hr (Nat.le_succ _) rfl (a_cons (r_var (i := 2) rfl (by first | exact .inl rfl | exact .inr (.inl rfl) | exact .inr (.inr rfl))) a_nil))))))) (s_cons (s_if (r_truth (r_callB call_isi f_isi rfl T.z_isinstance (by decide +kernel) (a_cons (r_var (i := 0) rfl (by first | exact .inl rfl | exact .inr (.inl rfl) | exact .inr (.inr rfl))) (a_cons (r_ty rfl T.z_tuple (by decide +kernel)) a_nil))) (by intro _; rfl)) (s_one (s_ret (r_op op_addI f_add (r_op op_addI f_add r_str (r_var (i := 1) rfl (by first | exact .inl rfl | exact .inr (.inl rfl) | exact .inr (.inr rfl)))) r_str))) s_nil) (s_one (s_ret (r_op op_addI f_add (r_op op_addI f_add r_str (r_var (i := 1) rfl (by first | exact .inl rfl | exact .inr (.inl rfl) | exact .inr (.inr rfl)))) r_str))))))))))
theorem k__law_number (T : Tb P w K mg base n) {f : Addr} (cdv : Value) (A : Around) (outer : List PySem.Env) (s : Shared) (H : Hp) (E : XK) (hr : Room (2 * n + 3) (A.deeper (envOfC "_law_number" (C8.fnScope s__law_number) s.heap.objs.size f cdv))) :
    PSs (cxOf CX0 P w K mg base ["text", "at", "end", "minus", "last", "first", "size"] "_law_number" (C8.fnScope s__law_number) f cdv A outer s H E).nox (C8.fnBody s__law_number) (tIS K W0 (b__law_number (FF n) (GG n))) :=
  have nd := sc__law_number.nd
  have hu := hu_of hr
  have hv : (A.deeper (envOfC "_law_number" (C8.fnScope s__law_number) s.heap.objs.size f cdv)).units + 65 < cLine := by have := hr.un; omega
  (s_cons (s_set (i := 4) nd rfl (by first | exact .inl rfl | exact .inr rfl) (r_var (i := 1) rfl (by first | exact .inl rfl | exact .inr (.inl rfl) | exact .inr (.inr rfl)))) (s_cons (s_if (PW.pt (w_and (r_truth (r_var (i := 3) rfl (by first | exact .inl rfl | exact .inr (.inl rfl) | exact .inr (.inr rfl))) (by intro _; rfl)) (w_and1 (r_cmpT (op_eqB hv) f_eqB (r_slice sl_any f_sl (r_var (i := 0) rfl (by first | exact .inl rfl | exact .inr (.inl rfl) | exact .inr (.inr rfl))) (o_some (r_var (i := 4) rfl (by first | exact .inl rfl | exact .inr (.inl rfl) | exact .inr (.inr rfl)))) (o_some (r_op op_addI f_add (r_var (i := 4) rfl (by first | exact .inl rfl | exact .inr (.inl rfl) | exact .inr (.inr rfl))) r_int))) r_str (nomark _))))) (s_one (s_set (i := 4) nd rfl (by first | exact .inl rfl | exact .inr rfl) (r_op op_addI f_add (r_var (i := 4) rfl (by first | exact .inl rfl | exact .inr (.inl rfl) | exact .inr (.inr rfl))) r_int))) s_nil) (s_cons (s_set (i := 5) nd rfl (by first | exact .inl rfl | exact .inr rfl) (r_var (i := 4) rfl (by first | exact .inl rfl | exact .inr (.inl rfl) | exact .inr (.inr rfl)))) (s_cons (s_while PassesOwn.never (PW.pt (w_and (r_cmpT (op_ltA hr.units0) f_lt (r_var (i := 4) rfl (by first | exact .inl rfl | exact .inr (.inl rfl) | exact .inr (.inr rfl))) (r_callB cr_len f_lenB rfl T.z_len (by decide +kernel) (a_cons (r_var (i := 0) rfl (by first | exact .inl rfl | exact .inr (.inl rfl) | exact .inr (.inr rfl))) a_nil)) (nomark _)) (w_and (r_cmpT (op_inC hv) f_inC (r_subB hu (r_var (i := 0) rfl (by first | exact .inl rfl | exact .inr (.inl rfl) | exact .inr (.inr rfl))) (r_var (i := 4) rfl (by first | exact .inl rfl | exact .inr (.inl rfl) | exact .inr (.inr rfl))) (fun _ _ => rfl)) r_str (by with_unfolding_all rfl)) (w_and1 (r_cmpT (op_ltA hr.units0) f_lt (r_op op_subI f_sub (r_var (i := 4) rfl (by first | exact .inl rfl | exact .inr (.inl rfl) | exact .inr (.inr rfl))) (r_var (i := 5) rfl (by first | exact .inl rfl | exact .inr (.inl rfl) | exact .inr (.inr rfl)))) r_int (nomark _)))))) (s_one (s_set (i := 4) nd rfl (by first | exact .inl rfl | exact .inr rfl) (r_op op_addI f_add (r_var (i := 4) rfl (by first | exact .inl rfl | exact .inr (.inl rfl) | exact .inr (.inr rfl))) r_int)))) (s_cons (s_set (i := 6) nd rfl (by first | exact .inl rfl | exact .inr rfl) (r_op op_subI f_sub (r_var (i := 4) rfl (by first | exact .inl rfl | exact .inr (.inl rfl) | exact .inr (.inr rfl))) (r_var (i := 5) rfl (by first | exact .inl rfl | exact .inr (.inl rfl) | exact .inr (.inr rfl))))) (s_cons (s_if (PW.pt (w_or (r_cmpT (op_eqB hv) f_eqB (r_var (i := 6) rfl (by first | exact .inl rfl | exact .inr (.inl rfl) | exact .inr (.inr rfl))) r_int (nomark _)) (w_or (r_cmpT op_gtA f_gt (r_var (i := 6) rfl (by first | exact .inl rfl | exact .inr (.inl rfl) | exact .inr (.inr rfl))) r_int (nomark _)) (w_or (r_cmpT (op_neB hv) f_neB (r_slice sl_any f_sl (r_var (i := 0) rfl (by first | exact .inl rfl | exact .inr (.inl rfl) | exact .inr (.inr rfl))) (o_some (r_var (i := 4) rfl (by first | exact .inl rfl | exact .inr (.inl rfl) | exact .inr (.inr rfl)))) (o_some (r_op op_addI f_add (r_var (i := 4) rfl (by first | exact .inl rfl | exact .inr (.inl rfl) | exact .inr (.inr rfl))) r_int))) (r_var (i := 2) rfl (by first | exact .inl rfl | exact .inr (.inl rfl) | exact .inr (.inr rfl))) (nomark _)) (w_or1 (PW.pt (w_and (r_cmpT (op_eqB hv) f_eqB (r_subB hu (r_var (i := 0) rfl (by first | exact .inl rfl | exact .inr (.inl rfl) | exact .inr (.inr rfl))) (r_var (i := 5) rfl (by first | exact .inl rfl | exact .inr (.inl rfl) | exact .inr (.inr rfl))) (fun _ _ => rfl)) r_str (nomark _)) (w_and1 (PW.pt (w_or (r_cmpT op_gtA f_gt (r_var (i := 6) rfl (by first | exact .inl rfl | exact .inr (.inl rfl) | exact .inr (.inr rfl))) r_int (nomark _)) (w_or1 (r_cmpT op_gtA f_gt (r_var (i := 5) rfl (by first | exact .inl rfl | exact .inr (.inl rfl) | exact .inr (.inr rfl))) (r_var (i := 1) rfl (by first | exact .inl rfl | exact .inr (.inl rfl) | exact .inr (.inr rfl))) (nomark _))))))))))))) (s_one (s_ret r_non)) s_nil) (s_one (s_ret (r_tup (a_cons (r_callTy call_intS f_intS rfl T.z_int (by decide +kernel) (a_cons (r_slice sl_any f_sl (r_var (i := 0) rfl (by first | exact .inl rfl | exact .inr (.inl rfl) | exact .inr (.inr rfl))) (o_some (r_var (i := 1) rfl (by first | exact .inl rfl | exact .inr (.inl rfl) | exact .inr (.inr rfl)))) (o_some (r_var (i := 4) rfl (by first | exact .inl rfl | exact .inr (.inl rfl) | exact .inr (.inr rfl))))) a_nil)) (a_cons (r_op op_addI f_add (r_var (i := 4) rfl (by first | exact .inl rfl | exact .inr (.inl rfl) | exact .inr (.inr rfl))) r_int) a_nil)))))))))))
theorem k__law_read (T : Tb P w K mg base n) {f : Addr} (cdv : Value) (A : Around) (outer : List PySem.Env) (s : Shared) (H : Hp) (E : XK) (hr : Room (2 * n + 3) (A.deeper (envOfC "_law_read" (C8.fnScope s__law_read) s.heap.objs.size f cdv))) :
    PSs (cxOf CX0 P w K mg base ["text", "at", "sign", "told"] "_law_read" (C8.fnScope s__law_read) f cdv A outer s H E).nox (C8.fnBody s__law_read) (tIS K W0 (b__law_read (FF n) (GG n))) :=
  have nd := sc__law_read.nd
  have hu := hu_of hr
  have hv : (A.deeper (envOfC "_law_read" (C8.fnScope s__law_read) s.heap.objs.size f cdv)).units + 65 < cLine := by have := hr.un; omega
  (s_cons (s_set (i := 2) nd rfl (by first | exact .inl rfl | exact .inr rfl) (r_slice sl_any f_sl (r_var (i := 0) rfl (by first | exact .inl rfl | exact .inr (.inl rfl) | exact .inr (.inr rfl))) (o_some (r_var (i := 1) rfl (by first | exact .inl rfl | exact .inr (.inl rfl) | exact .inr (.inr rfl)))) (o_some (r_op op_addI f_add (r_var (i := 1) rfl (by first | exact .inl rfl | exact .inr (.inl rfl) | exact .inr (.inr rfl))) r_int)))) (s_cons (s_if (PW.pt (w_and (r_cmpT (op_neB hv) f_neB (r_var (i := 2) rfl (by first | exact .inl rfl | exact .inr (.inl rfl) | exact .inr (.inr rfl))) r_str (nomark _)) (w_and1 (r_cmpT (op_inC hv) f_inC (r_var (i := 2) rfl (by first | exact .inl rfl | exact .inr (.inl rfl) | exact .inr (.inr rfl))) r_str (by with_unfolding_all rfl))))) (s_one (s_ret (r_tup (a_cons r_str (a_cons (r_subB hu (r_new (r_dict (.cons (.cons (.cons .nil))) (pps_cons r_str r_non (pps_cons r_str r_bl (pps_cons r_str r_bl pps_nil))) rfl rfl (by simp) (by decide))) (r_var (i := 2) rfl (by first | exact .inl rfl | exact .inr (.inl rfl) | exact .inr (.inr rfl))) (fun _ _ => rfl)) (a_cons (r_op op_addI f_add (r_var (i := 1) rfl (by first | exact .inl rfl | exact .inr (.inl rfl) | exact .inr (.inr rfl))) r_int) a_nil)))))) s_nil) (s_cons (s_if (r_cmpT (op_eqB hv) f_eqB (r_var (i := 2) rfl (by first | exact .inl rfl | exact .inr (.inl rfl) | exact .inr (.inr rfl))) r_str (nomark _)) (s_cons (s_set (i := 3) nd rfl (by first | exact .inl rfl | exact .inr rfl) (j_call T.c__law_number (ar__law_number _) hr (Nat.le_succ _) rfl (a_cons (r_var (i := 0) rfl (by first | exact .inl rfl | exact .inr (.inl rfl) | exact .inr (.inr rfl))) (a_cons (r_op op_addI f_add (r_var (i := 1) rfl (by first | exact .inl rfl | exact .inr (.inl rfl) | exact .inr (.inr rfl))) r_int) (a_cons r_str (a_cons r_bl a_nil)))))) (s_cons (s_if (r_cmpT op_isA f_is (r_var (i := 3) rfl (by first | exact .inl rfl | exact .inr (.inl rfl) | exact .inr (.inr rfl))) r_non (nomark _)) (s_one (s_ret (r_tup (a_cons r_str (a_cons (r_op op_addI f_add (r_var (i := 1) rfl (by first | exact .inl rfl | exact .inr (.inl rfl) | exact .inr (.inr rfl))) r_int) a_nil))))) s_nil) (s_one (s_ret (r_tup (a_cons r_str (a_cons (r_subB hu (r_var (i := 3) rfl (by first | exact .inl rfl | exact .inr (.inl rfl) | exact .inr (.inr rfl))) r_int (fun _ _ => rfl)) (a_cons (r_subB hu (r_var (i := 3) rfl (by first | exact .inl rfl | exact .inr (.inl rfl) | exact .inr (.inr rfl))) r_int (fun _ _ => rfl)) a_nil)))))))) s_nil) (s_cons (s_if (r_cmpT (op_eqB hv) f_eqB (r_var (i := 2) rfl (by first | exact .inl rfl | exact .inr (.inl rfl) | exact .inr (.inr rfl))) r_str (nomark _)) (s_cons (s_set (i := 3) nd rfl (by first | exact .inl rfl | exact .inr rfl) (j_call T.c__law_number (ar__law_number _) hr (Nat.le_succ _) rfl (a_cons (r_var (i := 0) rfl (by first | exact .inl rfl | exact .inr (.inl rfl) | exact .inr (.inr rfl))) (a_cons (r_op op_addI f_add (r_var (i := 1) rfl (by first | exact .inl rfl | exact .inr (.inl rfl) | exact .inr (.inr rfl))) r_int) (a_cons r_str (a_cons r_bl a_nil)))))) (s_cons (s_if (PW.pt (w_or (r_cmpT op_isA f_is (r_var (i := 3) rfl (by first | exact .inl rfl | exact .inr (.inl rfl) | exact .inr (.inr rfl))) r_non (nomark _)) (w_or1 (r_cmpT op_gtA f_gt (r_op op_addI f_add (r_subB hu (r_var (i := 3) rfl (by first | exact .inl rfl | exact .inr (.inl rfl) | exact .inr (.inr rfl))) r_int (fun _ _ => rfl)) (r_subB hu (r_var (i := 3) rfl (by first | exact .inl rfl | exact .inr (.inl rfl) | exact .inr (.inr rfl))) r_int (fun _ _ => rfl))) (r_callB cr_len f_lenB rfl T.z_len (by decide +kernel) (a_cons (r_var (i := 0) rfl (by first | exact .inl rfl | exact .inr (.inl rfl) | exact .inr (.inr rfl))) a_nil)) (nomark _))))) (s_one (s_ret (r_tup (a_cons r_str (a_cons (r_op op_addI f_add (r_var (i := 1) rfl (by first | exact .inl rfl | exact .inr (.inl rfl) | exact .inr (.inr rfl))) r_int) a_nil))))) s_nil) (s_one (s_ret (r_tup (a_cons r_str (a_cons (r_slice sl_any f_sl (r_var (i := 0) rfl (by first | exact .inl rfl | exact .inr (.inl rfl) | exact .inr (.inr rfl))) (o_some (r_subB hu (r_var (i := 3) rfl (by first | exact .inl rfl | exact .inr (.inl rfl) | exact .inr (.inr rfl))) r_int (fun _ _ => rfl))) (o_some (r_op op_addI f_add (r_subB hu (r_var (i := 3) rfl (by first | exact .inl rfl | exact .inr (.inl rfl) | exact .inr (.inr rfl))) r_int (fun _ _ => rfl)) (r_subB hu (r_var (i := 3) rfl (by first | exact .inl rfl | exact .inr (.inl rfl) | exact .inr (.inr rfl))) r_int (fun _ _ => rfl))))) (a_cons (r_op op_addI f_add (r_subB hu (r_var (i := 3) rfl (by first | exact .inl rfl | exact .inr (.inl rfl) | exact .inr (.inr rfl))) r_int (fun _ _ => rfl)) (r_subB hu (r_var (i := 3) rfl (by first | exact .inl rfl | exact .inr (.inl rfl) | exact .inr (.inr rfl))) r_int (fun _ _ => rfl))) a_nil)))))))) s_nil) (s_cons (s_if (PW.pt (w_and (r_cmpT (op_neB hv) f_neB (r_var (i := 2) rfl (by first | exact .inl rfl | exact .inr (.inl rfl) | exact .inr (.inr rfl))) r_str (nomark _)) (w_and1 (r_cmpT (op_inC hv) f_inC (r_var (i := 2) rfl (by first | exact .inl rfl | exact .inr (.inl rfl) | exact .inr (.inr rfl))) r_str (by with_unfolding_all rfl))))) (s_one (s_ret (j_call T.c__law_items (ar__law_items _) hr (Nat.le_succ _) rfl (a_cons (r_var (i := 0) rfl (by first | exact .inl rfl | exact .inr (.inl rfl) | exact .inr (.inr rfl))) (a_cons (r_op op_addI f_add (r_var (i := 1) rfl (by first | exact .inl rfl | exact .inr (.inl rfl) | exact .inr (.inr rfl))) r_int) (a_cons (r_subB hu (r_new (r_lst (a_cons r_str (a_cons r_str a_nil)))) (r_callTy call_intS f_intS rfl T.z_int (by decide +kernel) (a_cons (r_cmp (op_eqB hv) f_eqB (r_var (i := 2) rfl (by first | exact .inl rfl | exact .inr (.inl rfl) | exact .inr (.inr rfl))) r_str (nomark _)) a_nil)) (fun _ _ => rfl)) a_nil)))))) s_nil) (s_one (s_ret (r_tup (a_cons r_str (a_cons (r_var (i := 1) rfl (by first | exact .inl rfl | exact .inr (.inl rfl) | exact .inr (.inr rfl))) a_nil))))))))))
theorem k__law_items (T : Tb P w K mg base n) {f : Addr} (cdv : Value) (A : Around) (outer : List PySem.Env) (s : Shared) (H : Hp) (E : XK) (hr : Room (2 * n + 3) (A.deeper (envOfC "_law_items" (C8.fnScope s__law_items) s.heap.objs.size f cdv))) :
    PSs (cxOf CX0 P w K mg base ["text", "at", "end", "parts", "turn", "told"] "_law_items" (C8.fnScope s__law_items) f cdv A outer s H E).nox (C8.fnBody s__law_items) (tIS K W0 (b__law_items (FF n) (GG n))) :=
  have nd := sc__law_items.nd
  have hu := hu_of hr
  have hv : (A.deeper (envOfC "_law_items" (C8.fnScope s__law_items) s.heap.objs.size f cdv)).units + 65 < cLine := by have := hr.un; omega
  (s_cons (s_set (i := 3) nd rfl (by first | exact .inl rfl | exact .inr rfl) (r_lst a_nil)) (s_cons (s_for PassesOwn.never rfl (i_range1 rfl T.z_range (a_cons (r_op op_addI f_add (r_callB cr_len f_lenB rfl T.z_len (by decide +kernel) (a_cons (r_var (i := 0) rfl (by first | exact .inl rfl | exact .inr (.inl rfl) | exact .inr (.inr rfl))) a_nil)) r_int) a_nil)) (g_name (i := 4) nd rfl (by first | exact .inl rfl | exact .inr rfl)) (s_cons (s_if (r_cmpT (op_eqB hv) f_eqB (r_slice sl_any f_sl (r_var (i := 0) rfl (by first | exact .inl rfl | exact .inr (.inl rfl) | exact .inr (.inr rfl))) (o_some (r_var (i := 1) rfl (by first | exact .inl rfl | exact .inr (.inl rfl) | exact .inr (.inr rfl)))) (o_some (r_op op_addI f_add (r_var (i := 1) rfl (by first | exact .inl rfl | exact .inr (.inl rfl) | exact .inr (.inr rfl))) r_int))) (r_var (i := 2) rfl (by first | exact .inl rfl | exact .inr (.inl rfl) | exact .inr (.inr rfl))) (nomark _)) (s_cons (s_if (r_cmpT (op_eqB hv) f_eqB (r_var (i := 2) rfl (by first | exact .inl rfl | exact .inr (.inl rfl) | exact .inr (.inr rfl))) r_str (nomark _)) (s_one (s_ret (r_tup (a_cons r_str (a_cons (r_callTy call_tuple_of f_tuple rfl T.z_tuple (by decide +kernel) (a_cons (r_var (i := 3) rfl (by first | exact .inl rfl | exact .inr (.inl rfl) | exact .inr (.inr rfl))) a_nil)) (a_cons (r_op op_addI f_add (r_var (i := 1) rfl (by first | exact .inl rfl | exact .inr (.inl rfl) | exact .inr (.inr rfl))) r_int) a_nil)))))) s_nil) (s_one (s_ret (r_tup (a_cons r_str (a_cons (r_frz (r_var (i := 3) rfl (by first | exact .inl rfl | exact .inr (.inl rfl) | exact .inr (.inr rfl)))) (a_cons (r_op op_addI f_add (r_var (i := 1) rfl (by first | exact .inl rfl | exact .inr (.inl rfl) | exact .inr (.inr rfl))) r_int) a_nil))))))) s_nil) (s_cons (s_set (i := 5) nd rfl (by first | exact .inl rfl | exact .inr rfl) (j_call T.c__law_read (ar__law_read _) hr (Nat.le_succ _) rfl (a_cons (r_var (i := 0) rfl (by first | exact .inl rfl | exact .inr (.inl rfl) | exact .inr (.inr rfl))) (a_cons (r_var (i := 1) rfl (by first | exact .inl rfl | exact .inr (.inl rfl) | exact .inr (.inr rfl))) a_nil)))) (s_cons (s_if (r_cmpT (op_eqB hv) f_eqB (r_subB hu (r_var (i := 5) rfl (by first | exact .inl rfl | exact .inr (.inl rfl) | exact .inr (.inr rfl))) r_int (fun _ _ => rfl)) r_str (nomark _)) (s_one (s_ret (r_var (i := 5) rfl (by first | exact .inl rfl | exact .inr (.inl rfl) | exact .inr (.inr rfl))))) s_nil) (s_cons (s_expr (r_append (r_var (i := 3) rfl (by first | exact .inl rfl | exact .inr (.inl rfl) | exact .inr (.inr rfl))) (r_subB hu (r_var (i := 5) rfl (by first | exact .inl rfl | exact .inr (.inl rfl) | exact .inr (.inr rfl))) r_int (fun _ _ => rfl)))) (s_one (s_set (i := 1) nd rfl (by first | exact .inl rfl | exact .inr rfl) (r_subB hu (r_var (i := 5) rfl (by first | exact .inl rfl | exact .inr (.inl rfl) | exact .inr (.inr rfl))) r_int (fun _ _ => rfl))))))))) (s_one (s_ret (r_tup (a_cons r_str (a_cons (r_var (i := 1) rfl (by first | exact .inl rfl | exact .inr (.inl rfl) | exact .inr (.inr rfl))) a_nil)))))))
theorem k__law_due (T : Tb P w K mg base n) {f : Addr} (cdv : Value) (A : Around) (outer : List PySem.Env) (s : Shared) (H : Hp) (E : XK) (hr : Room (2 * n + 3) (A.deeper (envOfC "_law_due" (C8.fnScope s__law_due) s.heap.objs.size f cdv))) :
    PSs (cxOf CX0 P w K mg base ["text", "told"] "_law_due" (C8.fnScope s__law_due) f cdv A outer s H E).nox (C8.fnBody s__law_due) (tIS K W0 (b__law_due (FF n) (GG n))) :=
  have nd := sc__law_due.nd
  have hu := hu_of hr
  have hv : (A.deeper (envOfC "_law_due" (C8.fnScope s__law_due) s.heap.objs.size f cdv)).units + 65 < cLine := by have := hr.un; omega
  (s_cons (s_set (i := 1) nd rfl (by first | exact .inl rfl | exact .inr rfl) (j_call T.c__law_read (ar__law_read _) hr (Nat.le_succ _) rfl (a_cons (r_var (i := 0) rfl (by first | exact .inl rfl | exact .inr (.inl rfl) | exact .inr (.inr rfl))) (a_cons r_int a_nil)))) (s_cons (s_if (PW.pt (w_and (r_cmpT (op_eqB hv) f_eqB (r_subB hu (r_var (i := 1) rfl (by first | exact .inl rfl | exact .inr (.inl rfl) | exact .inr (.inr rfl))) r_int (fun _ _ => rfl)) r_str (nomark _)) (w_and1 (r_cmpT (op_ltA hr.units0) f_lt (r_subB hu (r_var (i := 1) rfl (by first | exact .inl rfl | exact .inr (.inl rfl) | exact .inr (.inr rfl))) r_int (fun _ _ => rfl)) (r_callB cr_len f_lenB rfl T.z_len (by decide +kernel) (a_cons (r_var (i := 0) rfl (by first | exact .inl rfl | exact .inr (.inl rfl) | exact .inr (.inr rfl))) a_nil)) (nomark _))))) (s_one (s_ret (r_tup (a_cons r_str (a_cons (r_subB hu (r_var (i := 1) rfl (by first | exact .inl rfl | exact .inr (.inl rfl) | exact .inr (.inr rfl))) r_int (fun _ _ => rfl)) a_nil))))) s_nil) (s_one (s_ret (r_slice sl_any f_sl (r_var (i := 1) rfl (by first | exact .inl rfl | exact .inr (.inl rfl) | exact .inr (.inr rfl))) o_none (o_some r_int))))))
theorem k__law_told (T : Tb P w K mg base n) {f : Addr} (cdv : Value) (A : Around) (outer : List PySem.Env) (s : Shared) (H : Hp) (E : XK) (hr : Room (2 * n + 3) (A.deeper (envOfC "_law_told" (C8.fnScope s__law_told) s.heap.objs.size f cdv))) :
    PSs (cxOf CX0 P w K mg base ["text", "e"] "_law_told" (C8.fnScope s__law_told) f cdv A outer s H E).nox (C8.fnBody s__law_told) (tIS K W0 (b__law_told (FF n) (GG n))) :=
  have nd := sc__law_told.nd
  have hu := hu_of hr
  have hv : (A.deeper (envOfC "_law_told" (C8.fnScope s__law_told) s.heap.objs.size f cdv)).units + 65 < cLine := by have := hr.un; omega
  (s_one (s_catch (X := (cxOf CX0 P w K mg base ["text", "e"] "_law_told" (C8.fnScope s__law_told) f cdv A outer s H E).nox) (i := 1) rfl rfl nd rfl rfl T.h_FormError rfl (fun V pl out tk => (s_one (s_retX (x_tup (x_cons (x_ok r_str) (x_cons (x_call T.c_decode (ar_decode _) hr (Nat.le_succ _) rfl tk (a_cons (r_var (i := 0) rfl (by first | exact .inl rfl | exact .inr (.inl rfl) | exact .inr (.inr rfl))) a_nil)) (x_oks a_nil))))))) (fun C x ox d pl fs hC hz hf => j_one (j_ret (j_tup (j_cons xj_keeps (j_e r_str) (j_cons xj_keeps (j_at T.at_FormError_at hC hz.zc hf (i := 1) rfl (by first | exact .inl rfl | exact .inr (.inl rfl) | exact .inr (.inr rfl))) (j_cons xj_keeps (j_is T.is_FormError_FlowError hC hz.zc hf (i := 1) rfl (by first | exact .inl rfl | exact .inr (.inl rfl) | exact .inr (.inr rfl)) rfl T.z_isinstance rfl) (j_a a_nil))))))) s_nil))
theorem k_law (T : Tb P w K mg base n) {f : Addr} (cdv : Value) (A : Around) (outer : List PySem.Env) (s : Shared) (H : Hp) (E : XK) (hr : Room (2 * n + 3) (A.deeper (envOfC "law" (C8.fnScope s_law) s.heap.objs.size f cdv))) (hG : (A.deeper (envOfC "law" (C8.fnScope s_law) s.heap.objs.size f cdv)).guards = some []) :
    PSs (cxOf CX0 P w K mg base ["script", "state", "data", "kept", "text", "turn", "at", "piece", "other", "due"] "law" (C8.fnScope s_law) f cdv A outer s H E).nox (C8.fnBody s_law) (tIS K W0 (b_law (FF n) (GG n))) :=
  have nd := sc_law.nd
  have hu := hu_of hr
  have hv : (A.deeper (envOfC "law" (C8.fnScope s_law) s.heap.objs.size f cdv)).units + 65 < cLine := by have := hr.un; omega
  (s_cons (s_set (i := 1) nd rfl (by first | exact .inl rfl | exact .inr rfl) (j_call T.c__law_state (ar__law_state _) hr (Nat.le_succ _) rfl (a_cons (r_var (i := 0) rfl (by first | exact .inl rfl | exact .inr (.inl rfl) | exact .inr (.inr rfl))) a_nil))) (s_cons (s_set (i := 2) nd rfl (by first | exact .inl rfl | exact .inr rfl) (j_call T.c__law_data (ar__law_data _) hr (Nat.le_succ _) rfl (a_cons (r_var (i := 1) rfl (by first | exact .inl rfl | exact .inr (.inl rfl) | exact .inr (.inr rfl))) (a_cons r_int a_nil)))) (s_cons (s_set (i := 3) nd rfl (by first | exact .inl rfl | exact .inr rfl) (r_callB (cr_reprA hG hr.units) f_reprA rfl T.z_repr (by decide +kernel) (a_cons (r_var (i := 2) rfl (by first | exact .inl rfl | exact .inr (.inl rfl) | exact .inr (.inr rfl))) a_nil))) (s_cons (s_set (i := 4) nd rfl (by first | exact .inl rfl | exact .inr rfl) (j_call T.c_encode (ar_encode _) hr (Nat.le_succ _) rfl (a_cons (r_var (i := 2) rfl (by first | exact .inl rfl | exact .inr (.inl rfl) | exact .inr (.inr rfl))) a_nil))) (s_cons (s_if (PW.pt (w_or (r_cmpT (op_neB hv) f_neB (r_var (i := 4) rfl (by first | exact .inl rfl | exact .inr (.inl rfl) | exact .inr (.inr rfl))) (g_call T.c__law_form (ar__law_form _) hG hr (Nat.le_succ _) rfl (a_cons (r_var (i := 2) rfl (by first | exact .inl rfl | exact .inr (.inl rfl) | exact .inr (.inr rfl))) a_nil)) (nomark _)) (w_or (r_cmpT (op_neB hv) f_neB (r_callB (cr_reprA hG hr.units) f_reprA rfl T.z_repr (by decide +kernel) (a_cons (x_callP T.c_decode (ar_decode _) hr (Nat.le_succ _) rfl (a_cons (r_var (i := 4) rfl (by first | exact .inl rfl | exact .inr (.inl rfl) | exact .inr (.inr rfl))) a_nil)) a_nil)) (r_var (i := 3) rfl (by first | exact .inl rfl | exact .inr (.inl rfl) | exact .inr (.inr rfl))) (nomark _)) (w_or1 (r_cmpT (op_neB hv) f_neB (r_callB (cr_reprA hG hr.units) f_reprA rfl T.z_repr (by decide +kernel) (a_cons (r_var (i := 2) rfl (by first | exact .inl rfl | exact .inr (.inl rfl) | exact .inr (.inr rfl))) a_nil)) (r_var (i := 3) rfl (by first | exact .inl rfl | exact .inr (.inl rfl) | exact .inr (.inr rfl))) (nomark _)))))) (s_one (s_ret r_bl)) s_nil) (s_cons (s_for PassesOwn.never rfl (i_range1 rfl T.z_range (a_cons r_int a_nil)) (g_name (i := 5) nd rfl (by first | exact .inl rfl | exact .inr rfl)) (s_cons (s_set (i := 6) nd rfl (by first | exact .inl rfl | exact .inr rfl) (j_call T.c__law_take (ar__law_take _) hr (Nat.le_succ _) rfl (a_cons (r_var (i := 1) rfl (by first | exact .inl rfl | exact .inr (.inl rfl) | exact .inr (.inr rfl))) (a_cons (r_op op_addI f_add (r_callB cr_len f_lenB rfl T.z_len (by decide +kernel) (a_cons (r_var (i := 4) rfl (by first | exact .inl rfl | exact .inr (.inl rfl) | exact .inr (.inr rfl))) a_nil)) r_int) a_nil)))) (s_cons (s_set (i := 7) nd rfl (by first | exact .inl rfl | exact .inr rfl) (r_subB hu (r_new (r_lst (a_cons r_str (a_cons r_str (a_cons r_str (a_cons r_str (a_cons r_str (a_cons r_str (a_cons r_str (a_cons r_str (a_cons r_str (a_cons r_str (a_cons r_str (a_cons r_str (a_cons r_str (a_cons r_str a_nil)))))))))))))))) (j_call T.c__law_take (ar__law_take _) hr (Nat.le_succ _) rfl (a_cons (r_var (i := 1) rfl (by first | exact .inl rfl | exact .inr (.inl rfl) | exact .inr (.inr rfl))) (a_cons r_int a_nil))) (fun _ _ => rfl))) (s_cons (s_set (i := 8) nd rfl (by first | exact .inl rfl | exact .inr rfl) (r_op op_addI f_add (r_op op_addI f_add (r_slice sl_any f_sl (r_var (i := 4) rfl (by first | exact .inl rfl | exact .inr (.inl rfl) | exact .inr (.inr rfl))) o_none (o_some (r_var (i := 6) rfl (by first | exact .inl rfl | exact .inr (.inl rfl) | exact .inr (.inr rfl))))) (r_var (i := 7) rfl (by first | exact .inl rfl | exact .inr (.inl rfl) | exact .inr (.inr rfl)))) (r_slice sl_any f_sl (r_var (i := 4) rfl (by first | exact .inl rfl | exact .inr (.inl rfl) | exact .inr (.inr rfl))) (o_some (r_op op_addI f_add (r_var (i := 6) rfl (by first | exact .inl rfl | exact .inr (.inl rfl) | exact .inr (.inr rfl))) (j_call T.c__law_take (ar__law_take _) hr (Nat.le_succ _) rfl (a_cons (r_var (i := 1) rfl (by first | exact .inl rfl | exact .inr (.inl rfl) | exact .inr (.inr rfl))) (a_cons r_int a_nil))))) o_none))) (s_cons (s_set (i := 9) nd rfl (by first | exact .inl rfl | exact .inr rfl) (j_call T.c__law_due (ar__law_due _) hr (Nat.le_succ _) rfl (a_cons (r_var (i := 8) rfl (by first | exact .inl rfl | exact .inr (.inl rfl) | exact .inr (.inr rfl))) a_nil))) (s_cons (s_if (r_cmpT (op_eqB hv) f_eqB (r_subB hu (r_var (i := 9) rfl (by first | exact .inl rfl | exact .inr (.inl rfl) | exact .inr (.inr rfl))) r_int (fun _ _ => rfl)) r_str (nomark _)) (s_one (s_set (i := 9) nd rfl (by first | exact .inl rfl | exact .inr rfl) (r_op op_addI f_add (r_var (i := 9) rfl (by first | exact .inl rfl | exact .inr (.inl rfl) | exact .inr (.inr rfl))) (r_tup (a_cons r_bl a_nil))))) s_nil) (s_one (s_if (r_cmpT (op_neB hv) f_neB (r_callB (cr_reprA hG hr.units) f_reprA rfl T.z_repr (by decide +kernel) (a_cons (j_call T.c__law_told (ar__law_told _) hr (Nat.le_succ _) rfl (a_cons (r_var (i := 8) rfl (by first | exact .inl rfl | exact .inr (.inl rfl) | exact .inr (.inr rfl))) a_nil)) a_nil)) (r_callB (cr_reprA hG hr.units) f_reprA rfl T.z_repr (by decide +kernel) (a_cons (r_var (i := 9) rfl (by first | exact .inl rfl | exact .inr (.inl rfl) | exact .inr (.inr rfl))) a_nil)) (nomark _)) (s_one (s_ret r_bl)) s_nil)))))))) (s_one (s_ret r_bl))))))))
theorem t_encode {f : Addr} {fd : FuncData} (F : C8.Def K mg "encode" s_encode f fd) (b : Binds K fd ["data"] []) (T : Tb P w K mg base n) : CalJ P w K mg base (2 * (n + 1) + 2) "encode" 1 (FF (n + 1) I_encode) := cal_J F b sc_encode (k_encode T)
theorem t__plain_form {f : Addr} {fd : FuncData} (F : C8.Def K mg "_plain_form" s__plain_form f fd) (b : Binds K fd ["thing"] []) (T : Tb P w K mg base n) : CalJ P w K mg base (2 * (n + 1) + 2) "_plain_form" 1 (FF (n + 1) I__plain_form) := cal_J F b sc__plain_form (k__plain_form T)
theorem t_decode {f : Addr} {fd : FuncData} (F : C8.Def K mg "decode" s_decode f fd) (b : Binds K fd ["text"] []) (T : Tb P w K mg base n) : CalX P w K mg base (2 * (n + 1) + 2) "decode" 1 (GG (n + 1) I_decode) := cal_X F b sc_decode (k_decode T)
theorem t_read_form {f : Addr} {fd : FuncData} (F : C8.Def K mg "read_form" s_read_form f fd) (b : Binds K fd ["text", "start"] []) (T : Tb P w K mg base n) : CalX P w K mg base (2 * (n + 1) + 2) "read_form" 2 (GG (n + 1) I_read_form) := cal_X F b sc_read_form (k_read_form T)
theorem t__read_plain {f : Addr} {fd : FuncData} (F : C8.Def K mg "_read_plain" s__read_plain f fd) (b : Binds K fd ["text", "at"] []) (T : Tb P w K mg base n) : CalX P w K mg base (2 * (n + 1) + 2) "_read_plain" 2 (GG (n + 1) I__read_plain) := cal_X F b sc__read_plain (k__read_plain T)
theorem t__read_number {f : Addr} {fd : FuncData} (F : C8.Def K mg "_read_number" s__read_number f fd) (b : Binds K fd ["text", "start", "sign", "is_signed"] []) (T : Tb P w K mg base n) : CalX P w K mg base (2 * (n + 1) + 2) "_read_number" 4 (GG (n + 1) I__read_number) := cal_X F b sc__read_number (k__read_number T)
theorem t__law_state {f : Addr} {fd : FuncData} (F : C8.Def K mg "_law_state" s__law_state f fd) (b : Binds K fd ["script"] []) (T : Tb P w K mg base n) : CalJ P w K mg base (2 * (n + 1) + 2) "_law_state" 1 (FF (n + 1) I__law_state) := cal_J F b sc__law_state (k__law_state T)
theorem t__law_take {f : Addr} {fd : FuncData} (F : C8.Def K mg "_law_take" s__law_take f fd) (b : Binds K fd ["state", "most"] []) (T : Tb P w K mg base n) : CalJ P w K mg base (2 * (n + 1) + 2) "_law_take" 2 (FF (n + 1) I__law_take) := cal_J F b sc__law_take (k__law_take T)
theorem t__law_data {f : Addr} {fd : FuncData} (F : C8.Def K mg "_law_data" s__law_data f fd) (b : Binds K fd ["state", "deep"] []) (T : Tb P w K mg base n) : CalJ P w K mg base (2 * (n + 1) + 2) "_law_data" 2 (FF (n + 1) I__law_data) := cal_J F b sc__law_data (k__law_data T)
theorem t__law_form {f : Addr} {fd : FuncData} (F : C8.Def K mg "_law_form" s__law_form f fd) (b : Binds K fd ["data"] []) (T : Tb P w K mg base n) : CalG P w K mg base (2 * (n + 1) + 2) "_law_form" 1 (FF (n + 1) I__law_form) := cal_G F b sc__law_form (k__law_form T)
theorem t__law_number {f : Addr} {fd : FuncData} (F : C8.Def K mg "_law_number" s__law_number f fd) (b : Binds K fd ["text", "at", "end", "minus"] []) (T : Tb P w K mg base n) : CalJ P w K mg base (2 * (n + 1) + 2) "_law_number" 4 (FF (n + 1) I__law_number) := cal_J F b sc__law_number (k__law_number T)
theorem t__law_read {f : Addr} {fd : FuncData} (F : C8.Def K mg "_law_read" s__law_read f fd) (b : Binds K fd ["text", "at"] []) (T : Tb P w K mg base n) : CalJ P w K mg base (2 * (n + 1) + 2) "_law_read" 2 (FF (n + 1) I__law_read) := cal_J F b sc__law_read (k__law_read T)
theorem t__law_items {f : Addr} {fd : FuncData} (F : C8.Def K mg "_law_items" s__law_items f fd) (b : Binds K fd ["text", "at", "end"] []) (T : Tb P w K mg base n) : CalJ P w K mg base (2 * (n + 1) + 2) "_law_items" 3 (FF (n + 1) I__law_items) := cal_J F b sc__law_items (k__law_items T)
theorem t__law_due {f : Addr} {fd : FuncData} (F : C8.Def K mg "_law_due" s__law_due f fd) (b : Binds K fd ["text"] []) (T : Tb P w K mg base n) : CalJ P w K mg base (2 * (n + 1) + 2) "_law_due" 1 (FF (n + 1) I__law_due) := cal_J F b sc__law_due (k__law_due T)
theorem t__law_told {f : Addr} {fd : FuncData} (F : C8.Def K mg "_law_told" s__law_told f fd) (b : Binds K fd ["text"] []) (T : Tb P w K mg base n) : CalJ P w K mg base (2 * (n + 1) + 2) "_law_told" 1 (FF (n + 1) I__law_told) := cal_J F b sc__law_told (k__law_told T)
theorem i_FormError {C CF f : Addr} {fd : FuncData} {mc : Value} (F : C8.Fun K "__init__" "FormError.__init__" s_FormError___init__ f fd) (b : Binds K fd ["self", "at"] []) (hC : ClsAt K "FormError" C) (hm : mg "FormError" = some (.ref C)) (T : OexC K C) (iC : PySem.W.findIn K (.ref C) "__init__" = some (some (.ref f))) (tI : PySem.W.typeIn K (.ref f) = some (.type "function")) (hB : mg "FlowError" = some (.ref CF)) (sp : PySem.W.specialIn K (.ref CF) "__getattribute__" = some (some (.builtin "type.__getattribute__"))) (rd : PySem.W.readsIn K CF mc = true) (vV : PySem.W.findCls K (.ref CF) mc "__init__" = some (.val (.builtin "ValueError.__init__"))) (hno : PySem.W.findIn K (.ref C) "at" = some none) : RaiJ P w K mg base 1 "FormError" "at" okInt :=
  ⟨C, f, fd, hC, hm, T, iC, tI, C8.fn0 F sc_FormError___init__ (fun vs H Q E h => by obtain ⟨a, v, rfl, _⟩ := h; rfl) (fun cdv A outer s H vs Q E hr h => by
    obtain ⟨a, v, rfl, ea, ok, q⟩ := h
    exact ⟨_, init_b (n := "at") (B := "FlowError") rfl rfl (by first | exact .inl rfl | exact .inr (.inl rfl) | exact .inr (.inr rfl)) (by first | exact .inl rfl | exact .inr (.inl rfl) | exact .inr (.inr rfl)) rfl rfl rfl hB sp rd vV T hno (pe_joined (.cons pe_str (.cons (pe_fmt (pe_var (i := 1) rfl (by first | exact .inl rfl | exact .inr (.inl rfl) | exact .inr (.inr rfl)))) .nil))) (fmt2_int (by decide)), ⟨a, v, rfl, rfl, ea, ok, q⟩⟩), b⟩
end
end J51

/-! the law's draws -/
namespace J51
open PySem PySem.Spec PyProof.Rows L2 IL
theorem set_at {st : Sto} {p : Nat} {so so' : SO} (h : st[p]? = some so) : (st.set p so')[p]? = some so' := List.getElem?_set_self (lt_of_at h)
theorem nx_seq {p q : IS} {env e : PEnv} {st s : Sto} (h : p env st = some (.nx e s)) : iSeq p q env st = q e s := by rw [iSeq_e, h]
theorem if_skip {t : IT} {p : IS} {env : PEnv} {st s : Sto} (h : t env st = some (false, s)) : iIfS t p iSkip env st = some (.nx env s) := by
  rw [iIfS_e, h]
  rfl
theorem if_no {t : IT} {p rest : IS} {env : PEnv} {st s : Sto} (h : t env st = some (false, s)) : iSeq (iIfS t p iSkip) rest env st = rest env s := nx_seq (if_skip h)
theorem if_rt {t : IT} {p q rest : IS} {env : PEnv} {st s s2 : Sto} {v : PV} (h : t env st = some (true, s)) (h2 : p env s = some (.rt v s2)) : iSeq (iIfS t p q) rest env st = some (.rt v s2) := by
  have e : iIfS t p q env st = some (.rt v s2) := by
    rw [iIfS_e, h]
    exact h2
  rw [iSeq_e, e]
theorem asg_seq {i : Nat} {ie : IE} {env : PEnv} {x : PV} {q : IS} {st s2 : Sto} (h : ie env st = some (x, s2)) : iSeq (iAsg (gN i) ie) q env st = q (env.set i (some x)) s2 := by
  rw [iSeq_e, iAsg_e, h]
  rfl
theorem gc_ref {st s1 : Sto} {r : Nat} (h : st.length ≤ r) : gcS st s1 (.ref r) = s1 := by
  unfold gcS
  rw [if_neg]
  rintro ⟨h1, _⟩
  unfold rlt at h1
  omega
structure LS (st : Sto) (s c : Nat) : Prop where
  ne : s ≠ c
  s : ∃ k : Int, st[s]? = some (.lst [.int k, .ref c])
  c : ∃ cells : List Int, cells ≠ [] ∧ cells.length ≤ 100 ∧ st[c]? = some (.lst (cells.map .int))
/-- the state is there still; all else stands as it stood -/
structure Mv (s c : Nat) (st st' : Sto) : Prop where
  len : st'.length = st.length
  eq : ∀ i, i ≠ s → i ≠ c → st'[i]? = st[i]?
  ls : LS st' s c
section
variable {n s c : Nat} {st st1 st2 : Sto}
theorem Mv.refl (h : LS st s c) : Mv s c st st := ⟨rfl, fun _ _ _ => rfl, h⟩
theorem Mv.trans (a : Mv s c st st1) (b : Mv s c st1 st2) : Mv s c st st2 := ⟨b.len.trans a.len, fun i h k => (b.eq i h k).trans (a.eq i h k), b.ls⟩
theorem LS.set_s (h : LS st s c) (k : Int) : Mv s c st (st.set s (.lst [.int k, .ref c])) := by
  obtain ⟨k0, hs⟩ := h.s
  obtain ⟨cells, c1, c2, c3⟩ := h.c
  exact ⟨by simp, fun i hi _ => List.getElem?_set_ne (Ne.symm hi), h.ne, ⟨k, set_at hs⟩, cells, c1, c2, by rw [List.getElem?_set_ne h.ne]; exact c3⟩
theorem LS.set_c (h : LS st s c) {cells : List Int} (h1 : cells ≠ []) (h2 : cells.length ≤ 100) : Mv s c st (st.set c (.lst (cells.map .int))) := by
  obtain ⟨k0, hs⟩ := h.s
  obtain ⟨cells0, c1, c2, c3⟩ := h.c
  exact ⟨by simp, fun i _ hi => List.getElem?_set_ne (Ne.symm hi), h.ne, ⟨k0, by rw [List.getElem?_set_ne (Ne.symm h.ne)]; exact hs⟩, cells, h1, h2, set_at c3⟩
theorem e_take {most : Int} (h : LS st s c) (hm : most ≤ 1000000) : ∃ (r : Int) (st' : Sto), FF (n + 1) I__law_take [.ref s, .int most] st = some (.int r, st') ∧ Mv s c st st' ∧ (1 ≤ most → 0 ≤ r ∧ r < most) ∧ (most < 1 → r = 0) := by
  obtain ⟨k, hs⟩ := h.s
  obtain ⟨cells, c1, c2, c3⟩ := h.c
  rw [e__law_take]
  by_cases h0 : most < 1
  · refine ⟨0, st, def_same rfl ?_ rfl, Mv.refl h, fun z => by omega, fun _ => rfl⟩
    simp [b__law_take, h0]
  · have hl : 0 < cells.length := List.length_pos_iff.mpr c1
    obtain ⟨b1, b2⟩ := fmod_b (a := k) (b := (cells.length : Int)) (by omega)
    have t1 := fSubB_l (i := 1) hs
    have t0 := fSubB_l (i := 0) hs
    have tl := fLenB_l c3
    rw [List.length_map] at tl
    have hne : ¬ (cells.length : Int) = 0 := by omega
    obtain ⟨j, hj⟩ : ∃ j, j = k.fmod (cells.length : Int) := ⟨_, rfl⟩
    rw [← hj] at b1 b2
    obtain ⟨x, hx, hx2⟩ := atI_in (xs := cells.map PV.int) (i := j) b1 (by rw [List.length_map]; exact b2)
    obtain ⟨cell, hc, rfl⟩ := List.mem_map.mp hx
    have t2 := fSubB_l (i := j) c3
    rw [hx2] at t2
    have hix := ixN_in (n := (cells.map PV.int).length) (i := j) b1 (by rw [List.length_map]; exact b2)
    by_cases hbig : 1000000000000000000 ≤ cell
    · have t3 := fSetA_l (v := .int (cell.fdiv most)) c3 hix
      have hd : cDiv cell most = true := by
        unfold cDiv
        rw [Bool.and_eq_true, decide_eq_true_eq, decide_eq_true_eq]
        omega
      have hne2 : ¬ most = 0 := by omega
      have em : (cells.map PV.int).set j.toNat (.int (cell.fdiv most)) = (cells.set j.toNat (cell.fdiv most)).map PV.int := by rw [List.map_set]
      rw [em] at t3
      refine ⟨cell.fmod most, st.set c (.lst ((cells.set j.toNat (cell.fdiv most)).map .int)), def_same rfl ?_ (by simp), h.set_c (by simpa using c1) (by simpa using c2), fun _ => fmod_b (by omega), fun z => by omega⟩
      simp [b__law_take, h0, t1, t0, tl, hne, c1, ← hj, t2, hbig, hd, t3, hne2]
    · have t4 := fSetA_l (k := 0) (j := 0) (v := .int (k + 1)) hs rfl
      have M := h.set_s (k + 1)
      obtain ⟨k', hs'⟩ := M.ls.s
      have hs2 : (st.set s (.lst [.int (k + 1), .ref c]))[s]? = some (.lst [.int (k + 1), .ref c]) := set_at hs
      have t5 := fSubB_l (i := 0) hs2
      have hne2 : ¬ most = 0 := by omega
      have m1 : cMul cell 48271 = true := by unfold cMul; simp
      have m2 : cMul (k + 1) 69621 = true := by unfold cMul; simp
      have m3 : ∀ z, cMul z 16807 = true := fun z => by unfold cMul; simp
      have m4 : cMul (k + 1) 7919 = true := by unfold cMul; simp
      have d7 : ∀ z, cDiv z 7 = true := fun z => by unfold cDiv; simp
      refine ⟨((((cell * 48271 + (k + 1) * 69621).fmod 2147483647 * 16807 + (k + 1) * 7919).fmod 1000000007).fdiv 7).fmod most, st.set s (.lst [.int (k + 1), .ref c]), def_same rfl ?_ (by simp), M, fun _ => fmod_b (by omega), fun z => by omega⟩
      have es : [PV.int k, PV.ref c].set 0 (.int (k + 1)) = [.int (k + 1), .ref c] := rfl
      rw [es] at t4
      generalize st.set s (.lst [.int (k + 1), .ref c]) = s9 at t4 t5 ⊢
      simp [b__law_take, h0, t1, t0, tl, hne, c1, ← hj, t2, hbig, t4, t5, m1, m2, m3, m4, d7, hne2]
end
theorem cut_map (ns : List Int) (lo hi : Option Int) : ∃ zs : List Int, cutP (ns.map .int) lo hi = zs.map .int ∧ zs.length ≤ ns.length :=
  ⟨(ns.drop (HT.sIx ns.length 0 lo)).take (HT.sIx ns.length ns.length hi - HT.sIx ns.length 0 lo), by
    unfold cutP
    rw [List.length_map, ← List.map_drop, ← List.map_take], by
    rw [List.length_take, List.length_drop]; omega⟩
theorem e_state {n : Nat} {ns : List Int} (hn : ns.length ≤ 63) : ∃ (s c : Nat) (st' : Sto), FF (n + 1) I__law_state [.frz (ns.map .int)] [] = some (.ref s, st') ∧ LS st' s c := by
  rw [e__law_state]
  obtain ⟨zs, hz, hzl⟩ := cut_map ns none (some 63)
  have hs : iSl fSl (iVar 0) iNo (iPart (iC (.int 63))) [some (.frz (ns.map .int)), none, none] [] = some (.ref 0, [.lst (zs.map .int)]) := by
    simp [hz]
  obtain ⟨l, hlc⟩ := iLc_refm (xs := zs) (f := .int) (g := fun x => .int (if x < 0 then -x else x)) (p := fun _ => true) (r := 0) (ie := iSl fSl (iVar 0) iNo (iPart (iC (.int 63)))) (e := iCall (a1 fAbs) (iCons (iVar 2) iNil)) (ig := gN 2) (t := iYes) (vs := [2]) (env := [some (.frz (ns.map .int)), none, none]) (st := []) (s1 := [.lst (zs.map .int)]) hs rfl (by omega) (fun x _ s => ⟨[some (.frz (ns.map .int)), none, some (.int x)], rfl, rfl, fun _ => ⟨[], by simp⟩⟩)
  rw [filter_yes] at hlc
  obtain ⟨S, hS⟩ : ∃ S : Sto, S = [SO.lst (zs.map .int)] ++ [.lst (zs.map fun x => .int (if x < 0 then -x else x))] ++ l := ⟨_, rfl⟩
  have h1 : S[1]? = some (.lst ((zs.map fun x : Int => if x < 0 then -x else x).map .int)) := by rw [hS, List.map_map]; rfl
  have hl1 : 1 < S.length := lt_of_at h1
  have hlc2 : iLc (iWalk (iSl fSl (iVar 0) iNo (iPart (iC (.int 63))))) (gN 2) iYes (iCall (a1 fAbs) (iCons (iVar 2) iNil)) [2] [some (.frz (ns.map .int)), none, none] [] = some (.ref 1, S) := by
    rw [hlc, hS]; rfl
  have hlen := fLenB_l h1
  rw [List.length_map, List.length_map] at hlen
  by_cases h0 : zs = []
  · refine ⟨S.length + 1, S.length, S ++ [.lst [.int 0]] ++ [.lst [.int 0, .ref S.length]], ?_, by omega, ⟨0, ?_⟩, [0], by simp, by simp, ?_⟩
    · have hb : b__law_state (FF n) (GG n) ([PV.frz (ns.map .int)].map some ++ List.replicate (3 - 1) none) [] = some (.rt (.ref (S.length + 1)) (S ++ [.lst [.int 0]] ++ [.lst [.int 0, .ref S.length]])) := by
        show b__law_state (FF n) (GG n) [some (.frz (ns.map .int)), none, none] [] = _
        unfold b__law_state
        rw [iSeq_e, iAsg_e, hlc2, ob_s]
        simp only [gN_e, List.set_cons_zero, List.set_cons_succ]
        subst h0
        simp [hlen, iSeq_e]
      rw [def_rt (n := 1) rfl hb, gc_ref (Nat.zero_le _)]
    · rw [List.getElem?_append_right (by simp)]; simp
    · rw [List.getElem?_append_left (by simp), List.getElem?_append_right (Nat.le_refl _)]; simp
  · refine ⟨S.length, 1, S ++ [.lst [.int 0, .ref 1]], ?_, by omega, ⟨0, new_at⟩, zs.map fun x => if x < 0 then -x else x, fun e => h0 (List.map_eq_nil_iff.mp e), by rw [List.length_map]; omega, by rw [List.getElem?_append_left hl1]; exact h1⟩
    have hne : ¬ (zs.length : Int) = 0 := fun e => h0 (List.length_eq_zero_iff.mp (by omega))
    have hb : b__law_state (FF n) (GG n) ([PV.frz (ns.map .int)].map some ++ List.replicate (3 - 1) none) [] = some (.rt (.ref S.length) (S ++ [.lst [.int 0, .ref 1]])) := by
      show b__law_state (FF n) (GG n) [some (.frz (ns.map .int)), none, none] [] = _
      unfold b__law_state
      rw [iSeq_e, iAsg_e, hlc2, ob_s]
      simp only [gN_e, List.set_cons_zero, List.set_cons_succ]
      have hb0 : ((zs.length : Int) == 0) = false := beq_eq_false_iff_ne.mpr hne
      have hc : iTestB (iBin fEqB (iCall (a1 fLenB) (iCons (iVar 1) iNil)) (iC (.int 0))) [some (.frz (ns.map .int)), some (.ref 1), none] S = some (false, S) := by
        simp [hlen, hb0]
      rw [if_no hc]
      simp
    rw [def_rt (n := 1) rfl hb, gc_ref (Nat.zero_le _)]
end J51

/-! data as a tree, their form -/
namespace J51
open PySem PySem.Spec PyProof.Rows L2 IL SX
inductive D where | non | bl (b : Bool) | int (i : Int) | text (t : List Nat) | tup (l : List D) | lst (l : List D)
mutual
def pd : D → PV
  | .non => .non
  | .bl b => .bl b
  | .int i => .int i
  | .text t => .str (S t)
  | .tup l => .tup (pds l)
  | .lst l => .frz (pds l)
def pds : List D → List PV
  | [] => []
  | d :: l => pd d :: pds l
end
theorem pds_map (l : List D) : pds l = l.map pd := by
  induction l with
  | nil => rfl
  | cons d l ih => simp [pds, ih]
theorem pds_len (l : List D) : (pds l).length = l.length := by rw [pds_map, List.length_map]
def shI (i : Int) : List Nat := if i < 0 then 45 :: TL.numL i.natAbs else TL.numL i.natAbs
theorem num_S (n : Nat) : Str.ofString (toString ((n : Nat) : Int)) = S (TL.numL n) := by
  refine TL.ext_tl ?_
  exact TL.tl_num n
theorem text_int (i : Int) : Str.ofString (toString i) = S (shI i) := by
  unfold shI
  by_cases h : i < 0
  · rw [if_pos h]
    refine TL.ext_tl ?_
    have e1 : TL.tl (Str.ofString (toString ((i.natAbs : Nat) : Int))) = TL.numL i.natAbs := TL.tl_num i.natAbs
    have e2 : (0 : Int) - i = ((i.natAbs : Nat) : Int) := by omega
    rw [toString_neg h, e2, TL.tl_ofString, String.toList_append, List.map_append, ← TL.tl_ofString, ← TL.tl_ofString, e1]
    rfl
  · rw [if_neg h]
    have e2 : i = ((i.natAbs : Nat) : Int) := by omega
    have := num_S i.natAbs
    rw [← e2] at this
    exact this
mutual
def enc : D → List Nat
  | .non => [122]
  | .bl b => if b then [121] else [110]
  | .int i => 105 :: (shI i ++ [59])
  | .text t => 116 :: (TL.numL t.length ++ 58 :: t)
  | .tup l => 40 :: (encs l ++ [41])
  | .lst l => 91 :: (encs l ++ [93])
def encs : List D → List Nat
  | [] => []
  | d :: l => enc d ++ encs l
end
theorem encs_flat (l : List D) : encs l = (l.map enc).flatten := by
  induction l with
  | nil => rfl
  | cons d l ih => simp [encs, ih]
mutual
/-- within the bounds of what is drawn -/
def gD : D → Prop
  | .int i => i.natAbs < 10000000000000000
  | .text t => t.length ≤ 10 ∧ ∀ c ∈ t, c < 128
  | .tup l => l.length ≤ 3 ∧ gDs l
  | .lst l => l.length ≤ 3 ∧ gDs l
  | _ => True
def gDs : List D → Prop
  | [] => True
  | d :: l => gD d ∧ gDs l
end
mutual
def dd : D → Nat
  | .tup l => dds l + 1
  | .lst l => dds l + 1
  | _ => 0
def dds : List D → Nat
  | [] => 0
  | d :: l => max (dd d) (dds l)
end
theorem gDs_mem : ∀ {l : List D} {d : D}, gDs l → d ∈ l → gD d
  | x :: l, d, h, hm => by
    rcases List.mem_cons.mp hm with rfl | hm
    · exact h.1
    · exact gDs_mem h.2 hm
theorem dds_mem : ∀ {l : List D} {d : D}, d ∈ l → dd d ≤ dds l
  | x :: l, d, hm => by
    unfold dds
    rcases List.mem_cons.mp hm with rfl | hm
    · omega
    · have := dds_mem hm
      omega
theorem gDs_of : ∀ {l : List D}, (∀ d ∈ l, gD d) → gDs l
  | [], _ => trivial
  | d :: l, h => ⟨h d (List.mem_cons_self ..), gDs_of fun x hx => h x (List.mem_cons_of_mem _ hx)⟩
theorem dds_of {m : Nat} : ∀ {l : List D}, (∀ d ∈ l, dd d ≤ m) → dds l ≤ m
  | [], _ => Nat.zero_le _
  | d :: l, h => by
    have h1 := h d (List.mem_cons_self ..)
    have h2 := dds_of fun x hx => h x (List.mem_cons_of_mem _ hx)
    simp only [dds]
    omega
mutual
theorem nr_pd : ∀ d : D, nr (pd d) = true
  | .non => by simp [pd, nr]
  | .bl b => by simp [pd, nr]
  | .int i => by simp [pd, nr]
  | .text t => by simp [pd, nr]
  | .tup l => by simp [pd, nr, nrs_pds l]
  | .lst l => by simp [pd, nr, nrs_pds l]
theorem nrs_pds : ∀ l : List D, nrs (pds l) = true
  | [] => by simp [pds, nrs]
  | d :: l => by simp [pds, nrs, nr_pd d, nrs_pds l]
end
theorem nrs_map {α : Type} {f : α → PV} : ∀ {xs : List α}, (∀ x ∈ xs, nr (f x) = true) → nrs (xs.map f) = true := fun {xs} h => nrs_all fun y hy => by
  obtain ⟨x, hx, rfl⟩ := List.mem_map.mp hy
  exact h x hx
abbrev strP (e : List Nat) : PV := .str (S e)
theorem mapO_S : ∀ L : List (List Nat), mapO isStr (L.map strP) = some (L.map S)
  | [] => rfl
  | c :: r => by
    show mapO isStr (strP c :: r.map strP) = _
    unfold mapO
    rw [mapO_S r]
    rfl
theorem joinL_flat : ∀ L : List (List Nat), TL.joinL [] L = L.flatten
  | [] => rfl
  | [a] => by simp [TL.joinL]
  | a :: b :: r => by
    show a ++ ([] ++ TL.joinL [] (b :: r)) = _
    rw [joinL_flat (b :: r)]
    rfl
theorem sum_flat : ∀ L : List (List Nat), (L.map List.length).sum = L.flatten.length
  | [] => rfl
  | a :: r => by rw [List.map_cons, List.sum_cons, sum_flat r, List.flatten_cons, List.length_append]
theorem s0 : S_ = S [] := by decide +kernel
/-- texts put together -/
theorem join_all {st : Sto} {env : PEnv} {ie : IE} {x : PV} {L : List (List Nat)} (h : ie env st = some (x, st)) (hx : itemsOf st x = some (L.map strP)) (hl : L.flatten.length ≤ 9000000) :
    iJoin (iC (.str S_)) ie env st = some (strP L.flatten, st) := by
  have e1 : ((L.map S).map (·.length)).sum = L.flatten.length := by
    rw [List.map_map, ← sum_flat]
    exact congrArg List.sum (List.map_congr_left fun v _ => S_len _)
  have hl0 : (S_).length = 0 := by rw [s0]; rfl
  unfold iJoin
  simp only [iC_e, ob_s, h, strsOf, hx, mapO_S]
  rw [if_pos, s0, join_S, joinL_flat]
  rw [e1, hl0, Nat.mul_zero]
  exact hl
end J51

/-! forms of plain things; the law's form -/
namespace J51
open PySem PySem.Spec PyProof.Rows L2 IL SX
theorem c_z : S_z = S [122] := by decide +kernel
theorem c_y : S_y = S [121] := by decide +kernel
theorem c_n : S_n = S [110] := by decide +kernel
theorem c_i : S_i = S [105] := by decide +kernel
theorem c_t : S_t = S [116] := by decide +kernel
theorem c_3b : S_x3b = S [59] := by decide +kernel
theorem c_3a : S_x3a = S [58] := by decide +kernel
theorem c_28 : S_x28 = S [40] := by decide +kernel
theorem c_29 : S_x29 = S [41] := by decide +kernel
theorem c_5b : S_x5b = S [91] := by decide +kernel
theorem c_5d : S_x5d = S [93] := by decide +kernel
theorem emp : Str.empty = S [] := rfl
section
variable {st : Sto} {b : Bool} {i : Int} {x : Str} {xs : List PV}
theorem kb_non_bool : kitB "NoneType" "bool" = some false := by decide +kernel
@[simp] theorem isP_non_bool : isP st .non (.ty "bool") = some false := kb_non_bool
theorem kb_bl_bool : kitB "bool" "bool" = some true := by decide +kernel
@[simp] theorem isP_bl_bool : isP st (.bl b) (.ty "bool") = some true := kb_bl_bool
theorem kb_int_bool : kitB "int" "bool" = some false := by decide +kernel
@[simp] theorem isP_int_bool : isP st (.int i) (.ty "bool") = some false := kb_int_bool
theorem kb_str_bool : kitB "str" "bool" = some false := by decide +kernel
@[simp] theorem isP_str_bool : isP st (.str x) (.ty "bool") = some false := kb_str_bool
theorem kb_tup_bool : kitB "tuple" "bool" = some false := by decide +kernel
@[simp] theorem isP_tup_bool : isP st (.tup xs) (.ty "bool") = some false := kb_tup_bool
theorem kb_frz_bool : kitB "list" "bool" = some false := by decide +kernel
@[simp] theorem isP_frz_bool : isP st (.frz xs) (.ty "bool") = some false := kb_frz_bool
theorem kb_non_int : kitB "NoneType" "int" = some false := by decide +kernel
@[simp] theorem isP_non_int : isP st .non (.ty "int") = some false := kb_non_int
theorem kb_bl_int : kitB "bool" "int" = some true := by decide +kernel
@[simp] theorem isP_bl_int : isP st (.bl b) (.ty "int") = some true := kb_bl_int
theorem kb_int_int : kitB "int" "int" = some true := by decide +kernel
@[simp] theorem isP_int_int : isP st (.int i) (.ty "int") = some true := kb_int_int
theorem kb_str_int : kitB "str" "int" = some false := by decide +kernel
@[simp] theorem isP_str_int : isP st (.str x) (.ty "int") = some false := kb_str_int
theorem kb_tup_int : kitB "tuple" "int" = some false := by decide +kernel
@[simp] theorem isP_tup_int : isP st (.tup xs) (.ty "int") = some false := kb_tup_int
theorem kb_frz_int : kitB "list" "int" = some false := by decide +kernel
@[simp] theorem isP_frz_int : isP st (.frz xs) (.ty "int") = some false := kb_frz_int
theorem kb_non_str : kitB "NoneType" "str" = some false := by decide +kernel
@[simp] theorem isP_non_str : isP st .non (.ty "str") = some false := kb_non_str
theorem kb_bl_str : kitB "bool" "str" = some false := by decide +kernel
@[simp] theorem isP_bl_str : isP st (.bl b) (.ty "str") = some false := kb_bl_str
theorem kb_int_str : kitB "int" "str" = some false := by decide +kernel
@[simp] theorem isP_int_str : isP st (.int i) (.ty "str") = some false := kb_int_str
theorem kb_str_str : kitB "str" "str" = some true := by decide +kernel
@[simp] theorem isP_str_str : isP st (.str x) (.ty "str") = some true := kb_str_str
theorem kb_tup_str : kitB "tuple" "str" = some false := by decide +kernel
@[simp] theorem isP_tup_str : isP st (.tup xs) (.ty "str") = some false := kb_tup_str
theorem kb_frz_str : kitB "list" "str" = some false := by decide +kernel
@[simp] theorem isP_frz_str : isP st (.frz xs) (.ty "str") = some false := kb_frz_str
theorem kb_non_tuple : kitB "NoneType" "tuple" = some false := by decide +kernel
@[simp] theorem isP_non_tuple : isP st .non (.ty "tuple") = some false := kb_non_tuple
theorem kb_bl_tuple : kitB "bool" "tuple" = some false := by decide +kernel
@[simp] theorem isP_bl_tuple : isP st (.bl b) (.ty "tuple") = some false := kb_bl_tuple
theorem kb_int_tuple : kitB "int" "tuple" = some false := by decide +kernel
@[simp] theorem isP_int_tuple : isP st (.int i) (.ty "tuple") = some false := kb_int_tuple
theorem kb_str_tuple : kitB "str" "tuple" = some false := by decide +kernel
@[simp] theorem isP_str_tuple : isP st (.str x) (.ty "tuple") = some false := kb_str_tuple
theorem kb_tup_tuple : kitB "tuple" "tuple" = some true := by decide +kernel
@[simp] theorem isP_tup_tuple : isP st (.tup xs) (.ty "tuple") = some true := kb_tup_tuple
theorem kb_frz_tuple : kitB "list" "tuple" = some false := by decide +kernel
@[simp] theorem isP_frz_tuple : isP st (.frz xs) (.ty "tuple") = some false := kb_frz_tuple
theorem kb_non_list : kitB "NoneType" "list" = some false := by decide +kernel
@[simp] theorem isP_non_list : isP st .non (.ty "list") = some false := kb_non_list
theorem kb_bl_list : kitB "bool" "list" = some false := by decide +kernel
@[simp] theorem isP_bl_list : isP st (.bl b) (.ty "list") = some false := kb_bl_list
theorem kb_int_list : kitB "int" "list" = some false := by decide +kernel
@[simp] theorem isP_int_list : isP st (.int i) (.ty "list") = some false := kb_int_list
theorem kb_str_list : kitB "str" "list" = some false := by decide +kernel
@[simp] theorem isP_str_list : isP st (.str x) (.ty "list") = some false := kb_str_list
theorem kb_tup_list : kitB "tuple" "list" = some false := by decide +kernel
@[simp] theorem isP_tup_list : isP st (.tup xs) (.ty "list") = some false := kb_tup_list
theorem kb_frz_list : kitB "list" "list" = some true := by decide +kernel
@[simp] theorem isP_frz_list : isP st (.frz xs) (.ty "list") = some true := kb_frz_list
@[simp] theorem isP2_non : isP2 st .non "list" "tuple" = some false := by unfold isP2; simp only [tyName, kb_non_list, kb_non_tuple]; rfl
@[simp] theorem isN_bl : isNone (.bl b) = false := rfl
@[simp] theorem isP2_bl : isP2 st (.bl b) "list" "tuple" = some false := by unfold isP2; simp only [tyName, kb_bl_list, kb_bl_tuple]; rfl
@[simp] theorem isN_int : isNone (.int i) = false := rfl
@[simp] theorem isP2_int : isP2 st (.int i) "list" "tuple" = some false := by unfold isP2; simp only [tyName, kb_int_list, kb_int_tuple]; rfl
@[simp] theorem isN_str : isNone (.str x) = false := rfl
@[simp] theorem isP2_str : isP2 st (.str x) "list" "tuple" = some false := by unfold isP2; simp only [tyName, kb_str_list, kb_str_tuple]; rfl
@[simp] theorem isN_tup : isNone (.tup xs) = false := rfl
@[simp] theorem isP2_tup : isP2 st (.tup xs) "list" "tuple" = some true := by unfold isP2; simp only [tyName, kb_tup_list, kb_tup_tuple]; rfl
@[simp] theorem isN_frz : isNone (.frz xs) = false := rfl
@[simp] theorem isP2_frz : isP2 st (.frz xs) "list" "tuple" = some true := by unfold isP2; simp only [tyName, kb_frz_list, kb_frz_tuple]; rfl
end
section
variable {n : Nat} {st : Sto} {env : PEnv} {es : List IE} {e : IE} {acc c t : List Nat} {i : Int}
theorem js_c (h : acc.length + c.length ≤ 100000) : jsI (iC (.str (S c)) :: es) (S acc) env st = jsI es (S (acc ++ c)) env st := by
  have h1 : (S c).length ≤ 9000000 := by rw [S_len]; omega
  have h2 : (S acc).length + (S c).length ≤ 9000000 := by rw [S_len, S_len]; omega
  simp only [jsI, iC_e, ob_s, txtP, h1, h2, if_true, S_cat]
theorem js_t (h0 : e env st = some (strP t, st)) (h : acc.length + t.length ≤ 100000) : jsI (e :: es) (S acc) env st = jsI es (S (acc ++ t)) env st := by
  have h1 : (S t).length ≤ 9000000 := by rw [S_len]; omega
  have h2 : (S acc).length + (S t).length ≤ 9000000 := by rw [S_len, S_len]; omega
  simp only [jsI, h0, ob_s, txtP, h1, h2, if_true, S_cat]
theorem js_i (h0 : e env st = some (.int i, st)) (hi : i.natAbs < 10 ^ 30) (h : acc.length + (shI i).length ≤ 100000) : jsI (e :: es) (S acc) env st = jsI es (S (acc ++ shI i)) env st := by
  have h2 : (S acc).length + (S (shI i)).length ≤ 9000000 := by rw [S_len, S_len]; omega
  have h3 : decide (i.natAbs < 10 ^ 30) = true := decide_eq_true hi
  simp only [jsI, h0, ob_s, txtP, h3, text_int, h2, if_true, S_cat]
theorem js_nil : jsI [] (S acc) env st = some (S acc, st) := rfl
theorem shI_len {i : Int} (h : i.natAbs < 10 ^ 30) : (shI i).length ≤ 31 := by
  have := TL.numL_len (n := i.natAbs) (k := 30) (by decide) h
  unfold shI
  split
  · simp; omega
  · omega
theorem shI_nat (k : Nat) : shI (k : Int) = TL.numL k := by
  unfold shI
  rw [if_neg (by omega), Int.natAbs_natCast]
theorem e_plain_int (hi : i.natAbs < 10 ^ 30) : FF (n + 1) I__plain_form [.int i] st = some (strP (enc (.int i)), st) := by
  rw [e__plain_form]
  refine def_pure0 rfl ?_ rfl
  have hl := shI_len hi
  have ef : iFStr [iC (.str S_i), iVar 0, iC (.str S_x3b)] [some (.int i)] st = some (strP (enc (.int i)), st) := by
    unfold iFStr
    rw [emp, c_i, c_3b, js_c (by simp), js_i rfl hi (by simp; omega), js_c (by simp; omega), js_nil]
    simp [enc]
  simp [b__plain_form, ef]
theorem e_plain_text (ht : t.length ≤ 10000) : FF (n + 1) I__plain_form [strP t] st = some (strP (enc (.text t)), st) := by
  rw [e__plain_form]
  refine def_pure0 rfl ?_ rfl
  have hk : ((t.length : Nat) : Int).natAbs < 10 ^ 30 := by
    rw [Int.natAbs_natCast]
    exact Nat.lt_of_le_of_lt ht (by decide)
  have hl := shI_len hk
  have h9 : t.length ≤ 9000000 := by omega
  have ef : iFStr [iC (.str S_t), iCall (a1 fLenB) (iCons (iVar 0) iNil), iC (.str S_x3a), iVar 0] [some (strP t)] st = some (strP (enc (.text t)), st) := by
    unfold iFStr
    have e1 : iCall (a1 fLenB) (iCons (iVar 0) iNil) [some (strP t)] st = some (.int (t.length : Int), st) := by simp [S_len, h9]
    rw [emp, c_t, c_3a, js_c (by simp), js_i e1 hk (by simp; omega), js_c (by simp; omega), js_t rfl (by simp; omega), js_nil]
    simp [enc, shI_nat]
  simp [b__plain_form, ef]
theorem e_plain_bl (b : Bool) : FF (n + 1) I__plain_form [.bl b] st = some (strP (enc (.bl b)), st) := by
  rw [e__plain_form]
  refine def_pure0 rfl ?_ rfl
  cases b <;> simp [b__plain_form, enc, c_y, c_n]
theorem e_plain_non : FF (n + 1) I__plain_form [.non] st = some (strP (enc .non), st) := by
  rw [e__plain_form]
  refine def_pure0 rfl ?_ rfl
  simp [b__plain_form, enc, c_z]
end
/-! ### repr of data -/
def WB : Nat → Nat
  | 0 => 110
  | d + 1 => 3 * (WB d + 2) + 4
theorem okt {t : List Nat} (h : ∀ c ∈ t, c < 128) : PyData.strOk (S t) = true := okL_iff.mpr fun c hc => by have := h c hc; omega
theorem WB_le (d : Nat) : 110 ≤ WB d := by
  induction d with
  | zero => exact Nat.le_refl _
  | succ d ih => show 110 ≤ 3 * (WB d + 2) + 4; omega
theorem WB_mono {a b : Nat} (h : a ≤ b) : WB a ≤ WB b := by
  induction b with
  | zero => rw [show a = 0 by omega]; exact Nat.le_refl _
  | succ b ih =>
    by_cases e : a = b + 1
    · rw [e]; exact Nat.le_refl _
    · have := ih (by omega)
      show WB a ≤ 3 * (WB b + 2) + 4
      omega
mutual
theorem gd_pd : ∀ (d : D) (m : Nat), gD d → dd d ≤ m → Gd (m + 1) (WB m) (pd d)
  | .non, m, _, _ => by
    have := WB_le m
    exact ⟨by simp [pd, gd], by simp [pd, nr], by simp [pd, wt]; omega⟩
  | .bl b, m, _, _ => by
    have := WB_le m
    exact Gd.bl (by omega)
  | .int i, m, hg, _ => by
    have := WB_le m
    exact Gd.int (Nat.lt_trans hg (by decide)) (by omega)
  | .text t, m, hg, _ => by
    have := WB_le m
    have h1 := hg.1
    exact Gd.str (okt hg.2) (by rw [S_len]; omega)
  | .tup l, m, hg, hm => by
    cases m with
    | zero => simp [dd] at hm
    | succ m =>
      have h := gds_pds l m hg.2 (by simp only [dd] at hm; omega)
      refine (Gd.tup h).mono (Nat.le_refl _) ?_
      have hl : l.length ≤ 3 := hg.1
      have := Nat.mul_le_mul_right (WB m + 2) hl
      show l.length * (WB m + 2) + 4 ≤ 3 * (WB m + 2) + 4
      omega
  | .lst l, m, hg, hm => by
    cases m with
    | zero => simp [dd] at hm
    | succ m =>
      have h := gds_pds l m hg.2 (by simp only [dd] at hm; omega)
      refine (Gd.frz h).mono (Nat.le_refl _) ?_
      have hl : l.length ≤ 3 := hg.1
      have := Nat.mul_le_mul_right (WB m + 2) hl
      show l.length * (WB m + 2) + 4 ≤ 3 * (WB m + 2) + 4
      omega
theorem gds_pds : ∀ (l : List D) (m : Nat), gDs l → dds l ≤ m → Gds (m + 1) (l.length * (WB m + 2)) (pds l)
  | [], m, _, _ => by
    show Gds (m + 1) _ []
    exact Gds.nil
  | d :: l, m, hg, hm => by
    have h1 := gd_pd d m hg.1 (by simp only [dds] at hm; omega)
    have h2 := gds_pds l m hg.2 (by simp only [dds] at hm; omega)
    refine (Gds.cons h1 h2).mono (Nat.le_refl _) ?_
    rw [List.length_cons, Nat.succ_mul]
    omega
end
def shw (d : D) : Str := (datP (pd d)).shown
theorem pd_ne (d : D) : ∀ ks xs, pd d ≠ .fdk ks xs := fun ks xs h => by cases d <;> simp [pd] at h
theorem repr_pd {d : D} {st : Sto} (hg : gD d) (hd : dd d ≤ 4) : fReprA (pd d) st = some (.str (shw d), st) :=
  repr_all (gd_pd d 4 hg hd) (by decide) (by decide) (pd_ne d)
theorem numL_hd (k : Nat) : ∃ c r, TL.numL k = c :: r ∧ 48 ≤ c ∧ c ≤ 57 := by
  have hne : TL.numL k ≠ [] := TL.numL_ne k
  cases h : TL.numL k with
  | nil => exact (hne h).elim
  | cons c r =>
    have h1 : ¬ (c < 48 ∨ 57 < c) := fun z => TL.numL_free (n := k) z (by rw [h]; exact List.mem_cons_self ..)
    exact ⟨c, r, rfl, by omega, by omega⟩
theorem hd_pd (d : D) (h : ∀ b, d ≠ .bl b) : ∃ c, hd0 (shw d) = some c ∧ c ≠ 84 ∧ c ≠ 70 := by
  cases d with
  | non => exact ⟨78, by decide +kernel, by decide, by decide⟩
  | bl b => exact (h b rfl).elim
  | int i =>
    have e : shw (.int i) = S (shI i) := text_int i
    rw [e]
    unfold shI
    split
    · exact ⟨45, rfl, by decide, by decide⟩
    · obtain ⟨c, r, h1, h2, h3⟩ := numL_hd i.natAbs
      rw [h1]
      exact ⟨c, rfl, by omega, by omega⟩
  | text t =>
    refine ⟨_, hd0_repr (S t), ?_, ?_⟩ <;> (unfold reprQuote; split <;> decide)
  | tup l => exact ⟨40, hd0_tup _, by decide, by decide⟩
  | lst l => exact ⟨91, hd0_list _, by decide, by decide⟩
theorem eq_true {d : D} {st : Sto} (hg : gD d) (hd : dd d ≤ 4) (h : ∀ b, d ≠ .bl b) : fEqB (.str (shw d)) (.str S_True) st = some (.bl false, st) ∧ fEqB (.str (shw d)) (.str S_False) st = some (.bl false, st) := by
  have ok : PyData.strOk (shw d) = true := shown_ok (pd d) 5 (gd_pd d 4 hg hd).g
  obtain ⟨c, hc, n1, n2⟩ := hd_pd d h
  have t1 : hd0 S_True = some 84 := by decide +kernel
  have t2 : hd0 S_False = some 70 := by decide +kernel
  have e1 : (shw d == S_True) = false := beq_eq_false_iff_ne.mpr fun z => by rw [z, t1] at hc; cases hc; exact n1 rfl
  have e2 : (shw d == S_False) = false := beq_eq_false_iff_ne.mpr fun z => by rw [z, t2] at hc; cases hc; exact n2 rfl
  have o1 : PyData.strOk S_True = true := by simp
  have o2 : PyData.strOk S_False = true := by simp
  rw [fEqB_e, fEqB_e, eqB_str, eqB_str, eqP_s, eqP_s, ok, o1, o2, e1, e2]
  exact ⟨rfl, rfl⟩
end J51

/-! the law's form of data -/
namespace J51
open PySem PySem.Spec PyProof.Rows L2 IL SX
noncomputable def fC1 : IT := (iTestB (iBin fIs (iVar 0) (iC .non)))
noncomputable def fC2 : IT := (iTestB (iBin fEqB (iCall (a1 fReprA) (iCons (iVar 0) iNil)) (iC (.str S_True))))
noncomputable def fC3 : IT := (iTestB (iBin fEqB (iCall (a1 fReprA) (iCons (iVar 0) iNil)) (iC (.str S_False))))
noncomputable def fL (F : Nat → FA) : IS := (iSeq (iAsg (gN 1) (iJoin (iC (.str S_)) (iNew (iLc (iWalk (iVar 0)) (gN 2) iYes (iCall (F I__law_form) (iCons (iVar 2) iNil)) [2])))) (iSeq (iIfS (iTest (iCall (a2 fIsi) (iCons (iVar 0) (iCons (iC (.ty "tuple")) iNil)))) (iRet (iBin fAdd (iBin fAdd (iC (.str S_x28)) (iVar 1)) (iC (.str S_x29)))) iSkip) (iRet (iBin fAdd (iBin fAdd (iC (.str S_x5b)) (iVar 1)) (iC (.str S_x5d))))))
noncomputable def fR (F : Nat → FA) : IS := (iSeq (iIfS (iTest (iCall (a2 fIsi) (iCons (iVar 0) (iCons (iC (.ty "int")) iNil)))) (iRet (iBin fAdd (iBin fAdd (iC (.str S_i)) (iCall (a1 fStr) (iCons (iVar 0) iNil))) (iC (.str S_x3b)))) iSkip) (iSeq (iIfS (iTest (iCall (a2 fIsi) (iCons (iVar 0) (iCons (iC (.ty "str")) iNil)))) (iRet (iBin fAdd (iBin fAdd (iBin fAdd (iC (.str S_t)) (iCall (a1 fStr) (iCons (iCall (a1 fLenB) (iCons (iVar 0) iNil)) iNil))) (iC (.str S_x3a))) (iVar 0))) iSkip) (fL F)))
theorem b_form_e (F : Nat → FA) (G : Nat → FX) : b__law_form F G = iSeq (iIfS fC1 (iRet (iC (.str S_z))) iSkip) (iSeq (iIfS fC2 (iRet (iC (.str S_y))) iSkip) (iSeq (iIfS fC3 (iRet (iC (.str S_n))) iSkip) (fR F))) := rfl
section
variable {n : Nat} {st : Sto} {F : Nat → FA} {G : Nat → FX}
theorem form_rest {d : D} (hg : gD d) (hd : dd d ≤ 4) (h1 : d ≠ .non) (h2 : ∀ b, d ≠ .bl b) : b__law_form F G [some (pd d), none, none] st = fR F [some (pd d), none, none] st := by
  have hr := repr_pd (st := st) hg hd
  obtain ⟨e1, e2⟩ := eq_true (st := st) hg hd h2
  have hn : isNone (pd d) = false := by cases d <;> first | (exact (h1 rfl).elim) | simp [pd]
  have t1 : fC1 [some (pd d), none, none] st = some (false, st) := by
    unfold fC1
    simp [hn]
  have t2 : fC2 [some (pd d), none, none] st = some (false, st) := by
    unfold fC2
    simp only [iTestB_e, iBin_e, iCall_e, iCons_e, iNil_e, iVar_e, iC_e, ob_s, List.getElem?_cons_zero, a1_e, hr, e1, isBl_e, Option.map_some]
  have t3 : fC3 [some (pd d), none, none] st = some (false, st) := by
    unfold fC3
    simp only [iTestB_e, iBin_e, iCall_e, iCons_e, iNil_e, iVar_e, iC_e, ob_s, List.getElem?_cons_zero, a1_e, hr, e2, isBl_e, Option.map_some]
  rw [b_form_e, if_no t1, if_no t2, if_no t3]
theorem len_mem {L : List (List Nat)} {p : List Nat} (h : p ∈ L) : p.length ≤ (L.map List.length).sum := by
  induction L with
  | nil => cases h
  | cons q L ih =>
    simp only [List.map_cons, List.sum_cons]
    rcases List.mem_cons.mp h with rfl | h
    · omega
    · have := ih h
      omega
theorem add_S {a b : List Nat} (h : a.length + b.length ≤ 9000000) : fAdd (strP a) (strP b) st = some (strP (a ++ b), st) := by
  rw [fAdd_s, S_len, S_len, if_pos h, S_cat]
theorem inner_e {k : Nat} {x : PV} {l : List D} (hx : x = .tup (pds l) ∨ x = .frz (pds l)) (ih : ∀ d ∈ l, ∀ st, FF k I__law_form [pd d] st = some (strP (enc d), st)) (hl : l.length ≤ 1000) (hlen : (encs l).length ≤ 100000) :
    iJoin (iC (.str S_)) (iNew (iLc (iWalk (iVar 0)) (gN 2) iYes (iCall (FF k I__law_form) (iCons (iVar 2) iNil)) [2])) [some x, none, none] st = some (strP (encs l), st) := by
  have hlc : ∃ g, iLc (iWalk (iVar 0)) (gN 2) iYes (iCall (FF k I__law_form) (iCons (iVar 2) iNil)) [2] [some x, none, none] st = some (.ref st.length, st ++ [.lst ((l.filter fun _ => true).map fun d => strP (enc d))] ++ g) := by
    rcases hx with rfl | rfl
    · exact iLc_tupm (xs := l) (f := pd) (g := fun d => strP (enc d)) (p := fun _ => true) (by rw [← pds_map]; rfl) (by omega) (fun d hd s' => ⟨[some (.tup (pds l)), none, some (pd d)], rfl, rfl, fun _ => ⟨[], by
        have := ih d hd s'
        simp [this]⟩⟩)
    · exact iLc_frzm (xs := l) (f := pd) (g := fun d => strP (enc d)) (p := fun _ => true) (by rw [← pds_map]; rfl) (by omega) (fun d hd s' => ⟨[some (.frz (pds l)), none, some (pd d)], rfl, rfl, fun _ => ⟨[], by
        have := ih d hd s'
        simp [this]⟩⟩)
  obtain ⟨g, hlc⟩ := hlc
  rw [filter_yes] at hlc
  have hnr : nrs (l.map fun d => strP (enc d)) = true := nrs_map fun x _ => by simp [nr]
  have hx := new_at_ (l := [SO.lst (l.map fun d => strP (enc d))] ++ g) hlc at_mid (Nat.le_refl _) (List.append_assoc ..) (rlts_nr _ hnr)
  have e : encs l = (l.map enc).flatten := encs_flat l
  rw [e]
  refine join_all hx ?_ (by rw [← e]; omega)
  rw [itemsOf_f, List.map_map]
  rfl
theorem e_form : ∀ (m : Nat) (x : D) (n : Nat) (st : Sto), dd x ≤ m → m ≤ 4 → gD x → (enc x).length ≤ 100000 → FF (n + m + 1) I__law_form [pd x] st = some (strP (enc x), st)
  | m, .non, n, st, _, _, _, _ => by
    rw [e__law_form]
    refine def_pure0 rfl ?_ rfl
    show b__law_form _ _ [some .non, none, none] st = _
    rw [b_form_e, if_rt (s := st) (v := .str S_z) (s2 := st) rfl rfl, c_z]
    rfl
  | m, .bl b, n, st, _, _, _, _ => by
    rw [e__law_form]
    refine def_pure0 rfl ?_ rfl
    show b__law_form _ _ [some (.bl b), none, none] st = _
    have t1 : S_True = "True" := by decide +kernel
    have t2 : S_False = "False" := by decide +kernel
    have o1 : PyData.strOk S_True = true := by simp
    have o2 : PyData.strOk S_False = true := by simp
    have n1 : (S_False == S_True) = false := by simp
    have hr : ∀ b, fReprA (.bl b) st = some (.str (if b then S_True else S_False), st) := fun b => by cases b <;> (simp only [t1, t2]; rfl)
    have c1 : fC1 [some (.bl b), none, none] st = some (false, st) := rfl
    rw [b_form_e, if_no c1]
    cases b with
    | true =>
      have c2 : fC2 [some (.bl true), none, none] st = some (true, st) := by
        unfold fC2
        simp only [iTestB_e, iBin_e, iCall_e, iCons_e, iNil_e, iVar_e, iC_e, ob_s, List.getElem?_cons_zero, a1_e, hr, if_true, fEqB_e, eqB_str, eqP_s, o1, Bool.and_self, beq_self_eq_true, isBl_e, Option.map_some]
      rw [if_rt (v := .str S_y) (s2 := st) c2 rfl, c_y]
      rfl
    | false =>
      have c2 : fC2 [some (.bl false), none, none] st = some (false, st) := by
        unfold fC2
        simp only [iTestB_e, iBin_e, iCall_e, iCons_e, iNil_e, iVar_e, iC_e, ob_s, List.getElem?_cons_zero, a1_e, hr, Bool.false_eq_true, if_false, if_true, fEqB_e, eqB_str, eqP_s, o1, o2, n1, Bool.and_self, isBl_e, Option.map_some]
      have c3 : fC3 [some (.bl false), none, none] st = some (true, st) := by
        unfold fC3
        simp only [iTestB_e, iBin_e, iCall_e, iCons_e, iNil_e, iVar_e, iC_e, ob_s, List.getElem?_cons_zero, a1_e, hr, Bool.false_eq_true, if_false, if_true, fEqB_e, eqB_str, eqP_s, o2, Bool.and_self, beq_self_eq_true, isBl_e, Option.map_some]
      rw [if_no c2, if_rt (v := .str S_n) (s2 := st) c3 rfl, c_n]
      rfl
  | m, .int i, n, st, hd, hm, hg, hl => by
    rw [e__law_form]
    refine def_pure0 rfl ?_ rfl
    show b__law_form _ _ [some (pd (.int i)), none, none] st = _
    rw [form_rest hg (by omega) (by simp) (by simp)]
    have h1 : i.natAbs < 2 ^ 1000 := Nat.lt_trans hg (by decide)
    have h2 := shI_len (Nat.lt_trans hg (by decide) : i.natAbs < 10 ^ 30)
    have e1 : fStr (.int i) st = some (strP (shI i), st) := by rw [fStr_i, if_pos h1, text_int]
    have a1' : fAdd (strP [105]) (strP (shI i)) st = some (strP (105 :: shI i), st) := add_S (by simp; omega)
    have a2' : fAdd (strP (105 :: shI i)) (strP [59]) st = some (strP (enc (.int i)), st) := by
      rw [add_S (by simp; omega)]
      rfl
    unfold fR
    rw [c_i, c_3b]
    simp only [pd] at *
    have q1 : iTest (iCall (a2 fIsi) (iCons (iVar 0) (iCons (iC (.ty "int")) iNil))) [some (.int i), none, none] st = some (true, st) := by simp
    refine if_rt q1 ?_
    simp only [iRet_e, iBin_e, iCall_e, iCons_e, iNil_e, iVar_e, iC_e, ob_s, List.getElem?_cons_zero, a1_e, e1, a1', a2']
  | m, .text t, n, st, hd, hm, hg, hl => by
    rw [e__law_form]
    refine def_pure0 rfl ?_ rfl
    show b__law_form _ _ [some (pd (.text t)), none, none] st = _
    rw [form_rest hg (by omega) (by simp) (by simp)]
    have ht : t.length ≤ 10 := hg.1
    have h1 : ((t.length : Nat) : Int).natAbs < 2 ^ 1000 := by
      rw [Int.natAbs_natCast]
      exact Nat.lt_of_le_of_lt ht (by decide)
    have h2 := shI_len (i := ((t.length : Nat) : Int)) (by rw [Int.natAbs_natCast]; exact Nat.lt_of_le_of_lt ht (by decide))
    rw [shI_nat] at h2
    have h9 : t.length ≤ 9000000 := by omega
    have e0 : fLenB (strP t) st = some (.int ((t.length : Nat) : Int), st) := by rw [fLenB_s, S_len, if_pos h9]
    have e1 : fStr (.int ((t.length : Nat) : Int)) st = some (strP (TL.numL t.length), st) := by rw [fStr_i, if_pos h1, text_int, shI_nat]
    have a1' : fAdd (strP [116]) (strP (TL.numL t.length)) st = some (strP (116 :: TL.numL t.length), st) := add_S (by simp; omega)
    have a2' : fAdd (strP (116 :: TL.numL t.length)) (strP [58]) st = some (strP (116 :: (TL.numL t.length ++ [58])), st) := by
      rw [add_S (by simp; omega)]
      rfl
    have a3' : fAdd (strP (116 :: (TL.numL t.length ++ [58]))) (strP t) st = some (strP (enc (.text t)), st) := by
      rw [add_S (by simp; omega)]
      simp [enc]
    unfold fR
    rw [c_t, c_3a]
    simp only [pd] at *
    have q1 : iTest (iCall (a2 fIsi) (iCons (iVar 0) (iCons (iC (.ty "int")) iNil))) [some (strP t), none, none] st = some (false, st) := by simp
    have q2 : iTest (iCall (a2 fIsi) (iCons (iVar 0) (iCons (iC (.ty "str")) iNil))) [some (strP t), none, none] st = some (true, st) := by simp
    rw [if_no q1]
    refine if_rt q2 ?_
    simp only [iRet_e, iBin_e, iCall_e, iCons_e, iNil_e, iVar_e, iC_e, ob_s, List.getElem?_cons_zero, a1_e, e0, e1, a1', a2', a3', Option.map_some]
  | 0, .tup l, n, st, hd, _, _, _ => by simp [dd] at hd
  | 0, .lst l, n, st, hd, _, _, _ => by simp [dd] at hd
  | m + 1, .tup l, n, st, hd, hm, hg, hl => by
    rw [show n + (m + 1) + 1 = (n + m + 1) + 1 by omega, e__law_form]
    refine def_pure0 rfl ?_ rfl
    show b__law_form _ _ [some (pd (.tup l)), none, none] st = _
    rw [form_rest hg (by omega) (by simp) (by simp)]
    have hel : (enc (.tup l)).length = (encs l).length + 2 := by simp [enc]
    have hj := inner_e (st := st) (k := n + m + 1) (x := pd (.tup l)) (l := l) (.inl rfl) (fun d hdm st => e_form m d n st (by have := dds_mem hdm; simp only [dd] at hd; omega) (by omega) (gDs_mem hg.2 hdm) (by
      have h1 := encs_flat l
      have h2 : (enc d).length ≤ ((l.map enc).flatten).length := by
        rw [← sum_flat]
        exact len_mem (List.mem_map.mpr ⟨d, hdm, rfl⟩)
      rw [← h1] at h2
      omega)) (by have := hg.1; omega) (by omega)
    have a1' : fAdd (strP [40]) (strP (encs l)) st = some (strP (40 :: encs l), st) := add_S (by simp; omega)
    have a2' : fAdd (strP (40 :: encs l)) (strP [41]) st = some (strP (enc (.tup l)), st) := by
      rw [add_S (by simp; omega)]
      rfl
    have q1 : iTest (iCall (a2 fIsi) (iCons (iVar 0) (iCons (iC (.ty "int")) iNil))) [some (pd (.tup l)), none, none] st = some (false, st) := by simp [pd]
    have q2 : iTest (iCall (a2 fIsi) (iCons (iVar 0) (iCons (iC (.ty "str")) iNil))) [some (pd (.tup l)), none, none] st = some (false, st) := by simp [pd]
    have q3 : iTest (iCall (a2 fIsi) (iCons (iVar 0) (iCons (iC (.ty "tuple")) iNil))) [some (pd (.tup l)), some (strP (encs l)), none] st = some (true, st) := by simp [pd]
    unfold fR
    rw [if_no q1, if_no q2]
    unfold fL
    rw [asg_seq hj]
    show iSeq _ _ [some (pd (.tup l)), some (strP (encs l)), none] st = _
    refine if_rt q3 ?_
    rw [c_28, c_29]
    simp only [iRet_e, iBin_e, iVar_e, iC_e, ob_s, List.getElem?_cons_zero, List.getElem?_cons_succ, a1', a2']
  | m + 1, .lst l, n, st, hd, hm, hg, hl => by
    rw [show n + (m + 1) + 1 = (n + m + 1) + 1 by omega, e__law_form]
    refine def_pure0 rfl ?_ rfl
    show b__law_form _ _ [some (pd (.lst l)), none, none] st = _
    rw [form_rest hg (by omega) (by simp) (by simp)]
    have hel : (enc (.lst l)).length = (encs l).length + 2 := by simp [enc]
    have hj := inner_e (st := st) (k := n + m + 1) (x := pd (.lst l)) (l := l) (.inr rfl) (fun d hdm st => e_form m d n st (by have := dds_mem hdm; simp only [dd] at hd; omega) (by omega) (gDs_mem hg.2 hdm) (by
      have h1 := encs_flat l
      have h2 : (enc d).length ≤ ((l.map enc).flatten).length := by
        rw [← sum_flat]
        exact len_mem (List.mem_map.mpr ⟨d, hdm, rfl⟩)
      rw [← h1] at h2
      omega)) (by have := hg.1; omega) (by omega)
    have a1' : fAdd (strP [91]) (strP (encs l)) st = some (strP (91 :: encs l), st) := add_S (by simp; omega)
    have a2' : fAdd (strP (91 :: encs l)) (strP [93]) st = some (strP (enc (.lst l)), st) := by
      rw [add_S (by simp; omega)]
      rfl
    have q1 : iTest (iCall (a2 fIsi) (iCons (iVar 0) (iCons (iC (.ty "int")) iNil))) [some (pd (.lst l)), none, none] st = some (false, st) := by simp [pd]
    have q2 : iTest (iCall (a2 fIsi) (iCons (iVar 0) (iCons (iC (.ty "str")) iNil))) [some (pd (.lst l)), none, none] st = some (false, st) := by simp [pd]
    have q3 : iTest (iCall (a2 fIsi) (iCons (iVar 0) (iCons (iC (.ty "tuple")) iNil))) [some (pd (.lst l)), some (strP (encs l)), none] st = some (false, st) := by simp [pd]
    unfold fR
    rw [if_no q1, if_no q2]
    unfold fL
    rw [asg_seq hj]
    show iSeq _ _ [some (pd (.lst l)), some (strP (encs l)), none] st = _
    rw [if_no q3, c_5b, c_5d]
    simp only [iRet_e, iBin_e, iVar_e, iC_e, ob_s, List.getElem?_cons_zero, List.getElem?_cons_succ, a1', a2']
end
end J51

/-! encode: a stack of what is still to be written -/
namespace J51
open PySem PySem.Spec PyProof.Rows L2 IL SX
section
variable {st S S2 : Sto} {env : PEnv} {io ie : IE} {xs ys xs0 : List PV} {y : PV} {n m w : Nat}
theorem pop_e (h : io env S = some (.ref w, S)) (hw : S[w]? = some (.lst (xs ++ [y]))) : iPop io env S = some (y, S.set w (.lst xs)) := by
  have h1 : (xs ++ [y])[(xs ++ [y]).length - 1]? = some y := by simp
  have h2 : (xs ++ [y]).dropLast = xs := by simp
  simp only [iPop, h, ob_s, hw, h1, h2]
theorem ext_e (h : io env S = some (.ref n, S)) (hn : S[n]? = some (.lst xs0)) (h2 : ie env S = some (.ref m, S2)) (hn2 : S2[n]? = some (.lst xs)) (hm : S2[m]? = some (.lst ys)) (hl : xs.length + ys.length ≤ 9000000) :
    iExtend io ie env S = some (.non, S2.set n (.lst (xs ++ ys))) := by
  simp only [iExtend, h, ob_s, hn, h2, hn2, hm, if_pos hl]
end
inductive It where | d (x : D) | s (c : Nat)
def pit : It → PV
  | .d x => .tup [pd x, .bl true]
  | .s c => .tup [strP [c], .bl false]
def ou : It → List Nat
  | .d x => enc x
  | .s c => [c]
def outW (W : List It) : List Nat := (W.reverse.map ou).flatten
def gIt : It → Prop
  | .d x => gD x
  | .s _ => True
theorem outW_snoc (W : List It) (i : It) : outW (W ++ [i]) = ou i ++ outW W := by simp [outW]
theorem enc_pos (d : D) : 1 ≤ (enc d).length := by
  cases d with
  | bl b => cases b <;> simp [enc]
  | _ => simp [enc]
theorem wlen (W : List It) : W.length ≤ (outW W).length := by
  unfold outW
  rw [← sum_flat, ← List.length_reverse]
  induction W.reverse with
  | nil => exact Nat.zero_le _
  | cons i r ih =>
    have : 1 ≤ (ou i).length := by
      cases i with
      | d x => exact enc_pos x
      | s c => exact Nat.le_refl _
    simp only [List.map_cons, List.sum_cons, List.length_cons]
    omega
theorem outW_items (W : List It) (c : Nat) (l : List D) : outW (W ++ [.s c] ++ l.reverse.map It.d) = encs l ++ c :: outW W := by
  rw [encs_flat]
  simp [outW, List.map_reverse, Function.comp_def, ou]
noncomputable def eT : IT := (iTest (iVar 2))
noncomputable def eP : IS := (iAsg (gT 2 (gCs (gN 3) (gCs (gN 4) gNs))) (iPop (iVar 2)))
noncomputable def eN : IS := (iSeq (iAsg (gT 2 (gCs (gN 5) (gCs (gN 6) gNs))) (iIf (iTest (iCall (a2 fIsi) (iCons (iVar 3) (iCons (iC (.ty "list")) iNil)))) (iTup (iCons (iC (.str S_x5b)) (iCons (iC (.str S_x5d)) iNil))) (iTup (iCons (iC (.str S_x28)) (iCons (iC (.str S_x29)) iNil))))) (iSeq (iDrop (iAppend (iVar 1) (iVar 5))) (iSeq (iDrop (iAppend (iVar 2) (iTup (iCons (iVar 6) (iCons (iC (.bl false)) iNil))))) (iDrop (iExtend (iVar 2) (iLc (iRevW (iVar 3)) (gN 7) iYes (iTup (iCons (iVar 7) (iCons (iC (.bl true)) iNil))) [7]))))))
noncomputable def eB (F : Nat → FA) : IS := iSeq eP (iIfS (iNot (iTest (iVar 4))) (iDrop (iAppend (iVar 1) (iVar 3))) (iIfS (iTest (iIs2 (iVar 3) "list" "tuple")) eN (iDrop (iAppend (iVar 1) (iCall (F I__plain_form) (iCons (iVar 3) iNil))))))
theorem b_enc_e (F : Nat → FA) (G : Nat → FX) : b_encode F G = iSeq (iAsg (gN 1) (iLst iNil)) (iSeq (iAsg (gN 2) (iLst (iCons (iTup (iCons (iVar 0) (iCons (iC (.bl true)) iNil))) iNil))) (iSeq (iWhile eT (eB F)) (iRet (iJoin (iC (.str S_)) (iVar 1))))) := rfl
/-- between turns -/
structure EI (st : Sto) (p w : Nat) (W : List It) (L : List (List Nat)) (S : Sto) : Prop where
  pw : p ≠ w
  hp : st.length ≤ p
  hw : st.length ≤ w
  sp : S[p]? = some (.lst (L.map strP))
  sw : S[w]? = some (.lst (W.map pit))
  old : ∃ g, S = st ++ g
  ll : L.length ≤ 200000
  wl : W.length ≤ 200000
theorem app_set {st g : Sto} {i : Nat} {o : SO} (h : st.length ≤ i) : (st ++ g).set i o = st ++ g.set (i - st.length) o := List.set_append_right i o h
section
variable {st S : Sto} {p w : Nat} {W : List It} {L : List (List Nat)} {n : Nat} {x0 x3 x4 x5 x6 x7 : Option PV} {i : It}
theorem EI.set_p (h : EI st p w W L S) {L' : List (List Nat)} (hl : L'.length ≤ 200000) : EI st p w W L' (S.set p (.lst (L'.map strP))) := by
  obtain ⟨g, hg⟩ := h.old
  exact ⟨h.pw, h.hp, h.hw, set_at h.sp, by rw [List.getElem?_set_ne h.pw]; exact h.sw, ⟨_, by rw [hg, app_set h.hp]⟩, hl, h.wl⟩
theorem EI.set_w (h : EI st p w W L S) {W' : List It} (hl : W'.length ≤ 200000) : EI st p w W' L (S.set w (.lst (W'.map pit))) := by
  obtain ⟨g, hg⟩ := h.old
  exact ⟨h.pw, h.hp, h.hw, by rw [List.getElem?_set_ne (Ne.symm h.pw)]; exact h.sp, set_at h.sw, ⟨_, by rw [hg, app_set h.hw]⟩, h.ll, hl⟩
theorem EI.app (h : EI st p w W L S) (g : Sto) : EI st p w W L (S ++ g) := by
  obtain ⟨g0, hg⟩ := h.old
  exact ⟨h.pw, h.hp, h.hw, by rw [List.getElem?_append_left (lt_of_at h.sp)]; exact h.sp, by rw [List.getElem?_append_left (lt_of_at h.sw)]; exact h.sw, ⟨g0 ++ g, by rw [hg, List.append_assoc]⟩, h.ll, h.wl⟩
abbrev eE (x0 : Option PV) (p w : Nat) (x3 x4 x5 x6 x7 : Option PV) : PEnv := [x0, some (.ref p), some (.ref w), x3, x4, x5, x6, x7]
theorem parts_app {ie : IE} {t : List Nat} (h : EI st p w W L S) (h2 : ie (eE x0 p w x3 x4 x5 x6 x7) S = some (strP t, S)) (hl : L.length + 1 ≤ 200000) :
    ∃ S', iDrop (iAppend (iVar 1) ie) (eE x0 p w x3 x4 x5 x6 x7) S = some (.nx (eE x0 p w x3 x4 x5 x6 x7) S') ∧ EI st p w W (L ++ [t]) S' := by
  have h3 := append_e (io := iVar 1) (env := eE x0 p w x3 x4 x5 x6 x7) (st := S) (s1 := S) (n := p) rfl h.sp h2 h.sp (by rw [List.length_map]; have := h.ll; omega)
  have e : (L.map strP ++ [strP t]) = (L ++ [t]).map strP := by rw [List.map_append]; rfl
  rw [e] at h3
  refine ⟨_, ?_, h.set_p (L' := L ++ [t]) (by simpa using hl)⟩
  rw [iDrop_e, h3]
  rfl
theorem pop_step (h : EI st p w (W ++ [i]) L S) {a b : PV} (hi : pit i = .tup [a, b]) : eP (eE x0 p w x3 x4 x5 x6 x7) S = some (.nx (eE x0 p w (some a) (some b) x5 x6 x7) (S.set w (.lst (W.map pit)))) := by
  have hw := h.sw
  rw [List.map_append] at hw
  have h1 := pop_e (io := iVar 2) (env := eE x0 p w x3 x4 x5 x6 x7) (S := S) (w := w) (xs := W.map pit) (y := pit i) rfl hw
  unfold eP
  rw [iAsg_e, h1, ob_s, hi]
  rfl
theorem nest_step {x : PV} {l : List D} {c1 c2 : Nat} (h : EI st p w W L S) (hx : (x = .tup (pds l) ∧ c1 = 40 ∧ c2 = 41) ∨ (x = .frz (pds l) ∧ c1 = 91 ∧ c2 = 93)) (hl : L.length + 1 ≤ 200000) (hw : W.length + 1 + l.length ≤ 200000) :
    ∃ y5 y6 S', eN (eE x0 p w (some x) x4 x5 x6 x7) S = some (.nx (eE x0 p w (some x) x4 y5 y6 x7) S') ∧ EI st p w (W ++ [.s c2] ++ l.reverse.map It.d) (L ++ [[c1]]) S' := by
  have e1 : iAsg (gT 2 (gCs (gN 5) (gCs (gN 6) gNs))) (iIf (iTest (iCall (a2 fIsi) (iCons (iVar 3) (iCons (iC (.ty "list")) iNil)))) (iTup (iCons (iC (.str S_x5b)) (iCons (iC (.str S_x5d)) iNil))) (iTup (iCons (iC (.str S_x28)) (iCons (iC (.str S_x29)) iNil)))) (eE x0 p w (some x) x4 x5 x6 x7) S = some (.nx (eE x0 p w (some x) x4 (some (strP [c1])) (some (strP [c2])) x7) S) := by
    rcases hx with ⟨rfl, rfl, rfl⟩ | ⟨rfl, rfl, rfl⟩
    · simp [c_28, c_29]
    · simp [c_5b, c_5d]
  obtain ⟨S1, e2, h1⟩ := parts_app (x0 := x0) (x3 := some x) (x4 := x4) (x5 := some (strP [c1])) (x6 := some (strP [c2])) (x7 := x7) (ie := iVar 5) (t := [c1]) h rfl hl
  have e3 := append_e (io := iVar 2) (ie := iTup (iCons (iVar 6) (iCons (iC (.bl false)) iNil))) (env := eE x0 p w (some x) x4 (some (strP [c1])) (some (strP [c2])) x7) (st := S1) (s1 := S1) (s2 := S1) (n := w) (x := pit (.s c2)) rfl h1.sw (by simp [pit]) h1.sw (by rw [List.length_map]; have := h.wl; omega)
  have em : W.map pit ++ [pit (.s c2)] = (W ++ [It.s c2]).map pit := by rw [List.map_append]; rfl
  rw [em] at e3
  have h2 := h1.set_w (W' := W ++ [It.s c2]) (by simp; omega)
  obtain ⟨S2, hS2⟩ : ∃ S2, S2 = S1.set w (.lst ((W ++ [It.s c2]).map pit)) := ⟨_, rfl⟩
  rw [← hS2] at e3 h2
  have hrv : iRevW (iVar 3) (eE x0 p w (some x) x4 (some (strP [c1])) (some (strP [c2])) x7) S2 = some (srcT (pds l).reverse, S2) := by
    rcases hx with ⟨rfl, _, _⟩ | ⟨rfl, _, _⟩ <;> rfl
  obtain ⟨g, hlc⟩ := iLc_srcm (xs := l.reverse) (f := pd) (g := fun d => pit (.d d)) (p := fun _ => true) (ii := iRevW (iVar 3)) (ig := gN 7) (t := iYes) (e := iTup (iCons (iVar 7) (iCons (iC (.bl true)) iNil))) (vs := [7]) (env := eE x0 p w (some x) x4 (some (strP [c1])) (some (strP [c2])) x7) (st := S2) (s1 := S2) hrv
    (by simp [srcT, pds_len]) (fun g i => by rw [pds_map, ← List.map_reverse]; rfl) (by simp; omega)
    (fun d hd s' => ⟨eE x0 p w (some x) x4 (some (strP [c1])) (some (strP [c2])) (some (pd d)), rfl, rfl, fun _ => ⟨[], by simp [pit]⟩⟩)
  rw [filter_yes] at hlc
  have h3 := h2.app ([SO.lst (l.reverse.map fun d => pit (.d d))] ++ g)
  rw [← List.append_assoc] at h3
  obtain ⟨S3, hS3⟩ : ∃ S3, S3 = S2 ++ [SO.lst (l.reverse.map fun d => pit (.d d))] ++ g := ⟨_, rfl⟩
  have hm3 : S3[S2.length]? = some (.lst (l.reverse.map fun d => pit (.d d))) := by rw [hS3]; exact at_mid
  rw [← hS3] at hlc h3
  have e4 := ext_e (io := iVar 2) (env := eE x0 p w (some x) x4 (some (strP [c1])) (some (strP [c2])) x7) (S := S2) (n := w) rfl h2.sw hlc h3.sw hm3 (by simp; omega)
  have em2 : (W ++ [It.s c2]).map pit ++ (l.reverse.map fun d => pit (.d d)) = (W ++ [It.s c2] ++ l.reverse.map It.d).map pit := by
    rw [List.map_append (l₁ := W ++ [It.s c2]), List.map_map]
    rfl
  rw [em2] at e4
  refine ⟨some (strP [c1]), some (strP [c2]), _, ?_, h3.set_w (W' := W ++ [It.s c2] ++ l.reverse.map It.d) (by simp; omega)⟩
  unfold eN
  rw [nx_seq e1, nx_seq e2]
  have e3' : iDrop (iAppend (iVar 2) (iTup (iCons (iVar 6) (iCons (iC (.bl false)) iNil)))) (eE x0 p w (some x) x4 (some (strP [c1])) (some (strP [c2])) x7) S1 = some (.nx (eE x0 p w (some x) x4 (some (strP [c1])) (some (strP [c2])) x7) S2) := by
    rw [iDrop_e, e3]
    rfl
  rw [nx_seq e3', iDrop_e, e4]
  rfl
theorem turn_e (h : EI st p w (W ++ [i]) L S) (hg : gIt i) (ho : L.length + (outW (W ++ [i])).length ≤ 100000) :
    ∃ y3 y4 y5 y6 y7 S' W' L', eB (FF (n + 1)) (eE x0 p w x3 x4 x5 x6 x7) S = some (.nx (eE x0 p w y3 y4 y5 y6 y7) S') ∧ EI st p w W' L' S' ∧ L'.flatten ++ outW W' = L.flatten ++ outW (W ++ [i]) ∧ (outW W').length < (outW (W ++ [i])).length ∧ L'.length ≤ L.length + 1 ∧ (∀ j ∈ W', j ∈ W ∨ (∃ c, j = .s c) ∨ ∃ x, j = .d x ∧ gD x) := by
  have hW : W.length ≤ 200000 := by have := h.wl; simp at this; omega
  have hwl := wlen W
  rw [outW_snoc] at ho ⊢
  rw [List.length_append] at ho
  have keep : ∀ j ∈ W, j ∈ W ∨ (∃ c, j = It.s c) ∨ ∃ x, j = It.d x ∧ gD x := fun j hj => .inl hj
  have leaf : ∀ (x : D) (t : List Nat), i = .d x → enc x = t → 1 ≤ t.length → isP2 (S.set w (.lst (W.map pit))) (pd x) "list" "tuple" = some false → (∀ S0 : Sto, FF (n + 1) I__plain_form [pd x] S0 = some (strP t, S0)) →
      ∃ y3 y4 y5 y6 y7 S' W' L', eB (FF (n + 1)) (eE x0 p w x3 x4 x5 x6 x7) S = some (.nx (eE x0 p w y3 y4 y5 y6 y7) S') ∧ EI st p w W' L' S' ∧ L'.flatten ++ outW W' = L.flatten ++ (ou i ++ outW W) ∧ (outW W').length < (ou i ++ outW W).length ∧ L'.length ≤ L.length + 1 ∧ (∀ j ∈ W', j ∈ W ∨ (∃ c, j = .s c) ∨ ∃ x, j = .d x ∧ gD x) := by
    intro x t hi he hpos h2 hpl
    subst hi
    have h1 := h.set_w (W' := W) hW
    obtain ⟨S1, e2, h3⟩ := parts_app (x0 := x0) (x3 := some (pd x)) (x4 := some (.bl true)) (x5 := x5) (x6 := x6) (x7 := x7) (ie := iCall (FF (n + 1) I__plain_form) (iCons (iVar 3) iNil)) (t := t) h1 (by simp [hpl]) (by omega)
    refine ⟨some (pd x), some (.bl true), x5, x6, x7, S1, W, L ++ [t], ?_, h3, by simp [ou, he], by simp [ou, he]; omega, by simp, keep⟩
    unfold eB
    rw [nx_seq (pop_step h (a := pd x) (b := .bl true) rfl), iIfS_e]
    have t1 : iNot (iTest (iVar 4)) (eE x0 p w (some (pd x)) (some (.bl true)) x5 x6 x7) (S.set w (.lst (W.map pit))) = some (false, S.set w (.lst (W.map pit))) := by simp
    have t2 : iTest (iIs2 (iVar 3) "list" "tuple") (eE x0 p w (some (pd x)) (some (.bl true)) x5 x6 x7) (S.set w (.lst (W.map pit))) = some (false, S.set w (.lst (W.map pit))) := by simp [iIs2, h2]
    rw [t1, ob_s]
    simp only
    rw [iIfS_e, t2, ob_s]
    exact e2
  have nest : ∀ (x : D) (l : List D) (c1 c2 : Nat), i = .d x → ((pd x = .tup (pds l) ∧ c1 = 40 ∧ c2 = 41) ∨ (pd x = .frz (pds l) ∧ c1 = 91 ∧ c2 = 93)) → enc x = c1 :: (encs l ++ [c2]) → gDs l → l.length ≤ 3 →
      ∃ y3 y4 y5 y6 y7 S' W' L', eB (FF (n + 1)) (eE x0 p w x3 x4 x5 x6 x7) S = some (.nx (eE x0 p w y3 y4 y5 y6 y7) S') ∧ EI st p w W' L' S' ∧ L'.flatten ++ outW W' = L.flatten ++ (ou i ++ outW W) ∧ (outW W').length < (ou i ++ outW W).length ∧ L'.length ≤ L.length + 1 ∧ (∀ j ∈ W', j ∈ W ∨ (∃ c, j = .s c) ∨ ∃ x, j = .d x ∧ gD x) := by
    intro x l c1 c2 hi hx he hgl hl3
    subst hi
    have ho2 : (ou (.d x)).length = (encs l).length + 2 := by simp [ou, he]
    have h1 := h.set_w (W' := W) hW
    obtain ⟨y5, y6, S1, e2, h3⟩ := nest_step (x0 := x0) (x4 := some (.bl true)) (x5 := x5) (x6 := x6) (x7 := x7) h1 hx (by omega) (by
      omega)
    refine ⟨some (pd x), some (.bl true), y5, y6, x7, S1, _, _, ?_, h3, ?_, ?_, by simp, ?_⟩
    · unfold eB
      rw [nx_seq (pop_step h (a := pd x) (b := .bl true) rfl), iIfS_e]
      have t1 : iNot (iTest (iVar 4)) (eE x0 p w (some (pd x)) (some (.bl true)) x5 x6 x7) (S.set w (.lst (W.map pit))) = some (false, S.set w (.lst (W.map pit))) := by simp
      have h2 : isP2 (S.set w (.lst (W.map pit))) (pd x) "list" "tuple" = some true := by rcases hx with ⟨hx, _⟩ | ⟨hx, _⟩ <;> rw [hx] <;> simp
      have t2 : iTest (iIs2 (iVar 3) "list" "tuple") (eE x0 p w (some (pd x)) (some (.bl true)) x5 x6 x7) (S.set w (.lst (W.map pit))) = some (true, S.set w (.lst (W.map pit))) := by simp [iIs2, h2]
      rw [t1, ob_s]
      simp only
      rw [iIfS_e, t2, ob_s]
      exact e2
    · rw [outW_items]
      simp [ou, he]
    · rw [outW_items]
      simp [ou, he]
    · intro j hj
      simp only [List.mem_append, List.mem_cons, List.not_mem_nil, or_false, List.mem_map, List.mem_reverse] at hj
      rcases hj with (hj | hj) | ⟨d, hd, rfl⟩
      · exact .inl hj
      · exact .inr (.inl ⟨_, hj⟩)
      · exact .inr (.inr ⟨d, rfl, gDs_mem hgl hd⟩)
  cases i with
  | s c =>
    have h1 := h.set_w (W' := W) hW
    obtain ⟨S1, e2, h3⟩ := parts_app (x0 := x0) (x3 := some (strP [c])) (x4 := some (.bl false)) (x5 := x5) (x6 := x6) (x7 := x7) (ie := iVar 3) (t := [c]) h1 rfl (by omega)
    refine ⟨some (strP [c]), some (.bl false), x5, x6, x7, S1, W, L ++ [[c]], ?_, h3, by simp [ou], by simp [ou], by simp, keep⟩
    unfold eB
    rw [nx_seq (pop_step h (a := strP [c]) (b := .bl false) rfl), iIfS_e]
    have t1 : iNot (iTest (iVar 4)) (eE x0 p w (some (strP [c])) (some (.bl false)) x5 x6 x7) (S.set w (.lst (W.map pit))) = some (true, S.set w (.lst (W.map pit))) := by simp
    rw [t1, ob_s]
    exact e2
  | d x =>
    have hg : gD x := hg
    cases x with
    | non => exact leaf .non [122] rfl rfl (by simp) rfl fun S0 => e_plain_non
    | bl b => exact leaf (.bl b) _ rfl rfl (by cases b <;> simp [enc]) (by simp [pd]) fun S0 => e_plain_bl b
    | int k => exact leaf (.int k) _ rfl rfl (by simp [enc]) (by simp [pd]) fun S0 => e_plain_int (Nat.lt_trans hg (by decide))
    | text t => exact leaf (.text t) _ rfl rfl (by simp [enc]) (by simp [pd]) fun S0 => e_plain_text (by have := hg.1; omega)
    | tup l => exact nest (.tup l) l 40 41 rfl (.inl ⟨rfl, rfl, rfl⟩) rfl hg.2 hg.1
    | lst l => exact nest (.lst l) l 91 93 rfl (.inr ⟨rfl, rfl, rfl⟩) rfl hg.2 hg.1
theorem enc_loop : ∀ (m : Nat) (W : List It) (L : List (List Nat)) (S : Sto) (x3 x4 x5 x6 x7 : Option PV), EI st p w W L S → (∀ i ∈ W, gIt i) → (outW W).length < m → L.length + (outW W).length ≤ 100000 →
    ∃ y3 y4 y5 y6 y7 S' L', wloop eT (eB (FF (n + 1))) m (eE x0 p w x3 x4 x5 x6 x7) S = some (.nx (eE x0 p w y3 y4 y5 y6 y7) S') ∧ EI st p w [] L' S' ∧ L'.flatten = L.flatten ++ outW W
  | 0, _, _, _, _, _, _, _, _, _, _, hm, _ => by omega
  | m + 1, W, L, S, x3, x4, x5, x6, x7, h, hg, hm, ho => by
    have htr : ∀ b, W.isEmpty = b → eT (eE x0 p w x3 x4 x5 x6 x7) S = some (!b, S) := fun b hb => by
      have hs := h.sw
      unfold eT
      have e : tru S (.ref w) = some (!b) := by
        simp only [tru, hs, List.length_map]
        cases W with
        | nil => cases hb; rfl
        | cons i r => cases hb; simp
      simp [e]
    have hcase : W = [] ∨ ∃ W0 i, W = W0 ++ [i] := by
      rcases List.eq_nil_or_concat W with h0 | ⟨W0, i, h0⟩
      · exact .inl h0
      · exact .inr ⟨W0, i, by rw [h0, List.concat_eq_append]⟩
    rcases hcase with rfl | ⟨W0, i, rfl⟩
    · refine ⟨x3, x4, x5, x6, x7, S, L, ?_, h, by simp [outW]⟩
      rw [wloop, htr true rfl]
      rfl
    · obtain ⟨y3, y4, y5, y6, y7, S', W', L', h1, h2, h3, h4, h5, h6⟩ := turn_e (n := n) (x0 := x0) (x3 := x3) (x4 := x4) (x5 := x5) (x6 := x6) (x7 := x7) h (hg i (by simp)) ho
      have h7 : L'.length + (outW W').length ≤ 100000 := by omega
      obtain ⟨z3, z4, z5, z6, z7, S2, L2, g1, g2, g3⟩ := enc_loop m W' L' S' y3 y4 y5 y6 y7 h2 (fun j hj => by
        rcases h6 j hj with hj | ⟨c, rfl⟩ | ⟨x, rfl, hx⟩
        · exact hg j (by simp [hj])
        · trivial
        · exact hx) (by omega) h7
      refine ⟨z3, z4, z5, z6, z7, S2, L2, ?_, g2, by rw [g3, h3]⟩
      rw [wloop, htr false (by simp)]
      simp only [Bool.not_false, h1]
      exact g1
theorem enc_e {d : D} (hg : gD d) (hl : (enc d).length ≤ 90000) : FF (n + 2) I_encode [pd d] st = some (strP (enc d), st) := by
  rw [e_encode]
  obtain ⟨k, hk⟩ := iWhile_at 900000 (by omega)
  have h0 : EI st st.length (st.length + 1) [.d d] [] (st ++ [.lst [], .lst [pit (.d d)]]) := ⟨by omega, Nat.le_refl _, by omega, by simp, by simp, ⟨_, rfl⟩, by simp, by simp⟩
  obtain ⟨y3, y4, y5, y6, y7, S', L', g1, g2, g3⟩ := enc_loop (n := n) (x0 := some (pd d)) (k + 900000) [.d d] [] _ none none none none none h0 (fun i hi => by
    rw [List.mem_singleton] at hi
    rw [hi]
    exact hg) (by simp [outW, ou]; omega) (by simp [outW, ou]; omega)
  rw [← hk] at g1
  obtain ⟨g, hg2⟩ := g2.old
  refine def_pure (l := g) rfl ?_ rfl
  show b_encode _ _ [some (pd d), none, none, none, none, none, none, none] st = _
  rw [b_enc_e, asg_seq (x := .ref st.length) (s2 := st ++ [.lst []]) (by simp)]
  show iSeq _ _ [some (pd d), some (.ref st.length), none, none, none, none, none, none] _ = _
  rw [asg_seq (x := .ref (st.length + 1)) (s2 := st ++ [.lst [], .lst [pit (.d d)]]) (by simp [pit])]
  show iSeq _ _ (eE (some (pd d)) st.length (st.length + 1) none none none none none) _ = _
  rw [nx_seq g1]
  have hfl : L'.flatten = enc d := by rw [g3]; simp [outW, ou]
  have hj := join_all (st := S') (env := eE (some (pd d)) st.length (st.length + 1) y3 y4 y5 y6 y7) (ie := iVar 1) (x := .ref st.length) (L := L') rfl (by rw [itemsOf_r, g2.sp]) (by rw [hfl]; omega)
  rw [iRet_e, hj, hfl, hg2]
  rfl
end
end J51

/-! numbers, as the program reads them -/
namespace J51
open PySem PySem.Spec PyProof.Rows L2 IL SX
inductive Ro (α : Type) where | ok (a : α) (r : List Nat) | er (r : List Nat)
def isDig (c : Nat) : Bool := decide (48 ≤ c) && decide (c ≤ 57)
def headP (p : Nat → Bool) (s : List Nat) : Bool := match s.head? with
  | some d => p d
  | none => false
def pos (l r : List Nat) : Int := (l.length : Int) - (r.length : Int)
/-- what a def that reads gives: value and place, or the place of the fault -/
def Rd {α : Type} (l : List Nat) (st : Sto) (f : α → List Nat → PV) (o : Ro α) (x : Option (RX × Sto)) : Prop := match o with
  | .ok a r => x = some (.ok (f a r), st)
  | .er r => ∃ g, x = some (.er S_FormError [(S_at, .int (pos l r))], st ++ g)
def WR {α : Type} (l : List Nat) (st : Sto) (f : α → List Nat → PV) (o : Ro α) (x : Option Fl) : Prop := match o with
  | .ok a r => ∃ g, x = some (.rt (f a r) (st ++ g))
  | .er r => ∃ e g, x = some (.er e S_FormError [(S_at, .int (pos l r))] (st ++ g))
theorem WR.to {α : Type} {l : List Nat} {st : Sto} {f : α → List Nat → PV} {o : Ro α} {nN k : Nat} {b : IS} {xs : List PV} (hl : xs.length = k) (h : WR l st f o (b (xs.map some ++ List.replicate (nN - k) none) st)) (hf : ∀ a r, nr (f a r) = true) : Rd l st f o (iDefX k nN b xs st) := by
  unfold WR at h
  unfold Rd
  cases o with
  | ok a r =>
    obtain ⟨g, h⟩ := h
    exact defX_pure hl h (hf a r)
  | er r =>
    obtain ⟨e, g, h⟩ := h
    exact ⟨g, defX_er hl h⟩
structure Tx (l : List Nat) : Prop where
  len : l.length ≤ 10000
  ok : okL l
theorem pos_drop {l : List Nat} {i : Nat} (hi : i ≤ l.length) : pos l (l.drop i) = (i : Int) := by
  unfold pos
  rw [List.length_drop]
  omega
theorem small_ok {p : Int} {i : Nat} (hp : p = (i : Int)) (h : i ≤ 20000) : decide (p.natAbs < 10 ^ 30) = true := by
  subst hp
  rw [Int.natAbs_natCast, decide_eq_true_eq]
  exact Nat.lt_of_le_of_lt h (by decide)
theorem c_0 : S_0 = S [48] := by decide +kernel
theorem c_9 : S_9 = S [57] := by decide +kernel
theorem c_2d : S_x2d = S [45] := by decide +kernel
def digs : Nat → List Nat → List Nat
  | 0, _ => []
  | _ + 1, [] => []
  | k + 1, c :: r => if isDig c then c :: digs k r else []
theorem digs_take : ∀ (k : Nat) (s : List Nat), s.take (digs k s).length = digs k s
  | 0, s => rfl
  | k + 1, [] => rfl
  | k + 1, c :: r => by
    unfold digs
    split
    · rw [List.length_cons, List.take_succ_cons, digs_take k r]
    · rfl
theorem digs_len : ∀ (k : Nat) (s : List Nat), (digs k s).length ≤ k ∧ (digs k s).length ≤ s.length
  | 0, s => ⟨Nat.le_refl _, Nat.zero_le _⟩
  | k + 1, [] => ⟨Nat.zero_le _, Nat.le_refl _⟩
  | k + 1, c :: r => by
    unfold digs
    have := digs_len k r
    split
    · simp only [List.length_cons]; omega
    · simp
theorem digs_all : ∀ (k : Nat) (s : List Nat), ∀ c ∈ digs k s, 48 ≤ c ∧ c ≤ 57
  | 0, s, c, h => by cases h
  | k + 1, [], c, h => by cases h
  | k + 1, d :: r, c, h => by
    unfold digs at h
    split at h
    · rename_i hd
      rcases List.mem_cons.mp h with rfl | h
      · simpa [isDig] using hd
      · exact digs_all k r c h
    · cases h
def numA (neg : Bool) (e : Nat) (s : List Nat) : Option (Int × List Nat) :=
  if digs 16 s = [] ∨ (s.drop (digs 16 s).length).head? ≠ some e ∨ ((digs 16 s).head? = some 48 ∧ (neg = true ∨ digs 16 s ≠ [48])) then none
  else some (if neg then -((NumText.digitsVal (digs 16 s) : Nat) : Int) else ((NumText.digitsVal (digs 16 s) : Nat) : Int), (s.drop (digs 16 s).length).tail)
def numR (minus : Bool) (e : Nat) (s : List Nat) : Option (Int × List Nat) := if minus = true ∧ s.head? = some 45 then numA true e s.tail else numA false e s
def numO (minus : Bool) (e : Nat) (s : List Nat) : Ro Int := match numR minus e s with
  | some (v, r) => .ok v r
  | none => .er s
section
variable {n : Nat} {st : Sto} {env : PEnv} {l s : List Nat} {ie : IE} {i q : Nat} {p : Int}
theorem tail_of (l : List Nat) (i : Nat) : (l.drop i).tail = l.drop (i + 1) := by rw [List.tail_drop]
/-- the sign at a place -/
theorem sl1 {ia ib ic : IE} (T : Tx l) (ha : ia env st = some (strP l, st)) (hb : ib env st = some (.int p, st)) (hc : ic env st = some (.int (p + 1), st)) (hp : p = (i : Int)) : iSl fSl ia (iPart ib) (iPart ic) env st = some (strP ((l.drop i).take 1), st) := by
  have hlen := T.len
  have h := fSl_1 (st := st) (l := l) (p := p) (q := p + 1) (i := i) (by omega) hp (by omega)
  simp only [iSl_e, ha, ob_s, iPart_e, hb, hc, Option.map_some, h]
theorem dig_e (h : ie env st = some (strP (s.take 1), st)) : iTestB (iChain fLe fLe (iC (.str S_0)) ie (iC (.str S_9))) env st = some (headP isDig s, st) := by
  have h1 := ltS_hd_lo (l := s) c_0
  have h2 := ltS_hd_hi (l := s) c_9
  cases s with
  | nil =>
    simp only [List.take_nil, List.head?_nil] at h h1 h2
    simp [h, h1, headP]
  | cons d r =>
    simp only [List.take_succ_cons, List.take_zero, List.head?_cons] at h h1 h2
    by_cases hd : d < 48
    · have : ¬ 48 ≤ d := by omega
      simp [h, h1, hd, headP, isDig, this]
    · have h32 : 48 ≤ d := by omega
      by_cases hd2 : 57 < d
      · have : ¬ d ≤ 57 := by omega
        simp [h, h1, h2, hd, headP, isDig, h32, hd2, this]
      · have : d ≤ 57 := by omega
        simp [h, h1, h2, hd, headP, isDig, h32, hd2, this]
theorem fSubB_S (hl : l.length ≤ 9000000) (hp : p = (i : Int)) (hi : i < l.length) : fSubB (.str (S l)) (.int p) st = some (.str (S ((l.drop i).take 1)), st) := by
  show (if (S l).length ≤ 9000000 then (atI (S l).cps.toList p).map fun c => (PV.str ⟨#[c]⟩, st) else none) = _
  rw [S_len, if_pos hl, hp]
  have e : (S l).cps.toList = l := rfl
  rw [e, at_nat (List.getElem?_eq_getElem hi)]
  have : (l.drop i).take 1 = [l[i]] := by
    rw [List.drop_eq_getElem_cons hi]
    rfl
  rw [this]
  rfl
/-- is the sign at a place c -/
theorem eqc_e {c : Nat} {b : Str} (hb : b = S [c]) (hc : c < 1114112) (ho : okL s) (h : ie env st = some (strP (s.take 1), st)) : iBin fEqB ie (iC (.str b)) env st = some (.bl (decide (s.head? = some c)), st) := by
  have e := eqP_hd (st := st) hb hc ho
  simp only [iBin_e, h, iC_e, ob_s, fEqB_e, eqB_str, e, Option.map_some]
noncomputable def nC : IT := (iAnd (iTestB (iChain fLe fLe (iC (.str S_0)) (iSl fSl (iVar 0) (iPart (iVar 5)) (iPart (iBin fAdd (iVar 5) (iC (.int 1))))) (iC (.str S_9)))) (iTestB (iBin fLt (iBin fSub (iVar 5) (iVar 4)) (iC c_MOST_DIGITS))))
noncomputable def nB : IS := (iAugAdd 5 (iC (.int 1)))
theorem w_dig {x1 x2 x3 x6 x7 : Option PV} (T : Tx l) : ∀ (k c m : Nat) (f b : Int), f = (q : Int) → b = ((q + c : Nat) : Int) → q + c ≤ l.length → c + k = 16 → k < m →
    wloop nC nB m [some (strP l), x1, x2, x3, some (.int f), some (.int b), x6, x7] st = some (.nx [some (strP l), x1, x2, x3, some (.int f), some (.int (b + ((digs k (l.drop (q + c))).length : Int))), x6, x7] st)
  | k, c, 0, f, b, hf, hb, hq, hc, hm => by omega
  | k, c, m + 1, f, b, hf, hb, hq, hc, hm => by
    have hs := sl1 (st := st) (env := [some (strP l), x1, x2, x3, some (.int f), some (.int b), x6, x7]) (ia := iVar 0) (ib := iVar 5) (ic := iBin fAdd (iVar 5) (iC (.int 1))) (p := b) (i := q + c) T rfl rfl (by simp) hb
    have hd := dig_e hs
    have hlt : iTestB (iBin fLt (iBin fSub (iVar 5) (iVar 4)) (iC c_MOST_DIGITS)) [some (strP l), x1, x2, x3, some (.int f), some (.int b), x6, x7] st = some (decide (b - f < 16), st) := by simp
    have hC : nC [some (strP l), x1, x2, x3, some (.int f), some (.int b), x6, x7] st = some (headP isDig (l.drop (q + c)) && decide (b - f < 16), st) := by
      unfold nC
      rw [iAnd_e, hd]
      cases headP isDig (l.drop (q + c)) with
      | false => rfl
      | true =>
        simp only [ob_s, if_true, hlt, Bool.true_and]
    rw [wloop, hC]
    cases hk : k with
    | zero =>
      have : decide (b - f < 16) = false := decide_eq_false (by omega)
      rw [this, Bool.and_false]
      simp [digs]
    | succ k' =>
      have : decide (b - f < 16) = true := decide_eq_true (by omega)
      rw [this, Bool.and_true]
      cases hcs : l.drop (q + c) with
      | nil => simp [headP, digs]
      | cons d r =>
        cases hdd : isDig d with
        | false => simp [headP, digs, hdd]
        | true =>
          have hlt2 : q + c < l.length := by
            have := congrArg List.length hcs
            simp at this
            omega
          have hr : l.drop (q + (c + 1)) = r := by
            rw [show q + (c + 1) = (q + c) + 1 by omega, ← tail_of, hcs]
            rfl
          have ih := w_dig (x1 := x1) (x2 := x2) (x3 := x3) (x6 := x6) (x7 := x7) T k' (c + 1) m f (b + 1) hf (by omega) (by omega) (by omega) (by omega)
          rw [hr] at ih
          have hB : nB [some (strP l), x1, x2, x3, some (.int f), some (.int b), x6, x7] st = some (.nx [some (strP l), x1, x2, x3, some (.int f), some (.int (b + 1)), x6, x7] st) := by simp [nB]
          simp only [headP, List.head?_cons, hdd, hB, ih, digs, if_true, List.length_cons]
          have e : b + 1 + ((digs k' r).length : Int) = b + (((digs k' r).length + 1 : Nat) : Int) := by omega
          rw [e]
noncomputable def nT (F : Nat → FA) : IS := (iSeq (iAsg (gN 5) (iVar 4)) (iSeq (iWhile nC nB) (iSeq (iAsg (gN 6) (iSl fSl (iVar 0) (iPart (iVar 4)) (iPart (iVar 5)))) (iSeq (iIfS (iOr (iTestB (iBin fEqB (iVar 6) (iC (.str S_)))) (iTestB (iBin fNeB (iSl fSl (iVar 0) (iPart (iVar 5)) (iPart (iBin fAdd (iVar 5) (iC (.int 1))))) (iVar 2)))) (iRaise S_FormError S_at okPI (iVar 1)) iSkip) (iSeq (iIfS (iAnd (iTestB (iBin fEqB (iBin fSubB (iVar 6) (iC (.int 0))) (iC (.str S_0)))) (iOr (iTestB (iBin fGt (iVar 4) (iVar 1))) (iTestB (iBin fNeB (iVar 6) (iC (.str S_0)))))) (iRaise S_FormError S_at okPI (iVar 1)) iSkip) (iSeq (iAsg (gN 7) (iCall (a1 fIntS) (iCons (iVar 6) iNil))) (iRet (iTup (iCons (iIf (iTestB (iBin fGt (iVar 4) (iVar 1))) (iUn fNeg (iVar 7)) (iVar 7)) (iCons (iBin fAdd (iVar 5) (iC (.int 1))) iNil))))))))))
theorem b_num_e (F : Nat → FA) (G : Nat → FX) : b__read_number F G = iSeq (iAsg (gN 4) (iIf (iAnd (iTest (iVar 3)) (iTestB (iBin fEqB (iSl fSl (iVar 0) (iPart (iVar 1)) (iPart (iBin fAdd (iVar 1) (iC (.int 1))))) (iC (.str S_x2d))))) (iBin fAdd (iVar 1) (iC (.int 1))) (iVar 1))) (nT F) := rfl
theorem nT_e {F : Nat → FA} {neg : Bool} {e j : Nat} {x3 x5 x6 x7 : Option PV} {f : Int} (T : Tx l) (he : e < 1114112) (hp : p = (j : Int)) (hf : f = (q : Int)) (hq : q ≤ l.length) (hn : q = if neg then j + 1 else j) :
    WR l st (fun v r => .tup [.int v, .int (pos l r)]) (match numA neg e (l.drop q) with
      | some (v, r) => .ok v r
      | none => .er (l.drop j)) (nT F [some (strP l), some (.int p), some (strP [e]), x3, some (.int f), x5, x6, x7] st) := by
  obtain ⟨k, hk⟩ := iWhile_at 20000 (by omega)
  have hw := w_dig (st := st) (x1 := some (.int p)) (x2 := some (strP [e])) (x3 := x3) (x6 := x6) (x7 := x7) T 16 0 (k + 20000) f f hf (by omega) hq rfl (by omega)
  rw [← hk, Nat.add_zero] at hw
  obtain ⟨ds, hds⟩ : ∃ ds, ds = digs 16 (l.drop q) := ⟨_, rfl⟩
  have d1 := digs_len 16 (l.drop q)
  have d2 := digs_all 16 (l.drop q)
  have d3 := digs_take 16 (l.drop q)
  rw [← hds] at hw d1 d2 d3
  rw [List.length_drop] at d1
  have hlen := T.len
  have hjl : j ≤ l.length := by split at hn <;> omega
  obtain ⟨b, hb⟩ : ∃ b : Int, b = f + (ds.length : Int) := ⟨_, rfl⟩
  rw [← hb] at hw
  have hb2 : b = ((q + ds.length : Nat) : Int) := by omega
  have okd : okL ds := fun c hc => by have := d2 c hc; omega
  have e6 : iSl fSl (iVar 0) (iPart (iVar 4)) (iPart (iVar 5)) [some (strP l), some (.int p), some (strP [e]), x3, some (.int f), some (.int b), x6, x7] st = some (strP ds, st) := by
    have h := fSl_SX (st := st) (l := l) (lo := q) (hi := q + ds.length) (by omega)
    rw [← hf, ← hb2, show q + ds.length - q = ds.length by omega, d3] at h
    simp only [iSl_e, iVar_e, ob_s, iPart_e, List.getElem?_cons_zero, List.getElem?_cons_succ, Option.map_some, h]
  have e7 := sl1 (st := st) (env := [some (strP l), some (.int p), some (strP [e]), x3, some (.int f), some (.int b), some (strP ds), x7]) (ia := iVar 0) (ib := iVar 5) (ic := iBin fAdd (iVar 5) (iC (.int 1))) (p := b) (i := q + ds.length) T rfl rfl (by simp) hb2
  have hdr : l.drop (q + ds.length) = (l.drop q).drop ds.length := by rw [List.drop_drop]
  have t1 : iTestB (iBin fEqB (iVar 6) (iC (.str S_))) [some (strP l), some (.int p), some (strP [e]), x3, some (.int f), some (.int b), some (strP ds), x7] st = some (decide (ds = []), st) := by
    have := eqP_SX (st := st) okd (b := []) (fun c hc => by cases hc)
    rw [← s0] at this
    simp only [iTestB_e, iBin_e, iVar_e, iC_e, ob_s, List.getElem?_cons_zero, List.getElem?_cons_succ, fEqB_e, eqB_str, this, Option.map_some, isBl_e]
  have t2 : iTestB (iBin fNeB (iSl fSl (iVar 0) (iPart (iVar 5)) (iPart (iBin fAdd (iVar 5) (iC (.int 1))))) (iVar 2)) [some (strP l), some (.int p), some (strP [e]), x3, some (.int f), some (.int b), some (strP ds), x7] st = some (!decide (((l.drop q).drop ds.length).head? = some e), st) := by
    have := eqP_hd (st := st) (b := S [e]) rfl he (T.ok.drop (q + ds.length))
    rw [← hdr]
    simp only [iTestB_e, iBin_e, e7, iVar_e, ob_s, List.getElem?_cons_zero, List.getElem?_cons_succ, fNeB_e, eqB_str, this, Option.map_some, isBl_e]
  have okp : okPI (.int p) = true := by rw [okPI_i]; exact small_ok hp (by omega)
  have rz : ∀ E : PEnv, E[1]? = some (some (.int p)) → iRaise S_FormError S_at okPI (iVar 1) E st = some (.er E S_FormError [(S_at, .int (pos l (l.drop j)))] st) := fun E hE => by
    rw [pos_drop hjl, ← hp]
    simp only [iRaise_e, iVar_e, hE, ob_s, okp, if_true]
  have c1 : iOr (iTestB (iBin fEqB (iVar 6) (iC (.str S_)))) (iTestB (iBin fNeB (iSl fSl (iVar 0) (iPart (iVar 5)) (iPart (iBin fAdd (iVar 5) (iC (.int 1))))) (iVar 2))) [some (strP l), some (.int p), some (strP [e]), x3, some (.int f), some (.int b), some (strP ds), x7] st = some (decide (ds = []) || !decide (((l.drop q).drop ds.length).head? = some e), st) := by
    rw [iOr_e, t1]
    cases decide (ds = []) with
    | true => rfl
    | false => simp only [ob_s, Bool.false_eq_true, if_false, t2, Bool.false_or]
  unfold nT
  rw [asg_seq (x := .int f) (s2 := st) rfl]
  show WR l st _ _ (iSeq _ _ [some (strP l), some (.int p), some (strP [e]), x3, some (.int f), some (.int f), x6, x7] st)
  rw [nx_seq hw, asg_seq e6]
  show WR l st _ _ (iSeq _ _ [some (strP l), some (.int p), some (strP [e]), x3, some (.int f), some (.int b), some (strP ds), x7] st)
  have nA : numA neg e (l.drop q) = if ds = [] ∨ ((l.drop q).drop ds.length).head? ≠ some e ∨ (ds.head? = some 48 ∧ (neg = true ∨ ds ≠ [48])) then none
      else some (if neg then -((NumText.digitsVal ds : Nat) : Int) else ((NumText.digitsVal ds : Nat) : Int), ((l.drop q).drop ds.length).tail) := by rw [hds]; rfl
  rw [nA]
  by_cases h1 : ds = [] ∨ ((l.drop q).drop ds.length).head? ≠ some e
  · have hcc : (decide (ds = []) || !decide (((l.drop q).drop ds.length).head? = some e)) = true := by
      rcases h1 with h1 | h1
      · rw [decide_eq_true h1]; rfl
      · rw [decide_eq_false h1]; simp
    rw [if_pos (by rcases h1 with h1 | h1; exact .inl h1; exact .inr (.inl h1))]
    refine ⟨[some (strP l), some (.int p), some (strP [e]), x3, some (.int f), some (.int b), some (strP ds), x7], [], ?_⟩
    rw [iSeq_e, iIfS_e, c1, hcc, ob_s]
    simp only
    rw [rz _ rfl, List.append_nil]
  · have h1a : ds ≠ [] := fun z => h1 (.inl z)
    have h1b : ((l.drop q).drop ds.length).head? = some e := Classical.not_not.mp fun z => h1 (.inr z)
    have hcc : (decide (ds = []) || !decide (((l.drop q).drop ds.length).head? = some e)) = false := by
      rw [decide_eq_false h1a, decide_eq_true h1b]; rfl
    rw [hcc] at c1
    rw [if_no c1]
    have t3 : iTestB (iBin fEqB (iBin fSubB (iVar 6) (iC (.int 0))) (iC (.str S_0))) [some (strP l), some (.int p), some (strP [e]), x3, some (.int f), some (.int b), some (strP ds), x7] st = some (decide (ds.head? = some 48), st) := by
      cases ds with
      | nil => exact (h1a rfl).elim
      | cons d r =>
        have hd9 : (d :: r).length ≤ 9000000 := by omega
        have h0 : fSubB (strP (d :: r)) (.int 0) st = some (.str (S [d]), st) := fSubB_S (l := d :: r) (i := 0) hd9 rfl (by simp)
        have := eqP_hd (st := st) c_0 (by decide) okd
        rw [List.take_succ_cons, List.take_zero] at this
        simp only [iTestB_e, iBin_e, iVar_e, iC_e, ob_s, List.getElem?_cons_zero, List.getElem?_cons_succ, h0, fEqB_e, eqB_str, this, Option.map_some, isBl_e]
    have t4 : iTestB (iBin fGt (iVar 4) (iVar 1)) [some (strP l), some (.int p), some (strP [e]), x3, some (.int f), some (.int b), some (strP ds), x7] st = some (neg, st) := by
      have : decide (p < f) = neg := by
        cases neg with
        | true => rw [if_pos rfl] at hn; exact decide_eq_true (by omega)
        | false => simp only [Bool.false_eq_true, if_false] at hn; exact decide_eq_false (by omega)
      simp [this]
    have t5 : iTestB (iBin fNeB (iVar 6) (iC (.str S_0))) [some (strP l), some (.int p), some (strP [e]), x3, some (.int f), some (.int b), some (strP ds), x7] st = some (!decide (ds = [48]), st) := by
      have := eqP_SX (st := st) okd (b := [48]) (fun c hc => by rw [List.mem_singleton] at hc; omega)
      rw [← c_0] at this
      simp only [iTestB_e, iBin_e, iVar_e, iC_e, ob_s, List.getElem?_cons_zero, List.getElem?_cons_succ, fNeB_e, eqB_str, this, Option.map_some, isBl_e]
    have c2 : iAnd (iTestB (iBin fEqB (iBin fSubB (iVar 6) (iC (.int 0))) (iC (.str S_0)))) (iOr (iTestB (iBin fGt (iVar 4) (iVar 1))) (iTestB (iBin fNeB (iVar 6) (iC (.str S_0))))) [some (strP l), some (.int p), some (strP [e]), x3, some (.int f), some (.int b), some (strP ds), x7] st = some (decide (ds.head? = some 48) && (neg || !decide (ds = [48])), st) := by
      rw [iAnd_e, t3]
      cases decide (ds.head? = some 48) with
      | false => rfl
      | true =>
        simp only [ob_s, if_true, Bool.true_and]
        rw [iOr_e, t4]
        cases neg with
        | true => rfl
        | false => simp only [ob_s, Bool.false_eq_true, if_false, t5, Bool.false_or]
    by_cases h2 : ds.head? = some 48 ∧ (neg = true ∨ ds ≠ [48])
    · rw [if_pos (.inr (.inr h2))]
      have hc2 : (decide (ds.head? = some 48) && (neg || !decide (ds = [48]))) = true := by
        rw [decide_eq_true h2.1]
        rcases h2.2 with h | h
        · rw [h]; rfl
        · rw [decide_eq_false h]; simp
      refine ⟨[some (strP l), some (.int p), some (strP [e]), x3, some (.int f), some (.int b), some (strP ds), x7], [], ?_⟩
      rw [iSeq_e, iIfS_e, c2, hc2, ob_s]
      simp only
      rw [rz _ rfl, List.append_nil]
    · rw [if_neg (by rintro (h | h | h); exact h1a h; exact h h1b; exact h2 h)]
      have hc2 : (decide (ds.head? = some 48) && (neg || !decide (ds = [48]))) = false := by
        by_cases h3 : ds.head? = some 48
        · have h4 : ¬ (neg = true ∨ ds ≠ [48]) := fun z => h2 ⟨h3, z⟩
          have h5 : neg = false := by cases neg with
            | true => exact (h4 (.inl rfl)).elim
            | false => rfl
          have h6 : ds = [48] := Classical.not_not.mp fun z => h4 (.inr z)
          rw [h5, decide_eq_true h6]; simp
        · rw [decide_eq_false h3]; rfl
      rw [hc2] at c2
      rw [if_no c2]
      have hi : intText? (S ds) = some ((NumText.digitsVal ds : Nat) : Int) := int_S (List.all_eq_true.mpr fun c hc => by have := d2 c hc; simp; omega) h1a (by omega)
      have h640 : (S ds).length ≤ 640 := by rw [S_len]; omega
      have e8 : iCall (a1 fIntS) (iCons (iVar 6) iNil) [some (strP l), some (.int p), some (strP [e]), x3, some (.int f), some (.int b), some (strP ds), x7] st = some (.int ((NumText.digitsVal ds : Nat) : Int), st) := by
        simp only [iCall_e, iCons_e, iNil_e, iVar_e, ob_s, List.getElem?_cons_zero, List.getElem?_cons_succ, a1_e, fIntS_s, h640, if_true, hi, Option.map_some]
      rw [asg_seq e8]
      refine ⟨[], ?_⟩
      have hpos : pos l ((l.drop q).drop ds.length).tail = b + 1 := by
        have hne : q + ds.length < l.length := by
          rw [← hdr] at h1b
          rcases Nat.lt_or_ge (q + ds.length) l.length with h | h
          · exact h
          · rw [List.drop_eq_nil_of_le h] at h1b
            cases h1b
        rw [← hdr, tail_of, pos_drop (by omega)]
        omega
      show iRet _ [some (strP l), some (.int p), some (strP [e]), x3, some (.int f), some (.int b), some (strP ds), some (.int ((NumText.digitsVal ds : Nat) : Int))] st = _
      have t4' : iTestB (iBin fGt (iVar 4) (iVar 1)) [some (strP l), some (.int p), some (strP [e]), x3, some (.int f), some (.int b), some (strP ds), some (.int ((NumText.digitsVal ds : Nat) : Int))] st = some (neg, st) := by
        have : decide (p < f) = neg := by
          cases neg with
          | true => rw [if_pos rfl] at hn; exact decide_eq_true (by omega)
          | false => simp only [Bool.false_eq_true, if_false] at hn; exact decide_eq_false (by omega)
        simp [this]
      show _ = some (Fl.rt (.tup [.int (if neg = true then _ else _), .int (pos l ((l.drop q).drop ds.length).tail)]) (st ++ []))
      rw [hpos, List.append_nil]
      obtain ⟨v, hv⟩ : ∃ v : Int, v = ((NumText.digitsVal ds : Nat) : Int) := ⟨_, rfl⟩
      rw [← hv] at t4' ⊢
      have e9 : iIf (iTestB (iBin fGt (iVar 4) (iVar 1))) (iUn fNeg (iVar 7)) (iVar 7) [some (strP l), some (.int p), some (strP [e]), x3, some (.int f), some (.int b), some (strP ds), some (.int v)] st = some (.int (if neg = true then -v else v), st) := by
        rw [iIf_e, t4']
        cases neg with
        | true => simp
        | false => simp
      have e10 : iBin fAdd (iVar 5) (iC (.int 1)) [some (strP l), some (.int p), some (strP [e]), x3, some (.int f), some (.int b), some (strP ds), some (.int v)] st = some (.int (b + 1), st) := by simp
      simp only [iRet_e, iTup_e, iCons_e, iNil_e, e9, e10, ob_s]
      rfl
theorem e_num {minus : Bool} {e : Nat} (T : Tx l) (he : e < 1114112) (hp : p = (i : Int)) (hi : i ≤ l.length) : Rd l st (fun v r => .tup [.int v, .int (pos l r)]) (numO minus e (l.drop i)) (GG (n + 1) I__read_number [strP l, .int p, strP [e], .bl minus] st) := by
  rw [e__read_number]
  refine WR.to rfl ?_ fun v r => by simp [nr, nrs]
  show WR l st _ _ (b__read_number _ _ [some (strP l), some (.int p), some (strP [e]), some (.bl minus), none, none, none, none] st)
  rw [b_num_e]
  have hs := sl1 (st := st) (env := [some (strP l), some (.int p), some (strP [e]), some (.bl minus), none, none, none, none]) (ia := iVar 0) (ib := iVar 1) (ic := iBin fAdd (iVar 1) (iC (.int 1))) (p := p) (i := i) T rfl rfl (by simp) hp
  have hq := eqc_e c_2d (by decide) (T.ok.drop i) hs
  have hc : iAnd (iTest (iVar 3)) (iTestB (iBin fEqB (iSl fSl (iVar 0) (iPart (iVar 1)) (iPart (iBin fAdd (iVar 1) (iC (.int 1))))) (iC (.str S_x2d)))) [some (strP l), some (.int p), some (strP [e]), some (.bl minus), none, none, none, none] st = some (minus && decide ((l.drop i).head? = some 45), st) := by
    have e3 : iTest (iVar 3) [some (strP l), some (.int p), some (strP [e]), some (.bl minus), none, none, none, none] st = some (minus, st) := by simp
    rw [iAnd_e, e3]
    cases minus with
    | false => rfl
    | true => simp only [ob_s, if_true, iTestB_e, hq, isBl_e, Option.map_some, Bool.true_and]
  unfold numO numR
  by_cases hm : minus = true ∧ (l.drop i).head? = some 45
  · have hlt : i < l.length := by
      rcases Nat.lt_or_ge i l.length with h1 | h1
      · exact h1
      · have := hm.2
        rw [List.drop_eq_nil_of_le h1] at this
        cases this
    rw [if_pos hm, tail_of]
    rw [decide_eq_true hm.2, hm.1, Bool.and_self, ← hm.1] at hc
    rw [asg_seq (x := .int (p + 1)) (s2 := st) (by rw [iIf_e, hc, hm.1]; simp)]
    exact nT_e (neg := true) T he hp (by omega) (by omega) (by simp)
  · have hc2 : (minus && decide ((l.drop i).head? = some 45)) = false := by
      cases minus with
      | false => rfl
      | true => rw [decide_eq_false fun z => hm ⟨rfl, z⟩]; rfl
    rw [if_neg hm]
    rw [hc2] at hc
    rw [asg_seq (x := .int p) (s2 := st) (by rw [iIf_e, hc]; simp)]
    exact nT_e (neg := false) T he hp hp hi (by simp)
end
end J51

/-! numbers, as the law reads them -/
namespace J51
open PySem PySem.Spec PyProof.Rows L2 IL SX
theorem digs_next : ∀ (k : Nat) (s : List Nat), digs (k + 1) s = digs k s ∨ ((digs k s).length = k ∧ (digs (k + 1) s).length = k + 1 ∧ ∃ d, (s.drop k).head? = some d ∧ isDig d = true)
  | 0, [] => .inl rfl
  | 0, c :: r => by
    cases h : isDig c with
    | false => left; simp [digs, h]
    | true => right; exact ⟨rfl, by simp [digs, h], c, rfl, h⟩
  | k + 1, [] => .inl rfl
  | k + 1, c :: r => by
    cases h : isDig c with
    | false => left; simp [digs, h]
    | true =>
      rcases digs_next k r with h1 | ⟨h1, h2, d, h3, h4⟩
      · left
        rw [digs, digs, h, if_pos rfl, if_pos rfl, h1]
      · right
        refine ⟨?_, ?_, d, by simpa using h3, h4⟩
        · rw [digs, h, if_pos rfl, List.length_cons, h1]
        · rw [digs, h, if_pos rfl, List.length_cons, h2]
theorem c_dig : S_0123456789 = S [48, 49, 50, 51, 52, 53, 54, 55, 56, 57] := by decide +kernel
section
variable {n : Nat} {st : Sto} {l s : List Nat} {i q : Nat} {p : Int}
theorem in_dig {c : Nat} : fInC (strP [c]) (.str S_0123456789) st = some (.bl (isDig c), st) := by
  have h := in_one [48, 49, 50, 51, 52, 53, 54, 55, 56, 57] c
  rw [← c_dig] at h
  have e : inC st (strP [c]) (.str S_0123456789) = some (isDig c) := by
    show (match inB st (strP [c]) (.str S_0123456789) with
      | some b => some b
      | none => inT st (strP [c]) (.str S_0123456789)) = _
    have h2 : inB st (strP [c]) (.str S_0123456789) = some (!(Builtin.Str.occurrences S_0123456789 (S [c]) 0 (S_0123456789).length 1).isEmpty) := rfl
    rw [h2, h]
    have : decide (c ∈ [48, 49, 50, 51, 52, 53, 54, 55, 56, 57]) = isDig c := by
      by_cases hc : 48 ≤ c ∧ c ≤ 57
      · rw [show isDig c = true by simp [isDig, hc], decide_eq_true_eq]
        simp only [List.mem_cons, List.not_mem_nil, or_false]
        omega
      · rw [show isDig c = false by simp [isDig]; omega, decide_eq_false_iff_not]
        simp only [List.mem_cons, List.not_mem_nil, or_false]
        omega
    rw [this]
  show (inC st (strP [c]) (.str S_0123456789)).map (fun b => (PV.bl b, st)) = _
  rw [e]
  rfl
noncomputable def mC : IT := (iAnd (iTestB (iBin fLt (iVar 4) (iCall (a1 fLenB) (iCons (iVar 0) iNil)))) (iAnd (iTestB (iBin fInC (iBin fSubB (iVar 0) (iVar 4)) (iC (.str S_0123456789)))) (iTestB (iBin fLt (iBin fSub (iVar 4) (iVar 5)) (iC (.int 17))))))
noncomputable def mB : IS := (iAsg (gN 4) (iBin fAdd (iVar 4) (iC (.int 1))))
theorem w_ldig {x1 x2 x3 x6 : Option PV} (T : Tx l) : ∀ (k c m : Nat) (f b : Int), f = (q : Int) → b = ((q + c : Nat) : Int) → q + c ≤ l.length → c + k = 17 → k < m →
    wloop mC mB m [some (strP l), x1, x2, x3, some (.int b), some (.int f), x6] st = some (.nx [some (strP l), x1, x2, x3, some (.int (b + ((digs k (l.drop (q + c))).length : Int))), some (.int f), x6] st)
  | k, c, 0, f, b, hf, hb, hq, hc, hm => by omega
  | k, c, m + 1, f, b, hf, hb, hq, hc, hm => by
    have hlen := T.len
    have hlb : fLenB (strP l) st = some (.int (l.length : Int), st) := by rw [fLenB_s, S_len, if_pos (by omega)]
    have h1 : iTestB (iBin fLt (iVar 4) (iCall (a1 fLenB) (iCons (iVar 0) iNil))) [some (strP l), x1, x2, x3, some (.int b), some (.int f), x6] st = some (decide (b < (l.length : Int)), st) := by
      simp only [iTestB_e, iBin_e, iCall_e, iCons_e, iNil_e, iVar_e, ob_s, List.getElem?_cons_zero, List.getElem?_cons_succ, a1_e, hlb, fLt_i, Option.map_some, isBl_e]
    have h3 : iTestB (iBin fLt (iBin fSub (iVar 4) (iVar 5)) (iC (.int 17))) [some (strP l), x1, x2, x3, some (.int b), some (.int f), x6] st = some (decide (b - f < 17), st) := by simp
    have hC : mC [some (strP l), x1, x2, x3, some (.int b), some (.int f), x6] st = some (headP isDig (l.drop (q + c)) && decide (b - f < 17), st) := by
      unfold mC
      rw [iAnd_e, h1]
      by_cases hlt : q + c < l.length
      · have h2 : iTestB (iBin fInC (iBin fSubB (iVar 0) (iVar 4)) (iC (.str S_0123456789))) [some (strP l), x1, x2, x3, some (.int b), some (.int f), x6] st = some (headP isDig (l.drop (q + c)), st) := by
          have hs := fSubB_S (st := st) (l := l) (p := b) (i := q + c) (by omega) hb hlt
          have hd : (l.drop (q + c)) = l[q + c] :: l.drop (q + c + 1) := List.drop_eq_getElem_cons hlt
          rw [hd, List.take_succ_cons, List.take_zero] at hs
          have hi := in_dig (st := st) (c := l[q + c])
          rw [hd]
          simp only [iTestB_e, iBin_e, iVar_e, iC_e, ob_s, List.getElem?_cons_zero, List.getElem?_cons_succ, hs, hi, Option.map_some, isBl_e]
          rfl
        rw [decide_eq_true (by omega)]
        simp only [ob_s, if_true]
        rw [iAnd_e, h2]
        cases headP isDig (l.drop (q + c)) with
        | false => rfl
        | true => simp only [ob_s, if_true, h3, Bool.true_and]
      · rw [decide_eq_false (by omega), List.drop_eq_nil_of_le (by omega)]
        rfl
    rw [wloop, hC]
    cases hk : k with
    | zero =>
      have : decide (b - f < 17) = false := decide_eq_false (by omega)
      rw [this, Bool.and_false]
      simp [digs]
    | succ k' =>
      have : decide (b - f < 17) = true := decide_eq_true (by omega)
      rw [this, Bool.and_true]
      cases hcs : l.drop (q + c) with
      | nil => simp [headP, digs]
      | cons d r =>
        cases hdd : isDig d with
        | false => simp [headP, digs, hdd]
        | true =>
          have hlt2 : q + c < l.length := by
            have := congrArg List.length hcs
            simp at this
            omega
          have hr : l.drop (q + (c + 1)) = r := by
            rw [show q + (c + 1) = (q + c) + 1 by omega, ← tail_of, hcs]
            rfl
          have ih := w_ldig (x1 := x1) (x2 := x2) (x3 := x3) (x6 := x6) T k' (c + 1) m f (b + 1) hf (by omega) (by omega) (by omega) (by omega)
          rw [hr] at ih
          have hB : mB [some (strP l), x1, x2, x3, some (.int b), some (.int f), x6] st = some (.nx [some (strP l), x1, x2, x3, some (.int (b + 1)), some (.int f), x6] st) := by simp [mB]
          simp only [headP, List.head?_cons, hdd, hB, ih, digs, if_true, List.length_cons]
          have e : b + 1 + ((digs k' r).length : Int) = b + (((digs k' r).length + 1 : Nat) : Int) := by omega
          rw [e]
def numP (l : List Nat) : Option (Int × List Nat) → PV
  | some (v, r) => .tup [.int v, .int (pos l r)]
  | none => .non
noncomputable def mK : IT := (iOr (iTestB (iBin fEqB (iVar 6) (iC (.int 0)))) (iOr (iTestB (iBin fGt (iVar 6) (iC (.int 16)))) (iOr (iTestB (iBin fNeB (iSl fSl (iVar 0) (iPart (iVar 4)) (iPart (iBin fAdd (iVar 4) (iC (.int 1))))) (iVar 2))) (iAnd (iTestB (iBin fEqB (iBin fSubB (iVar 0) (iVar 5)) (iC (.str S_0)))) (iOr (iTestB (iBin fGt (iVar 6) (iC (.int 1)))) (iTestB (iBin fGt (iVar 5) (iVar 1))))))))
noncomputable def mT : IS := (iSeq (iAsg (gN 5) (iVar 4)) (iSeq (iWhile mC mB) (iSeq (iAsg (gN 6) (iBin fSub (iVar 4) (iVar 5))) (iSeq (iIfS mK (iRet (iC .non)) iSkip) (iRet (iTup (iCons (iCall (a1 fIntS) (iCons (iSl fSl (iVar 0) (iPart (iVar 1)) (iPart (iVar 4))) iNil)) (iCons (iBin fAdd (iVar 4) (iC (.int 1))) iNil))))))))
theorem b_lnum_e (F : Nat → FA) (G : Nat → FX) : b__law_number F G = iSeq (iAsg (gN 4) (iVar 1)) (iSeq (iIfS (iAnd (iTest (iVar 3)) (iTestB (iBin fEqB (iSl fSl (iVar 0) (iPart (iVar 4)) (iPart (iBin fAdd (iVar 4) (iC (.int 1))))) (iC (.str S_x2d))))) (iAsg (gN 4) (iBin fAdd (iVar 4) (iC (.int 1)))) iSkip) mT) := rfl
theorem mT_e {neg : Bool} {e j : Nat} {x3 x5 x6 : Option PV} {f : Int} (T : Tx l) (he : e < 1114112) (hed : isDig e = false) (hp : p = (j : Int)) (hf : f = (q : Int)) (hq : q ≤ l.length) (hn : q = if neg then j + 1 else j) (hng : neg = true → (l.drop j).head? = some 45) :
    mT [some (strP l), some (.int p), some (strP [e]), x3, some (.int f), x5, x6] st = some (.rt (numP l (numA neg e (l.drop q))) st) := by
  obtain ⟨k, hk⟩ := iWhile_at 20000 (by omega)
  have hw := w_ldig (st := st) (x1 := some (.int p)) (x2 := some (strP [e])) (x3 := x3) (x6 := x6) T 17 0 (k + 20000) f f hf (by omega) hq rfl (by omega)
  rw [← hk, Nat.add_zero] at hw
  obtain ⟨ds, hds⟩ : ∃ ds, ds = digs 17 (l.drop q) := ⟨_, rfl⟩
  have d1 := digs_len 17 (l.drop q)
  have d2 := digs_all 17 (l.drop q)
  have d3 := digs_take 17 (l.drop q)
  have dn := digs_next 16 (l.drop q)
  have d16 := digs_len 16 (l.drop q)
  rw [← hds] at hw d1 d2 d3 dn
  rw [List.length_drop] at d1
  have hlen := T.len
  have hjl : j ≤ l.length := by split at hn <;> omega
  obtain ⟨b, hb⟩ : ∃ b : Int, b = f + (ds.length : Int) := ⟨_, rfl⟩
  rw [← hb] at hw
  have hb2 : b = ((q + ds.length : Nat) : Int) := by omega
  have okd : okL ds := fun c hc => by have := d2 c hc; omega
  obtain ⟨z, hz⟩ : ∃ z : Int, z = (ds.length : Int) := ⟨_, rfl⟩
  have e6 : iBin fSub (iVar 4) (iVar 5) [some (strP l), some (.int p), some (strP [e]), x3, some (.int b), some (.int f), x6] st = some (.int z, st) := by
    have : b - f = z := by omega
    simp [this]
  obtain ⟨E, hE⟩ : ∃ E : PEnv, E = [some (strP l), some (.int p), some (strP [e]), x3, some (.int b), some (.int f), some (.int z)] := ⟨_, rfl⟩
  have t1 : iTestB (iBin fEqB (iVar 6) (iC (.int 0))) E st = some (decide (z = 0), st) := by
    rw [hE]
    simp only [iTestB_e, iBin_e, iVar_e, iC_e, ob_s, List.getElem?_cons_zero, List.getElem?_cons_succ, fEqB_e, eqB_int, eqP_i, Option.map_some, isBl_e]
    rfl
  have t2 : iTestB (iBin fGt (iVar 6) (iC (.int 16))) E st = some (decide (16 < z), st) := by rw [hE]; simp
  have e7 := sl1 (st := st) (env := E) (ia := iVar 0) (ib := iVar 4) (ic := iBin fAdd (iVar 4) (iC (.int 1))) (p := b) (i := q + ds.length) T (by rw [hE]; rfl) (by rw [hE]; rfl) (by rw [hE]; simp) hb2
  have hdr : l.drop (q + ds.length) = (l.drop q).drop ds.length := by rw [List.drop_drop]
  have t3 : iTestB (iBin fNeB (iSl fSl (iVar 0) (iPart (iVar 4)) (iPart (iBin fAdd (iVar 4) (iC (.int 1))))) (iVar 2)) E st = some (!decide (((l.drop q).drop ds.length).head? = some e), st) := by
    have h1 := eqP_hd (st := st) (b := S [e]) rfl he (T.ok.drop (q + ds.length))
    have h2 : iVar 2 E st = some (strP [e], st) := by rw [hE]; rfl
    rw [← hdr]
    simp only [iTestB_e, iBin_e, e7, h2, ob_s, fNeB_e, eqB_str, h1, Option.map_some, isBl_e]
  have t5 : iTestB (iBin fGt (iVar 6) (iC (.int 1))) E st = some (decide (1 < z), st) := by rw [hE]; simp
  have t6 : iTestB (iBin fGt (iVar 5) (iVar 1)) E st = some (neg, st) := by
    have : decide (p < f) = neg := by
      cases neg with
      | true => rw [if_pos rfl] at hn; exact decide_eq_true (by omega)
      | false => simp only [Bool.false_eq_true, if_false] at hn; exact decide_eq_false (by omega)
    rw [hE]
    simp [this]
  have hfin : mT [some (strP l), some (.int p), some (strP [e]), x3, some (.int f), x5, x6] st = iSeq (iIfS mK (iRet (iC .non)) iSkip) (iRet (iTup (iCons (iCall (a1 fIntS) (iCons (iSl fSl (iVar 0) (iPart (iVar 1)) (iPart (iVar 4))) iNil)) (iCons (iBin fAdd (iVar 4) (iC (.int 1))) iNil)))) E st := by
    unfold mT
    rw [asg_seq (x := .int f) (s2 := st) rfl]
    show iSeq _ _ [some (strP l), some (.int p), some (strP [e]), x3, some (.int f), some (.int f), x6] st = _
    rw [nx_seq hw, asg_seq e6, hE]
    rfl
  rw [hfin]
  have none_ : mK E st = some (true, st) → numA neg e (l.drop q) = none → iSeq (iIfS mK (iRet (iC .non)) iSkip) (iRet (iTup (iCons (iCall (a1 fIntS) (iCons (iSl fSl (iVar 0) (iPart (iVar 1)) (iPart (iVar 4))) iNil)) (iCons (iBin fAdd (iVar 4) (iC (.int 1))) iNil)))) E st = some (.rt (numP l (numA neg e (l.drop q))) st) := fun h1 h2 => by
    rw [if_rt h1 (v := .non) (s2 := st) rfl, h2]
    rfl
  by_cases h0 : ds = []
  · refine none_ ?_ ?_
    · unfold mK
      have : decide (z = 0) = true := decide_eq_true (by rw [hz, h0]; rfl)
      rw [iOr_e, t1, this]
      rfl
    · unfold numA
      rw [if_pos]
      left
      rcases dn with h | ⟨_, h, _⟩
      · rw [← h, h0]
      · rw [h0] at h; simp at h
  · have z0 : decide (z = 0) = false := decide_eq_false (by
      have := List.length_pos_iff.mpr h0
      omega)
    by_cases h17 : 16 < ds.length
    · refine none_ ?_ ?_
      · unfold mK
        have : decide (16 < z) = true := decide_eq_true (by omega)
        rw [iOr_e, t1, z0]
        simp only [ob_s, Bool.false_eq_true, if_false]
        rw [iOr_e, t2, this]
        rfl
      · unfold numA
        rw [if_pos]
        right; left
        rcases dn with h | ⟨h1, h2, d, h3, h4⟩
        · rw [h] at h17
          omega
        · rw [h1, h3]
          rintro h
          cases h
          rw [h4] at hed
          cases hed
    · have z16 : decide (16 < z) = false := decide_eq_false (by omega)
      have heq : digs 16 (l.drop q) = ds := by
        rcases dn with h | ⟨_, h, _⟩
        · exact h.symm
        · omega
      have nA : numA neg e (l.drop q) = if ds = [] ∨ ((l.drop q).drop ds.length).head? ≠ some e ∨ (ds.head? = some 48 ∧ (neg = true ∨ ds ≠ [48])) then none
          else some (if neg then -((NumText.digitsVal ds : Nat) : Int) else ((NumText.digitsVal ds : Nat) : Int), ((l.drop q).drop ds.length).tail) := by unfold numA; rw [heq]
      have t4 : iTestB (iBin fEqB (iBin fSubB (iVar 0) (iVar 5)) (iC (.str S_0))) E st = some (decide (ds.head? = some 48), st) := by
        have hlt : q < l.length := by
          have := List.length_pos_iff.mpr h0
          omega
        have hs := fSubB_S (st := st) (l := l) (p := f) (i := q) (by omega) hf hlt
        have hh : (l.drop q).head? = ds.head? := by
          rw [← d3]
          cases hl : l.drop q with
          | nil => simp
          | cons d r =>
            have := List.length_pos_iff.mpr h0
            cases hdl : ds.length with
            | zero => omega
            | succ m => rfl
        have h1 := eqP_hd (st := st) c_0 (by decide) (T.ok.drop q)
        rw [hh] at h1
        rw [hE]
        simp only [iTestB_e, iBin_e, iVar_e, iC_e, ob_s, List.getElem?_cons_zero, List.getElem?_cons_succ, hs, fEqB_e, eqB_str, h1, Option.map_some, isBl_e]
      have hone : ds.head? = some 48 → decide (1 < z) = !decide (ds = [48]) := fun h => by
        cases hd : ds with
        | nil => exact (h0 hd).elim
        | cons c r =>
          rw [hd] at h
          cases h
          cases r with
          | nil => rw [hz, hd]; rfl
          | cons d r => rw [hz, hd]; simp; omega
      have mk : mK E st = some (!decide (((l.drop q).drop ds.length).head? = some e) || (decide (ds.head? = some 48) && (decide (1 < z) || neg)), st) := by
        unfold mK
        rw [iOr_e, t1, z0]
        simp only [ob_s, Bool.false_eq_true, if_false]
        rw [iOr_e, t2, z16]
        simp only [ob_s, Bool.false_eq_true, if_false]
        rw [iOr_e, t3]
        cases decide (((l.drop q).drop ds.length).head? = some e) with
        | false => rfl
        | true =>
          simp only [ob_s, Bool.not_true, Bool.false_eq_true, if_false, Bool.false_or]
          rw [iAnd_e, t4]
          cases decide (ds.head? = some 48) with
          | false => rfl
          | true =>
            simp only [ob_s, if_true, Bool.true_and]
            rw [iOr_e, t5]
            cases decide (1 < z) with
            | true => rfl
            | false => simp only [ob_s, Bool.false_eq_true, if_false, t6, Bool.false_or]
      by_cases h1 : ((l.drop q).drop ds.length).head? = some e
      · by_cases h2 : ds.head? = some 48 ∧ (neg = true ∨ ds ≠ [48])
        · refine none_ ?_ (by rw [nA, if_pos (.inr (.inr h2))])
          rw [mk, decide_eq_true h1, decide_eq_true h2.1, hone h2.1]
          rcases h2.2 with h | h
          · rw [h]; simp
          · rw [decide_eq_false h]; rfl
        · have hmk : mK E st = some (false, st) := by
            rw [mk, decide_eq_true h1]
            by_cases h3 : ds.head? = some 48
            · have h4 : ¬ (neg = true ∨ ds ≠ [48]) := fun z => h2 ⟨h3, z⟩
              have h5 : neg = false := by cases neg with
                | true => exact (h4 (.inl rfl)).elim
                | false => rfl
              have h6 : ds = [48] := Classical.not_not.mp fun z => h4 (.inr z)
              rw [decide_eq_true h3, hone h3, h5, decide_eq_true h6]; rfl
            · rw [decide_eq_false h3]; rfl
          rw [if_no hmk, nA, if_neg (by rintro (h | h | h); exact h0 h; exact h h1; exact h2 h)]
          have hne : q + ds.length < l.length := by
            rw [← hdr] at h1
            rcases Nat.lt_or_ge (q + ds.length) l.length with h | h
            · exact h
            · rw [List.drop_eq_nil_of_le h] at h1
              cases h1
          have hpos : pos l ((l.drop q).drop ds.length).tail = b + 1 := by
            rw [← hdr, tail_of, pos_drop (by omega)]
            omega
          have esl : iSl fSl (iVar 0) (iPart (iVar 1)) (iPart (iVar 4)) E st = some (strP ((l.drop j).take (q + ds.length - j)), st) := by
            have h := fSl_SX (st := st) (l := l) (lo := j) (hi := q + ds.length) (by omega)
            rw [← hp, ← hb2] at h
            rw [hE]
            simp only [iSl_e, iVar_e, ob_s, iPart_e, List.getElem?_cons_zero, List.getElem?_cons_succ, Option.map_some, h]
          have adg : NumText.AllDigits ds := d2
          have hint : intText? (S ((l.drop j).take (q + ds.length - j))) = some (if neg = true then -((NumText.digitsVal ds : Nat) : Int) else ((NumText.digitsVal ds : Nat) : Int)) := by
            cases neg with
            | false =>
              simp only [Bool.false_eq_true, if_false] at hn ⊢
              rw [hn] at d3
              rw [hn, show j + ds.length - j = ds.length by omega, d3]
              exact int_S (List.all_eq_true.mpr fun c hc => by have := d2 c hc; simp; omega) h0 (by omega)
            | true =>
              rw [if_pos rfl] at hn ⊢
              have hj0 := hng rfl
              have hjl2 : j < l.length := by omega
              have hdj : l.drop j = 45 :: l.drop (j + 1) := by
                cases hc : l.drop j with
                | nil => rw [hc] at hj0; cases hj0
                | cons c r =>
                  rw [hc] at hj0
                  cases hj0
                  rw [← tail_of, hc]
                  rfl
              rw [hn] at d3
              rw [hdj, hn, show j + 1 + ds.length - j = ds.length + 1 by omega, List.take_succ_cons, d3]
              exact intText_neg (x := S (45 :: ds)) rfl adg h0 (by rw [S_len]; simp; omega)
          have h640 : (S ((l.drop j).take (q + ds.length - j))).length ≤ 640 := by
            rw [S_len, List.length_take]
            split at hn <;> omega
          have e8 : iCall (a1 fIntS) (iCons (iSl fSl (iVar 0) (iPart (iVar 1)) (iPart (iVar 4))) iNil) E st = some (.int (if neg = true then -((NumText.digitsVal ds : Nat) : Int) else ((NumText.digitsVal ds : Nat) : Int)), st) := by
            simp only [iCall_e, iCons_e, iNil_e, esl, ob_s, a1_e, fIntS_s, h640, if_true, hint, Option.map_some]
          have e10 : iBin fAdd (iVar 4) (iC (.int 1)) E st = some (.int (b + 1), st) := by rw [hE]; simp
          simp only [iRet_e, iTup_e, iCons_e, iNil_e, e8, e10, ob_s, numP, hpos]
          rfl
      · refine none_ ?_ (by rw [nA, if_pos (.inr (.inl h1))])
        rw [mk, decide_eq_false h1]
        rfl
theorem e_lnum {minus : Bool} {e : Nat} (T : Tx l) (he : e < 1114112) (hed : isDig e = false) (hp : p = (i : Int)) (hi : i ≤ l.length) : FF (n + 1) I__law_number [strP l, .int p, strP [e], .bl minus] st = some (numP l (numR minus e (l.drop i)), st) := by
  rw [e__law_number]
  refine def_pure0 rfl ?_ (by unfold numP; split <;> simp [nr, nrs])
  show b__law_number _ _ [some (strP l), some (.int p), some (strP [e]), some (.bl minus), none, none, none] st = _
  rw [b_lnum_e, asg_seq (x := .int p) (s2 := st) rfl]
  show iSeq _ _ [some (strP l), some (.int p), some (strP [e]), some (.bl minus), some (.int p), none, none] st = _
  have hs := sl1 (st := st) (env := [some (strP l), some (.int p), some (strP [e]), some (.bl minus), some (.int p), none, none]) (ia := iVar 0) (ib := iVar 4) (ic := iBin fAdd (iVar 4) (iC (.int 1))) (p := p) (i := i) T rfl rfl (by simp) hp
  have hq := eqc_e c_2d (by decide) (T.ok.drop i) hs
  have hc : iAnd (iTest (iVar 3)) (iTestB (iBin fEqB (iSl fSl (iVar 0) (iPart (iVar 4)) (iPart (iBin fAdd (iVar 4) (iC (.int 1))))) (iC (.str S_x2d)))) [some (strP l), some (.int p), some (strP [e]), some (.bl minus), some (.int p), none, none] st = some (minus && decide ((l.drop i).head? = some 45), st) := by
    have e3 : iTest (iVar 3) [some (strP l), some (.int p), some (strP [e]), some (.bl minus), some (.int p), none, none] st = some (minus, st) := by simp
    rw [iAnd_e, e3]
    cases minus with
    | false => rfl
    | true => simp only [ob_s, if_true, iTestB_e, hq, isBl_e, Option.map_some, Bool.true_and]
  unfold numR
  by_cases hm : minus = true ∧ (l.drop i).head? = some 45
  · have hlt : i < l.length := by
      rcases Nat.lt_or_ge i l.length with h1 | h1
      · exact h1
      · have := hm.2
        rw [List.drop_eq_nil_of_le h1] at this
        cases this
    rw [if_pos hm, tail_of]
    rw [decide_eq_true hm.2, hm.1, Bool.and_self, ← hm.1] at hc
    have hst : iIfS (iAnd (iTest (iVar 3)) (iTestB (iBin fEqB (iSl fSl (iVar 0) (iPart (iVar 4)) (iPart (iBin fAdd (iVar 4) (iC (.int 1))))) (iC (.str S_x2d))))) (iAsg (gN 4) (iBin fAdd (iVar 4) (iC (.int 1)))) iSkip [some (strP l), some (.int p), some (strP [e]), some (.bl minus), some (.int p), none, none] st = some (.nx [some (strP l), some (.int p), some (strP [e]), some (.bl minus), some (.int (p + 1)), none, none] st) := by
      rw [iIfS_e, hc, hm.1]
      simp
    rw [nx_seq hst]
    exact mT_e (neg := true) T he hed hp (by omega) (by omega) (by simp) (fun _ => hm.2)
  · have hc2 : (minus && decide ((l.drop i).head? = some 45)) = false := by
      cases minus with
      | false => rfl
      | true => rw [decide_eq_false fun z => hm ⟨rfl, z⟩]; rfl
    rw [if_neg hm]
    rw [hc2] at hc
    rw [if_no hc]
    exact mT_e (neg := false) T he hed hp hp hi (by simp) (fun h => by cases h)
end
end J51

/-! plain forms, as the program reads them -/
namespace J51
open PySem PySem.Spec PyProof.Rows L2 IL SX
def textO (s : List Nat) : Ro D := match numR false 58 s with
  | some (v, r) => if v ≤ (r.length : Int) then .ok (.text (r.take v.toNat)) (r.drop v.toNat) else .er s
  | none => .er s
def plain (s : List Nat) : Ro D :=
  if s.head? = some 122 then .ok .non s.tail
  else if s.head? = some 121 then .ok (.bl true) s.tail
  else if s.head? = some 110 then .ok (.bl false) s.tail
  else if s.head? = some 105 then (match numR true 59 s.tail with
    | some (v, r) => .ok (.int v) r
    | none => .er s.tail)
  else if s.head? = some 116 then textO s.tail
  else .er s
theorem numA_nn {e : Nat} {s r : List Nat} {v : Int} (h : numA false e s = some (v, r)) : 0 ≤ v := by
  unfold numA at h
  split at h
  · cases h
  · simp only [Bool.false_eq_true, if_false] at h
    cases h
    omega
theorem numA_suf {b : Bool} {e : Nat} {s r : List Nat} {v : Int} (h : numA b e s = some (v, r)) : r <:+ s ∧ r.length < s.length := by
  unfold numA at h
  split at h
  · cases h
  · rename_i h1
    cases h
    have hne : digs 16 s ≠ [] := fun z => h1 (.inl z)
    have := List.length_pos_iff.mpr hne
    have d := digs_len 16 s
    refine ⟨(List.tail_suffix _).trans (List.drop_suffix _ _), ?_⟩
    rw [List.length_tail, List.length_drop]
    omega
theorem numR_suf {b : Bool} {e : Nat} {s r : List Nat} {v : Int} (h : numR b e s = some (v, r)) : r <:+ s ∧ r.length < s.length := by
  unfold numR at h
  split at h
  · obtain ⟨h1, h2⟩ := numA_suf h
    refine ⟨h1.trans (List.tail_suffix _), ?_⟩
    rw [List.length_tail] at h2
    omega
  · exact numA_suf h
theorem numR_nn {e : Nat} {s r : List Nat} {v : Int} (h : numR false e s = some (v, r)) : 0 ≤ v := by
  unfold numR at h
  rw [if_neg (by rintro ⟨h, _⟩; cases h)] at h
  exact numA_nn h
section
variable {n : Nat} {st : Sto} {l s r : List Nat} {i : Nat} {p : Int} {c : Nat}
theorem hd_beq {b : Str} (hb : b = S [c]) : (S (s.take 1) == b) = decide (s.head? = some c) := by
  rw [hb, S_beq_eq]
  cases s with
  | nil => simp
  | cons d r => simp
theorem look_w (s : List Nat) : tab_WORDS.lookup (S (s.take 1)) = if s.head? = some 122 then some .non else if s.head? = some 121 then some (.bl true) else if s.head? = some 110 then some (.bl false) else none := by
  have h1 := hd_beq (s := s) c_z
  have h2 := hd_beq (s := s) c_y
  have h3 := hd_beq (s := s) c_n
  unfold tab_WORDS
  rw [List.lookup_cons, h1]
  by_cases a : s.head? = some 122
  · simp [a]
  · simp only [a, decide_false, if_false]
    rw [List.lookup_cons, h2]
    by_cases b : s.head? = some 121
    · simp [b]
    · simp only [b, decide_false, if_false]
      rw [List.lookup_cons, h3]
      by_cases c : s.head? = some 110
      · simp [c]
      · simp [c]
theorem suf_at (h : r <:+ l) : ∃ j : Nat, pos l r = (j : Int) ∧ j ≤ l.length ∧ l.drop j = r := by
  obtain ⟨t, ht⟩ := h
  refine ⟨t.length, ?_, ?_, ?_⟩
  · unfold pos
    rw [← ht, List.length_append]
    omega
  · rw [← ht, List.length_append]
    omega
  · rw [← ht, List.drop_left]
theorem head_lt (h : (l.drop i).head? = some c) : i < l.length := by
  rcases Nat.lt_or_ge i l.length with h1 | h1
  · exact h1
  · rw [List.drop_eq_nil_of_le h1] at h
    cases h
noncomputable def pC1 : IT := (iTestB (iUn (fInTab tab_WORDS false) (iVar 2)))
noncomputable def pR1 : IS := (iRet (iTup (iCons (iUn (fTab tab_WORDS) (iVar 2)) (iCons (iBin fAdd (iVar 1) (iC (.int 1))) iNil))))
noncomputable def pR2 (G : Nat → FX) : IS := (iRetX (iCallX (G I__read_number) (iCons (iVar 0) (iCons (iBin fAdd (iVar 1) (iC (.int 1))) (iCons (iC (.str S_x3b)) (iCons (iC (.bl true)) iNil))))))
noncomputable def pC4 : IT := (iTestB (iBin fGt (iBin fAdd (iVar 4) (iVar 3)) (iCall (a1 fLenB) (iCons (iVar 0) iNil))))
noncomputable def pR3 (G : Nat → FX) : IS := (iSeq (iAsgX (gT 2 (gCs (gN 3) (gCs (gN 4) gNs))) (iCallX (G I__read_number) (iCons (iVar 0) (iCons (iBin fAdd (iVar 1) (iC (.int 1))) (iCons (iC (.str S_x3a)) (iCons (iC (.bl false)) iNil)))))) (iSeq (iIfS pC4 (iRaise S_FormError S_at okPI (iBin fAdd (iVar 1) (iC (.int 1)))) iSkip) (iRet (iTup (iCons (iSl fSl (iVar 0) (iPart (iVar 4)) (iPart (iBin fAdd (iVar 4) (iVar 3)))) (iCons (iBin fAdd (iVar 4) (iVar 3)) iNil))))))
theorem b_plain_e (F : Nat → FA) (G : Nat → FX) : b__read_plain F G = iSeq (iAsg (gN 2) (iSl fSl (iVar 0) (iPart (iVar 1)) (iPart (iBin fAdd (iVar 1) (iC (.int 1)))))) (iSeq (iIfS pC1 pR1 iSkip) (iSeq (iIfS (iTestB (iBin fEqB (iVar 2) (iC (.str S_i)))) (pR2 G) iSkip) (iSeq (iIfS (iTestB (iBin fEqB (iVar 2) (iC (.str S_t)))) (pR3 G) iSkip) (iRaise S_FormError S_at okPI (iVar 1))))) := rfl
theorem if_er {t : IT} {q q2 rest : IS} {env e2 : PEnv} {s1 s2 : Sto} {c : Str} {fs : List (Str × PV)} (h : t env st = some (true, s1)) (h2 : q env s1 = some (.er e2 c fs s2)) : iSeq (iIfS t q q2) rest env st = some (.er e2 c fs s2) := by
  have e : iIfS t q q2 env st = some (.er e2 c fs s2) := by
    rw [iIfS_e, h]
    exact h2
  rw [iSeq_e, e]
abbrev fD (l : List Nat) : D → List Nat → PV := fun d r => .tup [pd d, .int (pos l r)]
theorem e_rplain (T : Tx l) (hp : p = (i : Int)) (hi : i ≤ l.length) : Rd l st (fD l) (plain (l.drop i)) (GG (n + 2) I__read_plain [strP l, .int p] st) := by
  rw [e__read_plain]
  refine WR.to rfl ?_ fun d r => by simp [nr, nrs, nr_pd]
  show WR l st _ _ (b__read_plain _ _ [some (strP l), some (.int p), none, none, none] st)
  have hlen := T.len
  have hs := sl1 (st := st) (env := [some (strP l), some (.int p), none, none, none]) (ia := iVar 0) (ib := iVar 1) (ic := iBin fAdd (iVar 1) (iC (.int 1))) (p := p) (i := i) T rfl rfl (by simp) hp
  rw [b_plain_e, asg_seq hs]
  show WR l st _ _ (iSeq _ _ [some (strP l), some (.int p), some (strP ((l.drop i).take 1)), none, none] st)
  obtain ⟨s, hsd⟩ : ∃ s, s = l.drop i := ⟨_, rfl⟩
  rw [← hsd]
  have lw := look_w s
  have o2 : okL s := by rw [hsd]; exact T.ok.drop i
  have okp : okPI (.int p) = true := by rw [okPI_i]; exact small_ok hp (by omega)
  have ht1 : s.head? ≠ none → i < l.length := fun h => by
    cases hh : s.head? with
    | none => exact (h hh).elim
    | some c => rw [hsd] at hh; exact head_lt hh
  have htl : s.tail = l.drop (i + 1) := by rw [hsd, tail_of]
  obtain ⟨E, hE⟩ : ∃ E : PEnv, E = [some (strP l), some (.int p), some (strP (s.take 1)), none, none] := ⟨_, rfl⟩
  rw [← hE]
  have t1 : pC1 E st = some ((tab_WORDS.lookup (S (s.take 1))).isSome, st) := by
    unfold pC1
    rw [hE]
    simp only [iTestB_e, iUn_e, iVar_e, ob_s, List.getElem?_cons_zero, List.getElem?_cons_succ, fInTab_s, Bool.false_xor, isBl_e, Option.map_some]
  have r1 : ∀ x, tab_WORDS.lookup (S (s.take 1)) = some x → pR1 E st = some (.rt (.tup [x, .int (p + 1)]) st) := fun x hx => by
    unfold pR1
    rw [hE]
    simp [hx]
  have e2 : iTestB (iBin fEqB (iVar 2) (iC (.str S_i))) E st = some (decide (s.head? = some 105), st) := by
    have := eqc_e (st := st) (env := E) (ie := iVar 2) c_i (by decide) o2 (by rw [hE]; rfl)
    rw [iTestB_e, this]
    rfl
  have e3 : iTestB (iBin fEqB (iVar 2) (iC (.str S_t))) E st = some (decide (s.head? = some 116), st) := by
    have := eqc_e (st := st) (env := E) (ie := iVar 2) c_t (by decide) o2 (by rw [hE]; rfl)
    rw [iTestB_e, this]
    rfl
  have word : ∀ x d, tab_WORDS.lookup (S (s.take 1)) = some x → pd d = x → s.head? ≠ none → ∀ rest : IS, WR l st (fD l) (.ok d s.tail) (iSeq (iIfS pC1 pR1 iSkip) rest E st) := fun x d hx hd hh rest => by
    have hlt := ht1 hh
    rw [hx] at t1
    refine ⟨[], ?_⟩
    rw [if_rt t1 (r1 x hx), htl]
    show some (Fl.rt (.tup [x, .int (p + 1)]) st) = some (Fl.rt (.tup [pd d, .int (pos l (l.drop (i + 1)))]) (st ++ []))
    rw [pos_drop (by omega), hd, List.append_nil, show p + 1 = ((i + 1 : Nat) : Int) by omega]
  unfold plain
  by_cases h1 : s.head? = some 122
  · rw [if_pos h1]
    rw [if_pos h1] at lw
    exact word _ _ lw rfl (by rw [h1]; simp) _
  rw [if_neg h1] at lw ⊢
  by_cases h2 : s.head? = some 121
  · rw [if_pos h2]
    rw [if_pos h2] at lw
    exact word _ _ lw rfl (by rw [h2]; simp) _
  rw [if_neg h2] at lw ⊢
  by_cases h3 : s.head? = some 110
  · rw [if_pos h3]
    rw [if_pos h3] at lw
    exact word _ _ lw rfl (by rw [h3]; simp) _
  rw [if_neg h3] at lw ⊢
  rw [lw] at t1
  rw [if_no t1]
  have ea : iBin fAdd (iVar 1) (iC (.int 1)) E st = some (.int (p + 1), st) := by rw [hE]; simp
  have ev : iVar 0 E st = some (strP l, st) := by rw [hE]; rfl
  by_cases h4 : s.head? = some 105
  · have hlt := ht1 (by rw [h4]; simp)
    rw [decide_eq_true h4] at e2
    rw [if_pos h4]
    have hn := e_num (n := n) (st := st) (minus := true) (e := 59) (p := p + 1) (i := i + 1) T (by decide) (by omega) (by omega)
    rw [← htl] at hn
    unfold numO at hn
    have call : iCallX (GG (n + 1) I__read_number) (iCons (iVar 0) (iCons (iBin fAdd (iVar 1) (iC (.int 1))) (iCons (iC (.str S_x3b)) (iCons (iC (.bl true)) iNil)))) E st = GG (n + 1) I__read_number [strP l, .int (p + 1), strP [59], .bl true] st := by
      rw [c_3b]
      simp only [iCallX_e, iCons_e, iNil_e, ev, ea, iC_e, ob_s]
    cases hnr : numR true 59 s.tail with
    | some vr =>
      obtain ⟨v, r⟩ := vr
      rw [hnr] at hn
      have hn : _ = _ := hn
      refine ⟨[], ?_⟩
      have hr : pR2 (GG (n + 1)) E st = some (.rt (.tup [.int v, .int (pos l r)]) st) := by
        unfold pR2
        rw [iRetX_e, call, hn]
        rfl
      rw [if_rt e2 hr, List.append_nil]
      rfl
    | none =>
      rw [hnr] at hn
      obtain ⟨g, hn⟩ := hn
      refine ⟨E, g, ?_⟩
      have hr : pR2 (GG (n + 1)) E st = some (.er E S_FormError [(S_at, .int (pos l s.tail))] (st ++ g)) := by
        unfold pR2
        rw [iRetX_e, call, hn]
        rfl
      rw [if_er e2 hr]
  rw [decide_eq_false h4] at e2
  rw [if_no e2, if_neg h4]
  by_cases h5 : s.head? = some 116
  · have hlt := ht1 (by rw [h5]; simp)
    rw [decide_eq_true h5] at e3
    rw [if_pos h5]
    have hn := e_num (n := n) (st := st) (minus := false) (e := 58) (p := p + 1) (i := i + 1) T (by decide) (by omega) (by omega)
    rw [← htl] at hn
    unfold numO at hn
    have call : iCallX (GG (n + 1) I__read_number) (iCons (iVar 0) (iCons (iBin fAdd (iVar 1) (iC (.int 1))) (iCons (iC (.str S_x3a)) (iCons (iC (.bl false)) iNil)))) E st = GG (n + 1) I__read_number [strP l, .int (p + 1), strP [58], .bl false] st := by
      rw [c_3a]
      simp only [iCallX_e, iCons_e, iNil_e, ev, ea, iC_e, ob_s]
    unfold textO
    cases hnr : numR false 58 s.tail with
    | some vr =>
      obtain ⟨v, r⟩ := vr
      rw [hnr] at hn
      have hn : _ = _ := hn
      obtain ⟨hsu, hsl⟩ := numR_suf hnr
      have hv := numR_nn hnr
      obtain ⟨j, hj1, hj2, hj3⟩ := suf_at (hsu.trans (by rw [htl]; exact List.drop_suffix _ _) : r <:+ l)
      obtain ⟨b, hb⟩ : ∃ b : Int, b = pos l r := ⟨_, rfl⟩
      obtain ⟨E2, hE2⟩ : ∃ E2 : PEnv, E2 = [some (strP l), some (.int p), some (strP (s.take 1)), some (.int v), some (.int b)] := ⟨_, rfl⟩
      have ha : iAsgX (gT 2 (gCs (gN 3) (gCs (gN 4) gNs))) (iCallX (GG (n + 1) I__read_number) (iCons (iVar 0) (iCons (iBin fAdd (iVar 1) (iC (.int 1))) (iCons (iC (.str S_x3a)) (iCons (iC (.bl false)) iNil))))) E st = some (.nx E2 st) := by
        rw [iAsgX_e, call, hn, hE2, hE, hb]
        rfl
      have hlb : fLenB (strP l) st = some (.int (l.length : Int), st) := by rw [fLenB_s, S_len, if_pos (by omega)]
      have c4 : pC4 E2 st = some (decide ((l.length : Int) < b + v), st) := by
        unfold pC4
        rw [hE2]
        simp only [iTestB_e, iBin_e, iCall_e, iCons_e, iNil_e, iVar_e, ob_s, List.getElem?_cons_zero, List.getElem?_cons_succ, a1_e, hlb, fAdd_i, fGt_i, Option.map_some, isBl_e]
      have hrl : r.length = l.length - j := by rw [← hj3, List.length_drop]
      simp only
      by_cases hfit : v ≤ (r.length : Int)
      · rw [if_pos hfit]
        refine ⟨[], ?_⟩
        rw [decide_eq_false (by omega)] at c4
        have hsl2 : iSl fSl (iVar 0) (iPart (iVar 4)) (iPart (iBin fAdd (iVar 4) (iVar 3))) E2 st = some (strP (r.take v.toNat), st) := by
          have h := fSl_SX (st := st) (l := l) (lo := j) (hi := j + v.toNat) (by omega)
          rw [hj3, show j + v.toNat - j = v.toNat by omega, ← hj1, ← hb, show ((j + v.toNat : Nat) : Int) = b + v by omega] at h
          rw [hE2]
          simp only [iSl_e, iVar_e, ob_s, iPart_e, iBin_e, fAdd_i, List.getElem?_cons_zero, List.getElem?_cons_succ, Option.map_some, h]
        have hadd : iBin fAdd (iVar 4) (iVar 3) E2 st = some (.int (b + v), st) := by rw [hE2]; simp
        have hr : pR3 (GG (n + 1)) E st = some (.rt (.tup [strP (r.take v.toNat), .int (b + v)]) st) := by
          unfold pR3
          rw [nx_seq ha, if_no c4]
          simp only [iRet_e, iTup_e, iCons_e, iNil_e, hsl2, hadd, ob_s]
          rfl
        rw [if_rt e3 hr, List.append_nil]
        have hpd : pos l (r.drop v.toNat) = b + v := by
          unfold pos
          rw [List.length_drop]
          omega
        show _ = some (Fl.rt (.tup [pd (.text (r.take v.toNat)), .int (pos l (r.drop v.toNat))]) st)
        rw [hpd]
        rfl
      · rw [if_neg hfit]
        rw [decide_eq_true (by omega)] at c4
        refine ⟨E2, [], ?_⟩
        have okp2 : okPI (.int (p + 1)) = true := by rw [okPI_i]; exact small_ok (i := i + 1) (by omega) (by omega)
        have ea2 : iBin fAdd (iVar 1) (iC (.int 1)) E2 st = some (.int (p + 1), st) := by rw [hE2]; simp
        have hrs : iRaise S_FormError S_at okPI (iBin fAdd (iVar 1) (iC (.int 1))) E2 st = some (.er E2 S_FormError [(S_at, .int (p + 1))] st) := by
          simp only [iRaise_e, ea2, ob_s, okp2, if_true]
        have hr : pR3 (GG (n + 1)) E st = some (.er E2 S_FormError [(S_at, .int (p + 1))] st) := by
          unfold pR3
          rw [nx_seq ha, if_er c4 hrs]
        rw [if_er e3 hr, htl, pos_drop (by omega), List.append_nil, show p + 1 = ((i + 1 : Nat) : Int) by omega]
    | none =>
      rw [hnr] at hn
      obtain ⟨g, hn⟩ := hn
      refine ⟨E, g, ?_⟩
      have ha : iAsgX (gT 2 (gCs (gN 3) (gCs (gN 4) gNs))) (iCallX (GG (n + 1) I__read_number) (iCons (iVar 0) (iCons (iBin fAdd (iVar 1) (iC (.int 1))) (iCons (iC (.str S_x3a)) (iCons (iC (.bl false)) iNil))))) E st = some (.er E S_FormError [(S_at, .int (pos l s.tail))] (st ++ g)) := by
        rw [iAsgX_e, call, hn]
        rfl
      have hr : pR3 (GG (n + 1)) E st = some (.er E S_FormError [(S_at, .int (pos l s.tail))] (st ++ g)) := by
        unfold pR3
        rw [iSeq_e, ha]
      rw [if_er e3 hr]
  rw [decide_eq_false h5] at e3
  rw [if_no e3, if_neg h5]
  refine ⟨E, [], ?_⟩
  have e1 : iVar 1 E st = some (.int p, st) := by rw [hE]; rfl
  rw [hsd, pos_drop hi, ← hp]
  simp only [iRaise_e, e1, ob_s, okp, if_true, List.append_nil]
end
end J51

/-! forms that are read: a plain function, by depth -/
namespace J51
open PySem PySem.Spec PyProof.Rows L2 IL SX
def mkD (e : Nat) (acc : List D) : D := if e = 41 then .tup acc else .lst acc
def its (f : List Nat → Ro D) (e : Nat) : Nat → List D → List Nat → Ro D
  | 0, _, s => .er s
  | c + 1, acc, s => if s.head? = some e then .ok (mkD e acc) s.tail else match f s with
    | .er r => .er r
    | .ok d r => its f e c (acc ++ [d]) r
def rd : Nat → List Nat → Ro D
  | 0, s => plain s
  | k + 1, s => if s.head? = some 40 then its (rd k) 41 (s.length + 1) [] s.tail else if s.head? = some 91 then its (rd k) 93 (s.length + 1) [] s.tail else plain s
/-- what is read is there, and at least a sign -/
def Eats (f : List Nat → Ro D) : Prop := ∀ s d r, f s = .ok d r → r <:+ s ∧ r.length < s.length
theorem tail_lt {s : List Nat} {c : Nat} (h : s.head? = some c) : s.tail.length < s.length := by
  cases s with
  | nil => cases h
  | cons d r => simp
theorem textO_eats {s r : List Nat} {d : D} (h : textO s = .ok d r) : r <:+ s ∧ r.length < s.length := by
  unfold textO at h
  split at h
  · rename_i v r0 hn
    obtain ⟨h1, h2⟩ := numR_suf hn
    split at h
    · cases h
      refine ⟨(List.drop_suffix _ _).trans h1, ?_⟩
      rw [List.length_drop]
      omega
    · cases h
  · cases h
theorem plain_eats : Eats plain := by
  intro s d r h
  unfold plain at h
  split at h
  · rename_i h1; cases h; exact ⟨List.tail_suffix _, tail_lt h1⟩
  split at h
  · rename_i h1; cases h; exact ⟨List.tail_suffix _, tail_lt h1⟩
  split at h
  · rename_i h1; cases h; exact ⟨List.tail_suffix _, tail_lt h1⟩
  split at h
  · rename_i h1
    have := tail_lt h1
    split at h
    · rename_i v r0 hn
      cases h
      obtain ⟨h2, h3⟩ := numR_suf hn
      exact ⟨h2.trans (List.tail_suffix _), by omega⟩
    · cases h
  split at h
  · rename_i h1
    have := tail_lt h1
    obtain ⟨h2, h3⟩ := textO_eats h
    exact ⟨h2.trans (List.tail_suffix _), by omega⟩
  · cases h
theorem its_eats {f : List Nat → Ro D} (hf : Eats f) {e : Nat} : ∀ (c : Nat) (acc : List D) (s r : List Nat) (d : D), its f e c acc s = .ok d r → r <:+ s ∧ r.length < s.length
  | 0, acc, s, r, d, h => by cases h
  | c + 1, acc, s, r, d, h => by
    unfold its at h
    split at h
    · rename_i h1
      cases h
      exact ⟨List.tail_suffix _, tail_lt h1⟩
    · split at h
      · cases h
      · rename_i d2 r2 h2
        obtain ⟨h3, h4⟩ := hf s d2 r2 h2
        obtain ⟨h5, h6⟩ := its_eats hf c _ _ _ _ h
        exact ⟨h5.trans h3, by omega⟩
theorem rd_eats : ∀ k : Nat, Eats (rd k)
  | 0 => plain_eats
  | k + 1 => by
    intro s d r h
    unfold rd at h
    split at h
    · rename_i h1
      obtain ⟨h2, h3⟩ := its_eats (rd_eats k) _ _ _ _ _ h
      have := tail_lt h1
      exact ⟨h2.trans (List.tail_suffix _), by omega⟩
    · split at h
      · rename_i h1
        obtain ⟨h2, h3⟩ := its_eats (rd_eats k) _ _ _ _ _ h
        have := tail_lt h1
        exact ⟨h2.trans (List.tail_suffix _), by omega⟩
      · exact plain_eats s d r h
/-- enough turns are enough -/
theorem its_cnt {f : List Nat → Ro D} (hf : Eats f) {e : Nat} : ∀ (c c' : Nat) (acc : List D) (s : List Nat), s.length < c → s.length < c' → its f e c acc s = its f e c' acc s
  | 0, c', acc, s, h, _ => by omega
  | c + 1, 0, acc, s, _, h => by omega
  | c + 1, c' + 1, acc, s, h, h' => by
    unfold its
    split
    · rfl
    · cases hfs : f s with
      | er r => rfl
      | ok d r =>
        obtain ⟨h1, h2⟩ := hf s d r hfs
        simp only
        exact its_cnt hf c c' _ r (by omega) (by omega)
/-- brackets that open, but for those with an x behind -/
def op : List Nat → Nat
  | [] => 0
  | c :: r => (if (c = 40 ∨ c = 91) ∧ r.head? ≠ some 120 then 1 else 0) + op r
theorem op_suf {r s : List Nat} (h : r <:+ s) : op r ≤ op s := by
  obtain ⟨t, rfl⟩ := h
  induction t with
  | nil => exact Nat.le_refl _
  | cons c t ih =>
    simp only [List.cons_append, op]
    omega
/-- deep enough -/
def Dk (k : Nat) (s : List Nat) : Prop := op s + 1 ≤ k ∨ s.head? = some 120
theorem Dk.open {k : Nat} {s : List Nat} {c : Nat} (h : Dk (k + 1) s) (hc : c = 40 ∨ c = 91) (hs : s.head? = some c) : Dk k s.tail := by
  cases s with
  | nil => cases hs
  | cons d r =>
    cases hs
    rcases h with h | h
    · by_cases hx : r.head? = some 120
      · exact .inr hx
      · left
        simp only [op, if_pos (show (c = 40 ∨ c = 91) ∧ r.head? ≠ some 120 from ⟨hc, hx⟩)] at h
        show op r + 1 ≤ k
        omega
    · cases h
      rcases hc with h | h <;> cases h
theorem plain_x {s : List Nat} (h : s.head? = some 120) : plain s = .er s := by
  unfold plain
  rw [h]
  simp
theorem rd_x {k : Nat} {s : List Nat} (h : s.head? = some 120) : rd k s = .er s := by
  cases k with
  | zero => exact plain_x h
  | succ k =>
    unfold rd
    rw [if_neg (by rw [h]; simp), if_neg (by rw [h]; simp)]
    exact plain_x h
theorem Dk.next {k : Nat} {s r : List Nat} {d : D} (h : Dk k s) (hr : rd k s = .ok d r) : Dk k r := by
  rcases h with h | h
  · have := op_suf (rd_eats k s d r hr).1
    exact .inl (by omega)
  · rw [rd_x h] at hr
    cases hr
theorem Dk.suf {k : Nat} {s r : List Nat} (h : op s + 1 ≤ k) (hr : r <:+ s) : Dk k r := by
  have := op_suf hr
  exact .inl (by omega)
/-! ### what is written is read back -/
theorem digs_all_of : ∀ (k : Nat) (ds x : List Nat), (∀ c ∈ ds, 48 ≤ c ∧ c ≤ 57) → ds.length ≤ k → (∀ c, x.head? = some c → isDig c = false) → digs k (ds ++ x) = ds
  | 0, ds, x, _, h, _ => by
    have : ds = [] := List.length_eq_zero_iff.mp (by omega)
    rw [this]
    rfl
  | k + 1, [], x, _, _, hx => by
    cases x with
    | nil => rfl
    | cons c r =>
      have := hx c rfl
      simp [digs, this]
  | k + 1, d :: ds, x, hd, hl, hx => by
    have h1 := hd d (List.mem_cons_self ..)
    have h2 : isDig d = true := by simp [isDig]; omega
    have ih := digs_all_of k ds x (fun c hc => hd c (List.mem_cons_of_mem _ hc)) (by simp at hl; omega) hx
    show (if isDig d then d :: digs k (ds ++ x) else []) = _
    rw [h2, if_pos rfl, ih]
theorem numL_dig (n : Nat) : ∀ c ∈ TL.numL n, 48 ≤ c ∧ c ≤ 57 := fun c hc => by
  have h1 : ¬ (c < 48 ∨ 57 < c) := fun z => TL.numL_free (n := n) z hc
  omega
theorem numL_48 (n : Nat) (h : (TL.numL n).head? = some 48) : n = 0 := by
  induction n using Nat.strongRecOn with
  | ind n ih =>
    rcases Nat.lt_or_ge n 10 with h10 | h10
    · rw [TL.numL_lt h10] at h
      cases h' : 48 + n with
      | zero => omega
      | succ m =>
        have : 48 + n = 48 := by simpa using h
        omega
    · rw [TL.numL_step h10] at h
      have hne := TL.numL_ne (n / 10)
      have : (TL.numL (n / 10)).head? = some 48 := by
        cases hc : TL.numL (n / 10) with
        | nil => exact (hne hc).elim
        | cons c r => rw [hc] at h; simpa using h
      have := ih (n / 10) (by omega) this
      omega
theorem numA_back {n e : Nat} {neg : Bool} {x : List Nat} (hn : n < 10000000000000000) (he : isDig e = false) (hneg : neg = true → n ≠ 0) : numA neg e (TL.numL n ++ e :: x) = some (if neg then -((n : Nat) : Int) else ((n : Nat) : Int), x) := by
  have hl : (TL.numL n).length ≤ 16 := TL.numL_len (by decide) hn
  have hd := digs_all_of 16 (TL.numL n) (e :: x) (numL_dig n) hl (fun c hc => by cases hc; exact he)
  unfold numA
  rw [hd, List.drop_left]
  rw [if_neg]
  · rw [TL.numL_val]
    rfl
  · rintro (h | h | ⟨h1, h2⟩)
    · exact TL.numL_ne n h
    · exact h rfl
    · have h0 := numL_48 n h1
      rcases h2 with h2 | h2
      · exact hneg h2 h0
      · rw [h0] at h2
        exact h2 (TL.numL_lt (by decide))
theorem numL_45 (n : Nat) (x : List Nat) : (TL.numL n ++ x).head? ≠ some 45 := fun h => by
  have hne := TL.numL_ne n
  cases hc : TL.numL n with
  | nil => exact hne hc
  | cons c r =>
    rw [hc] at h
    have h1 := numL_dig n c (by rw [hc]; exact List.mem_cons_self ..)
    have : c = 45 := by simpa using h
    omega
theorem numR_back {i : Int} {e : Nat} {x : List Nat} (hi : i.natAbs < 10000000000000000) (he : isDig e = false) : numR true e (shI i ++ e :: x) = some (i, x) := by
  unfold numR shI
  by_cases h : i < 0
  · rw [if_pos h, if_pos ⟨rfl, rfl⟩]
    show numA true e (TL.numL i.natAbs ++ e :: x) = _
    rw [numA_back hi he (fun _ => by omega)]
    simp only [if_true]
    congr 2
    omega
  · rw [if_neg h, if_neg (by rintro ⟨_, h⟩; exact numL_45 _ _ h), numA_back hi he (fun h => by cases h)]
    simp only [Bool.false_eq_true, if_false]
    congr 2
    omega
theorem numR_backN {n e : Nat} {x : List Nat} (hn : n < 10000000000000000) (he : isDig e = false) : numR false e (TL.numL n ++ e :: x) = some ((n : Int), x) := by
  unfold numR
  rw [if_neg (by rintro ⟨h, _⟩; cases h), numA_back hn he (fun h => by cases h)]
  rfl
theorem enc_hd (d : D) : ∃ c r, enc d = c :: r ∧ c ≠ 41 ∧ c ≠ 93 := by
  cases d with
  | bl b => cases b <;> exact ⟨_, _, rfl, by decide, by decide⟩
  | _ => exact ⟨_, _, rfl, by decide, by decide⟩
theorem its_back {m e : Nat} (he : e = 41 ∨ e = 93) : ∀ (l : List D) (c : Nat) (acc : List D) (x : List Nat), (∀ d ∈ l, ∀ x, rd m (enc d ++ x) = .ok d x) → l.length < c → its (rd m) e c acc (encs l ++ e :: x) = .ok (mkD e (acc ++ l)) x
  | [], c, acc, x, _, hc => by
    cases c with
    | zero => omega
    | succ c =>
      unfold its
      rw [List.append_nil, if_pos (show (encs [] ++ e :: x).head? = some e from rfl)]
      rfl
  | d :: l, c, acc, x, h, hc => by
    cases c with
    | zero => omega
    | succ c =>
      have h1 := h d (List.mem_cons_self ..) (encs l ++ e :: x)
      obtain ⟨c0, r0, h2, h3, h4⟩ := enc_hd d
      have ih := its_back he l c (acc ++ [d]) x (fun d hd => h d (List.mem_cons_of_mem _ hd)) (by simp at hc; omega)
      unfold its
      have e0 : encs (d :: l) ++ e :: x = enc d ++ (encs l ++ e :: x) := by simp [encs]
      rw [e0, if_neg, h1]
      · simp only
        rw [ih]
        simp
      · rw [h2]
        intro z
        have : c0 = e := by simpa using z
        rcases he with he | he
        · exact h3 (by omega)
        · exact h4 (by omega)
theorem rd_back : ∀ (m : Nat) (d : D) (x : List Nat), dd d ≤ m → gD d → rd m (enc d ++ x) = .ok d x := by
  have flat : ∀ (m : Nat) (s : List Nat), s.head? ≠ some 40 → s.head? ≠ some 91 → rd m s = plain s := fun m s h1 h2 => by
    cases m with
    | zero => rfl
    | succ m => unfold rd; rw [if_neg h1, if_neg h2]
  have leafs : ∀ (m : Nat) (d : D) (x : List Nat), (∀ l, d ≠ .tup l) → (∀ l, d ≠ .lst l) → gD d → rd m (enc d ++ x) = .ok d x := by
    intro m d x h1 h2 hg
    cases d with
    | non => rw [flat _ _ (by simp [enc]) (by simp [enc])]; rfl
    | bl b => cases b <;> (rw [flat _ _ (by simp [enc]) (by simp [enc])]; rfl)
    | int i =>
      rw [flat _ _ (by simp [enc]) (by simp [enc])]
      have hn := numR_back (i := i) (e := 59) (x := x) hg (by decide)
      unfold plain
      simp only [enc, List.cons_append, List.head?_cons, List.tail_cons, List.append_assoc]
      rw [if_neg (by decide), if_neg (by decide), if_neg (by decide), if_pos trivial]
      show (match numR true 59 (shI i ++ 59 :: x) with
        | some (v, r) => Ro.ok (D.int v) r
        | none => _) = _
      rw [hn]
    | text t =>
      rw [flat _ _ (by simp [enc]) (by simp [enc])]
      have hn := numR_backN (n := t.length) (e := 58) (x := t ++ x) (by have := hg.1; omega) (by decide)
      unfold plain textO
      simp only [enc, List.cons_append, List.head?_cons, List.tail_cons, List.append_assoc]
      rw [if_neg (by decide), if_neg (by decide), if_neg (by decide), if_neg (by decide), if_pos trivial, hn]
      simp only
      rw [if_pos (by rw [List.length_append]; omega)]
      simp
    | tup l => exact (h1 l rfl).elim
    | lst l => exact (h2 l rfl).elim
  intro m
  induction m with
  | zero =>
    intro d x hd hg
    refine leafs 0 d x (fun l h => ?_) (fun l h => ?_) hg <;> (subst h; simp [dd] at hd)
  | succ m ih =>
    intro d x hd hg
    cases d with
    | tup l =>
      unfold rd
      rw [if_pos (show (enc (D.tup l) ++ x).head? = some 40 by simp [enc])]
      have hb := its_back (m := m) (e := 41) (.inl rfl) l ((enc (.tup l) ++ x).length + 1) [] x (fun d hdl x => ih d x (by have := dds_mem hdl; simp only [dd] at hd; omega) (gDs_mem hg.2 hdl)) (by
        have h1 := hg.1
        have h2 : (enc (D.tup l)).length = (encs l).length + 2 := by simp [enc]
        have h3 : l.length ≤ (encs l).length := by
          rw [encs_flat, ← sum_flat]
          clear ih hd hg h1 h2
          induction l with
          | nil => exact Nat.zero_le _
          | cons d l ih =>
            have := enc_pos d
            simp only [List.map_cons, List.sum_cons, List.length_cons]
            omega
        rw [List.length_append]
        omega)
      have e0 : (enc (D.tup l) ++ x).tail = encs l ++ 41 :: x := by simp [enc]
      rw [e0, hb]
      rfl
    | lst l =>
      unfold rd
      rw [if_neg (by simp [enc]), if_pos (show (enc (D.lst l) ++ x).head? = some 91 by simp [enc])]
      have hb := its_back (m := m) (e := 93) (.inr rfl) l ((enc (.lst l) ++ x).length + 1) [] x (fun d hdl x => ih d x (by have := dds_mem hdl; simp only [dd] at hd; omega) (gDs_mem hg.2 hdl)) (by
        have h1 := hg.1
        have h2 : (enc (D.lst l)).length = (encs l).length + 2 := by simp [enc]
        have h3 : l.length ≤ (encs l).length := by
          rw [encs_flat, ← sum_flat]
          clear ih hd hg h1 h2
          induction l with
          | nil => exact Nat.zero_le _
          | cons d l ih =>
            have := enc_pos d
            simp only [List.map_cons, List.sum_cons, List.length_cons]
            omega
        rw [List.length_append]
        omega)
      have e0 : (enc (D.lst l) ++ x).tail = encs l ++ 93 :: x := by simp [enc]
      rw [e0, hb]
      rfl
    | non => exact leafs _ _ x (fun l h => by cases h) (fun l h => by cases h) hg
    | bl b => exact leafs _ _ x (fun l h => by cases h) (fun l h => by cases h) hg
    | int i => exact leafs _ _ x (fun l h => by cases h) (fun l h => by cases h) hg
    | text t => exact leafs _ _ x (fun l h => by cases h) (fun l h => by cases h) hg
end J51

/-! what the law reads, but for what is nested -/
namespace J51
open PySem PySem.Spec PyProof.Rows L2 IL SX
def resP (l : List Nat) : Ro D → PV
  | .ok d r => .tup [.str S_data, pd d, .int (pos l r)]
  | .er r => .tup [.str S_wrong, .int (pos l r)]
theorem nr_res {l : List Nat} {o : Ro D} : nr (resP l o) = true := by
  cases o <;> simp [resP, nr, nrs, nr_pd]
theorem c_zyn : S_zyn = S [122, 121, 110] := by decide +kernel
theorem c_28x5b : S_x28x5b = S [40, 91] := by decide +kernel
section
variable {n : Nat} {st : Sto} {l s r : List Nat} {i : Nat} {p : Int} {c : Nat}
theorem in_txt {L : List Nat} {b : Str} (hb : b = S L) : fInC (strP [c]) (.str b) st = some (.bl (decide (c ∈ L)), st) := by
  have h := in_one L c
  rw [← hb] at h
  have e : inC st (strP [c]) (.str b) = some (decide (c ∈ L)) := by
    show (match inB st (strP [c]) (.str b) with
      | some b => some b
      | none => inT st (strP [c]) (.str b)) = _
    have h2 : inB st (strP [c]) (.str b) = some (!(Builtin.Str.occurrences b (S [c]) 0 b.length 1).isEmpty) := rfl
    rw [h2, h]
  show (inC st (strP [c]) (.str b)).map (fun b => (PV.bl b, st)) = _
  rw [e]
  rfl
/-- a sign that is one of these -/
def hdIn (L : List Nat) (s : List Nat) : Bool := match s.head? with
  | some c => decide (c ∈ L)
  | none => false
theorem one_of {L : List Nat} {b : Str} {env : PEnv} (hb : b = S L) (ho : okL s) (h2 : env[2]? = some (some (strP (s.take 1)))) :
    iAnd (iTestB (iBin fNeB (iVar 2) (iC (.str S_)))) (iTestB (iBin fInC (iVar 2) (iC (.str b)))) env st = some (hdIn L s, st) := by
  have e1 := eqP_SX (st := st) (a := s.take 1) (b := []) (ho.take 1) (fun c hc => by cases hc)
  rw [← s0] at e1
  have t1 : iTestB (iBin fNeB (iVar 2) (iC (.str S_))) env st = some (!decide (s.take 1 = []), st) := by
    simp only [iTestB_e, iBin_e, iVar_e, h2, iC_e, ob_s, fNeB_e, eqB_str, e1, Option.map_some, isBl_e]
  rw [iAnd_e, t1]
  cases s with
  | nil => rfl
  | cons c r =>
    have t2 : iTestB (iBin fInC (iVar 2) (iC (.str b))) env st = some (decide (c ∈ L), st) := by
      have := in_txt (st := st) (c := c) hb
      simp only [List.take_succ_cons, List.take_zero] at h2
      simp only [iTestB_e, iBin_e, iVar_e, h2, iC_e, ob_s, this, Option.map_some, isBl_e]
    simp only [List.take_succ_cons, List.take_zero, decide_false, Bool.not_false, ob_s, if_true, t2, List.cons_ne_self, reduceCtorEq]
    rfl
noncomputable def lA1 : IT := (iAnd (iTestB (iBin fNeB (iVar 2) (iC (.str S_)))) (iTestB (iBin fInC (iVar 2) (iC (.str S_zyn)))))
noncomputable def lDic : IE := (iNew (iDict (iPCons (iC (.str S_z)) (iC .non) (iPCons (iC (.str S_y)) (iC (.bl true)) (iPCons (iC (.str S_n)) (iC (.bl false)) iPNil)))))
noncomputable def lR1 : IS := (iRet (iTup (iCons (iC (.str S_data)) (iCons (iBin fSubB lDic (iVar 2)) (iCons (iBin fAdd (iVar 1) (iC (.int 1))) iNil)))))
noncomputable def lR2 (F : Nat → FA) : IS := (iSeq (iAsg (gN 3) (iCall (F I__law_number) (iCons (iVar 0) (iCons (iBin fAdd (iVar 1) (iC (.int 1))) (iCons (iC (.str S_x3b)) (iCons (iC (.bl true)) iNil)))))) (iSeq (iIfS (iTestB (iBin fIs (iVar 3) (iC .non))) (iRet (iTup (iCons (iC (.str S_wrong)) (iCons (iBin fAdd (iVar 1) (iC (.int 1))) iNil)))) iSkip) (iRet (iTup (iCons (iC (.str S_data)) (iCons (iBin fSubB (iVar 3) (iC (.int 0))) (iCons (iBin fSubB (iVar 3) (iC (.int 1))) iNil)))))))
noncomputable def lC3 : IT := (iOr (iTestB (iBin fIs (iVar 3) (iC .non))) (iTestB (iBin fGt (iBin fAdd (iBin fSubB (iVar 3) (iC (.int 1))) (iBin fSubB (iVar 3) (iC (.int 0)))) (iCall (a1 fLenB) (iCons (iVar 0) iNil)))))
noncomputable def lR3 (F : Nat → FA) : IS := (iSeq (iAsg (gN 3) (iCall (F I__law_number) (iCons (iVar 0) (iCons (iBin fAdd (iVar 1) (iC (.int 1))) (iCons (iC (.str S_x3a)) (iCons (iC (.bl false)) iNil)))))) (iSeq (iIfS lC3 (iRet (iTup (iCons (iC (.str S_wrong)) (iCons (iBin fAdd (iVar 1) (iC (.int 1))) iNil)))) iSkip) (iRet (iTup (iCons (iC (.str S_data)) (iCons (iSl fSl (iVar 0) (iPart (iBin fSubB (iVar 3) (iC (.int 1)))) (iPart (iBin fAdd (iBin fSubB (iVar 3) (iC (.int 1))) (iBin fSubB (iVar 3) (iC (.int 0)))))) (iCons (iBin fAdd (iBin fSubB (iVar 3) (iC (.int 1))) (iBin fSubB (iVar 3) (iC (.int 0)))) iNil)))))))
noncomputable def lA4 : IT := (iAnd (iTestB (iBin fNeB (iVar 2) (iC (.str S_)))) (iTestB (iBin fInC (iVar 2) (iC (.str S_x28x5b)))))
noncomputable def lR4 (F : Nat → FA) : IS := (iRet (iCall (F I__law_items) (iCons (iVar 0) (iCons (iBin fAdd (iVar 1) (iC (.int 1))) (iCons (iBin fSubB (iNew (iLst (iCons (iC (.str S_x29)) (iCons (iC (.str S_x5d)) iNil)))) (iCall (a1 fIntS) (iCons (iBin fEqB (iVar 2) (iC (.str S_x5b))) iNil))) iNil)))))
noncomputable def lTl (F : Nat → FA) : IS := iSeq (iIfS lA1 lR1 iSkip) (iSeq (iIfS (iTestB (iBin fEqB (iVar 2) (iC (.str S_i)))) (lR2 F) iSkip) (iSeq (iIfS (iTestB (iBin fEqB (iVar 2) (iC (.str S_t)))) (lR3 F) iSkip) (iSeq (iIfS lA4 (lR4 F) iSkip) (iRet (iTup (iCons (iC (.str S_wrong)) (iCons (iVar 1) iNil)))))))
theorem b_lread_e (F : Nat → FA) (G : Nat → FX) : b__law_read F G = iSeq (iAsg (gN 2) (iSl fSl (iVar 0) (iPart (iVar 1)) (iPart (iBin fAdd (iVar 1) (iC (.int 1)))))) (lTl F) := rfl
theorem dic_e {env : PEnv} : lDic env st = some (.fdk [.inr S_z, .inr S_y, .inr S_n] [.non, .bl true, .bl false], st) := by
  have hm : mergeP [] [((.inr S_z : Key), PV.non), (.inr S_y, .bl true), (.inr S_n, .bl false)] = [(.inr S_z, .non), (.inr S_y, .bl true), (.inr S_n, .bl false)] := by simp [mergeP, putP]
  have h : iDict (iPCons (iC (.str S_z)) (iC .non) (iPCons (iC (.str S_y)) (iC (.bl true)) (iPCons (iC (.str S_n)) (iC (.bl false)) iPNil))) env st = some (.ref st.length, st ++ [.dK [(.inr S_z, .non), (.inr S_y, .bl true), (.inr S_n, .bl false)]]) := by
    show (match some [((.inr S_z : Key), PV.non), (.inr S_y, .bl true), (.inr S_n, .bl false)], (st ++ [SO.dK []])[st.length]? with
      | some kvs, some (.dK []) => if kvs.length ≤ 15 then some (PV.ref st.length, (st ++ [SO.dK []]).set st.length (.dK (mergeP [] kvs))) else none
      | _, _ => none) = _
    rw [new_at]
    simp only [hm, set_last]
    rfl
  exact new_d h (by simp [nrs, nr])
theorem dic_sub {d : PV} {k : Str} {env : PEnv} (h2 : env[2]? = some (some (.str k))) (hk : findP [((.inr S_z : Key), PV.non), (.inr S_y, .bl true), (.inr S_n, .bl false)] (.inr k) = some d) : iBin fSubB lDic (iVar 2) env st = some (d, st) := by
  have h : fSubB (.fdk [.inr S_z, .inr S_y, .inr S_n] [.non, .bl true, .bl false]) (.str k) st = some (d, st) := by
    show ((findP [((.inr S_z : Key), PV.non), (.inr S_y, .bl true), (.inr S_n, .bl false)] (.inr k)).map fun v => (v, st)) = _
    rw [hk]
    rfl
  simp only [iBin_e, dic_e, iVar_e, h2, ob_s, h]
/-- what is not nested -/
theorem l_flat {F : Nat → FA} {n : Nat} (hF : F = FF (n + 1)) (T : Tx l) (hp : p = (i : Int)) (hi : i ≤ l.length) (hs : s = l.drop i) (n40 : s.head? ≠ some 40) (n91 : s.head? ≠ some 91) {x3 : Option PV} :
    lTl F [some (strP l), some (.int p), some (strP (s.take 1)), x3] st = some (.rt (resP l (plain s)) st) := by
  subst hF
  have hlen := T.len
  have o2 : okL s := by rw [hs]; exact T.ok.drop i
  obtain ⟨E, hE⟩ : ∃ E : PEnv, E = [some (strP l), some (.int p), some (strP (s.take 1)), x3] := ⟨_, rfl⟩
  have h2 : E[2]? = some (some (strP (s.take 1))) := by rw [hE]; rfl
  have ea : iBin fAdd (iVar 1) (iC (.int 1)) E st = some (.int (p + 1), st) := by rw [hE]; simp
  have ev : iVar 0 E st = some (strP l, st) := by rw [hE]; rfl
  have a1' := one_of (st := st) (env := E) c_zyn o2 h2
  have a4' := one_of (st := st) (env := E) c_28x5b o2 h2
  have e2 : iTestB (iBin fEqB (iVar 2) (iC (.str S_i))) E st = some (decide (s.head? = some 105), st) := by
    have := eqc_e (st := st) (env := E) (ie := iVar 2) c_i (by decide) o2 (by rw [hE]; rfl)
    rw [iTestB_e, this]
    rfl
  have e3 : iTestB (iBin fEqB (iVar 2) (iC (.str S_t))) E st = some (decide (s.head? = some 116), st) := by
    have := eqc_e (st := st) (env := E) (ie := iVar 2) c_t (by decide) o2 (by rw [hE]; rfl)
    rw [iTestB_e, this]
    rfl
  have ht1 : ∀ {c}, s.head? = some c → i < l.length := fun h => by rw [hs] at h; exact head_lt h
  have htl : s.tail = l.drop (i + 1) := by rw [hs, tail_of]
  rw [← hE]
  have word : ∀ (c : Nat) (k : Str) (d : D), s.head? = some c → k = S [c] → decide (c ∈ [122, 121, 110]) = true → findP [((.inr S_z : Key), PV.non), (.inr S_y, .bl true), (.inr S_n, .bl false)] (.inr k) = some (pd d) → lTl (FF (n + 1)) E st = some (.rt (resP l (.ok d s.tail)) st) := fun c k d hc hk hin hf => by
    have hlt := ht1 hc
    have hh : hdIn [122, 121, 110] s = true := by unfold hdIn; rw [hc]; exact hin
    rw [hh] at a1'
    have ht : s.take 1 = [c] := by cases s with
      | nil => cases hc
      | cons d r => cases hc; rfl
    have h2' : E[2]? = some (some (.str k)) := by rw [h2, ht, hk]
    have hd := dic_sub (st := st) (env := E) h2' hf
    have hr : lR1 E st = some (.rt (resP l (.ok d s.tail)) st) := by
      unfold lR1
      simp only [iRet_e, iTup_e, iCons_e, iNil_e, iC_e, hd, ea, ob_s]
      rw [htl]
      show some (Fl.rt (.tup [.str S_data, pd d, .int (p + 1)]) st) = some (Fl.rt (.tup [.str S_data, pd d, .int (pos l (l.drop (i + 1)))]) st)
      rw [pos_drop (by omega), show p + 1 = ((i + 1 : Nat) : Int) by omega]
    exact if_rt a1' hr
  unfold plain
  by_cases h1 : s.head? = some 122
  · rw [if_pos h1]
    exact word 122 S_z .non h1 c_z (by decide) (by simp [findP, pd])
  by_cases h1b : s.head? = some 121
  · rw [if_neg h1, if_pos h1b]
    exact word 121 S_y (.bl true) h1b c_y (by decide) (by simp [findP, pd])
  by_cases h1c : s.head? = some 110
  · rw [if_neg h1, if_neg h1b, if_pos h1c]
    exact word 110 S_n (.bl false) h1c c_n (by decide) (by simp [findP, pd])
  have hh : hdIn [122, 121, 110] s = false := by
    unfold hdIn
    cases hc : s.head? with
    | none => rfl
    | some c =>
      rw [hc] at h1 h1b h1c
      simp at h1 h1b h1c
      simp [h1, h1b, h1c]
  rw [hh] at a1'
  rw [if_neg h1, if_neg h1b, if_neg h1c]
  have hnn : isNone .non = true := rfl
  have pw : ∀ {E2 : PEnv}, E2[1]? = some (some (.int p)) → i < l.length → iRet (iTup (iCons (iC (.str S_wrong)) (iCons (iBin fAdd (iVar 1) (iC (.int 1))) iNil))) E2 st = some (.rt (resP l (.er s.tail)) st) := fun {E2} h hlt => by
    rw [htl]
    simp only [iRet_e, iTup_e, iCons_e, iNil_e, iC_e, iBin_e, iVar_e, h, ob_s, fAdd_i, resP]
    rw [pos_drop (by omega), show p + 1 = ((i + 1 : Nat) : Int) by omega]
    rfl
  by_cases h4 : s.head? = some 105
  · have hlt := ht1 h4
    rw [decide_eq_true h4] at e2
    rw [if_pos h4]
    have hn := e_lnum (n := n) (st := st) (minus := true) (e := 59) (p := p + 1) (i := i + 1) T (by decide) (by decide) (by omega) (by omega)
    rw [← htl] at hn
    have call : iCall (FF (n + 1) I__law_number) (iCons (iVar 0) (iCons (iBin fAdd (iVar 1) (iC (.int 1))) (iCons (iC (.str S_x3b)) (iCons (iC (.bl true)) iNil)))) E st = some (numP l (numR true 59 s.tail), st) := by
      rw [c_3b]
      simp only [iCall_e, iCons_e, iNil_e, ev, ea, iC_e, ob_s, hn]
    unfold lTl
    unfold lA1
    rw [if_no a1']
    refine if_rt e2 ?_
    unfold lR2
    rw [asg_seq call, hE]
    show iSeq _ _ [some (strP l), some (.int p), some (strP (s.take 1)), some (numP l (numR true 59 s.tail))] st = _
    cases hnr : numR true 59 s.tail with
    | some vr =>
      obtain ⟨v, r⟩ := vr
      have t : iTestB (iBin fIs (iVar 3) (iC .non)) [some (strP l), some (.int p), some (strP (s.take 1)), some (numP l (some (v, r)))] st = some (false, st) := by simp [numP]
      rw [if_no t]
      simp [numP, resP, pd]
    | none =>
      have t : iTestB (iBin fIs (iVar 3) (iC .non)) [some (strP l), some (.int p), some (strP (s.take 1)), some (numP l none)] st = some (true, st) := by simp [numP]
      exact if_rt t (pw rfl hlt)
  rw [decide_eq_false h4] at e2
  rw [if_neg h4]
  by_cases h5 : s.head? = some 116
  · have hlt := ht1 h5
    rw [decide_eq_true h5] at e3
    rw [if_pos h5]
    have hn := e_lnum (n := n) (st := st) (minus := false) (e := 58) (p := p + 1) (i := i + 1) T (by decide) (by decide) (by omega) (by omega)
    rw [← htl] at hn
    have call : iCall (FF (n + 1) I__law_number) (iCons (iVar 0) (iCons (iBin fAdd (iVar 1) (iC (.int 1))) (iCons (iC (.str S_x3a)) (iCons (iC (.bl false)) iNil)))) E st = some (numP l (numR false 58 s.tail), st) := by
      rw [c_3a]
      simp only [iCall_e, iCons_e, iNil_e, ev, ea, iC_e, ob_s, hn]
    unfold lTl
    unfold lA1
    rw [if_no a1', if_no e2]
    refine if_rt e3 ?_
    unfold lR3
    rw [asg_seq call, hE]
    show iSeq _ _ [some (strP l), some (.int p), some (strP (s.take 1)), some (numP l (numR false 58 s.tail))] st = _
    unfold textO
    cases hnr : numR false 58 s.tail with
    | some vr =>
      obtain ⟨v, r⟩ := vr
      obtain ⟨hsu, hsl⟩ := numR_suf hnr
      have hv := numR_nn hnr
      obtain ⟨j, hj1, hj2, hj3⟩ := suf_at (hsu.trans (by rw [htl]; exact List.drop_suffix _ _) : r <:+ l)
      obtain ⟨b, hb⟩ : ∃ b : Int, b = pos l r := ⟨_, rfl⟩
      have hrl : r.length = l.length - j := by rw [← hj3, List.length_drop]
      have hlb : fLenB (strP l) st = some (.int (l.length : Int), st) := by rw [fLenB_s, S_len, if_pos (by omega)]
      simp only [numP, ← hb]
      have t1 : iTestB (iBin fIs (iVar 3) (iC .non)) [some (strP l), some (.int p), some (strP (s.take 1)), some (.tup [.int v, .int b])] st = some (false, st) := by simp
      have t2 : iTestB (iBin fGt (iBin fAdd (iBin fSubB (iVar 3) (iC (.int 1))) (iBin fSubB (iVar 3) (iC (.int 0)))) (iCall (a1 fLenB) (iCons (iVar 0) iNil))) [some (strP l), some (.int p), some (strP (s.take 1)), some (.tup [.int v, .int b])] st = some (decide ((l.length : Int) < b + v), st) := by
        have q2 : iBin fAdd (iBin fSubB (iVar 3) (iC (.int 1))) (iBin fSubB (iVar 3) (iC (.int 0))) [some (strP l), some (.int p), some (strP (s.take 1)), some (.tup [.int v, .int b])] st = some (.int (b + v), st) := by simp
        have q3 : iCall (a1 fLenB) (iCons (iVar 0) iNil) [some (strP l), some (.int p), some (strP (s.take 1)), some (.tup [.int v, .int b])] st = some (.int (l.length : Int), st) := by
          simp only [iCall_e, iCons_e, iNil_e, iVar_e, ob_s, List.getElem?_cons_zero, a1_e, hlb]
        rw [iTestB_e, iBin_e, q2, ob_s, q3, ob_s, fGt_i]
        rfl
      have t3 : lC3 [some (strP l), some (.int p), some (strP (s.take 1)), some (.tup [.int v, .int b])] st = some (decide ((l.length : Int) < b + v), st) := by
        unfold lC3
        rw [iOr_e, t1]
        simp only [ob_s, Bool.false_eq_true, if_false, t2]
      by_cases hfit : v ≤ (r.length : Int)
      · rw [if_pos hfit]
        rw [decide_eq_false (by omega)] at t3
        rw [if_no t3]
        have hsl2 : iSl fSl (iVar 0) (iPart (iBin fSubB (iVar 3) (iC (.int 1)))) (iPart (iBin fAdd (iBin fSubB (iVar 3) (iC (.int 1))) (iBin fSubB (iVar 3) (iC (.int 0))))) [some (strP l), some (.int p), some (strP (s.take 1)), some (.tup [.int v, .int b])] st = some (strP (r.take v.toNat), st) := by
          have h := fSl_SX (st := st) (l := l) (lo := j) (hi := j + v.toNat) (by omega)
          rw [hj3, show j + v.toNat - j = v.toNat by omega, ← hj1, ← hb, show ((j + v.toNat : Nat) : Int) = b + v by omega] at h
          have q1 : iBin fSubB (iVar 3) (iC (.int 1)) [some (strP l), some (.int p), some (strP (s.take 1)), some (.tup [.int v, .int b])] st = some (.int b, st) := by simp
          have q2 : iBin fAdd (iBin fSubB (iVar 3) (iC (.int 1))) (iBin fSubB (iVar 3) (iC (.int 0))) [some (strP l), some (.int p), some (strP (s.take 1)), some (.tup [.int v, .int b])] st = some (.int (b + v), st) := by simp
          simp only [iSl_e, iVar_e, ob_s, iPart_e, q1, q2, List.getElem?_cons_zero, List.getElem?_cons_succ, Option.map_some, h]
        have hadd : iBin fAdd (iBin fSubB (iVar 3) (iC (.int 1))) (iBin fSubB (iVar 3) (iC (.int 0))) [some (strP l), some (.int p), some (strP (s.take 1)), some (.tup [.int v, .int b])] st = some (.int (b + v), st) := by simp
        have hpd : pos l (r.drop v.toNat) = b + v := by
          unfold pos
          rw [List.length_drop]
          omega
        simp only [iRet_e, iTup_e, iCons_e, iNil_e, iC_e, hsl2, hadd, ob_s, resP, hpd]
        rfl
      · rw [if_neg hfit]
        rw [decide_eq_true (by omega)] at t3
        exact if_rt t3 (pw rfl hlt)
    | none =>
      simp only [numP]
      have t1 : iTestB (iBin fIs (iVar 3) (iC .non)) [some (strP l), some (.int p), some (strP (s.take 1)), some .non] st = some (true, st) := by simp
      have t3 : lC3 [some (strP l), some (.int p), some (strP (s.take 1)), some .non] st = some (true, st) := by
        unfold lC3
        rw [iOr_e, t1]
        rfl
      exact if_rt t3 (pw rfl hlt)
  rw [decide_eq_false h5] at e3
  rw [if_neg h5]
  have hh4 : hdIn [40, 91] s = false := by
    unfold hdIn
    cases hc : s.head? with
    | none => rfl
    | some c =>
      rw [hc] at n40 n91
      simp at n40 n91
      simp [n40, n91]
  rw [hh4] at a4'
  unfold lTl
  unfold lA1 lA4
  rw [if_no a1', if_no e2, if_no e3, if_no a4']
  have e1 : iVar 1 E st = some (.int p, st) := by rw [hE]; rfl
  simp only [iRet_e, iTup_e, iCons_e, iNil_e, iC_e, e1, ob_s, resP]
  rw [hs, pos_drop hi, ← hp]
  rfl
end
end J51

/-! what the law reads -/
namespace J51
open PySem PySem.Spec PyProof.Rows L2 IL SX
theorem srcR_at {m : Nat} {st : Sto} {i : Nat} : (srcR 0 m).at_ st i = some (((List.range m).map fun j : Nat => PV.int (j : Int))[i]?) := by
  simp only [srcR, List.getElem?_map, Option.some.injEq]
  by_cases hi : i < m
  · rw [if_pos hi, List.getElem?_range hi]; simp
  · rw [if_neg hi, List.getElem?_eq_none (by simpa using hi)]; rfl
theorem range1_i {ir : IA} {env : PEnv} {s st1 : Sto} {j : Int} (h : ir env s = some ([.int j], st1)) (h0 : 0 ≤ j) (h1 : j < 9000000) : iRange1 ir env s = some (srcR 0 j.toNat, st1) := by
  have hb : big j = true := by unfold big; simp only [Bool.and_eq_true, decide_eq_true_eq]; omega
  unfold iRange1
  rw [h, ob_s]
  simp only [hb, if_true]
noncomputable def iA : IT := (iTestB (iBin fEqB (iSl fSl (iVar 0) (iPart (iVar 1)) (iPart (iBin fAdd (iVar 1) (iC (.int 1))))) (iVar 2)))
noncomputable def iR : IS := (iSeq (iIfS (iTestB (iBin fEqB (iVar 2) (iC (.str S_x29)))) (iRet (iTup (iCons (iC (.str S_data)) (iCons (iCall (a1 fTuple) (iCons (iVar 3) iNil)) (iCons (iBin fAdd (iVar 1) (iC (.int 1))) iNil))))) iSkip) (iRet (iTup (iCons (iC (.str S_data)) (iCons (iFrz (iVar 3)) (iCons (iBin fAdd (iVar 1) (iC (.int 1))) iNil))))))
noncomputable def iW : IT := (iTestB (iBin fEqB (iBin fSubB (iVar 5) (iC (.int 0))) (iC (.str S_wrong))))
noncomputable def iB (F : Nat → FA) : IS := (iSeq (iIfS iA iR iSkip) (iSeq (iAsg (gN 5) (iCall (F I__law_read) (iCons (iVar 0) (iCons (iVar 1) iNil)))) (iSeq (iIfS iW (iRet (iVar 5)) iSkip) (iSeq (iDrop (iAppend (iVar 3) (iBin fSubB (iVar 5) (iC (.int 1))))) (iAsg (gN 1) (iBin fSubB (iVar 5) (iC (.int 2))))))))
theorem b_items_e (F : Nat → FA) (G : Nat → FX) : b__law_items F G = iSeq (iAsg (gN 3) (iLst iNil)) (iSeq (iFor (iRange1 (iCons (iBin fAdd (iCall (a1 fLenB) (iCons (iVar 0) iNil)) (iC (.int 1))) iNil)) (gN 4) (iB F)) (iRet (iTup (iCons (iC (.str S_wrong)) (iCons (iVar 1) iNil))))) := rfl
section
variable {n : Nat} {st : Sto} {l s r : List Nat} {i : Nat} {p : Int} {c : Nat}
theorem items_loop {m e N : Nat} {f : List Nat → Ro D} {P : Nat → Prop} (T : Tx l) (he : e = 41 ∨ e = 93) (hf : Eats f)
    (hspec : ∀ (j : Nat) (p : Int) (st' : Sto), P j → j ≤ l.length → p = (j : Int) → FF m I__law_read [strP l, .int p] st' = some (resP l (f (l.drop j)), st'))
    (hP : ∀ j d r j', P j → f (l.drop j) = .ok d r → l.drop j' = r → P j') :
    ∀ (c i : Nat) (acc : List D) (j : Nat) (p : Int) (x4 x5 : Option PV), P j → j ≤ l.length → p = (j : Int) → i + c = N → (l.drop j).length < c → acc.length + c ≤ 100000 →
      ∃ g, loop (srcR 0 N).at_ (gN 4) (iB (FF m)) (c + 1) i [some (strP l), some (.int p), some (strP [e]), some (.ref st.length), x4, x5] (st ++ [.lst (acc.map pd)]) = some (.rt (resP l (its f e c acc (l.drop j))) (st ++ g))
  | 0, i, acc, j, p, x4, x5, _, _, _, _, h, _ => by omega
  | c + 1, i, acc, j, p, x4, x5, hPj, hj, hp, hic, hc, hacc => by
    have hlen := T.len
    have he2 : e < 1114112 := by rcases he with h | h <;> omega
    obtain ⟨S0, hS0⟩ : ∃ S0, S0 = st ++ [SO.lst (acc.map pd)] := ⟨_, rfl⟩
    have hd0 : S0[st.length]? = some (.lst (acc.map pd)) := by rw [hS0]; exact new_at
    have hit : (srcR 0 N).at_ S0 i = some (some (.int (i : Nat))) := by
      rw [srcR_at, List.getElem?_map, List.getElem?_range (by omega)]
      rfl
    obtain ⟨E, hE⟩ : ∃ E : PEnv, E = [some (strP l), some (.int p), some (strP [e]), some (.ref st.length), some (.int (i : Nat)), x5] := ⟨_, rfl⟩
    have hgE : gN 4 (.int (i : Nat)) [some (strP l), some (.int p), some (strP [e]), some (.ref st.length), x4, x5] S0 = some E := by rw [hE]; rfl
    have hs := sl1 (st := S0) (env := E) (ia := iVar 0) (ib := iVar 1) (ic := iBin fAdd (iVar 1) (iC (.int 1))) (p := p) (i := j) T (by rw [hE]; rfl) (by rw [hE]; rfl) (by rw [hE]; simp) hp
    have hA : iA E S0 = some (decide ((l.drop j).head? = some e), S0) := by
      have h1 := eqP_hd (st := S0) (b := S [e]) rfl he2 (T.ok.drop j)
      have h2 : iVar 2 E S0 = some (strP [e], S0) := by rw [hE]; rfl
      unfold iA
      simp only [iTestB_e, iBin_e, hs, h2, ob_s, fEqB_e, eqB_str, h1, Option.map_some, isBl_e]
    have ea : iBin fAdd (iVar 1) (iC (.int 1)) E S0 = some (.int (p + 1), S0) := by rw [hE]; simp
    rw [loop, ← hS0, hit]
    simp only [hgE]
    unfold its
    by_cases hcl : (l.drop j).head? = some e
    · have hlt : j < l.length := head_lt hcl
      rw [decide_eq_true hcl] at hA
      rw [if_pos hcl]
      have hpos : pos l (l.drop j).tail = p + 1 := by
        rw [tail_of, pos_drop (by omega)]
        omega
      have he3 : iTestB (iBin fEqB (iVar 2) (iC (.str S_x29))) E S0 = some (decide (e = 41), S0) := by
        have h1 := eqP_SX (st := S0) (a := [e]) (b := [41]) (fun c hc => by rw [List.mem_singleton] at hc; omega) (fun c hc => by rw [List.mem_singleton] at hc; omega)
        rw [← c_29] at h1
        have h2 : iVar 2 E S0 = some (strP [e], S0) := by rw [hE]; rfl
        have h3 : decide ([e] = [41]) = decide (e = 41) := by simp
        simp only [iTestB_e, iBin_e, h2, iC_e, ob_s, fEqB_e, eqB_str, h1, h3, Option.map_some, isBl_e]
      have h3v : iVar 3 E S0 = some (.ref st.length, S0) := by rw [hE]; rfl
      by_cases h41 : e = 41
      · rw [decide_eq_true h41] at he3
        have ht : fTuple (.ref st.length) S0 = some (.tup (acc.map pd), S0) := by simp [hd0]
        have hr : iR E S0 = some (.rt (resP l (.ok (mkD e acc) (l.drop j).tail)) S0) := by
          unfold iR
          refine if_rt he3 ?_
          simp only [iRet_e, iTup_e, iCons_e, iNil_e, iC_e, iCall_e, h3v, a1_e, ht, ea, ob_s, resP, hpos]
          unfold mkD
          rw [if_pos h41]
          simp [pd, pds_map]
        refine ⟨[.lst (acc.map pd)], ?_⟩
        have hb : iB (FF m) E S0 = some (.rt (resP l (.ok (mkD e acc) (l.drop j).tail)) S0) := if_rt hA hr
        rw [hb, ← hS0]
      · rw [decide_eq_false h41] at he3
        obtain ⟨S1, hS1⟩ : ∃ S1, S1 = st ++ [SO.gone] := ⟨_, rfl⟩
        have hz : iFrz (iVar 3) E S0 = some (.frz (acc.map pd), S1) := by
          rw [iFrz_e, h3v, ob_s, frzV_lst hd0, hS0, set_last, hS1]
        have ea1 : iBin fAdd (iVar 1) (iC (.int 1)) E S1 = some (.int (p + 1), S1) := by rw [hE]; simp
        have hr : iR E S0 = some (.rt (resP l (.ok (mkD e acc) (l.drop j).tail)) S1) := by
          unfold iR
          rw [if_no he3]
          simp only [iRet_e, iTup_e, iCons_e, iNil_e, iC_e, hz, ea1, ob_s, resP, hpos]
          unfold mkD
          rw [if_neg h41]
          simp [pd, pds_map]
        refine ⟨[.gone], ?_⟩
        have hb : iB (FF m) E S0 = some (.rt (resP l (.ok (mkD e acc) (l.drop j).tail)) S1) := if_rt hA hr
        rw [hb, hS1]
    · rw [decide_eq_false hcl] at hA
      rw [if_neg hcl]
      have call : iCall (FF m I__law_read) (iCons (iVar 0) (iCons (iVar 1) iNil)) E S0 = some (resP l (f (l.drop j)), S0) := by
        have := hspec j p S0 hPj hj hp
        rw [hE]
        simp only [iCall_e, iCons_e, iNil_e, iVar_e, ob_s, List.getElem?_cons_zero, List.getElem?_cons_succ, this]
      obtain ⟨E5, hE5⟩ : ∃ E5 : PEnv, E5 = [some (strP l), some (.int p), some (strP [e]), some (.ref st.length), some (.int (i : Nat)), some (resP l (f (l.drop j)))] := ⟨_, rfl⟩
      have hset : E.set 5 (some (resP l (f (l.drop j)))) = E5 := by rw [hE, hE5]; rfl
      cases hfj : f (l.drop j) with
      | er r =>
        rw [hfj] at hE5 call hset
        have hW : iW E5 S0 = some (true, S0) := by
          unfold iW
          rw [hE5]
          simp [resP]
        have hb : iB (FF m) E S0 = some (.rt (resP l (.er r)) S0) := by
          unfold iB
          rw [if_no hA, asg_seq call, hset]
          refine if_rt hW ?_
          rw [hE5]
          rfl
        refine ⟨[.lst (acc.map pd)], ?_⟩
        rw [hb, ← hS0]
      | ok d r =>
        rw [hfj] at hE5 call hset
        obtain ⟨hsu, hsl⟩ := hf _ _ _ hfj
        obtain ⟨j', hj1, hj2, hj3⟩ := suf_at (hsu.trans (List.drop_suffix _ _) : r <:+ l)
        have hW : iW E5 S0 = some (false, S0) := by
          unfold iW
          rw [hE5]
          simp [resP]
        have hap := append_e (io := iVar 3) (ie := iBin fSubB (iVar 5) (iC (.int 1))) (env := E5) (st := S0) (s1 := S0) (s2 := S0) (n := st.length) (x := pd d) (by rw [hE5]; rfl) hd0 (by rw [hE5]; simp [resP]) hd0 (by rw [List.length_map]; omega)
        have hSn : S0.set st.length (.lst (acc.map pd ++ [pd d])) = st ++ [SO.lst ((acc ++ [d]).map pd)] := by
          rw [hS0, set_last, List.map_append]
          rfl
        rw [hSn] at hap
        have hb : iB (FF m) E S0 = some (.nx [some (strP l), some (.int (pos l r)), some (strP [e]), some (.ref st.length), some (.int (i : Nat)), some (resP l (.ok d r))] (st ++ [SO.lst ((acc ++ [d]).map pd)])) := by
          unfold iB
          rw [if_no hA, asg_seq call, hset, if_no hW]
          have hdr : iDrop (iAppend (iVar 3) (iBin fSubB (iVar 5) (iC (.int 1)))) E5 S0 = some (.nx E5 (st ++ [SO.lst ((acc ++ [d]).map pd)])) := by
            rw [iDrop_e, hap]
            rfl
          rw [nx_seq hdr, hE5]
          simp [resP]
        rw [hb]
        simp only
        have ih := items_loop (N := N) T he hf hspec hP c (i + 1) (acc ++ [d]) j' (pos l r) (some (.int (i : Nat))) (some (resP l (.ok d r))) (hP j d r j' hPj hfj hj3) hj2 hj1 (by omega) (by rw [hj3]; omega) (by simp; omega)
        obtain ⟨g, ih⟩ := ih
        rw [hj3] at ih
        exact ⟨g, ih⟩
theorem e_litems {m e : Nat} {f : List Nat → Ro D} {P : Nat → Prop} (T : Tx l) (he : e = 41 ∨ e = 93) (hf : Eats f)
    (hspec : ∀ (j : Nat) (p : Int) (st' : Sto), P j → j ≤ l.length → p = (j : Int) → FF m I__law_read [strP l, .int p] st' = some (resP l (f (l.drop j)), st'))
    (hP : ∀ j d r j', P j → f (l.drop j) = .ok d r → l.drop j' = r → P j') (hp : p = (i : Int)) (hi : i ≤ l.length) (h0 : P i) (hc : (l.drop i).length < c) :
    FF (m + 1) I__law_items [strP l, .int p, strP [e]] st = some (resP l (its f e c [] (l.drop i)), st) := by
  have hlen := T.len
  rw [e__law_items]
  have hl : (l.drop i).length < l.length + 1 := by rw [List.length_drop]; omega
  obtain ⟨g, hg⟩ := items_loop (st := st) (N := l.length + 1) T he hf hspec hP (l.length + 1) 0 [] i p none none h0 hi hp (by omega) hl (by simp; omega)
  rw [its_cnt hf c (l.length + 1) _ _ hc hl]
  refine def_pure (l := g) rfl ?_ nr_res
  show b__law_items _ _ [some (strP l), some (.int p), some (strP [e]), none, none, none] st = _
  rw [b_items_e, asg_seq (x := .ref st.length) (s2 := st ++ [.lst []]) (by simp)]
  show iSeq _ _ [some (strP l), some (.int p), some (strP [e]), some (.ref st.length), none, none] (st ++ [.lst []]) = _
  have hlb : ∀ S : Sto, fLenB (strP l) S = some (.int (l.length : Int), S) := fun S => by rw [fLenB_s, S_len, if_pos (by omega)]
  obtain ⟨z, hz⟩ : ∃ z : Int, z = (l.length : Int) + 1 := ⟨_, rfl⟩
  have hir : iCons (iBin fAdd (iCall (a1 fLenB) (iCons (iVar 0) iNil)) (iC (.int 1))) iNil [some (strP l), some (.int p), some (strP [e]), some (.ref st.length), none, none] (st ++ [.lst []]) = some ([.int z], st ++ [.lst []]) := by
    rw [hz]
    simp only [iCons_e, iNil_e, iBin_e, iCall_e, iVar_e, iC_e, ob_s, List.getElem?_cons_zero, a1_e, hlb, fAdd_i]
  have hrg := range1_i hir (by omega) (by omega)
  rw [show z.toNat = l.length + 1 by omega] at hrg
  have hfor : iFor (iRange1 (iCons (iBin fAdd (iCall (a1 fLenB) (iCons (iVar 0) iNil)) (iC (.int 1))) iNil)) (gN 4) (iB (FF m)) [some (strP l), some (.int p), some (strP [e]), some (.ref st.length), none, none] (st ++ [.lst []]) = some (.rt (resP l (its f e (l.length + 1) [] (l.drop i))) (st ++ g)) := by
    rw [iFor_e, hrg, ob_s]
    exact hg
  rw [iSeq_e, hfor]
theorem e_lread (T : Tx l) : ∀ (k i : Nat) (p : Int) (st : Sto), Dk k (l.drop i) → p = (i : Int) → i ≤ l.length → FF (n + 2 * k + 3) I__law_read [strP l, .int p] st = some (resP l (rd k (l.drop i)), st) := by
  have start : ∀ (m i : Nat) (p : Int) (st : Sto) (o : Ro D), p = (i : Int) → lTl (FF m) [some (strP l), some (.int p), some (strP ((l.drop i).take 1)), none] st = some (.rt (resP l o) st) → FF (m + 1) I__law_read [strP l, .int p] st = some (resP l o, st) := fun m i p st o hp h => by
    rw [e__law_read]
    refine def_pure0 rfl ?_ nr_res
    have hs := sl1 (st := st) (env := [some (strP l), some (.int p), none, none]) (ia := iVar 0) (ib := iVar 1) (ic := iBin fAdd (iVar 1) (iC (.int 1))) (p := p) (i := i) T rfl rfl (by simp) hp
    show b__law_read _ _ [some (strP l), some (.int p), none, none] st = _
    rw [b_lread_e, asg_seq hs]
    exact h
  intro k
  induction k with
  | zero =>
    intro i p st hk hp hi
    have hx : (l.drop i).head? = some 120 := by
      rcases hk with h | h
      · omega
      · exact h
    refine start (n + 2) i p st _ hp ?_
    exact l_flat (n := n + 1) rfl T hp hi rfl (by rw [hx]; simp) (by rw [hx]; simp)
  | succ k ih =>
    intro i p st hk hp hi
    rw [show n + 2 * (k + 1) + 3 = (n + 2 * k + 3 + 1) + 1 by omega]
    refine start _ i p st _ hp ?_
    obtain ⟨s, hs⟩ : ∃ s, s = l.drop i := ⟨_, rfl⟩
    have nest : ∀ (c e : Nat), (c = 40 ∧ e = 41) ∨ (c = 91 ∧ e = 93) → (l.drop i).head? = some c → lTl (FF (n + 2 * k + 3 + 1)) [some (strP l), some (.int p), some (strP ((l.drop i).take 1)), none] st = some (.rt (resP l (its (rd k) e ((l.drop i).length + 1) [] (l.drop i).tail)) st) := by
      intro c e hce hc
      have hlt := head_lt hc
      have o2 : okL (l.drop i) := T.ok.drop i
      obtain ⟨E, hE⟩ : ∃ E : PEnv, E = [some (strP l), some (.int p), some (strP ((l.drop i).take 1)), none] := ⟨_, rfl⟩
      have h2 : E[2]? = some (some (strP ((l.drop i).take 1))) := by rw [hE]; rfl
      have a1' := one_of (st := st) (env := E) c_zyn o2 h2
      have a4' := one_of (st := st) (env := E) c_28x5b o2 h2
      have e2 : iTestB (iBin fEqB (iVar 2) (iC (.str S_i))) E st = some (decide ((l.drop i).head? = some 105), st) := by
        have := eqc_e (st := st) (env := E) (ie := iVar 2) c_i (by decide) o2 (by rw [hE]; rfl)
        rw [iTestB_e, this]
        rfl
      have e3 : iTestB (iBin fEqB (iVar 2) (iC (.str S_t))) E st = some (decide ((l.drop i).head? = some 116), st) := by
        have := eqc_e (st := st) (env := E) (ie := iVar 2) c_t (by decide) o2 (by rw [hE]; rfl)
        rw [iTestB_e, this]
        rfl
      have e5 := eqc_e (st := st) (env := E) (ie := iVar 2) c_5b (by decide) o2 (by rw [hE]; rfl)
      rw [hc] at e2 e3 e5
      have hz : hdIn [122, 121, 110] (l.drop i) = false := by
        unfold hdIn
        rw [hc]
        rcases hce with ⟨rfl, _⟩ | ⟨rfl, _⟩ <;> decide
      have hz4 : hdIn [40, 91] (l.drop i) = true := by
        unfold hdIn
        rw [hc]
        rcases hce with ⟨rfl, _⟩ | ⟨rfl, _⟩ <;> decide
      rw [hz] at a1'
      rw [hz4] at a4'
      have n5 : decide (some c = some 105) = false := by rcases hce with ⟨rfl, _⟩ | ⟨rfl, _⟩ <;> decide
      have n6 : decide (some c = some 116) = false := by rcases hce with ⟨rfl, _⟩ | ⟨rfl, _⟩ <;> decide
      rw [n5] at e2
      rw [n6] at e3
      have hit := e_litems (m := n + 2 * k + 3) (st := st) (f := rd k) (P := fun j => Dk k (l.drop j)) (i := i + 1) (p := p + 1) (c := (l.drop i).length + 1) T (e := e) (by rcases hce with ⟨_, h⟩ | ⟨_, h⟩; exact .inl h; exact .inr h) (rd_eats k)
        (fun j p st' hj hjl hp => ih j p st' hj hp hjl) (fun j d r j' hj h1 h2 => by
          have := Dk.next hj h1
          rw [← h2] at this
          exact this) (by omega) (by omega) (by
          have := Dk.open hk (by rcases hce with ⟨h, _⟩ | ⟨h, _⟩; exact .inl h; exact .inr h) hc
          rw [tail_of] at this
          exact this) (by rw [List.length_drop, List.length_drop]; omega)
      have ix : iBin fSubB (iNew (iLst (iCons (iC (.str S_x29)) (iCons (iC (.str S_x5d)) iNil)))) (iCall (a1 fIntS) (iCons (iBin fEqB (iVar 2) (iC (.str S_x5b))) iNil)) E st = some (strP [e], st) := by
        have hl : iNew (iLst (iCons (iC (.str S_x29)) (iCons (iC (.str S_x5d)) iNil))) E st = some (.frz [.str S_x29, .str S_x5d], st) := iLst_new (xs := [.str S_x29, .str S_x5d]) rfl (by simp [nrs, nr])
        have hin : iCall (a1 fIntS) (iCons (iBin fEqB (iVar 2) (iC (.str S_x5b))) iNil) E st = some (.int (if decide (some c = some 91) then 1 else 0), st) := by
          simp only [iCall_e, iCons_e, iNil_e, e5, ob_s, a1_e]
          rfl
        rw [iBin_e, hl, ob_s, hin, ob_s]
        rcases hce with ⟨rfl, rfl⟩ | ⟨rfl, rfl⟩
        · show fSubB (.frz [.str S_x29, .str S_x5d]) (.int 0) st = some (PV.str (S [41]), st)
          rw [← c_29]
          rfl
        · show fSubB (.frz [.str S_x29, .str S_x5d]) (.int 1) st = some (PV.str (S [93]), st)
          rw [← c_5d]
          rfl
      rw [← hE]
      unfold lTl lA1 lA4
      rw [if_no a1', if_no e2, if_no e3]
      refine if_rt a4' ?_
      have ea : iBin fAdd (iVar 1) (iC (.int 1)) E st = some (.int (p + 1), st) := by rw [hE]; simp
      have ev : iVar 0 E st = some (strP l, st) := by rw [hE]; rfl
      unfold lR4
      simp only [iRet_e, iCall_e] 
      rw [iCons_e, ev, ob_s, iCons_e, ea, ob_s, iCons_e]
      rw [ix]
      simp only [ob_s, iNil_e]
      rw [hit, tail_of]
      rfl
    unfold rd
    by_cases h40 : (l.drop i).head? = some 40
    · rw [if_pos h40]
      exact nest 40 41 (.inl ⟨rfl, rfl⟩) h40
    · by_cases h91 : (l.drop i).head? = some 91
      · rw [if_neg h40, if_pos h91]
        exact nest 91 93 (.inr ⟨rfl, rfl⟩) h91
      · rw [if_neg h40, if_neg h91]
        exact l_flat (n := n + 2 * k + 3) rfl T hp hi rfl h40 h91
end
end J51

/-! what the program reads: frames of what is open -/
namespace J51
open PySem PySem.Spec PyProof.Rows L2 IL SX
structure Fr where
  e : Nat
  acc : List D
  q : Nat
def cont : Nat → List Fr → Ro D → Ro D
  | _, [], o => o
  | k, f :: fr, o => match o with
    | .er r => .er r
    | .ok d r => cont (k + 1) fr (its (rd k) f.e (r.length + 1) (f.acc ++ [d]) r)
def val : Nat → List Fr → List Nat → Ro D
  | k, [], s => rd k s
  | k, f :: fr, s => cont (k + 1) fr (its (rd k) f.e (s.length + 1) f.acc s)
theorem cont_er {k : Nat} {fr : List Fr} {r : List Nat} : cont k fr (.er r) = .er r := by cases fr <;> rfl
theorem rd_flat {k : Nat} {s : List Nat} (h1 : s.head? ≠ some 40) (h2 : s.head? ≠ some 91) : rd k s = plain s := by
  cases k with
  | zero => rfl
  | succ k => unfold rd; rw [if_neg h1, if_neg h2]
theorem val_open {k c e q : Nat} {fr : List Fr} {s : List Nat} (hce : (c = 40 ∧ e = 41) ∨ (c = 91 ∧ e = 93)) (hs : s.head? = some c) (hfr : ∀ f ∈ fr, f.e = 41 ∨ f.e = 93) : val (k + 1) fr s = val k (⟨e, [], q⟩ :: fr) s.tail := by
  have hlt := tail_lt hs
  have hrd : rd (k + 1) s = its (rd k) e (s.tail.length + 1) [] s.tail := by
    unfold rd
    rcases hce with ⟨rfl, rfl⟩ | ⟨rfl, rfl⟩
    · rw [if_pos hs]
      exact its_cnt (rd_eats k) _ _ _ _ (by omega) (by omega)
    · rw [if_neg (by rw [hs]; decide), if_pos hs]
      exact its_cnt (rd_eats k) _ _ _ _ (by omega) (by omega)
  cases fr with
  | nil => exact hrd
  | cons f fr =>
    show cont (k + 1 + 1) fr (its (rd (k + 1)) f.e (s.length + 1) f.acc s) = cont (k + 1) (f :: fr) (its (rd k) e (s.tail.length + 1) [] s.tail)
    rw [← hrd]
    have hne : s.head? ≠ some f.e := by
      rw [hs]
      rcases hfr f (List.mem_cons_self ..) with h | h <;> rcases hce with ⟨rfl, _⟩ | ⟨rfl, _⟩ <;> (rw [h]; decide)
    conv => lhs; rw [its, if_neg hne]
    cases hr : rd (k + 1) s with
    | er r => exact cont_er
    | ok d r =>
      simp only [cont]
      have := (rd_eats (k + 1) s d r hr).2
      rw [its_cnt (rd_eats (k + 1)) s.length (r.length + 1) _ _ (by omega) (by omega)]
theorem val_close {k : Nat} {f : Fr} {fr : List Fr} {s : List Nat} (hs : s.head? = some f.e) : val k (f :: fr) s = match fr with
    | [] => .ok (mkD f.e f.acc) s.tail
    | g :: fr => val (k + 1) (⟨g.e, g.acc ++ [mkD f.e f.acc], g.q⟩ :: fr) s.tail := by
  show cont (k + 1) fr (its (rd k) f.e (s.length + 1) f.acc s) = _
  rw [its, if_pos hs]
  cases fr <;> rfl
theorem val_er {k : Nat} {fr : List Fr} {s r : List Nat} (h1 : s.head? ≠ some 40) (h2 : s.head? ≠ some 91) (h3 : ∀ f ∈ fr.head?, s.head? ≠ some f.e) (hp : plain s = .er r) : val k fr s = .er r := by
  cases fr with
  | nil => exact (rd_flat h1 h2).trans hp
  | cons f fr =>
    show cont (k + 1) fr (its (rd k) f.e (s.length + 1) f.acc s) = _
    rw [its, if_neg (h3 f rfl), rd_flat h1 h2, hp]
    exact cont_er
theorem val_ok {k : Nat} {fr : List Fr} {s r : List Nat} {d : D} (h1 : s.head? ≠ some 40) (h2 : s.head? ≠ some 91) (h3 : ∀ f ∈ fr.head?, s.head? ≠ some f.e) (hp : plain s = .ok d r) : val k fr s = match fr with
    | [] => .ok d r
    | g :: fr => val k (⟨g.e, g.acc ++ [d], g.q⟩ :: fr) r := by
  cases fr with
  | nil => exact (rd_flat h1 h2).trans hp
  | cons f fr =>
    show cont (k + 1) fr (its (rd k) f.e (s.length + 1) f.acc s) = cont (k + 1) fr (its (rd k) f.e (r.length + 1) (f.acc ++ [d]) r)
    have := (plain_eats s d r hp).2
    rw [its, if_neg (h3 f rfl), rd_flat h1 h2, hp]
    simp only
    rw [its_cnt (rd_eats k) s.length (r.length + 1) _ _ (by omega) (by omega)]
/-! ### the store between turns -/
def rowsF (z : Nat) (fr : List Fr) : List PV := .ref z :: fr.reverse.map fun f => PV.ref f.q
def sgn (f : Fr) : PV := .str (if f.e = 41 then S_x28 else S_x5b)
def sgnF (fr : List Fr) : List PV := fr.reverse.map sgn
def lastq (z : Nat) : List Fr → Nat
  | [] => z
  | f :: _ => f.q
def accF : List Fr → List D
  | [] => []
  | f :: _ => f.acc
theorem rowsF_cons (z : Nat) (f : Fr) (fr : List Fr) : rowsF z (f :: fr) = rowsF z fr ++ [.ref f.q] := by simp [rowsF]
theorem sgnF_cons (f : Fr) (fr : List Fr) : sgnF (f :: fr) = sgnF fr ++ [sgn f] := by simp [sgnF]
theorem rowsF_last (z : Nat) (fr : List Fr) : ∃ xs, rowsF z fr = xs ++ [.ref (lastq z fr)] := by
  cases fr with
  | nil => exact ⟨[], rfl⟩
  | cons f fr => exact ⟨_, rowsF_cons z f fr⟩
structure MI (st : Sto) (fr : List Fr) (S : Sto) : Prop where
  r0 : S[st.length]? = some (.lst [])
  rs : S[st.length + 1]? = some (.lst (rowsF st.length fr))
  sg : S[st.length + 2]? = some (.lst (sgnF fr))
  fs : ∀ f ∈ fr, st.length + 3 ≤ f.q ∧ S[f.q]? = some (.lst (f.acc.map pd)) ∧ (f.e = 41 ∨ f.e = 93) ∧ f.acc.length ≤ 20000
  nd : (fr.map Fr.q).Nodup
  old : ∃ g, S = st ++ g
  len : fr.length ≤ 20000
abbrev mE (l : List Nat) (x1 : Option PV) (z : Nat) (p : Int) (x5 x6 x7 : Option PV) : PEnv := [some (strP l), x1, some (.ref (z + 1)), some (.ref (z + 2)), some (.int p), x5, x6, x7]
noncomputable def mA : IT := (iTestB (iUn (fInTab tab_CLOSING false) (iVar 5)))
noncomputable def mOp : IS := (iSeq (iDrop (iAppend (iVar 2) (iLst iNil))) (iSeq (iDrop (iAppend (iVar 3) (iVar 5))) (iAugAdd 4 (iC (.int 1)))))
noncomputable def mCl : IT := (iAnd (iTest (iVar 3)) (iTestB (iBin fEqB (iVar 5) (iUn (fTab tab_CLOSING) (iBin fSubB (iVar 3) (iUn fNeg (iC (.int 1))))))))
noncomputable def mV : IE := (iIf (iTestB (iBin fEqB (iPop (iVar 3)) (iC (.str S_x28)))) (iCall (a1 fTuple) (iCons (iFrz (iVar 6)) iNil)) (iFrz (iVar 6)))
noncomputable def mLast : IE := (iBin fSubB (iVar 2) (iUn fNeg (iC (.int 1))))
noncomputable def mCs : IS := (iSeq (iAsg (gN 6) (iPop (iVar 2))) (iSeq (iDrop (iAppend mLast mV)) (iAugAdd 4 (iC (.int 1)))))
noncomputable def mPl (G : Nat → FX) : IS := (iSeq (iAsgX (gT 2 (gCs (gN 7) (gCs (gN 4) gNs))) (iCallX (G I__read_plain) (iCons (iVar 0) (iCons (iVar 4) iNil)))) (iDrop (iAppend mLast (iVar 7))))
noncomputable def mTest : IT := (iNot (iTest (iBin fSubB (iVar 2) (iC (.int 0)))))
noncomputable def mBody (G : Nat → FX) : IS := (iSeq (iAsg (gN 5) (iSl fSl (iVar 0) (iPart (iVar 4)) (iPart (iBin fAdd (iVar 4) (iC (.int 1)))))) (iIfS mA mOp (iIfS mCl mCs (mPl G))))
theorem b_rf_e (F : Nat → FA) (G : Nat → FX) : b_read_form F G = iSeq (iAsg (gN 2) (iLst (iCons (iLst iNil) iNil))) (iSeq (iAsg (gN 3) (iLst iNil)) (iSeq (iAsg (gN 4) (iVar 1)) (iSeq (iWhile mTest (mBody G)) (iRet (iTup (iCons (iBin fSubB (iBin fSubB (iVar 2) (iC (.int 0))) (iC (.int 0))) (iCons (iVar 4) iNil))))))) := rfl
theorem look_c (s : List Nat) : tab_CLOSING.lookup (S (s.take 1)) = if s.head? = some 40 then some (.str S_x29) else if s.head? = some 91 then some (.str S_x5d) else none := by
  have h1 := hd_beq (s := s) c_28
  have h2 := hd_beq (s := s) c_5b
  unfold tab_CLOSING
  rw [List.lookup_cons, h1]
  by_cases a : s.head? = some 40
  · simp [a]
  · simp only [a, decide_false, if_false]
    rw [List.lookup_cons, h2]
    by_cases b : s.head? = some 91
    · simp [b]
    · simp [b]
section
variable {n : Nat} {st U : Sto} {l s r : List Nat} {i z : Nat} {p : Int} {fr : List Fr} {x1 x5 x6 x7 : Option PV} {d : D}
theorem mlast_e {E : PEnv} {xs : List PV} {y : PV} {R : Nat} (h2 : E[2]? = some (some (.ref R))) (hr : U[R]? = some (.lst (xs ++ [y]))) : mLast E U = some (y, U) := by
  have h := fSubB_l (i := -1) hr
  rw [atI_last] at h
  unfold mLast
  simp only [iBin_e, iVar_e, h2, iUn_e, iC_e, fNeg_i, ob_s, h, Option.map_some]
theorem MI.zl (h : MI st fr U) : st.length + 3 ≤ U.length := by
  have := lt_of_at h.sg
  omega
/-- a frame is opened -/
theorem MI.open (h : MI st fr U) {e : Nat} (he : e = 41 ∨ e = 93) (hl : fr.length + 1 ≤ 20000) : MI st (⟨e, [], U.length⟩ :: fr) (((U ++ [SO.lst []]).set (st.length + 1) (.lst (rowsF st.length (⟨e, [], U.length⟩ :: fr)))).set (st.length + 2) (.lst (sgnF (⟨e, [], U.length⟩ :: fr)))) := by
  have hz := h.zl
  obtain ⟨g, hg⟩ := h.old
  refine ⟨?_, ?_, ?_, ?_, ?_, ?_, hl⟩
  · rw [List.getElem?_set_ne (by omega), List.getElem?_set_ne (by omega), List.getElem?_append_left (by omega)]
    exact h.r0
  · rw [List.getElem?_set_ne (by omega), List.getElem?_set_self (by simp; omega)]
  · rw [List.getElem?_set_self (by simp; omega)]
  · intro f hf
    rcases List.mem_cons.mp hf with rfl | hf
    · refine ⟨hz, ?_, he, by simp⟩
      show (List.set _ _ _)[U.length]? = _
      rw [List.getElem?_set_ne (by omega), List.getElem?_set_ne (by omega), new_at]
      rfl
    · obtain ⟨h1, h2, h3⟩ := h.fs f hf
      refine ⟨h1, ?_, h3⟩
      rw [List.getElem?_set_ne (by omega), List.getElem?_set_ne (by omega), List.getElem?_append_left (lt_of_at h2)]
      exact h2
  · rw [List.map_cons, List.nodup_cons]
    refine ⟨fun hm => ?_, h.nd⟩
    obtain ⟨f, hf, he⟩ := List.mem_map.mp hm
    have := lt_of_at (h.fs f hf).2.1
    have he : f.q = U.length := he
    omega
  · exact ⟨_, by rw [hg, List.append_assoc, app_set (by omega), app_set (by omega)]⟩
/-- an item for the innermost frame -/
theorem MI.item {f : Fr} (h : MI st (f :: fr) U) {d : D} (hl : f.acc.length + 1 ≤ 20000) : MI st (⟨f.e, f.acc ++ [d], f.q⟩ :: fr) (U.set f.q (.lst ((f.acc ++ [d]).map pd))) := by
  obtain ⟨h1, h2, h3, h4⟩ := h.fs f (List.mem_cons_self ..)
  obtain ⟨g, hg⟩ := h.old
  have hnd := h.nd
  rw [List.map_cons, List.nodup_cons] at hnd
  refine ⟨?_, ?_, ?_, ?_, ?_, ?_, h.len⟩
  · rw [List.getElem?_set_ne (by omega)]; exact h.r0
  · rw [List.getElem?_set_ne (by omega), show rowsF st.length (⟨f.e, f.acc ++ [d], f.q⟩ :: fr) = rowsF st.length (f :: fr) by simp [rowsF]]; exact h.rs
  · rw [List.getElem?_set_ne (by omega), show sgnF (⟨f.e, f.acc ++ [d], f.q⟩ :: fr) = sgnF (f :: fr) by simp [sgnF, sgn]]; exact h.sg
  · intro f' hf
    rcases List.mem_cons.mp hf with rfl | hf
    · exact ⟨h1, set_at h2, h3, by simpa using hl⟩
    · obtain ⟨g1, g2, g3⟩ := h.fs f' (List.mem_cons_of_mem _ hf)
      refine ⟨g1, ?_, g3⟩
      rw [List.getElem?_set_ne fun z => hnd.1 (List.mem_map.mpr ⟨f', hf, z.symm⟩)]
      exact g2
  · exact h.nd
  · exact ⟨_, by rw [hg, app_set (by omega)]⟩
/-- the innermost frame is closed; its list is let go -/
theorem MI.close {f : Fr} (h : MI st (f :: fr) U) : MI st fr (((U.set (st.length + 1) (.lst (rowsF st.length fr))).set (st.length + 2) (.lst (sgnF fr))).set f.q .gone) := by
  have hz := h.zl
  obtain ⟨h1, h2, h3, h4⟩ := h.fs f (List.mem_cons_self ..)
  obtain ⟨g, hg⟩ := h.old
  have hnd := h.nd
  rw [List.map_cons, List.nodup_cons] at hnd
  refine ⟨?_, ?_, ?_, ?_, hnd.2, ?_, by have := h.len; simp at this; omega⟩
  · rw [List.getElem?_set_ne (by omega), List.getElem?_set_ne (by omega), List.getElem?_set_ne (by omega)]; exact h.r0
  · rw [List.getElem?_set_ne (by omega), List.getElem?_set_ne (by omega), List.getElem?_set_self (by omega)]
  · rw [List.getElem?_set_ne (by omega), List.getElem?_set_self (by simp; omega)]
  · intro f' hf
    obtain ⟨g1, g2, g3⟩ := h.fs f' (List.mem_cons_of_mem _ hf)
    refine ⟨g1, ?_, g3⟩
    rw [List.getElem?_set_ne fun z => hnd.1 (List.mem_map.mpr ⟨f', hf, z.symm⟩), List.getElem?_set_ne (by omega), List.getElem?_set_ne (by omega)]
    exact g2
  · exact ⟨_, by rw [hg, app_set (by omega), app_set (by omega), app_set (by omega)]⟩
/-- all is read: the row outside holds it -/
structure Done (st : Sto) (d : D) (U : Sto) : Prop where
  r0 : U[st.length]? = some (.lst [pd d])
  rs : U[st.length + 1]? = some (.lst [.ref st.length])
  old : ∃ g, U = st ++ g
theorem MI.done (h : MI st [] U) : Done st d (U.set st.length (.lst [pd d])) := by
  obtain ⟨g, hg⟩ := h.old
  exact ⟨set_at h.r0, by rw [List.getElem?_set_ne (by omega)]; exact h.rs, ⟨_, by rw [hg, app_set (Nat.le_refl _)]⟩⟩
theorem test_e (h : MI st fr U) : mTest (mE l x1 st.length p x5 x6 x7) U = some (true, U) := by
  have h1 : fSubB (.ref (st.length + 1)) (.int 0) U = some (.ref st.length, U) := by
    rw [fSubB_l h.rs]
    show Option.map _ (atI (PV.ref st.length :: _) 0) = _
    rw [atI_0]
    rfl
  have h2 : tru U (.ref st.length) = some false := by simp [tru, h.r0]
  unfold mTest
  simp [h1, h2]
theorem test_done (h : Done st d U) : mTest (mE l x1 st.length p x5 x6 x7) U = some (false, U) := by
  have h1 : fSubB (.ref (st.length + 1)) (.int 0) U = some (.ref st.length, U) := by
    rw [fSubB_l h.rs]
    rfl
  have h2 : tru U (.ref st.length) = some true := by simp [tru, h.r0]
  unfold mTest
  simp [h1, h2]
/-- behind an item -/
def Aft (st : Sto) (fr : List Fr) (d : D) (U : Sto) : Prop := match fr with
  | [] => Done st d U
  | g :: fr => MI st (⟨g.e, g.acc ++ [d], g.q⟩ :: fr) U
/-- an item is put where it belongs -/
theorem put_e {v : IE} {E : PEnv} {U1 : Sto} (hr : U[st.length + 1]? = some (.lst (rowsF st.length fr))) (hk : U[lastq st.length fr]? = some (.lst ((accF fr).map pd))) (h2 : E[2]? = some (some (.ref (st.length + 1)))) (hl : (accF fr).length + 1 ≤ 20000) (hv : v E U = some (pd d, U1)) (h1 : MI st fr U1) :
    ∃ U2, iDrop (iAppend mLast v) E U = some (.nx E U2) ∧ Aft st fr d U2 := by
  obtain ⟨xs, hx⟩ := rowsF_last st.length fr
  rw [hx] at hr
  have hl1 := mlast_e h2 hr
  have key : U1[lastq st.length fr]? = some (.lst ((accF fr).map pd)) := by
    cases fr with
    | nil => exact h1.r0
    | cons f fr => exact (h1.fs f (List.mem_cons_self ..)).2.1
  have ha := append_e (io := mLast) (ie := v) (env := E) (st := U) (s1 := U) (s2 := U1) (n := lastq st.length fr) hl1 hk hv key (by rw [List.length_map]; omega)
  refine ⟨U1.set (lastq st.length fr) (.lst ((accF fr).map pd ++ [pd d])), by rw [iDrop_e, ha]; rfl, ?_⟩
  cases fr with
  | nil => exact h1.done
  | cons f fr =>
    have e : (accF (f :: fr)).map pd ++ [pd d] = (f.acc ++ [d]).map pd := by rw [List.map_append]; rfl
    rw [e]
    exact h1.item hl
theorem MI.last (h : MI st fr U) : U[lastq st.length fr]? = some (.lst ((accF fr).map pd)) := by
  cases fr with
  | nil => exact h.r0
  | cons f fr => exact (h.fs f (List.mem_cons_self ..)).2.1
end
end J51

/-! what the program reads: its loop -/
namespace J51
open PySem PySem.Spec PyProof.Rows L2 IL SX
/-- what the loop ends as -/
def MR (l : List Nat) (x1 : Option PV) (st : Sto) (o : Ro D) (x : Option Fl) : Prop := match o with
  | .ok d r => ∃ y5 y6 y7 U, x = some (.nx (mE l x1 st.length (pos l r) y5 y6 y7) U) ∧ Done st d U
  | .er r => ∃ E g, x = some (.er E S_FormError [(S_at, .int (pos l r))] (st ++ g))
section
variable {n : Nat} {st U : Sto} {l s r : List Nat} {i : Nat} {p : Int} {fr : List Fr} {x1 x5 x6 x7 : Option PV} {d : D}
theorem op_e (h : MI st fr U) {c e : Nat} (hce : (c = 40 ∧ e = 41) ∨ (c = 91 ∧ e = 93)) (hl : fr.length + 1 ≤ 20000) : ∃ U2 q, mOp (mE l x1 st.length p (some (strP [c])) x6 x7) U = some (.nx (mE l x1 st.length (p + 1) (some (strP [c])) x6 x7) U2) ∧ MI st (⟨e, [], q⟩ :: fr) U2 := by
  have hz := h.zl
  have he : e = 41 ∨ e = 93 := by rcases hce with ⟨_, h⟩ | ⟨_, h⟩; exact .inl h; exact .inr h
  have h2 := h.open he hl
  refine ⟨_, _, ?_, h2⟩
  have hU1 : (U ++ [SO.lst []])[st.length + 1]? = some (.lst (rowsF st.length fr)) := by rw [List.getElem?_append_left (by omega)]; exact h.rs
  have a1' := append_e (io := iVar 2) (ie := iLst iNil) (env := mE l x1 st.length p (some (strP [c])) x6 x7) (st := U) (s1 := U) (s2 := U ++ [.lst []]) (n := st.length + 1) (x := .ref U.length) rfl h.rs (by simp) hU1 (by simp [rowsF]; omega)
  have er : rowsF st.length fr ++ [.ref U.length] = rowsF st.length (⟨e, [], U.length⟩ :: fr) := (rowsF_cons st.length ⟨e, [], U.length⟩ fr).symm
  rw [er] at a1'
  obtain ⟨U1, hU⟩ : ∃ U1, U1 = (U ++ [SO.lst []]).set (st.length + 1) (.lst (rowsF st.length (⟨e, [], U.length⟩ :: fr))) := ⟨_, rfl⟩
  rw [← hU] at a1' ⊢
  have hsg : U1[st.length + 2]? = some (.lst (sgnF fr)) := by rw [hU, List.getElem?_set_ne (by omega), List.getElem?_append_left (by omega)]; exact h.sg
  have hsc : PV.str (S [c]) = sgn ⟨e, [], U.length⟩ := by
    unfold sgn
    rcases hce with ⟨rfl, rfl⟩ | ⟨rfl, rfl⟩
    · rw [if_pos rfl, c_28]
    · rw [if_neg (show ¬ (93 : Nat) = 41 by decide), c_5b]
  have a2' := append_e (io := iVar 3) (ie := iVar 5) (env := mE l x1 st.length p (some (strP [c])) x6 x7) (st := U1) (s1 := U1) (s2 := U1) (n := st.length + 2) (x := strP [c]) rfl hsg rfl hsg (by simp [sgnF]; omega)
  have es : sgnF fr ++ [strP [c]] = sgnF (⟨e, [], U.length⟩ :: fr) := by rw [sgnF_cons, ← hsc]
  rw [es] at a2'
  unfold mOp
  have d1 : iDrop (iAppend (iVar 2) (iLst iNil)) (mE l x1 st.length p (some (strP [c])) x6 x7) U = some (.nx (mE l x1 st.length p (some (strP [c])) x6 x7) U1) := by rw [iDrop_e, a1']; rfl
  have d2 : iDrop (iAppend (iVar 3) (iVar 5)) (mE l x1 st.length p (some (strP [c])) x6 x7) U1 = some (.nx (mE l x1 st.length p (some (strP [c])) x6 x7) (U1.set (st.length + 2) (.lst (sgnF (⟨e, [], U.length⟩ :: fr))))) := by rw [iDrop_e, a2']; rfl
  rw [nx_seq d1, nx_seq d2]
  simp
def hdE (fr : List Fr) (s : List Nat) : Bool := match fr with
  | [] => false
  | f :: _ => decide (s.head? = some f.e)
theorem cl_test (h : MI st fr U) (ho : okL s) : mCl (mE l x1 st.length p (some (strP (s.take 1))) x6 x7) U = some (hdE fr s, U) := by
  have hg := h.sg
  unfold mCl
  cases fr with
  | nil =>
    have t : tru U (.ref (st.length + 2)) = some false := by simp [tru, hg, sgnF]
    rw [iAnd_e]
    simp [t, hdE]
  | cons f fr =>
    have t : tru U (.ref (st.length + 2)) = some true := by simp [tru, hg, sgnF]
    have he := (h.fs f (List.mem_cons_self ..)).2.2.1
    rw [sgnF_cons] at hg
    have hs := fSubB_l (i := -1) hg
    rw [atI_last] at hs
    have t1 : iTest (iVar 3) (mE l x1 st.length p (some (strP (s.take 1))) x6 x7) U = some (true, U) := by simp [t]
    have t2 : iBin fSubB (iVar 3) (iUn fNeg (iC (.int 1))) (mE l x1 st.length p (some (strP (s.take 1))) x6 x7) U = some (sgn f, U) := by
      simp only [iBin_e, iVar_e, List.getElem?_cons_succ, List.getElem?_cons_zero, iUn_e, iC_e, fNeg_i, ob_s, hs, Option.map_some]
    have t3 : fTab tab_CLOSING (sgn f) U = some (.str (S [f.e]), U) := by
      unfold sgn
      rcases he with h | h
      · rw [h, if_pos rfl, ← c_29]
        simp
      · rw [h, if_neg (by decide)]
        have h9 := look_c [91]
        rw [if_neg (by decide), if_pos (by decide)] at h9
        have h9 : tab_CLOSING.lookup (S [91]) = some (.str S_x5d) := h9
        rw [← c_5b] at h9
        rw [fTab_s, h9, ← c_5d]
        rfl
    have t4 := eqP_hd (st := U) (b := S [f.e]) rfl (by rcases he with h | h <;> omega) ho
    rw [iAnd_e, t1]
    simp only [ob_s, if_true]
    have t5 : iVar 5 (mE l x1 st.length p (some (strP (s.take 1))) x6 x7) U = some (strP (s.take 1), U) := rfl
    rw [iTestB_e, iBin_e, t5, ob_s, iUn_e, t2]
    simp only [ob_s, t3, fEqB_e, eqB_str, t4, Option.map_some, isBl_e]
    rfl
theorem cs_e {f : Fr} (h : MI st (f :: fr) U) (hl : (accF fr).length + 1 ≤ 20000) : ∃ y6 U2, mCs (mE l x1 st.length p x5 x6 x7) U = some (.nx (mE l x1 st.length (p + 1) x5 y6 x7) U2) ∧ Aft st fr (mkD f.e f.acc) U2 := by
  have hz := h.zl
  obtain ⟨h1, h2, h3, h4⟩ := h.fs f (List.mem_cons_self ..)
  have hc := h.close
  have hr := h.rs
  rw [rowsF_cons] at hr
  have hg := h.sg
  rw [sgnF_cons] at hg
  have p1 := pop_e (io := iVar 2) (env := mE l x1 st.length p x5 x6 x7) (S := U) (w := st.length + 1) rfl hr
  obtain ⟨U1, hU1⟩ : ∃ U1, U1 = U.set (st.length + 1) (.lst (rowsF st.length fr)) := ⟨_, rfl⟩
  rw [← hU1] at p1 hc
  have hr1 : U1[st.length + 1]? = some (.lst (rowsF st.length fr)) := by rw [hU1]; exact set_at hr
  have hg1 : U1[st.length + 2]? = some (.lst (sgnF fr ++ [sgn f])) := by rw [hU1, List.getElem?_set_ne (by omega)]; exact hg
  have p2 := pop_e (io := iVar 3) (env := mE l x1 st.length p x5 (some (.ref f.q)) x7) (S := U1) (w := st.length + 2) rfl hg1
  obtain ⟨U2, hU2⟩ : ∃ U2, U2 = U1.set (st.length + 2) (.lst (sgnF fr)) := ⟨_, rfl⟩
  rw [← hU2] at p2 hc
  have hq2 : U2[f.q]? = some (.lst (f.acc.map pd)) := by rw [hU2, List.getElem?_set_ne (by omega), hU1, List.getElem?_set_ne (by omega)]; exact h2
  have hk : U1[lastq st.length fr]? = some (.lst ((accF fr).map pd)) := by
    have := hc.last
    have hlq : lastq st.length fr ≠ f.q ∧ lastq st.length fr ≠ st.length + 2 := by
      cases fr with
      | nil => exact ⟨by show st.length ≠ f.q; omega, by show st.length ≠ st.length + 2; omega⟩
      | cons g fr =>
        have hnd := h.nd
        rw [List.map_cons, List.nodup_cons] at hnd
        refine ⟨fun z => hnd.1 (List.mem_map.mpr ⟨g, List.mem_cons_self .., z⟩), ?_⟩
        have := (h.fs g (List.mem_cons_of_mem _ (List.mem_cons_self ..))).1
        show g.q ≠ st.length + 2
        omega
    rw [List.getElem?_set_ne (Ne.symm hlq.1), hU2, List.getElem?_set_ne (Ne.symm hlq.2)] at this
    exact this
  have hv : mV (mE l x1 st.length p x5 (some (.ref f.q)) x7) U1 = some (pd (mkD f.e f.acc), U2.set f.q .gone) := by
    have t1 : iTestB (iBin fEqB (iPop (iVar 3)) (iC (.str S_x28))) (mE l x1 st.length p x5 (some (.ref f.q)) x7) U1 = some (decide (f.e = 41), U2) := by
      have e : fEqB (sgn f) (.str S_x28) U2 = some (.bl (decide (f.e = 41)), U2) := by
        unfold sgn
        rcases h3 with h | h
        · rw [h]; simp
        · rw [h]; simp
      simp only [iTestB_e, iBin_e, p2, iC_e, ob_s, e, Option.map_some, isBl_e]
    have t2 : iFrz (iVar 6) (mE l x1 st.length p x5 (some (.ref f.q)) x7) U2 = some (.frz (f.acc.map pd), U2.set f.q .gone) := by
      have : iVar 6 (mE l x1 st.length p x5 (some (.ref f.q)) x7) U2 = some (.ref f.q, U2) := rfl
      rw [iFrz_e, this, ob_s, frzV_lst hq2]
    unfold mV mkD
    rw [iIf_e, t1]
    by_cases h41 : f.e = 41
    · rw [decide_eq_true h41, if_pos h41]
      simp only [ob_s, iCall_e, iCons_e, iNil_e, t2, a1_e, fTuple_e, itemsOf_f, Option.map_some, pd, pds_map]
    · rw [decide_eq_false h41, if_neg h41]
      simp only [ob_s, t2, pd, pds_map]
  obtain ⟨U4, e4, h5⟩ := put_e (st := st) (fr := fr) (E := mE l x1 st.length p x5 (some (.ref f.q)) x7) hr1 hk rfl hl hv hc
  refine ⟨some (.ref f.q), U4, ?_, h5⟩
  unfold mCs
  rw [asg_seq p1]
  show iSeq _ _ (mE l x1 st.length p x5 (some (.ref f.q)) x7) U1 = _
  rw [nx_seq e4]
  simp
theorem mach (T : Tx l) : ∀ (m k : Nat) (fr : List Fr) (U : Sto) (i : Nat) (p : Int) (x5 x6 x7 : Option PV), MI st fr U → Dk k (l.drop i) → p = (i : Int) → i ≤ l.length → (l.drop i).length + 1 < m →
    fr.length + (l.drop i).length ≤ 15000 → (∀ f ∈ fr, f.acc.length + (l.drop i).length ≤ 15000) → MR l x1 st (val k fr (l.drop i)) (wloop mTest (mBody (GG (n + 2))) m (mE l x1 st.length p x5 x6 x7) U)
  | 0, k, fr, U, i, p, x5, x6, x7, _, _, _, _, h, _, _ => by omega
  | m + 1, k, fr, U, i, p, x5, x6, x7, h, hk, hp, hi, hm, hB, hA => by
    have hlen := T.len
    have fin : ∀ (d : D) (U2 : Sto) (p2 : Int) (y5 y6 y7 : Option PV), Done st d U2 → 0 < m → wloop mTest (mBody (GG (n + 2))) m (mE l x1 st.length p2 y5 y6 y7) U2 = some (.nx (mE l x1 st.length p2 y5 y6 y7) U2) := fun d U2 p2 y5 y6 y7 hd hm => by
      cases m with
      | zero => omega
      | succ m => rw [wloop, test_done hd]
    rw [wloop, test_e h]
    simp only
    have hs := sl1 (st := U) (env := mE l x1 st.length p x5 x6 x7) (ia := iVar 0) (ib := iVar 4) (ic := iBin fAdd (iVar 4) (iC (.int 1))) (p := p) (i := i) T rfl rfl (by simp) hp
    obtain ⟨s, hsd⟩ : ∃ s, s = l.drop i := ⟨_, rfl⟩
    rw [← hsd] at hs hk hm hB hA ⊢
    have o2 : okL s := by rw [hsd]; exact T.ok.drop i
    have htl : s.tail = l.drop (i + 1) := by rw [hsd, tail_of]
    have lc := look_c s
    have tA : mA (mE l x1 st.length p (some (strP (s.take 1))) x6 x7) U = some ((tab_CLOSING.lookup (S (s.take 1))).isSome, U) := by
      unfold mA
      have : iVar 5 (mE l x1 st.length p (some (strP (s.take 1))) x6 x7) U = some (strP (s.take 1), U) := rfl
      simp only [iTestB_e, iUn_e, this, ob_s, fInTab_s, Bool.false_xor, isBl_e, Option.map_some]
    have body : mBody (GG (n + 2)) (mE l x1 st.length p x5 x6 x7) U = iIfS mA mOp (iIfS mCl mCs (mPl (GG (n + 2)))) (mE l x1 st.length p (some (strP (s.take 1))) x6 x7) U := by
      unfold mBody
      rw [asg_seq hs]
      rfl
    rw [body, iIfS_e, tA, ob_s]
    have opened : ∀ (c e : Nat), (c = 40 ∧ e = 41) ∨ (c = 91 ∧ e = 93) → s.head? = some c → (tab_CLOSING.lookup (S (s.take 1))).isSome = true → MR l x1 st (val k fr s) (match (match (tab_CLOSING.lookup (S (s.take 1))).isSome with
        | true => mOp (mE l x1 st.length p (some (strP (s.take 1))) x6 x7) U
        | false => iIfS mCl mCs (mPl (GG (n + 2))) (mE l x1 st.length p (some (strP (s.take 1))) x6 x7) U) with
      | some (.nx e s) => wloop mTest (mBody (GG (n + 2))) m e s
      | some (.ct e s) => wloop mTest (mBody (GG (n + 2))) m e s
      | some (.bk e s) => some (.nx e s)
      | some (.rt v s) => some (.rt v s)
      | some (.er e c fs s) => some (.er e c fs s)
      | none => none) := by
      intro c e hce hc hso
      have hlt : i < l.length := by rw [hsd] at hc; exact head_lt hc
      have htk : s.take 1 = [c] := by cases s with
        | nil => cases hc
        | cons d r => cases hc; rfl
      rw [hso, htk]
      obtain ⟨k', rfl⟩ : ∃ k', k = k' + 1 := by
        rcases hk with h | h
        · exact ⟨k - 1, by omega⟩
        · rw [hc] at h
          rcases hce with ⟨rfl, _⟩ | ⟨rfl, _⟩ <;> cases h
      obtain ⟨U2, q, e1, h2⟩ := op_e (l := l) (x1 := x1) (p := p) (x6 := x6) (x7 := x7) h hce (by have := tail_lt hc; omega)
      simp only [e1]
      rw [val_open (q := q) hce hc (fun f hf => (h.fs f hf).2.2.1)]
      have hk2 := Dk.open hk (by rcases hce with ⟨h, _⟩ | ⟨h, _⟩; exact .inl h; exact .inr h) hc
      have ht := tail_lt hc
      rw [htl] at hk2 ht ⊢
      exact mach T m k' _ U2 (i + 1) (p + 1) _ _ _ h2 hk2 (by omega) (by omega) (by omega) (by simp only [List.length_cons]; omega) (fun f hf => by
        rcases List.mem_cons.mp hf with rfl | hf
        · simp only [List.length_nil]; omega
        · have := hA f hf
          omega)
    by_cases h40 : s.head? = some 40
    · exact opened 40 41 (.inl ⟨rfl, rfl⟩) h40 (by rw [lc, if_pos h40]; rfl)
    by_cases h91 : s.head? = some 91
    · exact opened 91 93 (.inr ⟨rfl, rfl⟩) h91 (by rw [lc, if_neg h40, if_pos h91]; rfl)
    rw [lc, if_neg h40, if_neg h91]
    simp only [Option.isSome_none]
    have tC := cl_test (l := l) (x1 := x1) (p := p) (x6 := x6) (x7 := x7) h o2
    rw [iIfS_e, tC, ob_s]
    by_cases hcl : ∃ f fr', fr = f :: fr' ∧ s.head? = some f.e
    · obtain ⟨f, fr', rfl, hf⟩ := hcl
      have hlt : i < l.length := by rw [hsd] at hf; exact head_lt hf
      have ht := tail_lt hf
      have hacc : (accF fr').length + 1 ≤ 20000 := by
        cases fr' with
        | nil => simp [accF]
        | cons g fr'' =>
          have := hA g (List.mem_cons_of_mem _ (List.mem_cons_self ..))
          show g.acc.length + 1 ≤ 20000
          omega
      obtain ⟨y6, U2, e1, h2⟩ := cs_e (l := l) (x1 := x1) (p := p) (x5 := some (strP (s.take 1))) (x6 := x6) (x7 := x7) h hacc
      have hdt : hdE (f :: fr') s = true := decide_eq_true hf
      rw [hdt]
      simp only [e1]
      rw [val_close hf]
      cases fr' with
      | nil =>
        refine ⟨some (strP (s.take 1)), y6, x7, U2, ?_, h2⟩
        rw [fin _ U2 _ _ _ _ h2 (by omega), htl, pos_drop (by omega), show p + 1 = ((i + 1 : Nat) : Int) by omega]
      | cons g fr'' =>
        simp only
        have hk2 : Dk (k + 1) s.tail := by
          rcases hk with h | h
          · have := op_suf (List.tail_suffix s)
            exact .inl (by omega)
          · rw [hf] at h
            rcases (‹MI st (f :: g :: fr'') U›.fs f (List.mem_cons_self ..)).2.2.1 with h' | h' <;> (rw [h'] at h; cases h)
        rw [htl] at hk2 ht ⊢
        exact mach T m (k + 1) _ U2 (i + 1) (p + 1) _ _ _ h2 hk2 (by omega) (by omega) (by omega) (by simp only [List.length_cons] at hB ⊢; omega) (fun f' hf' => by
          rcases List.mem_cons.mp hf' with rfl | hf'
          · have := hA g (List.mem_cons_of_mem _ (List.mem_cons_self ..))
            simp only [List.length_append, List.length_cons, List.length_nil]
            omega
          · have := hA f' (List.mem_cons_of_mem _ (List.mem_cons_of_mem _ hf'))
            omega)
    · have hne : ∀ f ∈ fr.head?, s.head? ≠ some f.e := fun f hf hz => by
        cases fr with
        | nil => cases hf
        | cons g fr' =>
          cases hf
          exact hcl ⟨_, _, rfl, hz⟩
      have hfl : hdE fr s = false := by
        cases fr with
        | nil => rfl
        | cons g fr' => exact decide_eq_false (hne g rfl)
      rw [hfl]
      simp only
      have hr := e_rplain (n := n) (st := U) (p := p) (i := i) T hp hi
      rw [← hsd] at hr
      have call : iCallX (GG (n + 2) I__read_plain) (iCons (iVar 0) (iCons (iVar 4) iNil)) (mE l x1 st.length p (some (strP (s.take 1))) x6 x7) U = GG (n + 2) I__read_plain [strP l, .int p] U := by
        simp only [iCallX_e, iCons_e, iNil_e, iVar_e, List.getElem?_cons_zero, List.getElem?_cons_succ, ob_s]
      cases hpl : plain s with
      | er r =>
        rw [hpl] at hr
        obtain ⟨g, hr⟩ := hr
        obtain ⟨g0, hg0⟩ := h.old
        rw [val_er h40 h91 hne hpl]
        have hb : mPl (GG (n + 2)) (mE l x1 st.length p (some (strP (s.take 1))) x6 x7) U = some (.er (mE l x1 st.length p (some (strP (s.take 1))) x6 x7) S_FormError [(S_at, .int (pos l r))] (U ++ g)) := by
          unfold mPl
          rw [iSeq_e, iAsgX_e, call, hr]
          rfl
        rw [hb]
        exact ⟨_, g0 ++ g, by rw [hg0, List.append_assoc]⟩
      | ok d r =>
        rw [hpl] at hr
        have hr : _ = _ := hr
        obtain ⟨hsu, hsl⟩ := plain_eats s d r hpl
        obtain ⟨j, hj1, hj2, hj3⟩ := suf_at (hsu.trans (by rw [hsd]; exact List.drop_suffix _ _) : r <:+ l)
        have ha : iAsgX (gT 2 (gCs (gN 7) (gCs (gN 4) gNs))) (iCallX (GG (n + 2) I__read_plain) (iCons (iVar 0) (iCons (iVar 4) iNil))) (mE l x1 st.length p (some (strP (s.take 1))) x6 x7) U = some (.nx (mE l x1 st.length (pos l r) (some (strP (s.take 1))) x6 (some (pd d))) U) := by
          rw [iAsgX_e, call, hr]
          rfl
        have hacc : (accF fr).length + 1 ≤ 20000 := by
          cases fr with
          | nil => simp [accF]
          | cons g fr' =>
            have := hA g (List.mem_cons_self ..)
            show g.acc.length + 1 ≤ 20000
            omega
        obtain ⟨U2, e4, h5⟩ := put_e (st := st) (fr := fr) (E := mE l x1 st.length (pos l r) (some (strP (s.take 1))) x6 (some (pd d))) (v := iVar 7) (d := d) h.rs h.last rfl hacc rfl h
        have hb : mPl (GG (n + 2)) (mE l x1 st.length p (some (strP (s.take 1))) x6 x7) U = some (.nx (mE l x1 st.length (pos l r) (some (strP (s.take 1))) x6 (some (pd d))) U2) := by
          unfold mPl
          rw [nx_seq ha, e4]
        rw [hb, val_ok h40 h91 hne hpl]
        have hk2 : Dk k r := by
          rcases hk with h | h
          · have := op_suf hsu
            exact .inl (by omega)
          · rw [plain_x h] at hpl
            cases hpl
        cases fr with
        | nil =>
          refine ⟨some (strP (s.take 1)), x6, some (pd d), U2, ?_, h5⟩
          simp only
          rw [fin _ U2 _ _ _ _ h5 (by omega)]
        | cons g fr' =>
          simp only
          rw [← hj3] at hk2 hsl ⊢
          rw [hj1] at hj1
          have hpj : pos l (l.drop j) = (j : Int) := pos_drop hj2
          rw [hpj]
          exact mach T m k _ U2 j (j : Int) _ _ _ h5 hk2 rfl hj2 (by omega) (by simp only [List.length_cons] at hB ⊢; omega) (fun f' hf' => by
            rcases List.mem_cons.mp hf' with rfl | hf'
            · have := hA g (List.mem_cons_self ..)
              simp only [List.length_append, List.length_cons, List.length_nil]
              omega
            · have := hA f' (List.mem_cons_of_mem _ hf')
              omega)
end
end J51

/-! decode, and what the law makes of both -/
namespace J51
open PySem PySem.Spec PyProof.Rows L2 IL SX
section
variable {n : Nat} {st U : Sto} {l s r : List Nat} {k : Nat}
theorem e_rform (T : Tx l) (hk : Dk k l) : Rd l st (fD l) (rd k l) (GG (n + 3) I_read_form [strP l, .int 0] st) := by
  have hlen := T.len
  rw [e_read_form]
  refine WR.to rfl ?_ fun d r => by simp [nr, nrs, nr_pd]
  show WR l st _ _ (b_read_form _ _ [some (strP l), some (.int 0), none, none, none, none, none, none] st)
  obtain ⟨U0, hU0⟩ : ∃ U0 : Sto, U0 = st ++ [.lst [], .lst [.ref st.length], .lst []] := ⟨_, rfl⟩
  have h0 : MI st [] U0 := by
    rw [hU0]
    exact ⟨by simp, by simp [rowsF], by simp [sgnF], (fun f hf => by cases hf), by simp, ⟨_, rfl⟩, by simp⟩
  obtain ⟨m, hm⟩ := iWhile_at 20000 (by omega)
  have hw := mach (n := n) (x1 := some (.int 0)) T (m + 20000) k [] U0 0 0 none none none h0 (by rw [List.drop_zero]; exact hk) rfl (Nat.zero_le _) (by rw [List.drop_zero]; omega) (by rw [List.drop_zero, List.length_nil]; omega) (fun f hf => by cases hf)
  rw [← hm, List.drop_zero] at hw
  rw [b_rf_e, asg_seq (x := .ref (st.length + 1)) (s2 := st ++ [.lst [], .lst [.ref st.length]]) (by simp)]
  show WR l st _ _ (iSeq _ _ [some (strP l), some (.int 0), some (.ref (st.length + 1)), none, none, none, none, none] (st ++ [.lst [], .lst [.ref st.length]]))
  rw [asg_seq (x := .ref (st.length + 2)) (s2 := U0) (by rw [hU0]; simp)]
  show WR l st _ _ (iSeq _ _ [some (strP l), some (.int 0), some (.ref (st.length + 1)), some (.ref (st.length + 2)), none, none, none, none] U0)
  rw [asg_seq (x := .int 0) (s2 := U0) rfl]
  show WR l st _ _ (iSeq _ _ (mE l (some (.int 0)) st.length 0 none none none) U0)
  have hv : val k [] l = rd k l := rfl
  rw [hv] at hw
  cases ho : rd k l with
  | er r =>
    rw [ho] at hw
    obtain ⟨E, g, hw⟩ := hw
    exact ⟨E, g, by rw [iSeq_e, hw]⟩
  | ok d r =>
    rw [ho] at hw
    obtain ⟨y5, y6, y7, U, hw, hd⟩ := hw
    obtain ⟨g, hg⟩ := hd.old
    refine ⟨g, ?_⟩
    rw [nx_seq hw]
    have h1 : fSubB (.ref (st.length + 1)) (.int 0) U = some (.ref st.length, U) := by
      rw [fSubB_l hd.rs, atI_0]
      rfl
    have h2 : fSubB (.ref st.length) (.int 0) U = some (pd d, U) := by
      rw [fSubB_l hd.r0, atI_0]
      rfl
    have e2 : iVar 2 (mE l (some (.int 0)) st.length (pos l r) y5 y6 y7) U = some (.ref (st.length + 1), U) := rfl
    have e4 : iVar 4 (mE l (some (.int 0)) st.length (pos l r) y5 y6 y7) U = some (.int (pos l r), U) := rfl
    simp only [iRet_e, iTup_e, iCons_e, iNil_e, iBin_e, e2, e4, iC_e, ob_s, h1, h2]
    rw [hg]
    rfl
def topO (o : Ro D) : Ro D := match o with
  | .er r => .er r
  | .ok d r => if r = [] then .ok d [] else .er r
theorem Rd.ok_or {α : Type} {f : α → List Nat → PV} {o : Ro α} {x : Option (RX × Sto)} (h : Rd l st f o x) : (∃ a r, o = .ok a r ∧ x = some (.ok (f a r), st)) ∨ ∃ r g, o = .er r ∧ x = some (.er S_FormError [(S_at, .int (pos l r))], st ++ g) := by
  unfold Rd at h
  cases o with
  | ok a r => exact .inl ⟨a, r, rfl, h⟩
  | er r =>
    obtain ⟨g, h⟩ := h
    exact .inr ⟨r, g, rfl, h⟩
theorem e_dec (T : Tx l) (hk : Dk k l) : Rd l st (fun d _ => pd d) (topO (rd k l)) (GG (n + 4) I_decode [strP l] st) := by
  have hlen := T.len
  rw [e_decode]
  refine WR.to rfl ?_ fun d r => nr_pd d
  show WR l st _ _ (b_decode _ _ [some (strP l), none, none] st)
  have hr := e_rform (n := n) (st := st) T hk
  have call : iCallX (GG (n + 3) I_read_form) (iCons (iVar 0) (iCons (iC (.int 0)) iNil)) [some (strP l), none, none] st = GG (n + 3) I_read_form [strP l, .int 0] st := by
    simp only [iCallX_e, iCons_e, iNil_e, iVar_e, iC_e, List.getElem?_cons_zero, ob_s]
  have bd : b_decode (FF (n + 3)) (GG (n + 3)) = iSeq (iAsgX (gT 2 (gCs (gN 1) (gCs (gN 2) gNs))) (iCallX (GG (n + 3) I_read_form) (iCons (iVar 0) (iCons (iC (.int 0)) iNil)))) (iSeq (iIfS (iTestB (iBin fLt (iVar 2) (iCall (a1 fLenB) (iCons (iVar 0) iNil)))) (iRaise S_FormError S_at okPI (iVar 2)) iSkip) (iRet (iVar 1))) := rfl
  rw [bd]
  rcases Rd.ok_or hr with ⟨d, r, h1, h2⟩ | ⟨r, g, h1, h2⟩
  · rw [h1]
    have ha : iAsgX (gT 2 (gCs (gN 1) (gCs (gN 2) gNs))) (iCallX (GG (n + 3) I_read_form) (iCons (iVar 0) (iCons (iC (.int 0)) iNil))) [some (strP l), none, none] st = some (.nx [some (strP l), some (pd d), some (.int (pos l r))] st) := by
      rw [iAsgX_e, call, h2]
      rfl
    have hsu := (rd_eats k l d r h1).1
    obtain ⟨j, hj1, hj2, hj3⟩ := suf_at hsu
    have hlb : fLenB (strP l) st = some (.int (l.length : Int), st) := by rw [fLenB_s, S_len, if_pos (by omega)]
    have t : iTestB (iBin fLt (iVar 2) (iCall (a1 fLenB) (iCons (iVar 0) iNil))) [some (strP l), some (pd d), some (.int (pos l r))] st = some (decide (pos l r < (l.length : Int)), st) := by
      simp only [iTestB_e, iBin_e, iCall_e, iCons_e, iNil_e, iVar_e, ob_s, List.getElem?_cons_zero, List.getElem?_cons_succ, a1_e, hlb, fLt_i, Option.map_some, isBl_e]
    rw [nx_seq ha]
    show WR l st _ (if r = [] then .ok d [] else .er r) _
    have hrl : (pos l r : Int) = (l.length : Int) - (r.length : Int) := rfl
    by_cases h0 : r = []
    · rw [if_pos h0]
      rw [decide_eq_false (by rw [hrl, h0]; simp)] at t
      refine ⟨[], ?_⟩
      rw [if_no t, List.append_nil]
      rfl
    · rw [if_neg h0]
      have := List.length_pos_iff.mpr h0
      rw [decide_eq_true (by omega)] at t
      have okp : okPI (.int (pos l r)) = true := by rw [okPI_i]; exact small_ok hj1 (by omega)
      have hrs : iRaise S_FormError S_at okPI (iVar 2) [some (strP l), some (pd d), some (.int (pos l r))] st = some (.er [some (strP l), some (pd d), some (.int (pos l r))] S_FormError [(S_at, .int (pos l r))] st) := by
        simp only [iRaise_e, iVar_e, List.getElem?_cons_zero, List.getElem?_cons_succ, ob_s, okp, if_true]
      refine ⟨[some (strP l), some (pd d), some (.int (pos l r))], [], ?_⟩
      rw [if_er t hrs, List.append_nil]
  · rw [h1]
    refine ⟨[some (strP l), none, none], g, ?_⟩
    have ha : iAsgX (gT 2 (gCs (gN 1) (gCs (gN 2) gNs))) (iCallX (GG (n + 3) I_read_form) (iCons (iVar 0) (iCons (iC (.int 0)) iNil))) [some (strP l), none, none] st = some (.er [some (strP l), none, none] S_FormError [(S_at, .int (pos l r))] (st ++ g)) := by
      rw [iAsgX_e, call, h2]
      rfl
    rw [iSeq_e, ha]
def toldP (l : List Nat) : Ro D → PV
  | .ok d _ => .tup [.str S_data, pd d]
  | .er r => .tup [.str S_wrong, .int (pos l r), .bl true]
theorem nr_told {o : Ro D} : nr (toldP l o) = true := by cases o <;> simp [toldP, nr, nrs, nr_pd]
theorem e_told (T : Tx l) (hk : Dk k l) : FF (n + 5) I__law_told [strP l] st = some (toldP l (topO (rd k l)), st) := by
  rw [e__law_told]
  have h := e_dec (n := n) (st := st) T hk
  obtain ⟨E, hE⟩ : ∃ E : PEnv, E = [some (strP l), none] := ⟨_, rfl⟩
  have e0 : b__law_told (FF (n + 4)) (GG (n + 4)) [some (strP l), none] st = iCatch S_FormError (iRetX (iTupX (iConsX (iOk (iC (.str S_data))) (iConsX (iCallX (GG (n + 4) I_decode) (iCons (iVar 0) iNil)) (iOks iNil))))) 1 (fun fs => (iRet (iTup (iCons (iC (.str S_wrong)) (iCons (iExF fs S_at) (iCons (iC (.bl true)) iNil)))))) iSkip E st := by rw [hE]; rfl
  have call : iCallX (GG (n + 4) I_decode) (iCons (iVar 0) iNil) E st = GG (n + 4) I_decode [strP l] st := by
    rw [hE]
    simp only [iCallX_e, iCons_e, iNil_e, iVar_e, List.getElem?_cons_zero, ob_s]
  rcases Rd.ok_or h with ⟨d, r, h1, h2⟩ | ⟨r, g, h1, h2⟩
  · rw [h1]
    refine def_pure0 rfl ?_ nr_told
    show b__law_told _ _ [some (strP l), none] st = _
    have hb : iRetX (iTupX (iConsX (iOk (iC (.str S_data))) (iConsX (iCallX (GG (n + 4) I_decode) (iCons (iVar 0) iNil)) (iOks iNil)))) E st = some (.rt (.tup [.str S_data, pd d]) st) := by
      simp only [iRetX_e, iTupX_e, iConsX_e, iOk_e, iOks_e, iC_e, iNil_e, call, h2, ob_s, Option.map_some]
      rfl
    rw [e0]
    unfold iCatch
    rw [hb]
    rfl
  · rw [h1]
    refine def_pure (l := g) rfl ?_ nr_told
    show b__law_told _ _ [some (strP l), none] st = _
    have hb : iRetX (iTupX (iConsX (iOk (iC (.str S_data))) (iConsX (iCallX (GG (n + 4) I_decode) (iCons (iVar 0) iNil)) (iOks iNil)))) E st = some (.er E S_FormError [(S_at, .int (pos l r))] (st ++ g)) := by
      simp only [iRetX_e, iTupX_e, iConsX_e, iOk_e, iOks_e, iC_e, iNil_e, call, h2, ob_s, Option.map_some]
    rw [e0]
    unfold iCatch
    rw [hb]
    simp [hE, toldP]
def dueP (l : List Nat) : Ro D → PV
  | .ok d _ => .tup [.str S_data, pd d]
  | .er r => .tup [.str S_wrong, .int (pos l r)]
theorem e_due (T : Tx l) (hk : Dk k l) : FF (n + 2 * k + 4) I__law_due [strP l] st = some (dueP l (topO (rd k l)), st) := by
  have hlen := T.len
  rw [show n + 2 * k + 4 = (n + 2 * k + 3) + 1 by omega, e__law_due]
  refine def_pure0 rfl ?_ (by unfold dueP; split <;> simp [nr, nrs, nr_pd])
  show b__law_due _ _ [some (strP l), none] st = _
  have hr := e_lread (n := n) T k 0 0 st (by rw [List.drop_zero]; exact hk) rfl (Nat.zero_le _)
  rw [List.drop_zero] at hr
  have call : iCall (FF (n + 2 * k + 3) I__law_read) (iCons (iVar 0) (iCons (iC (.int 0)) iNil)) [some (strP l), none] st = some (resP l (rd k l), st) := by
    simp only [iCall_e, iCons_e, iNil_e, iVar_e, iC_e, List.getElem?_cons_zero, ob_s, hr]
  have bd : b__law_due (FF (n + 2 * k + 3)) (GG (n + 2 * k + 3)) = iSeq (iAsg (gN 1) (iCall (FF (n + 2 * k + 3) I__law_read) (iCons (iVar 0) (iCons (iC (.int 0)) iNil)))) (iSeq (iIfS (iAnd (iTestB (iBin fEqB (iBin fSubB (iVar 1) (iC (.int 0))) (iC (.str S_data)))) (iTestB (iBin fLt (iBin fSubB (iVar 1) (iC (.int 2))) (iCall (a1 fLenB) (iCons (iVar 0) iNil))))) (iRet (iTup (iCons (iC (.str S_wrong)) (iCons (iBin fSubB (iVar 1) (iC (.int 2))) iNil)))) iSkip) (iRet (iSl fSl (iVar 1) iNo (iPart (iC (.int 2)))))) := rfl
  rw [bd, asg_seq call]
  show iSeq _ _ [some (strP l), some (resP l (rd k l))] st = _
  have hlb : fLenB (strP l) st = some (.int (l.length : Int), st) := by rw [fLenB_s, S_len, if_pos (by omega)]
  have cut2 : ∀ a b : PV, ∀ rest : List PV, cutP (a :: b :: rest) none (some 2) = [a, b] := fun a b rest => by
    unfold cutP
    simp [HT.sIx]
  cases ho : rd k l with
  | er r =>
    have t1 : iTestB (iBin fEqB (iBin fSubB (iVar 1) (iC (.int 0))) (iC (.str S_data))) [some (strP l), some (resP l (.er r))] st = some (false, st) := by simp [resP]
    have t2 : iAnd (iTestB (iBin fEqB (iBin fSubB (iVar 1) (iC (.int 0))) (iC (.str S_data)))) (iTestB (iBin fLt (iBin fSubB (iVar 1) (iC (.int 2))) (iCall (a1 fLenB) (iCons (iVar 0) iNil)))) [some (strP l), some (resP l (.er r))] st = some (false, st) := by
      rw [iAnd_e, t1]
      rfl
    rw [if_no t2]
    simp [resP, fSl, cut2, topO, dueP]
  | ok d r =>
    have t1 : iTestB (iBin fEqB (iBin fSubB (iVar 1) (iC (.int 0))) (iC (.str S_data))) [some (strP l), some (resP l (.ok d r))] st = some (true, st) := by simp [resP]
    have t3 : iTestB (iBin fLt (iBin fSubB (iVar 1) (iC (.int 2))) (iCall (a1 fLenB) (iCons (iVar 0) iNil))) [some (strP l), some (resP l (.ok d r))] st = some (decide (pos l r < (l.length : Int)), st) := by
      have q1 : iBin fSubB (iVar 1) (iC (.int 2)) [some (strP l), some (resP l (.ok d r))] st = some (.int (pos l r), st) := by simp [resP]
      have q2 : iCall (a1 fLenB) (iCons (iVar 0) iNil) [some (strP l), some (resP l (.ok d r))] st = some (.int (l.length : Int), st) := by
        simp only [iCall_e, iCons_e, iNil_e, iVar_e, List.getElem?_cons_zero, ob_s, a1_e, hlb]
      rw [iTestB_e, iBin_e, q1, ob_s, q2, ob_s, fLt_i]
      rfl
    have t2 : iAnd (iTestB (iBin fEqB (iBin fSubB (iVar 1) (iC (.int 0))) (iC (.str S_data)))) (iTestB (iBin fLt (iBin fSubB (iVar 1) (iC (.int 2))) (iCall (a1 fLenB) (iCons (iVar 0) iNil)))) [some (strP l), some (resP l (.ok d r))] st = some (decide (pos l r < (l.length : Int)), st) := by
      rw [iAnd_e, t1]
      simp only [ob_s, if_true, t3]
    have hrl : (pos l r : Int) = (l.length : Int) - (r.length : Int) := rfl
    show _ = some (Fl.rt (dueP l (if r = [] then .ok d [] else .er r)) st)
    by_cases h0 : r = []
    · rw [decide_eq_false (by rw [hrl, h0]; simp)] at t2
      rw [if_no t2, if_pos h0]
      simp [resP, fSl, cut2, dueP]
    · have := List.length_pos_iff.mpr h0
      rw [decide_eq_true (by omega)] at t2
      rw [if_neg h0]
      refine if_rt t2 ?_
      simp [resP, dueP]
end
end J51

/-! comprehensions and lists whose items draw -/
namespace J51
open PySem PySem.Spec PyProof.Rows L2 IL SX
section
variable {n s c : Nat} {st st1 st2 : Sto}
theorem Mv.old {l : Sto} (M : Mv s c st st1) : ∀ i so, i < st.length → (st1 ++ l)[i]? = some so → st[i]? = some so ∨ rltO st.length so := fun i so hi e => by
  rw [List.getElem?_append_left (by rw [M.len]; exact hi)] at e
  by_cases h1 : i = s
  · subst h1
    obtain ⟨k, hk⟩ := M.ls.s
    rw [hk] at e; cases e
    obtain ⟨cells, _, _, hc⟩ := M.ls.c
    have := lt_of_at hc
    rw [M.len] at this
    exact .inr ⟨trivial, this, trivial⟩
  · by_cases h2 : i = c
    · subst h2
      obtain ⟨cells, _, _, hc⟩ := M.ls.c
      rw [hc] at e; cases e
      exact .inr (rlts_nr _ (nrs_map fun x _ => by simp [nr]))
    · exact .inl (by rw [← M.eq i h1 h2]; exact e)
/-- a new list, whose making draws -/
theorem new_draw {ia : IE} {env : PEnv} {xs : List PV} {l : Sto} (M : Mv s c st st1) (h : ia env st = some (.ref st1.length, st1 ++ [.lst xs] ++ l)) (hx : nrs xs = true) : iNew ia env st = some (.frz xs, st1) := by
  rw [new_ch h at_mid (by rw [M.len]; exact Nat.le_refl _) hx (by rw [List.append_assoc]; exact M.old), List.append_assoc, ← M.len, List.take_left']
  rfl
theorem LS.lt (h : LS st s c) : s < st.length ∧ c < st.length := by
  obtain ⟨k, hk⟩ := h.s
  obtain ⟨cells, _, _, hc⟩ := h.c
  exact ⟨lt_of_at hk, lt_of_at hc⟩
theorem LS.of_eq (h : LS st s c) (hs : st1[s]? = st[s]?) (hc : st1[c]? = st[c]?) : LS st1 s c := by
  obtain ⟨k, hk⟩ := h.s
  obtain ⟨cells, a, b, hx⟩ := h.c
  exact ⟨h.ne, ⟨k, by rw [hs]; exact hk⟩, cells, a, b, by rw [hc]; exact hx⟩
structure LI (s c d N : Nat) (P : Nat → PV → Prop) (s1 : Sto) (i : Nat) (acc : List PV) (S : Sto) : Prop where
  len : S.length = s1.length + 1
  eq : ∀ j, j < s1.length → j ≠ s → j ≠ c → S[j]? = s1[j]?
  ls : LS S s c
  at_ : S[s1.length]? = some (.lst acc)
  al : acc.length = i
  p : ∀ y ∈ acc, ∃ k, k < N ∧ P k y
theorem lc_draw {N : Nat} {it : Nat → PV} {src : Src} {ii : II} {ig : IG} {t : IT} {e : IE} {vs : List Nat} {env : PEnv} (P : Nat → PV → Prop) (hP : ∀ i y, P i y → nr y = true) (hi : ii env st = some (src, st1)) (M : Mv s c st st1) (hn : src.n = N) (hN : N ≤ 1000) (h1 : ∀ S i, i < N → src.at_ S i = some (some (it i))) (h2 : ∀ S, src.at_ S N = some none)
    (step : ∀ i, i < N → ∀ S, LS S s c → ∃ env1 y S', ig (it i) (wipeE env vs) S = some env1 ∧ t env1 S = some (true, S) ∧ e env1 S = some (y, S') ∧ Mv s c S S' ∧ P i y) :
    ∃ ys st', iNew (iLc ii ig t e vs) env st = some (.frz ys, st') ∧ Mv s c st st' ∧ ys.length = N ∧ ∀ y ∈ ys, ∃ k, k < N ∧ P k y := by
  obtain ⟨ls1, lc1⟩ := M.ls.lt
  obtain ⟨acc, S, hl, I⟩ := lc_inv (at_ := src.at_) (ig := ig) (t := t) (e := e) (d := st1.length) (envw := wipeE env vs) (LI s c st1.length N P st1) N (fun acc S _ => h2 S) (fun i acc S hi I => by
    obtain ⟨env1, y, S', g1, g2, g3, M2, p⟩ := step i hi S I.ls
    have hd : S'[st1.length]? = some (.lst acc) := by rw [M2.eq _ (by omega) (by omega)]; exact I.at_
    refine ⟨it i, env1, y, S', h1 S i hi, g1, g2, g3, hd, by rw [I.al]; omega, ?_⟩
    refine ⟨by rw [List.length_set, M2.len]; exact I.len, fun j hj hs hc => ?_, ?_, set_at hd, by rw [List.length_append, I.al]; rfl, fun z hz => ?_⟩
    · rw [List.getElem?_set_ne (by omega), M2.eq j hs hc]; exact I.eq j hj hs hc
    · exact M2.ls.of_eq (List.getElem?_set_ne (by omega)) (List.getElem?_set_ne (by omega))
    · rcases List.mem_append.mp hz with hz | hz
      · exact I.p z hz
      · rw [List.mem_singleton] at hz; subst hz; exact ⟨i, hi, p⟩) (N + 1) 0 [] (st1 ++ [.lst []])
    ⟨by simp, fun j hj _ _ => List.getElem?_append_left hj, M.ls.of_eq (List.getElem?_append_left ls1) (List.getElem?_append_left lc1), new_at, rfl, fun y hy => by cases hy⟩ (Nat.zero_le _) (by omega)
  have hlc : iLc ii ig t e vs env st = some (.ref st1.length, S) := by
    unfold iLc
    rw [hi, ob_s, hn, hl]; rfl
  have hLS : LS (S.take st.length) s c := I.ls.of_eq (by rw [List.getElem?_take_of_lt (by rw [← M.len]; exact ls1)]) (by rw [List.getElem?_take_of_lt (by rw [← M.len]; exact lc1)])
  have hMv : Mv s c st (S.take st.length) := by
    refine ⟨by rw [List.length_take, I.len, M.len]; omega, fun i hs hc => ?_, hLS⟩
    by_cases hi : i < st.length
    · rw [List.getElem?_take_of_lt hi, I.eq i (by rw [M.len]; exact hi) hs hc, M.eq i hs hc]
    · rw [List.getElem?_eq_none (by rw [List.length_take]; omega), List.getElem?_eq_none (by omega)]
  refine ⟨acc, S.take st.length, ?_, hMv, I.al, I.p⟩
  refine new_ch hlc I.at_ (by rw [M.len]; exact Nat.le_refl _) (nrs_all fun y hy => by
    obtain ⟨k, _, hp⟩ := I.p y hy
    exact hP k y hp) fun i so hi e => hMv.old (l := []) i so hi (by rw [List.append_nil, List.getElem?_take_of_lt hi]; exact e)
end
end J51

/-! drawn data -/
namespace J51
open PySem PySem.Spec PyProof.Rows L2 IL SX
def ND : Nat → Nat
  | 0 => 0
  | m + 1 => 3 * ND m + 1
def LB : Nat → Nat
  | 0 => 20
  | m + 1 => 3 * LB m + 2
structure Dr (m : Nat) (d : D) : Prop where
  good : gD d
  deep : dd d ≤ m
  opn : op (enc d) ≤ ND m
  len : (enc d).length ≤ LB m
  okc : ∀ c ∈ enc d, c < 128
theorem LB_le (m : Nat) : 20 ≤ LB m := by
  induction m with
  | zero => exact Nat.le_refl _
  | succ m ih => show 20 ≤ 3 * LB m + 2; omega
theorem op_zero : ∀ {s : List Nat}, (∀ c ∈ s, c ≠ 40 ∧ c ≠ 91) → op s = 0
  | [], _ => rfl
  | c :: r, h => by
    have h1 := h c (List.mem_cons_self ..)
    have h2 := op_zero fun x hx => h x (List.mem_cons_of_mem _ hx)
    unfold op
    rw [if_neg (by rintro ⟨h | h, _⟩; exact h1.1 h; exact h1.2 h), h2]
theorem op_app (b : List Nat) : ∀ a : List Nat, op (a ++ b) ≤ op a + op b
  | [] => by simp [op]
  | [c] => by
    show op (c :: b) ≤ op [c] + op b
    simp only [op]
    by_cases h : c = 40 ∨ c = 91
    · rw [if_pos (show (c = 40 ∨ c = 91) ∧ ([] : List Nat).head? ≠ some 120 from ⟨h, by simp⟩)]
      split <;> omega
    · rw [if_neg (fun z => h z.1)]
      omega
  | c :: d :: r => by
    have ih := op_app b (d :: r)
    show op (c :: (d :: r ++ b)) ≤ op (c :: d :: r) + op b
    have e : (d :: r ++ b).head? = (d :: r).head? := rfl
    rw [op, e]
    conv => rhs; rw [op]
    omega
theorem shI_c {i : Int} : ∀ c ∈ shI i, c = 45 ∨ (48 ≤ c ∧ c ≤ 57) := fun c hc => by
  unfold shI at hc
  split at hc
  · rcases List.mem_cons.mp hc with h | h
    · exact .inl h
    · exact .inr (numL_dig _ c h)
  · exact .inr (numL_dig _ c hc)
theorem dr_int {m : Nat} {i : Int} (h : i.natAbs < 10000000000000000) : Dr m (.int i) := by
  have hl := TL.numL_len (n := i.natAbs) (k := 16) (by decide) h
  have hl2 : (shI i).length ≤ 17 := by
    unfold shI
    split
    · simp; omega
    · omega
  have hb := LB_le m
  have hc : ∀ c ∈ enc (.int i), c ≠ 40 ∧ c ≠ 91 ∧ c < 128 := fun c hc => by
    simp only [enc, List.mem_cons, List.mem_append, List.not_mem_nil, or_false] at hc
    rcases hc with rfl | hc | rfl
    · decide
    · rcases shI_c c hc with h | h <;> omega
    · decide
  refine ⟨h, Nat.zero_le _, by rw [op_zero fun c hc' => ⟨(hc c hc').1, (hc c hc').2.1⟩]; exact Nat.zero_le _, by simp only [enc, List.length_cons, List.length_append, List.length_nil]; omega, fun c hc' => (hc c hc').2.2⟩
def textsD : List (List Nat) := [[], [97], [105, 49, 59], [40, 120], [49, 50, 58]]
theorem textsD_ok : ∀ t ∈ textsD, t.length ≤ 3 ∧ (∀ c ∈ t, c < 128) ∧ op t = 0 := by decide
theorem textsD_s : ([S_, S_a, S_i1x3b, S_x28x, S_12x3a] : List Str) = textsD.map S := by decide +kernel
theorem dr_text {m : Nat} {t : List Nat} (h : t ∈ textsD) : Dr m (.text t) := by
  obtain ⟨h1, h2, h3⟩ := textsD_ok t h
  have hl := TL.numL_len (n := t.length) (k := 1) (by decide) (by omega)
  have hb := LB_le m
  have hp : ∀ c ∈ 116 :: (TL.numL t.length ++ [58]), c ≠ 40 ∧ c ≠ 91 ∧ c < 128 := fun c hc => by
    simp only [List.mem_cons, List.mem_append, List.not_mem_nil, or_false] at hc
    rcases hc with rfl | hc | rfl
    · decide
    · have := numL_dig _ c hc; omega
    · decide
  have e : enc (.text t) = (116 :: (TL.numL t.length ++ [58])) ++ t := by simp [enc]
  refine ⟨⟨by omega, h2⟩, Nat.zero_le _, ?_, ?_, ?_⟩
  · have h4 := op_app t (116 :: (TL.numL t.length ++ [58]))
    rw [← e, op_zero (fun c hc => ⟨(hp c hc).1, (hp c hc).2.1⟩), h3] at h4
    omega
  · rw [e]
    simp only [List.length_append, List.length_cons, List.length_nil]
    omega
  · intro c hc
    rw [e] at hc
    rcases List.mem_append.mp hc with hc | hc
    · exact (hp c hc).2.2
    · exact h2 c hc
theorem dr_non {m : Nat} : Dr m .non := by
  have := LB_le m
  exact ⟨trivial, Nat.zero_le _, by simp [enc, op], by simp [enc]; omega, by simp [enc]⟩
theorem dr_bl {m : Nat} {b : Bool} : Dr m (.bl b) := by
  have := LB_le m
  cases b <;> exact ⟨trivial, Nat.zero_le _, by simp [enc, op], by simp [enc]; omega, by simp [enc]⟩
theorem encs_b {m : Nat} : ∀ {l : List D}, (∀ d ∈ l, Dr m d) → op (encs l) ≤ l.length * ND m ∧ (encs l).length ≤ l.length * LB m ∧ ∀ c ∈ encs l, c < 128
  | [], _ => ⟨by simp [encs, op], by simp [encs], by simp [encs]⟩
  | d :: l, h => by
    have h1 := h d (List.mem_cons_self ..)
    obtain ⟨h2, h3, h4⟩ := encs_b fun x hx => h x (List.mem_cons_of_mem _ hx)
    have h5 := op_app (encs l) (enc d)
    have h6 := h1.opn
    have h7 := h1.len
    simp only [encs, List.length_cons, Nat.succ_mul, List.length_append]
    refine ⟨by omega, by omega, fun c hc => ?_⟩
    rcases List.mem_append.mp hc with hc | hc
    · exact h1.okc c hc
    · exact h4 c hc
theorem dr_nest {m : Nat} {l : List D} (hl : l.length ≤ 3) (h : ∀ d ∈ l, Dr m d) : Dr (m + 1) (.tup l) ∧ Dr (m + 1) (.lst l) := by
  obtain ⟨h1, h2, h3⟩ := encs_b h
  have g := gDs_of fun d hd => (h d hd).good
  have dp := dds_of (m := m) fun d hd => (h d hd).deep
  have n1 := Nat.mul_le_mul_right (ND m) hl
  have n2 := Nat.mul_le_mul_right (LB m) hl
  have key : ∀ a b : Nat, (b = 41 ∨ b = 93) → a < 128 → op (a :: (encs l ++ [b])) ≤ ND (m + 1) ∧ (a :: (encs l ++ [b])).length ≤ LB (m + 1) ∧ ∀ c ∈ a :: (encs l ++ [b]), c < 128 := fun a b hb ha => by
    have h4 := op_app [b] (encs l)
    have h5 : op [b] = 0 := op_zero fun c hc => by rw [List.mem_singleton] at hc; omega
    refine ⟨?_, ?_, fun c hc => ?_⟩
    · show (if _ then 1 else 0) + op (encs l ++ [b]) ≤ 3 * ND m + 1
      split <;> omega
    · show _ ≤ 3 * LB m + 2
      simp only [List.length_cons, List.length_append, List.length_nil]
      omega
    · simp only [List.mem_cons, List.mem_append, List.not_mem_nil, or_false] at hc
      rcases hc with rfl | hc | rfl
      · exact ha
      · exact h3 c hc
      · omega
  obtain ⟨k1, k2, k3⟩ := key 40 41 (.inl rfl) (by decide)
  obtain ⟨j1, j2, j3⟩ := key 91 93 (.inr rfl) (by decide)
  exact ⟨⟨⟨hl, g⟩, by simp only [dd]; omega, k1, k2, k3⟩, ⟨⟨hl, g⟩, by simp only [dd]; omega, j1, j2, j3⟩⟩
section
variable {n s c : Nat} {st st1 st2 : Sto} {env : PEnv}
theorem take_e {k : Int} (h0 : env[0]? = some (some (.ref s))) (h : LS st s c) (h1 : 1 ≤ k) (h2 : k ≤ 1000000) : ∃ r st', iCall (FF (n + 1) I__law_take) (iCons (iVar 0) (iCons (iC (.int k)) iNil)) env st = some (.int r, st') ∧ 0 ≤ r ∧ r < k ∧ Mv s c st st' := by
  obtain ⟨r, st', a, M, b, _⟩ := e_take (n := n) (most := k) h h2
  obtain ⟨b1, b2⟩ := b h1
  refine ⟨r, st', ?_, b1, b2, M⟩
  simp only [iCall_e, iCons_e, iNil_e, iVar_e, h0, iC_e, ob_s, a]
/-- one of a list, drawn -/
theorem one_e {k : Int} {xs : List PV} {ie : IE} (h0 : env[0]? = some (some (.ref s))) (hx : ie env st = some (.frz xs, st1)) (h : LS st1 s c) (hk : k = (xs.length : Int)) (h1 : 1 ≤ xs.length) (h2 : xs.length ≤ 1000) :
    ∃ x st', iBin fSubB ie (iCall (FF (n + 1) I__law_take) (iCons (iVar 0) (iCons (iC (.int k)) iNil))) env st = some (x, st') ∧ x ∈ xs ∧ Mv s c st1 st' := by
  obtain ⟨r, st', a1', a2', a3', M⟩ := take_e (n := n) (env := env) (k := k) h0 h (by omega) (by omega)
  obtain ⟨x, hm, ha⟩ := atI_in (xs := xs) a2' (by omega)
  refine ⟨x, st', ?_, hm, M⟩
  rw [iBin_e, hx, ob_s, a1', ob_s, fSubB_f, ha]
  rfl
noncomputable def dT9 (F : Nat → FA) : IE := (iCall (F I__law_take) (iCons (iVar 0) (iCons (iC (.int 9)) iNil)))
noncomputable def dNums : IE := (iNew (iLst (iCons (iC (.int 0)) (iCons (iC (.int 1)) (iCons (iUn fNeg (iC (.int 1))) (iCons (iC (.int 10)) (iCons (iC (.int 999999999999)) (iCons (iUn fNeg (iC (.int 1000000000000))) (iCons (iC (.int 9999999999999999)) iNil)))))))))
noncomputable def dTexts : IE := (iNew (iLst (iCons (iC (.str S_)) (iCons (iC (.str S_a)) (iCons (iC (.str S_i1x3b)) (iCons (iC (.str S_x28x)) (iCons (iC (.str S_12x3a)) iNil)))))))
noncomputable def dAll (F : Nat → FA) : IE := (iNew (iLst (iCons (iC .non) (iCons (iC (.bl true)) (iCons (iC (.bl false)) (iCons (iBin fSubB (iVar 4) (iCall (F I__law_take) (iCons (iVar 0) (iCons (iC (.int 7)) iNil)))) (iCons (iBin fSubB dTexts (iCall (F I__law_take) (iCons (iVar 0) (iCons (iC (.int 5)) iNil)))) (iCons (iC (.int 7)) iNil))))))))
noncomputable def dLeaf (F : Nat → FA) : IS := (iSeq (iAsg (gN 4) dNums) (iRet (iBin fSubB (dAll F) (iCall (F I__law_take) (iCons (iVar 0) (iCons (iC (.int 6)) iNil))))))
noncomputable def dCond : IT := (iOr (iTestB (iBin fEqB (iVar 1) (iC (.int 0)))) (iTestB (iBin fLt (iVar 2) (iC (.int 6)))))
noncomputable def dParts (F : Nat → FA) : IE := (iNew (iLc (iRange1 (iCons (iCall (F I__law_take) (iCons (iVar 0) (iCons (iC (.int 4)) iNil))) iNil)) (gN 5) iYes (iCall (F I__law_data) (iCons (iVar 0) (iCons (iBin fSub (iVar 1) (iC (.int 1))) iNil))) [5]))
theorem b_data_e (F : Nat → FA) (G : Nat → FX) : b__law_data F G = iSeq (iAsg (gN 2) (dT9 F)) (iSeq (iIfS dCond (dLeaf F) iSkip) (iSeq (iAsg (gN 3) (dParts F)) (iSeq (iIfS (iTestB (iBin fLt (iVar 2) (iC (.int 8)))) (iRet (iCall (a1 fTuple) (iCons (iVar 3) iNil))) iSkip) (iRet (iVar 3))))) := rfl
theorem leaf_e {x1 x2 x3 x4 x5 : Option PV} {m : Nat} (h : LS st s c) : ∃ d st', dLeaf (FF (n + 1)) [some (.ref s), x1, x2, x3, x4, x5] st = some (.rt (pd d) st') ∧ Dr m d ∧ Mv s c st st' := by
  have hn : dNums [some (.ref s), x1, x2, x3, x4, x5] st = some (.frz ([0, 1, -1, 10, 999999999999, -1000000000000, 9999999999999999].map PV.int), st) :=
    iLst_new (xs := [0, 1, -1, 10, 999999999999, -1000000000000, 9999999999999999].map PV.int) rfl (nrs_map fun x _ => by simp [nr])
  obtain ⟨E, hE⟩ : ∃ E : PEnv, E = [some (.ref s), x1, x2, x3, some (.frz ([0, 1, -1, 10, 999999999999, -1000000000000, 9999999999999999].map PV.int)), x5] := ⟨_, rfl⟩
  have h0 : E[0]? = some (some (.ref s)) := by rw [hE]; rfl
  obtain ⟨x, s1, o1, o2, M1⟩ := one_e (n := n) (env := E) (k := 7) (ie := iVar 4) (xs := [0, 1, -1, 10, 999999999999, -1000000000000, 9999999999999999].map PV.int) (st := st) (st1 := st) h0 (by rw [hE]; rfl) h (by simp) (by simp) (by simp)
  obtain ⟨i, hi, rfl⟩ := List.mem_map.mp o2
  have hib : i.natAbs < 10000000000000000 := by
    simp only [List.mem_cons, List.not_mem_nil, or_false] at hi
    omega
  have ht : dTexts E s1 = some (.frz (textsD.map strP), s1) := by
    have hb : ([PV.str S_, .str S_a, .str S_i1x3b, .str S_x28x, .str S_12x3a] : List PV) = textsD.map strP := by
      have := congrArg (List.map PV.str) textsD_s
      rw [List.map_map] at this
      exact this
    have := iLst_new (ir := iCons (iC (.str S_)) (iCons (iC (.str S_a)) (iCons (iC (.str S_i1x3b)) (iCons (iC (.str S_x28x)) (iCons (iC (.str S_12x3a)) iNil))))) (env := E) (st := s1) (xs := [PV.str S_, .str S_a, .str S_i1x3b, .str S_x28x, .str S_12x3a]) rfl (by simp [nrs, nr])
    rw [hb] at this
    exact this
  obtain ⟨y, s2, p1, p2, M2⟩ := one_e (n := n) (env := E) (k := 5) (ie := dTexts) (xs := textsD.map strP) (st := s1) (st1 := s1) h0 ht M1.ls (by simp [textsD]) (by simp [textsD]) (by simp [textsD])
  obtain ⟨t, htm, rfl⟩ := List.mem_map.mp p2
  have M12 := M1.trans M2
  have hall : dAll (FF (n + 1)) E st = some (.frz [.non, .bl true, .bl false, .int i, strP t, .int 7], s2) := by
    refine new_draw (l := []) M12 ?_ (by simp [nrs, nr])
    simp only [iLst_e, iCons_e, iNil_e, iC_e, ob_s, o1, p1]
    rw [if_pos (by simp), List.append_nil]
  obtain ⟨z, s3, q1, q2, M3⟩ := one_e (n := n) (env := E) (k := 6) (ie := dAll (FF (n + 1))) (xs := [.non, .bl true, .bl false, .int i, strP t, .int 7]) (st := st) (st1 := s2) h0 hall M12.ls (by simp) (by simp) (by simp)
  have hz : ∃ d, z = pd d ∧ Dr m d := by
    simp only [List.mem_cons, List.not_mem_nil, or_false] at q2
    rcases q2 with rfl | rfl | rfl | rfl | rfl | rfl
    · exact ⟨.non, rfl, dr_non⟩
    · exact ⟨.bl true, rfl, dr_bl⟩
    · exact ⟨.bl false, rfl, dr_bl⟩
    · exact ⟨.int i, rfl, dr_int hib⟩
    · exact ⟨.text t, rfl, dr_text htm⟩
    · exact ⟨.int 7, rfl, dr_int (by decide)⟩
  obtain ⟨d, rfl, hd⟩ := hz
  refine ⟨d, s3, ?_, hd, M12.trans M3⟩
  unfold dLeaf
  rw [asg_seq hn]
  have hset : ([some (.ref s), x1, x2, x3, x4, x5] : PEnv).set 4 (some (.frz ([0, 1, -1, 10, 999999999999, -1000000000000, 9999999999999999].map PV.int))) = E := by rw [hE]; rfl
  rw [hset, iRet_e, q1]
  rfl
theorem pick_pd {m : Nat} : ∀ {ys : List PV}, (∀ y ∈ ys, ∃ d, y = pd d ∧ Dr m d) → ∃ l : List D, ys = pds l ∧ ∀ d ∈ l, Dr m d
  | [], _ => ⟨[], rfl, fun d hd => by cases hd⟩
  | y :: ys, h => by
    obtain ⟨d, rfl, hd⟩ := h y (List.mem_cons_self ..)
    obtain ⟨l, rfl, hl⟩ := pick_pd fun z hz => h z (List.mem_cons_of_mem _ hz)
    refine ⟨d :: l, rfl, fun x hx => ?_⟩
    rcases List.mem_cons.mp hx with rfl | hx
    · exact hd
    · exact hl x hx
theorem e_data : ∀ (m n : Nat) (q : Int) (st : Sto), q = (m : Int) → LS st s c → ∃ d st', FF (n + m + 2) I__law_data [.ref s, .int q] st = some (pd d, st') ∧ Dr m d ∧ Mv s c st st' := by
  intro m
  induction m with
  | zero =>
    intro n q st hq h
    rw [show n + 0 + 2 = (n + 1) + 1 by omega, e__law_data]
    obtain ⟨r, s1, a1', a2', a3', M1⟩ := take_e (n := n) (env := [some (.ref s), some (.int q), none, none, none, none]) (k := 9) rfl h (by omega) (by omega)
    have a1' : dT9 (FF (n + 1)) [some (.ref s), some (.int q), none, none, none, none] st = some (.int r, s1) := a1'
    obtain ⟨d, s2, b1, b2, M2⟩ := leaf_e (n := n) (x1 := some (.int q)) (x2 := some (.int r)) (x3 := none) (x4 := none) (x5 := none) (m := 0) M1.ls
    refine ⟨d, s2, def_same rfl ?_ (M1.trans M2).len, b2, M1.trans M2⟩
    show b__law_data _ _ [some (.ref s), some (.int q), none, none, none, none] st = _
    rw [b_data_e, asg_seq a1']
    show iSeq _ _ [some (.ref s), some (.int q), some (.int r), none, none, none] s1 = _
    have t1 : iTestB (iBin fEqB (iVar 1) (iC (.int 0))) [some (.ref s), some (.int q), some (.int r), none, none, none] s1 = some (true, s1) := by
      have : q = 0 := by omega
      subst this
      simp
    have t2 : dCond [some (.ref s), some (.int q), some (.int r), none, none, none] s1 = some (true, s1) := by
      unfold dCond
      rw [iOr_e, t1]
      rfl
    exact if_rt t2 b1
  | succ m ih =>
    intro n q st hq h
    rw [show n + (m + 1) + 2 = (n + m + 2) + 1 by omega, e__law_data]
    obtain ⟨r, s1, a1', a2', a3', M1⟩ := take_e (n := n + m + 1) (env := [some (.ref s), some (.int q), none, none, none, none]) (k := 9) rfl h (by omega) (by omega)
    have a1' : dT9 (FF (n + m + 2)) [some (.ref s), some (.int q), none, none, none, none] st = some (.int r, s1) := a1'
    have t1 : iTestB (iBin fEqB (iVar 1) (iC (.int 0))) [some (.ref s), some (.int q), some (.int r), none, none, none] s1 = some (false, s1) := by
      have : ¬ q = 0 := by omega
      simp [this]
    have t3 : iTestB (iBin fLt (iVar 2) (iC (.int 6))) [some (.ref s), some (.int q), some (.int r), none, none, none] s1 = some (decide (r < 6), s1) := by simp
    have t2 : dCond [some (.ref s), some (.int q), some (.int r), none, none, none] s1 = some (decide (r < 6), s1) := by
      unfold dCond
      rw [iOr_e, t1]
      simp only [ob_s, Bool.false_eq_true, if_false, t3]
    by_cases h6 : r < 6
    · rw [decide_eq_true h6] at t2
      obtain ⟨d, s2, b1, b2, M2⟩ := leaf_e (n := n + m + 1) (x1 := some (.int q)) (x2 := some (.int r)) (x3 := none) (x4 := none) (x5 := none) (m := m + 1) M1.ls
      refine ⟨d, s2, def_same rfl ?_ (M1.trans M2).len, b2, M1.trans M2⟩
      show b__law_data _ _ [some (.ref s), some (.int q), none, none, none, none] st = _
      rw [b_data_e, asg_seq a1']
      exact if_rt t2 b1
    · rw [decide_eq_false h6] at t2
      obtain ⟨j, s2, c1, c2, c3, M2⟩ := take_e (n := n + m + 1) (env := [some (.ref s), some (.int q), some (.int r), none, none, none]) (k := 4) rfl M1.ls (by omega) (by omega)
      have hir : iCons (iCall (FF (n + m + 2) I__law_take) (iCons (iVar 0) (iCons (iC (.int 4)) iNil))) iNil [some (.ref s), some (.int q), some (.int r), none, none, none] s1 = some ([.int j], s2) := by
        rw [iCons_e, c1]
        rfl
      have hrg := range1_i hir c2 (by omega)
      obtain ⟨ys, s3, d1, M3, d2, d3⟩ := lc_draw (N := j.toNat) (it := fun i => .int (i : Nat)) (ig := gN 5) (t := iYes) (e := iCall (FF (n + m + 2) I__law_data) (iCons (iVar 0) (iCons (iBin fSub (iVar 1) (iC (.int 1))) iNil))) (vs := [5]) (fun _ y => ∃ d, y = pd d ∧ Dr m d) (fun i y ⟨d, h, _⟩ => by rw [h]; exact nr_pd d) hrg M2 rfl (by omega)
        (fun S i hi => by rw [srcR_at, List.getElem?_map, List.getElem?_range hi]; rfl) (fun S => by rw [srcR_at, List.getElem?_eq_none (by simp)])
        (fun i hi S hS => by
          obtain ⟨d, S', e1, e2, M4⟩ := ih n (q - 1) S (by omega) hS
          exact ⟨[some (.ref s), some (.int q), some (.int r), none, none, some (.int (i : Nat))], pd d, S', rfl, rfl, by simp [e1], M4, d, rfl, e2⟩)
      obtain ⟨l, rfl, hl⟩ := pick_pd (m := m) fun y hy => (d3 y hy).elim fun _ h => h.2
      rw [pds_len] at d2
      obtain ⟨n1, n2⟩ := dr_nest (by omega) hl
      have M := (M1.trans M3)
      have run : b__law_data (FF (n + m + 2)) (GG (n + m + 2)) [some (.ref s), some (.int q), none, none, none, none] st = iSeq (iIfS (iTestB (iBin fLt (iVar 2) (iC (.int 8)))) (iRet (iCall (a1 fTuple) (iCons (iVar 3) iNil))) iSkip) (iRet (iVar 3)) [some (.ref s), some (.int q), some (.int r), some (.frz (pds l)), none, none] s3 := by
        rw [b_data_e, asg_seq a1']
        show iSeq _ _ [some (.ref s), some (.int q), some (.int r), none, none, none] s1 = _
        rw [if_no t2]
        unfold dParts
        rw [asg_seq d1]
        rfl
      have t8 : iTestB (iBin fLt (iVar 2) (iC (.int 8))) [some (.ref s), some (.int q), some (.int r), some (.frz (pds l)), none, none] s3 = some (decide (r < 8), s3) := by simp
      by_cases h8 : r < 8
      · rw [decide_eq_true h8] at t8
        refine ⟨.tup l, s3, def_same rfl ?_ M.len, n1, M⟩
        show b__law_data _ _ [some (.ref s), some (.int q), none, none, none, none] st = _
        rw [run]
        refine if_rt t8 ?_
        simp [pd]
      · rw [decide_eq_false h8] at t8
        refine ⟨.lst l, s3, def_same rfl ?_ M.len, n2, M⟩
        show b__law_data _ _ [some (.ref s), some (.int q), none, none, none, none] st = _
        rw [run, if_no t8]
        simp [pd]
end
end J51

/-! what is read is not too great for repr -/
namespace J51
open PySem PySem.Spec PyProof.Rows L2 IL SX
theorem digits_lt : ∀ (ds : List Nat) (a : Nat), (∀ c ∈ ds, 48 ≤ c ∧ c ≤ 57) → ds.foldl (fun acc c => acc * 10 + (c - 48)) a < (a + 1) * 10 ^ ds.length
  | [], a, _ => by simp
  | c :: r, a, h => by
    have h1 := h c (List.mem_cons_self ..)
    have ih := digits_lt r (a * 10 + (c - 48)) fun x hx => h x (List.mem_cons_of_mem _ hx)
    rw [List.foldl_cons, List.length_cons, Nat.pow_succ]
    refine Nat.lt_of_lt_of_le ih ?_
    have : a * 10 + (c - 48) + 1 ≤ (a + 1) * 10 := by omega
    calc (a * 10 + (c - 48) + 1) * 10 ^ r.length ≤ ((a + 1) * 10) * 10 ^ r.length := Nat.mul_le_mul_right _ this
      _ = (a + 1) * (10 ^ r.length * 10) := by rw [Nat.mul_assoc, Nat.mul_comm 10]
theorem numA_lt {b : Bool} {e : Nat} {s r : List Nat} {v : Int} (h : numA b e s = some (v, r)) : v.natAbs < 10 ^ 30 := by
  unfold numA at h
  split at h
  · cases h
  · have h1 := digits_lt (digs 16 s) 0 (digs_all 16 s)
    have h2 := (digs_len 16 s).1
    have h3 : (10 : Nat) ^ (digs 16 s).length ≤ 10 ^ 16 := Nat.pow_le_pow_right (by decide) h2
    have h4 : NumText.digitsVal (digs 16 s) < 10 ^ 16 := by
      unfold NumText.digitsVal
      omega
    have h5 : (10 : Nat) ^ 16 < 10 ^ 30 := by decide
    cases h
    split <;> omega
theorem numR_lt {b : Bool} {e : Nat} {s r : List Nat} {v : Int} (h : numR b e s = some (v, r)) : v.natAbs < 10 ^ 30 := by
  unfold numR at h
  split at h
  · exact numA_lt h
  · exact numA_lt h
theorem tail_len {s : List Nat} {c : Nat} (h : s.head? = some c) : s.length = s.tail.length + 1 := by
  cases s with
  | nil => cases h
  | cons d r => rfl
theorem plain_gd {n : Nat} {s r : List Nat} {d : D} (ho : okL s) (h : plain s = .ok d r) : ∃ w, Gd n w (pd d) ∧ w + 2 + 50 * r.length ≤ 50 * s.length := by
  unfold plain at h
  split at h
  · rename_i h1; cases h
    have := tail_len h1
    exact ⟨5, ⟨by simp [pd, gd], by simp [pd, nr], by simp [pd, wt]⟩, by omega⟩
  split at h
  · rename_i h1; cases h
    have := tail_len h1
    exact ⟨5, Gd.bl (Nat.le_refl _), by omega⟩
  split at h
  · rename_i h1; cases h
    have := tail_len h1
    exact ⟨5, Gd.bl (Nat.le_refl _), by omega⟩
  split at h
  · rename_i h1
    have := tail_len h1
    split at h
    · rename_i v r0 hn
      cases h
      have h2 := (numR_suf hn).2
      exact ⟨31, Gd.int (numR_lt hn) (Nat.le_refl _), by omega⟩
    · cases h
  split at h
  · rename_i h1
    have := tail_len h1
    unfold textO at h
    split at h
    · rename_i v r0 hn
      obtain ⟨h2, h3⟩ := numR_suf hn
      split at h
      · rename_i hv
        cases h
        have h4 := numR_nn hn
        have hok : PyData.strOk (S (r0.take v.toNat)) = true := okL_iff.mpr fun c hc => ho c (List.mem_of_mem_tail (h2.subset (List.mem_of_mem_take hc)))
        refine ⟨10 * (r0.take v.toNat).length + 2, Gd.str hok (by rw [S_len]; exact Nat.le_refl _), ?_⟩
        rw [List.length_take, List.length_drop]
        omega
      · cases h
    · cases h
  · cases h
theorem its_gd {f : List Nat → Ro D} {n e : Nat} (hf : ∀ s d r, okL s → f s = .ok d r → ∃ w, Gd n w (pd d) ∧ w + 2 + 50 * r.length ≤ 50 * s.length) (he : Eats f) :
    ∀ (c : Nat) (acc : List D) (wa : Nat) (s r : List Nat) (v : D), okL s → Gds n wa (pds acc) → its f e c acc s = .ok v r → ∃ w, Gd (n + 1) w (pd v) ∧ w + 50 * r.length + 50 ≤ wa + 4 + 50 * s.length
  | 0, acc, wa, s, r, v, _, _, h => by cases h
  | c + 1, acc, wa, s, r, v, ho, ha, h => by
    unfold its at h
    split at h
    · rename_i h1
      have := tail_len h1
      cases h
      refine ⟨wa + 4, ?_, by omega⟩
      unfold mkD
      split
      · exact Gd.tup ha
      · exact Gd.frz ha
    · split at h
      · cases h
      · rename_i d2 r2 h2
        obtain ⟨w2, g2, b2⟩ := hf s d2 r2 ho h2
        have hs := (he s d2 r2 h2).1
        have ga : Gds n (wa + (w2 + 2 + 0)) (pds (acc ++ [d2])) := by
          rw [pds_map, List.map_append, ← pds_map]
          exact Gds.append ha (Gds.cons g2 Gds.nil)
        obtain ⟨w, g, b⟩ := its_gd hf he c (acc ++ [d2]) _ r2 r v (fun x hx => ho x (hs.subset hx)) ga h
        exact ⟨w, g, by omega⟩
theorem rd_gd : ∀ (k : Nat) (s : List Nat) (d : D) (r : List Nat), okL s → rd k s = .ok d r → ∃ w, Gd (k + 1) w (pd d) ∧ w + 2 + 50 * r.length ≤ 50 * s.length
  | 0, s, d, r, ho, h => plain_gd ho h
  | k + 1, s, d, r, ho, h => by
    have hot : okL s.tail := fun c hc => ho c (List.mem_of_mem_tail hc)
    unfold rd at h
    split at h
    · rename_i h1
      have := tail_len h1
      obtain ⟨w, g, b⟩ := its_gd (fun s d r => rd_gd k s d r) (rd_eats k) _ [] 0 _ _ _ hot Gds.nil h
      exact ⟨w, g, by omega⟩
    · split at h
      · rename_i h1
        have := tail_len h1
        obtain ⟨w, g, b⟩ := its_gd (fun s d r => rd_gd k s d r) (rd_eats k) _ [] 0 _ _ _ hot Gds.nil h
        exact ⟨w, g, by omega⟩
      · exact plain_gd ho h
/-- a fault lies in the text -/
theorem textO_suf {s r : List Nat} (h : textO s = .er r) : r <:+ s := by
  unfold textO at h
  split at h
  · split at h
    · cases h
    · cases h; exact List.suffix_refl _
  · cases h; exact List.suffix_refl _
theorem plain_suf {s r : List Nat} (h : plain s = .er r) : r <:+ s := by
  unfold plain at h
  split at h
  · cases h
  split at h
  · cases h
  split at h
  · cases h
  split at h
  · split at h
    · cases h
    · cases h; exact List.tail_suffix _
  split at h
  · exact (textO_suf h).trans (List.tail_suffix _)
  · cases h; exact List.suffix_refl _
theorem its_suf {f : List Nat → Ro D} {e : Nat} (hf : ∀ s r, f s = .er r → r <:+ s) (he : Eats f) : ∀ (c : Nat) (acc : List D) (s r : List Nat), its f e c acc s = .er r → r <:+ s
  | 0, acc, s, r, h => by cases h; exact List.suffix_refl _
  | c + 1, acc, s, r, h => by
    unfold its at h
    split at h
    · cases h
    · split at h
      · rename_i r2 h2
        cases h
        exact hf s r h2
      · rename_i d2 r2 h2
        exact (its_suf hf he c _ r2 r h).trans (he s d2 r2 h2).1
theorem rd_suf : ∀ (k : Nat) (s r : List Nat), rd k s = .er r → r <:+ s
  | 0, s, r, h => plain_suf h
  | k + 1, s, r, h => by
    unfold rd at h
    split at h
    · exact (its_suf (rd_suf k) (rd_eats k) _ _ _ _ h).trans (List.tail_suffix _)
    · split at h
      · exact (its_suf (rd_suf k) (rd_eats k) _ _ _ _ h).trans (List.tail_suffix _)
      · exact plain_suf h
section
variable {n : Nat} {st : Sto} {l : List Nat} {k : Nat}
theorem told_gd (T : Tx l) (hk : k ≤ 50) : ∃ w, Gd (k + 2) w (toldP l (topO (rd k l))) ∧ w ≤ 16000000 := by
  have hlen := T.len
  have hd : ∀ n, Gd n 42 (.str S_data) := fun n => Gd.str (by simp) (by simp [lens])
  have hwr : ∀ n, Gd n 52 (.str S_wrong) := fun n => Gd.str (by simp) (by simp [lens])
  have bad : ∀ r : List Nat, r <:+ l → ∃ w, Gd (k + 2) w (.tup [.str S_wrong, .int (pos l r), .bl true]) ∧ w ≤ 16000000 := fun r hr => by
    obtain ⟨j, hj1, hj2, _⟩ := suf_at hr
    have hb : (pos l r).natAbs < 10 ^ 30 := of_decide_eq_true (small_ok hj1 (by omega))
    have g := Gd.tup (Gds.cons (hwr (k + 1)) (Gds.cons (n := k + 1) (Gd.int hb (Nat.le_refl _)) (Gds.cons (n := k + 1) (Gd.bl (b := true) (Nat.le_refl _)) (Gds.nil (w := 0)))))
    exact ⟨_, g, by decide⟩
  cases ho : rd k l with
  | er r =>
    have hs : r <:+ l := rd_suf k l r ho
    exact bad r hs
  | ok d r =>
    show ∃ w, Gd (k + 2) w (toldP l (if r = [] then .ok d [] else .er r)) ∧ _
    by_cases h0 : r = []
    · rw [if_pos h0]
      obtain ⟨w, g, b⟩ := rd_gd k l d r T.ok ho
      exact ⟨42 + 2 + (w + 2 + 0) + 4, Gd.tup (Gds.cons (hd _) (Gds.cons g Gds.nil)), by omega⟩
    · rw [if_neg h0]
      exact bad r (rd_eats k l d r ho).1
end
end J51

/-! the law -/
namespace J51
open PySem PySem.Spec PyProof.Rows L2 IL SX
/-- what holds between turns -/
theorem loop_inv {at_ : Sto → Nat → Option (Option PV)} {ig : IG} {body : IS} {N : Nat} (I : Nat → PEnv → Sto → Prop)
    (h : ∀ i e st, i < N → I i e st → ∃ x e1 e2 st2, at_ st i = some (some x) ∧ ig x e st = some e1 ∧ body e1 st = some (.nx e2 st2) ∧ I (i + 1) e2 st2)
    (hN : ∀ e st, I N e st → at_ st N = some none) : ∀ (m i : Nat) (e : PEnv) (st : Sto), i + m = N + 1 → i ≤ N → I i e st → ∃ e2 st2, loop at_ ig body m i e st = some (.nx e2 st2) ∧ I N e2 st2
  | 0, i, e, st, hm, hi, _ => by omega
  | m + 1, i, e, st, hm, hi, hI => by
    by_cases hiN : i = N
    · subst hiN
      refine ⟨e, st, ?_, hI⟩
      rw [loop, hN e st hI]
    · obtain ⟨x, e1, e2, st2, h1, h2, h3, h4⟩ := h i e st (by omega) hI
      obtain ⟨e3, st3, h5, h6⟩ := loop_inv I h hN m (i + 1) e2 st2 (by omega) (by omega) h4
      refine ⟨e3, st3, ?_, h6⟩
      rw [loop, h1]
      simp only [h2, h3]
      exact h5
theorem op_split : ∀ (l : List Nat) (i : Nat), op (l.take i) + op (l.drop i) ≤ op l + 1
  | l, 0 => by simp [op]
  | [], i + 1 => by simp [op]
  | [c], i + 1 => by simp [op]
  | c :: d :: r, 1 => by
    show op [c] + op (d :: r) ≤ op (c :: d :: r) + 1
    have h : op [c] ≤ 1 := by simp only [op]; split <;> omega
    have h2 : op (d :: r) ≤ op (c :: d :: r) := op_suf (List.suffix_cons _ _)
    omega
  | c :: d :: r, i + 2 => by
    have ih := op_split (d :: r) (i + 1)
    show op (c :: (d :: r.take i)) + op ((d :: r).drop (i + 1)) ≤ op (c :: d :: r) + 1
    have e : (d :: r.take i).head? = (d :: r).head? := rfl
    have e2 : (d :: r).take (i + 1) = d :: r.take i := rfl
    rw [e2] at ih
    rw [op, e]
    conv => rhs; rw [op]
    omega
def pieces : List (List Nat) := [[], [122], [105], [49], [45], [48], [59], [116], [58], [40], [41], [91], [93], [120]]
theorem pieces_s : ([S_, S_z, S_i, S_1, S_x2d, S_0, S_x3b, S_t, S_x3a, S_x28, S_x29, S_x5b, S_x5d, S_x] : List Str) = pieces.map S := by decide +kernel
theorem pieces_ok : ∀ t ∈ pieces, t.length ≤ 1 ∧ (∀ c ∈ t, c < 128) ∧ op t ≤ 1 := by decide
noncomputable def uAt (F : Nat → FA) : IE := (iCall (F I__law_take) (iCons (iVar 1) (iCons (iBin fAdd (iCall (a1 fLenB) (iCons (iVar 4) iNil)) (iC (.int 1))) iNil)))
noncomputable def uLst : IE := (iNew (iLst (iCons (iC (.str S_)) (iCons (iC (.str S_z)) (iCons (iC (.str S_i)) (iCons (iC (.str S_1)) (iCons (iC (.str S_x2d)) (iCons (iC (.str S_0)) (iCons (iC (.str S_x3b)) (iCons (iC (.str S_t)) (iCons (iC (.str S_x3a)) (iCons (iC (.str S_x28)) (iCons (iC (.str S_x29)) (iCons (iC (.str S_x5b)) (iCons (iC (.str S_x5d)) (iCons (iC (.str S_x)) iNil))))))))))))))))
noncomputable def uPc (F : Nat → FA) : IE := (iBin fSubB uLst (iCall (F I__law_take) (iCons (iVar 1) (iCons (iC (.int 14)) iNil))))
noncomputable def uOth (F : Nat → FA) : IE := (iBin fAdd (iBin fAdd (iSl fSl (iVar 4) iNo (iPart (iVar 6))) (iVar 7)) (iSl fSl (iVar 4) (iPart (iBin fAdd (iVar 6) (iCall (F I__law_take) (iCons (iVar 1) (iCons (iC (.int 2)) iNil))))) iNo))
noncomputable def uW : IS := (iIfS (iTestB (iBin fEqB (iBin fSubB (iVar 9) (iC (.int 0))) (iC (.str S_wrong)))) (iAsg (gN 9) (iBin fAdd (iVar 9) (iTup (iCons (iC (.bl true)) iNil)))) iSkip)
noncomputable def uC (F : Nat → FA) : IT := (iTestB (iBin fNeB (iCall (a1 fReprA) (iCons (iCall (F I__law_told) (iCons (iVar 8) iNil)) iNil)) (iCall (a1 fReprA) (iCons (iVar 9) iNil))))
noncomputable def uT (F : Nat → FA) : IS := iSeq (iAsg (gN 6) (uAt F)) (iSeq (iAsg (gN 7) (uPc F)) (iSeq (iAsg (gN 8) (uOth F)) (iSeq (iAsg (gN 9) (iCall (F I__law_due) (iCons (iVar 8) iNil))) (iSeq uW (iIfS (uC F) (iRet (iC (.bl false))) iSkip)))))
noncomputable def u0 (F : Nat → FA) (G : Nat → FX) : IT := (iOr (iTestB (iBin fNeB (iVar 4) (iCall (F I__law_form) (iCons (iVar 2) iNil)))) (iOr (iTestB (iBin fNeB (iCall (a1 fReprA) (iCons (iCall (pureF (G I_decode)) (iCons (iVar 4) iNil)) iNil)) (iVar 3))) (iTestB (iBin fNeB (iCall (a1 fReprA) (iCons (iVar 2) iNil)) (iVar 3)))))
theorem b_law_u (F : Nat → FA) (G : Nat → FX) : b_law F G = iSeq (iAsg (gN 1) (iCall (F I__law_state) (iCons (iVar 0) iNil))) (iSeq (iAsg (gN 2) (iCall (F I__law_data) (iCons (iVar 1) (iCons (iC (.int 4)) iNil)))) (iSeq (iAsg (gN 3) (iCall (a1 fReprA) (iCons (iVar 2) iNil))) (iSeq (iAsg (gN 4) (iCall (F I_encode) (iCons (iVar 2) iNil))) (iSeq (iIfS (u0 F G) (iRet (iC (.bl false))) iSkip) (iSeq (iFor (iRange1 (iCons (iC (.int 6)) iNil)) (gN 5) (uT F)) (iRet (iC (.bl true)))))))) := rfl
section
variable {s c : Nat} {st st1 : Sto} {l : List Nat} {d : D} {x0 x5 x6 x7 x8 x9 : Option PV}
theorem ne_str {a b : List Nat} (ha : okL a) (hb : okL b) : fNeB (strP a) (strP b) st = some (.bl (!decide (a = b)), st) := by
  rw [fNeB_e, eqB_str, eqP_SX ha hb]
  rfl
theorem ne_shown {a : Str} (ha : PyData.strOk a = true) : fNeB (.str a) (.str a) st = some (.bl false, st) := by
  rw [fNeB_e, eqB_str, eqP_s, ha]
  simp
theorem take_1 {env : PEnv} {k : Int} {ie : IE} (h0 : env[1]? = some (some (.ref s))) (hk : ie env st = some (.int k, st)) (h : LS st s c) (h1 : 1 ≤ k) (h2 : k ≤ 1000000) : ∃ r st', iCall (FF 100 I__law_take) (iCons (iVar 1) (iCons ie iNil)) env st = some (.int r, st') ∧ 0 ≤ r ∧ r < k ∧ Mv s c st st' := by
  obtain ⟨r, st', a, M, b, _⟩ := e_take (n := 99) (most := k) h h2
  obtain ⟨b1, b2⟩ := b h1
  refine ⟨r, st', ?_, b1, b2, M⟩
  simp only [iCall_e, iCons_e, iNil_e, iVar_e, h0, hk, ob_s]
  exact a
theorem u_turn (hd : Dr 4 d) (h : LS st s c) : ∃ y6 y7 y8 y9 st', uT (FF 100) [x0, some (.ref s), some (pd d), some (.str (shw d)), some (strP (enc d)), x5, x6, x7, x8, x9] st = some (.nx [x0, some (.ref s), some (pd d), some (.str (shw d)), some (strP (enc d)), x5, y6, y7, y8, y9] st') ∧ LS st' s c := by
  have hlen : (enc d).length ≤ 1700 := Nat.le_trans hd.len (by decide)
  have hop : op (enc d) ≤ 40 := Nat.le_trans hd.opn (by decide)
  obtain ⟨l, hl⟩ : ∃ l, l = enc d := ⟨_, rfl⟩
  have okc := hd.okc
  rw [← hl] at hlen hop okc ⊢
  have hlb : ∀ S : Sto, fLenB (strP l) S = some (.int (l.length : Int), S) := fun S => by rw [fLenB_s, S_len, if_pos (by omega)]
  -- the place
  obtain ⟨zz, hzz⟩ : ∃ zz : Int, zz = (l.length : Int) + 1 := ⟨_, rfl⟩
  obtain ⟨r, s1, a1', a2', a3', M1⟩ := take_1 (env := [x0, some (.ref s), some (pd d), some (.str (shw d)), some (strP l), x5, x6, x7, x8, x9]) (k := zz) (ie := iBin fAdd (iCall (a1 fLenB) (iCons (iVar 4) iNil)) (iC (.int 1))) rfl (by
    rw [hzz]
    simp only [iBin_e, iCall_e, iCons_e, iNil_e, iVar_e, iC_e, List.getElem?_cons_zero, List.getElem?_cons_succ, ob_s, a1_e, hlb, fAdd_i]) h (by omega) (by omega)
  have a1' : uAt (FF 100) [x0, some (.ref s), some (pd d), some (.str (shw d)), some (strP l), x5, x6, x7, x8, x9] st = some (.int r, s1) := a1'
  -- the piece
  obtain ⟨q, s2, b1, b2, b3, M2⟩ := take_1 (env := [x0, some (.ref s), some (pd d), some (.str (shw d)), some (strP l), x5, some (.int r), x7, x8, x9]) (k := 14) (ie := iC (.int 14)) rfl rfl M1.ls (by omega) (by omega)
  obtain ⟨y, hy, hy2⟩ := atI_in (xs := pieces.map strP) b2 (by simp [pieces]; omega)
  obtain ⟨t, htm, rfl⟩ := List.mem_map.mp hy
  obtain ⟨t1, t2, t3⟩ := pieces_ok t htm
  have hu : uLst [x0, some (.ref s), some (pd d), some (.str (shw d)), some (strP l), x5, some (.int r), x7, x8, x9] s1 = some (.frz (pieces.map strP), s1) := by
    have hb : ([PV.str S_, .str S_z, .str S_i, .str S_1, .str S_x2d, .str S_0, .str S_x3b, .str S_t, .str S_x3a, .str S_x28, .str S_x29, .str S_x5b, .str S_x5d, .str S_x] : List PV) = pieces.map strP := by
      have := congrArg (List.map PV.str) pieces_s
      rw [List.map_map] at this
      exact this
    have := iLst_new (ir := (iCons (iC (.str S_)) (iCons (iC (.str S_z)) (iCons (iC (.str S_i)) (iCons (iC (.str S_1)) (iCons (iC (.str S_x2d)) (iCons (iC (.str S_0)) (iCons (iC (.str S_x3b)) (iCons (iC (.str S_t)) (iCons (iC (.str S_x3a)) (iCons (iC (.str S_x28)) (iCons (iC (.str S_x29)) (iCons (iC (.str S_x5b)) (iCons (iC (.str S_x5d)) (iCons (iC (.str S_x)) iNil))))))))))))))) (env := [x0, some (.ref s), some (pd d), some (.str (shw d)), some (strP l), x5, some (.int r), x7, x8, x9]) (st := s1) (xs := [PV.str S_, .str S_z, .str S_i, .str S_1, .str S_x2d, .str S_0, .str S_x3b, .str S_t, .str S_x3a, .str S_x28, .str S_x29, .str S_x5b, .str S_x5d, .str S_x]) rfl (by simp [nrs, nr])
    rw [hb] at this
    exact this
  have b4 : uPc (FF 100) [x0, some (.ref s), some (pd d), some (.str (shw d)), some (strP l), x5, some (.int r), x7, x8, x9] s1 = some (strP t, s2) := by
    unfold uPc
    rw [iBin_e, hu, ob_s, b1, ob_s, fSubB_f, hy2]
    rfl
  -- the other text
  obtain ⟨E, hE⟩ : ∃ E : PEnv, E = [x0, some (.ref s), some (pd d), some (.str (shw d)), some (strP l), x5, some (.int r), some (strP t), x8, x9] := ⟨_, rfl⟩
  obtain ⟨z, s3, c1, c2, c3, M3⟩ := take_1 (env := E) (k := 2) (ie := iC (.int 2)) (by rw [hE]; rfl) rfl M2.ls (by omega) (by omega)
  obtain ⟨i, hi⟩ : ∃ i : Nat, r = (i : Int) := ⟨r.toNat, by omega⟩
  obtain ⟨j, hj⟩ : ∃ j : Nat, r + z = (j : Int) := ⟨(r + z).toNat, by omega⟩
  obtain ⟨o, ho⟩ : ∃ o, o = l.take i ++ t ++ l.drop j := ⟨_, rfl⟩
  have hsl1 : iSl fSl (iVar 4) iNo (iPart (iVar 6)) E s2 = some (strP (l.take i), s2) := by
    have := fSl_to (st := s2) (l := l) (p := r) (i := i) (by omega) hi
    rw [hE]
    simp only [iSl_e, iVar_e, iNo_e, iPart_e, List.getElem?_cons_zero, List.getElem?_cons_succ, ob_s, Option.map_some, this]
  have hsl2 : iSl fSl (iVar 4) (iPart (iBin fAdd (iVar 6) (iCall (FF 100 I__law_take) (iCons (iVar 1) (iCons (iC (.int 2)) iNil))))) iNo E s2 = some (strP (l.drop j), s3) := by
    have h1 := fSl_from (st := s3) (l := l) (p := r + z) (i := j) (by omega) hj
    have h4 : iVar 4 E s2 = some (strP l, s2) := by rw [hE]; rfl
    have h6 : iVar 6 E s2 = some (.int r, s2) := by rw [hE]; rfl
    simp only [iSl_e, h4, ob_s, iPart_e, iBin_e, h6, c1, fAdd_i, Option.map_some, iNo_e, h1]
  have hlo : o.length ≤ 10000 := by
    rw [ho]
    simp only [List.length_append, List.length_take, List.length_drop]
    omega
  have b5 : uOth (FF 100) E s2 = some (strP o, s3) := by
    have h7 : iVar 7 E s2 = some (strP t, s2) := by rw [hE]; rfl
    have g1 : fAdd (strP (l.take i)) (strP t) s2 = some (strP (l.take i ++ t), s2) := add_S (by rw [List.length_take]; omega)
    have g2 : fAdd (strP (l.take i ++ t)) (strP (l.drop j)) s3 = some (strP o, s3) := by
      rw [add_S (by simp only [List.length_append, List.length_take, List.length_drop]; omega), ho]
    unfold uOth
    rw [iBin_e, iBin_e, hsl1]
    simp only [ob_s, h7, g1, hsl2, g2]
  have okc2 : ∀ x ∈ o, x < 128 := fun x hx => by
    rw [ho] at hx
    rcases List.mem_append.mp hx with hx | hx
    · rcases List.mem_append.mp hx with hx | hx
      · exact okc x (List.mem_of_mem_take hx)
      · exact t2 x hx
    · exact okc x (List.mem_of_mem_drop hx)
  have T : Tx o := ⟨hlo, fun x hx => by have := okc2 x hx; omega⟩
  have hopo : op o ≤ 42 := by
    rw [ho]
    have h1 := op_app (l.drop j) (l.take i ++ t)
    have h2 := op_app t (l.take i)
    have h3 := op_split l i
    have h4 : op (l.drop j) ≤ op (l.drop i) := by
      refine op_suf ?_
      rw [show j = i + (j - i) by omega, ← List.drop_drop]
      exact List.drop_suffix _ _
    omega
  have hk : Dk 44 o := .inl (by omega)
  have e1 := e_due (n := 8) (st := s3) T hk
  have e2 := fun S : Sto => e_told (n := 95) (st := S) T hk
  obtain ⟨w, hg, hw⟩ := told_gd (k := 44) T (by omega)
  have hrep : ∀ S : Sto, fReprA (toldP o (topO (rd 44 o))) S = some (.str (datP (toldP o (topO (rd 44 o)))).shown, S) := fun S => repr_all hg (by omega) hw (fun ks xs => by unfold toldP; split <;> simp)
  have hsok : PyData.strOk (datP (toldP o (topO (rd 44 o)))).shown = true := shown_ok _ _ hg.g
  have hdue : ∀ x : Option PV, iSeq uW (iIfS (uC (FF 100)) (iRet (iC (.bl false))) iSkip) [x0, some (.ref s), some (pd d), some (.str (shw d)), some (strP l), x5, some (.int r), some (strP t), some (strP o), some (dueP o (topO (rd 44 o)))] s3 = some (.nx [x0, some (.ref s), some (pd d), some (.str (shw d)), some (strP l), x5, some (.int r), some (strP t), some (strP o), some (toldP o (topO (rd 44 o)))] s3) := fun x => by
    have hWW : uW [x0, some (.ref s), some (pd d), some (.str (shw d)), some (strP l), x5, some (.int r), some (strP t), some (strP o), some (dueP o (topO (rd 44 o)))] s3 = some (.nx [x0, some (.ref s), some (pd d), some (.str (shw d)), some (strP l), x5, some (.int r), some (strP t), some (strP o), some (toldP o (topO (rd 44 o)))] s3) := by
      unfold uW
      cases topO (rd 44 o) with
      | ok d' r' => simp [dueP, toldP]
      | er r' => simp [dueP, toldP]
    rw [nx_seq hWW]
    refine if_skip ?_
    unfold uC
    have h8 : iCall (FF 100 I__law_told) (iCons (iVar 8) iNil) [x0, some (.ref s), some (pd d), some (.str (shw d)), some (strP l), x5, some (.int r), some (strP t), some (strP o), some (toldP o (topO (rd 44 o)))] s3 = some (toldP o (topO (rd 44 o)), s3) := by
      simp only [iCall_e, iCons_e, iNil_e, iVar_e, List.getElem?_cons_zero, List.getElem?_cons_succ, ob_s, e2]
    have h9 : iVar 9 [x0, some (.ref s), some (pd d), some (.str (shw d)), some (strP l), x5, some (.int r), some (strP t), some (strP o), some (toldP o (topO (rd 44 o)))] s3 = some (toldP o (topO (rd 44 o)), s3) := rfl
    have q1 : iCall (a1 fReprA) (iCons (iCall (FF 100 I__law_told) (iCons (iVar 8) iNil)) iNil) [x0, some (.ref s), some (pd d), some (.str (shw d)), some (strP l), x5, some (.int r), some (strP t), some (strP o), some (toldP o (topO (rd 44 o)))] s3 = some (.str (datP (toldP o (topO (rd 44 o)))).shown, s3) := by
      rw [iCall_e, iCons_e, h8]
      simp only [ob_s, iNil_e, a1_e, hrep]
    have q2 : iCall (a1 fReprA) (iCons (iVar 9) iNil) [x0, some (.ref s), some (pd d), some (.str (shw d)), some (strP l), x5, some (.int r), some (strP t), some (strP o), some (toldP o (topO (rd 44 o)))] s3 = some (.str (datP (toldP o (topO (rd 44 o)))).shown, s3) := by
      rw [iCall_e, iCons_e, h9]
      simp only [ob_s, iNil_e, a1_e, hrep]
    rw [iTestB_e, iBin_e, q1, ob_s, q2, ob_s, ne_shown hsok]
    rfl
  refine ⟨some (.int r), some (strP t), some (strP o), some (toldP o (topO (rd 44 o))), s3, ?_, ((M1.trans M2).trans M3).ls⟩
  unfold uT
  rw [asg_seq a1']
  show iSeq _ _ [x0, some (.ref s), some (pd d), some (.str (shw d)), some (strP l), x5, some (.int r), x7, x8, x9] s1 = _
  rw [asg_seq b4]
  have hset : ([x0, some (.ref s), some (pd d), some (.str (shw d)), some (strP l), x5, some (.int r), x7, x8, x9] : PEnv).set 7 (some (strP t)) = E := by rw [hE]; rfl
  rw [hset, asg_seq b5, hE]
  show iSeq _ _ [x0, some (.ref s), some (pd d), some (.str (shw d)), some (strP l), x5, some (.int r), some (strP t), some (strP o), x9] s3 = _
  have call : iCall (FF 100 I__law_due) (iCons (iVar 8) iNil) [x0, some (.ref s), some (pd d), some (.str (shw d)), some (strP l), x5, some (.int r), some (strP t), some (strP o), x9] s3 = some (dueP o (topO (rd 44 o)), s3) := by
    simp only [iCall_e, iCons_e, iNil_e, iVar_e, List.getElem?_cons_zero, List.getElem?_cons_succ, ob_s]
    exact e1
  rw [asg_seq call]
  exact hdue none
theorem u0_e (hd : Dr 4 d) : u0 (FF 100) (GG 100) [x0, some (.ref s), some (pd d), some (.str (shw d)), some (strP (enc d)), x5, x6, x7, x8, x9] st = some (false, st) := by
  have hlen : (enc d).length ≤ 1700 := Nat.le_trans hd.len (by decide)
  have hop : op (enc d) ≤ 40 := Nat.le_trans hd.opn (by decide)
  have T : Tx (enc d) := ⟨by omega, fun x hx => by have := hd.okc x hx; omega⟩
  have hk : Dk 44 (enc d) := .inl (by omega)
  have f1 := e_form 4 d 95 st hd.deep (by omega) hd.good (by omega)
  have f2 := e_dec (n := 96) (st := st) T hk
  have hb := rd_back 44 d [] (by have := hd.deep; omega) hd.good
  rw [List.append_nil] at hb
  rw [hb] at f2
  have f2 : GG 100 I_decode [strP (enc d)] st = some (.ok (pd d), st) := f2
  have hr := repr_pd (st := st) hd.good hd.deep
  have hsok : PyData.strOk (shw d) = true := shown_ok (pd d) 5 (gd_pd d 4 hd.good hd.deep).g
  have g1 := ne_str (st := st) T.ok T.ok
  rw [decide_eq_true rfl] at g1
  have g2 := ne_shown (st := st) hsok
  have k1 : iTestB (iBin fNeB (iVar 4) (iCall (FF 100 I__law_form) (iCons (iVar 2) iNil))) [x0, some (.ref s), some (pd d), some (.str (shw d)), some (strP (enc d)), x5, x6, x7, x8, x9] st = some (false, st) := by
    have f1 : FF 100 I__law_form [pd d] st = some (strP (enc d), st) := f1
    simp only [iTestB_e, iBin_e, iCall_e, iCons_e, iNil_e, iVar_e, List.getElem?_cons_zero, List.getElem?_cons_succ, ob_s, f1, g1, Bool.not_true, isBl_e, Option.map_some]
  have k2 : iTestB (iBin fNeB (iCall (a1 fReprA) (iCons (iCall (pureF (GG 100 I_decode)) (iCons (iVar 4) iNil)) iNil)) (iVar 3)) [x0, some (.ref s), some (pd d), some (.str (shw d)), some (strP (enc d)), x5, x6, x7, x8, x9] st = some (false, st) := by
    have p1 : pureF (GG 100 I_decode) [strP (enc d)] st = some (pd d, st) := by
      unfold pureF
      rw [f2]
    simp only [iTestB_e, iBin_e, iCall_e, iCons_e, iNil_e, iVar_e, List.getElem?_cons_zero, List.getElem?_cons_succ, ob_s, p1, a1_e, hr, g2, isBl_e, Option.map_some]
  have k3 : iTestB (iBin fNeB (iCall (a1 fReprA) (iCons (iVar 2) iNil)) (iVar 3)) [x0, some (.ref s), some (pd d), some (.str (shw d)), some (strP (enc d)), x5, x6, x7, x8, x9] st = some (false, st) := by
    simp only [iTestB_e, iBin_e, iCall_e, iCons_e, iNil_e, iVar_e, List.getElem?_cons_zero, List.getElem?_cons_succ, ob_s, a1_e, hr, g2, isBl_e, Option.map_some]
  unfold u0
  rw [iOr_e, k1]
  simp only [ob_s, Bool.false_eq_true, if_false]
  rw [iOr_e, k2]
  simp only [ob_s, Bool.false_eq_true, if_false]
  rw [k3]
end
theorem e_all (ns : List Int) (hn : ns.length ≤ 63) : ∃ s', FF 101 I_law [.frz (ns.map .int)] [] = some (.bl true, s') := by
  obtain ⟨s, c, s1, h1, L1⟩ := e_state (n := 99) hn
  obtain ⟨d, s2, h2, hd, M2⟩ := e_data (s := s) (c := c) 4 94 4 s1 rfl L1
  have hlen : (enc d).length ≤ 1700 := Nat.le_trans hd.len (by decide)
  obtain ⟨x0, hx0⟩ : ∃ x0 : Option PV, x0 = some (.frz (ns.map .int)) := ⟨_, rfl⟩
  have e1 : iCall (FF 100 I__law_state) (iCons (iVar 0) iNil) [x0, none, none, none, none, none, none, none, none, none] [] = some (.ref s, s1) := by
    rw [hx0]
    simp only [iCall_e, iCons_e, iNil_e, iVar_e, ob_s, List.getElem?_cons_zero]
    exact h1
  have e2 : iCall (FF 100 I__law_data) (iCons (iVar 1) (iCons (iC (.int 4)) iNil)) [x0, some (.ref s), none, none, none, none, none, none, none, none] s1 = some (pd d, s2) := by
    simp only [iCall_e, iCons_e, iNil_e, iVar_e, iC_e, ob_s, List.getElem?_cons_zero, List.getElem?_cons_succ]
    exact h2
  have hr := repr_pd (st := s2) hd.good hd.deep
  have e3 : iCall (a1 fReprA) (iCons (iVar 2) iNil) [x0, some (.ref s), some (pd d), none, none, none, none, none, none, none] s2 = some (.str (shw d), s2) := by
    simp only [iCall_e, iCons_e, iNil_e, iVar_e, ob_s, List.getElem?_cons_zero, List.getElem?_cons_succ, a1_e, hr]
  have he := enc_e (n := 98) (st := s2) hd.good (by omega)
  have e4 : iCall (FF 100 I_encode) (iCons (iVar 2) iNil) [x0, some (.ref s), some (pd d), some (.str (shw d)), none, none, none, none, none, none] s2 = some (strP (enc d), s2) := by
    simp only [iCall_e, iCons_e, iNil_e, iVar_e, ob_s, List.getElem?_cons_zero, List.getElem?_cons_succ]
    exact he
  obtain ⟨e9, s9, hl, hI⟩ := loop_inv (at_ := (srcR 0 6).at_) (ig := gN 5) (body := uT (FF 100)) (N := 6)
    (fun _ e S => LS S s c ∧ ∃ x5 x6 x7 x8 x9 : Option PV, e = [x0, some (.ref s), some (pd d), some (.str (shw d)), some (strP (enc d)), x5, x6, x7, x8, x9])
    (fun i e S hi ⟨hS, x5, x6, x7, x8, x9, he⟩ => by
      subst he
      obtain ⟨y6, y7, y8, y9, S', g1, g2⟩ := u_turn (x0 := x0) (x5 := some (.int (i : Nat))) (x6 := x6) (x7 := x7) (x8 := x8) (x9 := x9) hd hS
      exact ⟨.int (i : Nat), _, _, S', by rw [srcR_at, List.getElem?_map, List.getElem?_range hi]; rfl, rfl, g1, g2, some (.int (i : Nat)), y6, y7, y8, y9, rfl⟩)
    (fun e S _ => by rw [srcR_at, List.getElem?_eq_none (by simp)])
    7 0 [x0, some (.ref s), some (pd d), some (.str (shw d)), some (strP (enc d)), none, none, none, none, none] s2 rfl (Nat.zero_le _) ⟨M2.ls, none, none, none, none, none, rfl⟩
  have hfor : iFor (iRange1 (iCons (iC (.int 6)) iNil)) (gN 5) (uT (FF 100)) [x0, some (.ref s), some (pd d), some (.str (shw d)), some (strP (enc d)), none, none, none, none, none] s2 = some (.nx e9 s9) := by
    have hrg := range1_i (ir := iCons (iC (.int 6)) iNil) (env := [x0, some (.ref s), some (pd d), some (.str (shw d)), some (strP (enc d)), none, none, none, none, none]) (s := s2) (st1 := s2) (j := 6) rfl (by omega) (by omega)
    rw [iFor_e, hrg, ob_s]
    exact hl
  have hb : b_law (FF 100) (GG 100) [x0, none, none, none, none, none, none, none, none, none] [] = some (.rt (.bl true) s9) := by
    rw [b_law_u, asg_seq e1]
    show iSeq _ _ [x0, some (.ref s), none, none, none, none, none, none, none, none] s1 = _
    rw [asg_seq e2]
    show iSeq _ _ [x0, some (.ref s), some (pd d), none, none, none, none, none, none, none] s2 = _
    rw [asg_seq e3]
    show iSeq _ _ [x0, some (.ref s), some (pd d), some (.str (shw d)), none, none, none, none, none, none] s2 = _
    rw [asg_seq e4]
    show iSeq _ _ [x0, some (.ref s), some (pd d), some (.str (shw d)), some (strP (enc d)), none, none, none, none, none] s2 = _
    rw [if_no (u0_e hd), nx_seq hfor]
    rfl
  have e := e_law 100
  rw [e]
  rw [hx0] at hb
  exact ⟨_, def_rt (n := 1) rfl hb⟩
end J51

namespace J51
open PySem PySem.Spec PyProof.Rows L2 IL
theorem calX_zero {P : Program} {w : World} {K : PySem.W.Frag} {mg : Str → Option Value} {base : Heap} {k : Nat} {x : Str} {st : Stmt} {f : Addr} {fd : FuncData} {ps : List Str} (F : C8.Def K mg x st f fd) (b : Binds K fd ps []) : CalX P w K mg base k x ps.length (fun _ _ => none) :=
  ⟨f, fd, ps, ⟨fun vs H Q E h => h.1, fun A outer s H args us vs Q E hr e0 hb r h => by obtain ⟨_, _, _, _, _, _, _, q, _⟩ := h; cases q⟩, F.mgf, F.kp, b⟩
/-- what is raised by a class is caught by its name -/
theorem caught_own {K : PySem.W.Frag} {C : Addr} (isC : PySem.W.isClsIn K C = true) (own : PySem.W.subIn K (.ref C) (.ref C) = some true) (exc : PySem.W.subIn K (.ref C) (.type "BaseException") = some true) (ty : PySem.W.typeIn K (.ref C) = some (.type "type")) : PySem.W.exmOne K (.ref C) (.ref C) = some true := by
  have isC' : (PySem.W.clsIn K C).isSome = true := isC
  simp only [PySem.W.exmOne, PySem.W.kitCls, exc, ty, isC', own, beq_self_eq_true, Bool.and_self, if_true]
theorem kit_own {K : PySem.W.Frag} {C D : Addr} (isD : PySem.W.isClsIn K D = true) (ty : PySem.W.typeIn K (.ref D) = some (.type "type")) (sub : PySem.W.subIn K (.ref C) (.ref D) = some true) : PySem.W.kitOne K (.ref C) (.ref D) = some true := by
  have isD' : (PySem.W.clsIn K D).isSome = true := isD
  unfold PySem.W.kitOne
  split
  · rfl
  · simp only [PySem.W.kitCls, ty, isD', sub, beq_self_eq_true, Bool.and_self, if_true]
set_option maxHeartbeats 0 in
theorem all_mk {P : Program} {w : World} {K : PySem.W.Frag} {h : Heap} {mg : Str → Option Value} {fa : Addr} (X : K.In h) (G : h.Ns mainGlobals mg) (hfa : mg "law" = some (.ref fa))
    {f0 f1 f2 f3 f4 f5 f6 f7 f8 f9 f10 f11 f12 f13 f14 f15 d_WORDS d_CLOSING C_FormError B_FlowError fI_FormError E_FlowError : Addr} {od0 an0 od1 an1 od2 an2 od3 an3 od4 an4 od5 an5 od6 an6 od7 an7 od8 an8 od9 an9 od10 an10 od11 an11 od12 an12 od13 an13 od14 an14 od15 an15 odI_FormError anI_FormError : Option Addr} {sl0 sl1 sl2 sl3 sl4 sl5 sl6 sl7 sl8 sl9 sl10 sl11 sl12 sl13 sl14 sl15 slI_FormError : Array (Option Value)} {oc0 kV0 dc0 pm0 cd0 ct0 oc1 kV1 dc1 pm1 cd1 ct1 oc2 kV2 dc2 pm2 cd2 ct2 oc3 kV3 dc3 pm3 cd3 ct3 oc4 kV4 dc4 pm4 cd4 ct4 oc5 kV5 dc5 pm5 cd5 ct5 oc6 kV6 dc6 pm6 cd6 ct6 oc7 kV7 dc7 pm7 cd7 ct7 oc8 kV8 dc8 pm8 cd8 ct8 oc9 kV9 dc9 pm9 cd9 ct9 oc10 kV10 dc10 pm10 cd10 ct10 oc11 kV11 dc11 pm11 cd11 ct11 oc12 kV12 dc12 pm12 cd12 ct12 oc13 kV13 dc13 pm13 cd13 ct13 oc14 kV14 dc14 pm14 cd14 ct14 oc15 kV15 dc15 pm15 cd15 ct15 u_MOST_DIGITS mc_FlowError ocI_FormError kVI_FormError dcI_FormError pmI_FormError cdI_FormError ctI_FormError : Value}
    {nm_FormError q_FormError : Str} {N_FormError : Addr} {bs_FormError bm_FormError : List Value} {sn_FormError : List Str} {sub_FormError : List Value} {ab_FormError : Bool} {col_FormError : Option Bool} {dd_FormError : Option Addr} {m0_FormError m1_FormError m2_FormError m3_FormError m5_FormError : Option Value}
    (a0 : PySem.W.nsIn K mainGlobals "encode" = some (some (.ref f0)))
    (l0 : K.lookup f0 = some ⟨oc0, od0, .func (PySem.W.fnOf "encode" "encode" (C8.fnArgs s_encode) (C8.fnBody s_encode) (C8.fnScope s_encode) .none kV0 dc0 pm0 an0 cd0 ct0), sl0⟩) (c0 : PySem.W.codeIn K cd0 "encode" = true) (k0 : PySem.W.keepIn K (.ref f0) = true)
    (a1 : PySem.W.nsIn K mainGlobals "_plain_form" = some (some (.ref f1)))
    (l1 : K.lookup f1 = some ⟨oc1, od1, .func (PySem.W.fnOf "_plain_form" "_plain_form" (C8.fnArgs s__plain_form) (C8.fnBody s__plain_form) (C8.fnScope s__plain_form) .none kV1 dc1 pm1 an1 cd1 ct1), sl1⟩) (c1 : PySem.W.codeIn K cd1 "_plain_form" = true) (k1 : PySem.W.keepIn K (.ref f1) = true)
    (a2 : PySem.W.nsIn K mainGlobals "decode" = some (some (.ref f2)))
    (l2 : K.lookup f2 = some ⟨oc2, od2, .func (PySem.W.fnOf "decode" "decode" (C8.fnArgs s_decode) (C8.fnBody s_decode) (C8.fnScope s_decode) .none kV2 dc2 pm2 an2 cd2 ct2), sl2⟩) (c2 : PySem.W.codeIn K cd2 "decode" = true) (k2 : PySem.W.keepIn K (.ref f2) = true)
    (a3 : PySem.W.nsIn K mainGlobals "read_form" = some (some (.ref f3)))
    (l3 : K.lookup f3 = some ⟨oc3, od3, .func (PySem.W.fnOf "read_form" "read_form" (C8.fnArgs s_read_form) (C8.fnBody s_read_form) (C8.fnScope s_read_form) .none kV3 dc3 pm3 an3 cd3 ct3), sl3⟩) (c3 : PySem.W.codeIn K cd3 "read_form" = true) (k3 : PySem.W.keepIn K (.ref f3) = true)
    (a4 : PySem.W.nsIn K mainGlobals "_read_plain" = some (some (.ref f4)))
    (l4 : K.lookup f4 = some ⟨oc4, od4, .func (PySem.W.fnOf "_read_plain" "_read_plain" (C8.fnArgs s__read_plain) (C8.fnBody s__read_plain) (C8.fnScope s__read_plain) .none kV4 dc4 pm4 an4 cd4 ct4), sl4⟩) (c4 : PySem.W.codeIn K cd4 "_read_plain" = true) (k4 : PySem.W.keepIn K (.ref f4) = true)
    (a5 : PySem.W.nsIn K mainGlobals "_read_number" = some (some (.ref f5)))
    (l5 : K.lookup f5 = some ⟨oc5, od5, .func (PySem.W.fnOf "_read_number" "_read_number" (C8.fnArgs s__read_number) (C8.fnBody s__read_number) (C8.fnScope s__read_number) .none kV5 dc5 pm5 an5 cd5 ct5), sl5⟩) (c5 : PySem.W.codeIn K cd5 "_read_number" = true) (k5 : PySem.W.keepIn K (.ref f5) = true)
    (a6 : PySem.W.nsIn K mainGlobals "_law_state" = some (some (.ref f6)))
    (l6 : K.lookup f6 = some ⟨oc6, od6, .func (PySem.W.fnOf "_law_state" "_law_state" (C8.fnArgs s__law_state) (C8.fnBody s__law_state) (C8.fnScope s__law_state) .none kV6 dc6 pm6 an6 cd6 ct6), sl6⟩) (c6 : PySem.W.codeIn K cd6 "_law_state" = true) (k6 : PySem.W.keepIn K (.ref f6) = true)
    (a7 : PySem.W.nsIn K mainGlobals "_law_take" = some (some (.ref f7)))
    (l7 : K.lookup f7 = some ⟨oc7, od7, .func (PySem.W.fnOf "_law_take" "_law_take" (C8.fnArgs s__law_take) (C8.fnBody s__law_take) (C8.fnScope s__law_take) .none kV7 dc7 pm7 an7 cd7 ct7), sl7⟩) (c7 : PySem.W.codeIn K cd7 "_law_take" = true) (k7 : PySem.W.keepIn K (.ref f7) = true)
    (a8 : PySem.W.nsIn K mainGlobals "_law_data" = some (some (.ref f8)))
    (l8 : K.lookup f8 = some ⟨oc8, od8, .func (PySem.W.fnOf "_law_data" "_law_data" (C8.fnArgs s__law_data) (C8.fnBody s__law_data) (C8.fnScope s__law_data) .none kV8 dc8 pm8 an8 cd8 ct8), sl8⟩) (c8 : PySem.W.codeIn K cd8 "_law_data" = true) (k8 : PySem.W.keepIn K (.ref f8) = true)
    (a9 : PySem.W.nsIn K mainGlobals "_law_form" = some (some (.ref f9)))
    (l9 : K.lookup f9 = some ⟨oc9, od9, .func (PySem.W.fnOf "_law_form" "_law_form" (C8.fnArgs s__law_form) (C8.fnBody s__law_form) (C8.fnScope s__law_form) .none kV9 dc9 pm9 an9 cd9 ct9), sl9⟩) (c9 : PySem.W.codeIn K cd9 "_law_form" = true) (k9 : PySem.W.keepIn K (.ref f9) = true)
    (a10 : PySem.W.nsIn K mainGlobals "_law_number" = some (some (.ref f10)))
    (l10 : K.lookup f10 = some ⟨oc10, od10, .func (PySem.W.fnOf "_law_number" "_law_number" (C8.fnArgs s__law_number) (C8.fnBody s__law_number) (C8.fnScope s__law_number) .none kV10 dc10 pm10 an10 cd10 ct10), sl10⟩) (c10 : PySem.W.codeIn K cd10 "_law_number" = true) (k10 : PySem.W.keepIn K (.ref f10) = true)
    (a11 : PySem.W.nsIn K mainGlobals "_law_read" = some (some (.ref f11)))
    (l11 : K.lookup f11 = some ⟨oc11, od11, .func (PySem.W.fnOf "_law_read" "_law_read" (C8.fnArgs s__law_read) (C8.fnBody s__law_read) (C8.fnScope s__law_read) .none kV11 dc11 pm11 an11 cd11 ct11), sl11⟩) (c11 : PySem.W.codeIn K cd11 "_law_read" = true) (k11 : PySem.W.keepIn K (.ref f11) = true)
    (a12 : PySem.W.nsIn K mainGlobals "_law_items" = some (some (.ref f12)))
    (l12 : K.lookup f12 = some ⟨oc12, od12, .func (PySem.W.fnOf "_law_items" "_law_items" (C8.fnArgs s__law_items) (C8.fnBody s__law_items) (C8.fnScope s__law_items) .none kV12 dc12 pm12 an12 cd12 ct12), sl12⟩) (c12 : PySem.W.codeIn K cd12 "_law_items" = true) (k12 : PySem.W.keepIn K (.ref f12) = true)
    (a13 : PySem.W.nsIn K mainGlobals "_law_due" = some (some (.ref f13)))
    (l13 : K.lookup f13 = some ⟨oc13, od13, .func (PySem.W.fnOf "_law_due" "_law_due" (C8.fnArgs s__law_due) (C8.fnBody s__law_due) (C8.fnScope s__law_due) .none kV13 dc13 pm13 an13 cd13 ct13), sl13⟩) (c13 : PySem.W.codeIn K cd13 "_law_due" = true) (k13 : PySem.W.keepIn K (.ref f13) = true)
    (a14 : PySem.W.nsIn K mainGlobals "_law_told" = some (some (.ref f14)))
    (l14 : K.lookup f14 = some ⟨oc14, od14, .func (PySem.W.fnOf "_law_told" "_law_told" (C8.fnArgs s__law_told) (C8.fnBody s__law_told) (C8.fnScope s__law_told) .none kV14 dc14 pm14 an14 cd14 ct14), sl14⟩) (c14 : PySem.W.codeIn K cd14 "_law_told" = true) (k14 : PySem.W.keepIn K (.ref f14) = true)
    (a15 : PySem.W.nsIn K mainGlobals "law" = some (some (.ref f15)))
    (l15 : K.lookup f15 = some ⟨oc15, od15, .func (PySem.W.fnOf "law" "law" (C8.fnArgs s_law) (C8.fnBody s_law) (C8.fnScope s_law) .none kV15 dc15 pm15 an15 cd15 ct15), sl15⟩) (c15 : PySem.W.codeIn K cd15 "law" = true) (k15 : PySem.W.keepIn K (.ref f15) = true)
    (z_abs : PySem.W.nsIn K mainGlobals "abs" = some none)
    (z_bool : PySem.W.nsIn K mainGlobals "bool" = some none)
    (z_int : PySem.W.nsIn K mainGlobals "int" = some none)
    (z_isinstance : PySem.W.nsIn K mainGlobals "isinstance" = some none)
    (z_len : PySem.W.nsIn K mainGlobals "len" = some none)
    (z_list : PySem.W.nsIn K mainGlobals "list" = some none)
    (z_range : PySem.W.nsIn K mainGlobals "range" = some none)
    (z_repr : PySem.W.nsIn K mainGlobals "repr" = some none)
    (z_reversed : PySem.W.nsIn K mainGlobals "reversed" = some none)
    (z_str : PySem.W.nsIn K mainGlobals "str" = some none)
    (z_tuple : PySem.W.nsIn K mainGlobals "tuple" = some none)
    (n_MOST_DIGITS : PySem.W.nsIn K mainGlobals "MOST_DIGITS" = some (some u_MOST_DIGITS)) (v_MOST_DIGITS : KVal K u_MOST_DIGITS c_MOST_DIGITS)
    {es_WORDS : Array DictEntry} {m_WORDS : Nat} (n_WORDS : PySem.W.nsIn K mainGlobals "WORDS" = some (some (.ref d_WORDS))) (l_WORDS : K.lookup d_WORDS = some ⟨.type "dict", none, .dict es_WORDS m_WORDS, #[]⟩) (o_WORDS : (d_WORDS == sysModules) = false) (v_WORDS : KEnts K w.params es_WORDS.toList tab_WORDS)
    {es_CLOSING : Array DictEntry} {m_CLOSING : Nat} (n_CLOSING : PySem.W.nsIn K mainGlobals "CLOSING" = some (some (.ref d_CLOSING))) (l_CLOSING : K.lookup d_CLOSING = some ⟨.type "dict", none, .dict es_CLOSING m_CLOSING, #[]⟩) (o_CLOSING : (d_CLOSING == sysModules) = false) (v_CLOSING : KEnts K w.params es_CLOSING.toList tab_CLOSING)
    (a_FormError : ClsAt K "FormError" C_FormError) (xl_FormError : K.lookup C_FormError = some (excClassObj nm_FormError q_FormError C_FormError N_FormError bs_FormError bm_FormError true sn_FormError sub_FormError ab_FormError col_FormError dd_FormError m0_FormError m1_FormError m2_FormError m3_FormError m5_FormError "ValueError.__new__")) (xr_FormError : PySem.HandSPX.refsVE bm_FormError = true)
    (sa_FormError : PySem.W.findIn K (.ref C_FormError) "__setattr__" = some (some (.builtin "object.__setattr__"))) (ga_FormError : PySem.W.findIn K (.ref C_FormError) "__getattribute__" = some (some (.builtin "BaseException.__getattribute__"))) (gg_FormError : PySem.W.findIn K (.ref C_FormError) "__getattr__" = some none) (ke_FormError : PySem.W.keepIn K (.ref C_FormError) = true) (eC_FormError : PySem.W.subIn K (.ref C_FormError) (.type "BaseException") = some true) (tC_FormError : PySem.W.typeIn K (.ref C_FormError) = some (.type "type")) (hC_FormError : PySem.W.hasDictIn K C_FormError = true)
    (no_FormError_at : PySem.W.findIn K (.ref C_FormError) "at" = some none)
    (b_FlowError : ClsAt K "FlowError" B_FlowError) (sp_FlowError : PySem.W.specialIn K (.ref B_FlowError) "__getattribute__" = some (some (.builtin "type.__getattribute__"))) (rd_FlowError : PySem.W.readsIn K B_FlowError mc_FlowError = true) (vV_FlowError : PySem.W.findCls K (.ref B_FlowError) mc_FlowError "__init__" = some (.val (.builtin "ValueError.__init__")))
    (aI_FormError : PySem.W.findIn K (.ref C_FormError) "__init__" = some (some (.ref fI_FormError))) (tI_FormError : PySem.W.typeIn K (.ref fI_FormError) = some (.type "function")) (lI_FormError : K.lookup fI_FormError = some ⟨ocI_FormError, odI_FormError, .func (PySem.W.fnOf "__init__" "FormError.__init__" (C8.fnArgs s_FormError___init__) (C8.fnBody s_FormError___init__) (C8.fnScope s_FormError___init__) .none kVI_FormError dcI_FormError pmI_FormError anI_FormError cdI_FormError ctI_FormError), slI_FormError⟩) (cI_FormError : PySem.W.codeIn K cdI_FormError "FormError.__init__" = true)
    (is_FormError : PySem.W.isClsIn K C_FormError = true) (se_FormError : PySem.W.subIn K (.ref C_FormError) (.ref C_FormError) = some true)
    (cc_FormError : PySem.W.findIn K (.ref C_FormError) "__class__" = some (some (.builtin "object.__class__"))) (cm_FormError : PySem.W.mroIn K C_FormError (.type "object") = some true)
    (cg : PySem.W.specialIn K (.builtin "object.__class__") "__get__" = some (some (.builtin "getset_descriptor.__get__"))) (ck : PySem.W.takesIn K (.builtin "object.__class__") = some true)
    (e_FlowError : ClsAt K "FlowError" E_FlowError) (ei_FlowError : PySem.W.isClsIn K E_FlowError = true) (et_FlowError : PySem.W.typeIn K (.ref E_FlowError) = some (.type "type"))
    (ek_FormError_FlowError : PySem.W.subIn K (.ref C_FormError) (.ref E_FlowError) = some true)
    : ∃ fd : FuncData, (∀ (s : Shared) (v : Value), BindsTo s fd ⟨[v], []⟩ [("script", v)]) ∧ ∀ base : Heap, K.In base → base.Ns mainGlobals mg → LawOk P w K mg base fa fd "script" (spLaw K) := by
  have e := hfa.symm.trans (PySem.W.mg_of X G a15)
  cases e
  have D0 := def_mk (st := s_encode) X G a0 l0 c0 k0
  have B0 := D0.fn.binds rfl (ps := ["data"]) fun _ _ _ _ _ _ us hl => match us, hl with | [_], _ => rfl
  have D1 := def_mk (st := s__plain_form) X G a1 l1 c1 k1
  have B1 := D1.fn.binds rfl (ps := ["thing"]) fun _ _ _ _ _ _ us hl => match us, hl with | [_], _ => rfl
  have D2 := def_mk (st := s_decode) X G a2 l2 c2 k2
  have B2 := D2.fn.binds rfl (ps := ["text"]) fun _ _ _ _ _ _ us hl => match us, hl with | [_], _ => rfl
  have D3 := def_mk (st := s_read_form) X G a3 l3 c3 k3
  have B3 := D3.fn.binds rfl (ps := ["text", "start"]) fun _ _ _ _ _ _ us hl => match us, hl with | [_, _], _ => rfl
  have D4 := def_mk (st := s__read_plain) X G a4 l4 c4 k4
  have B4 := D4.fn.binds rfl (ps := ["text", "at"]) fun _ _ _ _ _ _ us hl => match us, hl with | [_, _], _ => rfl
  have D5 := def_mk (st := s__read_number) X G a5 l5 c5 k5
  have B5 := D5.fn.binds rfl (ps := ["text", "start", "sign", "is_signed"]) fun _ _ _ _ _ _ us hl => match us, hl with | [_, _, _, _], _ => rfl
  have D6 := def_mk (st := s__law_state) X G a6 l6 c6 k6
  have B6 := D6.fn.binds rfl (ps := ["script"]) fun _ _ _ _ _ _ us hl => match us, hl with | [_], _ => rfl
  have D7 := def_mk (st := s__law_take) X G a7 l7 c7 k7
  have B7 := D7.fn.binds rfl (ps := ["state", "most"]) fun _ _ _ _ _ _ us hl => match us, hl with | [_, _], _ => rfl
  have D8 := def_mk (st := s__law_data) X G a8 l8 c8 k8
  have B8 := D8.fn.binds rfl (ps := ["state", "deep"]) fun _ _ _ _ _ _ us hl => match us, hl with | [_, _], _ => rfl
  have D9 := def_mk (st := s__law_form) X G a9 l9 c9 k9
  have B9 := D9.fn.binds rfl (ps := ["data"]) fun _ _ _ _ _ _ us hl => match us, hl with | [_], _ => rfl
  have D10 := def_mk (st := s__law_number) X G a10 l10 c10 k10
  have B10 := D10.fn.binds rfl (ps := ["text", "at", "end", "minus"]) fun _ _ _ _ _ _ us hl => match us, hl with | [_, _, _, _], _ => rfl
  have D11 := def_mk (st := s__law_read) X G a11 l11 c11 k11
  have B11 := D11.fn.binds rfl (ps := ["text", "at"]) fun _ _ _ _ _ _ us hl => match us, hl with | [_, _], _ => rfl
  have D12 := def_mk (st := s__law_items) X G a12 l12 c12 k12
  have B12 := D12.fn.binds rfl (ps := ["text", "at", "end"]) fun _ _ _ _ _ _ us hl => match us, hl with | [_, _, _], _ => rfl
  have D13 := def_mk (st := s__law_due) X G a13 l13 c13 k13
  have B13 := D13.fn.binds rfl (ps := ["text"]) fun _ _ _ _ _ _ us hl => match us, hl with | [_], _ => rfl
  have D14 := def_mk (st := s__law_told) X G a14 l14 c14 k14
  have B14 := D14.fn.binds rfl (ps := ["text"]) fun _ _ _ _ _ _ us hl => match us, hl with | [_], _ => rfl
  have D15 := def_mk (st := s_law) X G a15 l15 c15 k15
  have B15 := D15.fn.binds rfl (ps := ["script"]) fun _ _ _ _ _ _ us hl => match us, hl with | [_], _ => rfl
  have DI_FormError := fun_mk0 (st := s_FormError___init__) lI_FormError cI_FormError
  have BI_FormError := DI_FormError.binds rfl (ps := ["self", "at"]) fun _ _ _ _ _ _ us hl => match us, hl with | [_, _], _ => rfl
  have Z_abs := PySem.W.mg_none_of X G z_abs
  have Z_bool := PySem.W.mg_none_of X G z_bool
  have Z_int := PySem.W.mg_none_of X G z_int
  have Z_isinstance := PySem.W.mg_none_of X G z_isinstance
  have Z_len := PySem.W.mg_none_of X G z_len
  have Z_list := PySem.W.mg_none_of X G z_list
  have Z_range := PySem.W.mg_none_of X G z_range
  have Z_repr := PySem.W.mg_none_of X G z_repr
  have Z_reversed := PySem.W.mg_none_of X G z_reversed
  have Z_str := PySem.W.mg_none_of X G z_str
  have Z_tuple := PySem.W.mg_none_of X G z_tuple
  refine ⟨PySem.W.fnOf "law" "law" (C8.fnArgs s_law) (C8.fnBody s_law) (C8.fnScope s_law) .none kV15 dc15 pm15 an15 cd15 ct15, fun s v => .of_eq rfl, fun base _ _ => ?_⟩
  have all : ∀ n, Tb P w K mg base n := by
    intro n
    induction n with
    | zero => exact ⟨Z_abs, Z_bool, Z_int, Z_isinstance, Z_len, Z_list, Z_range, Z_repr, Z_reversed, Z_str, Z_tuple, gc_of X G n_MOST_DIGITS v_MOST_DIGITS, ktab_of X G n_WORDS l_WORDS o_WORDS v_WORDS, ktab_of X G n_CLOSING l_CLOSING o_CLOSING v_CLOSING, cal_zero D0 B0, cal_zero D1 B1, calX_zero D2 B2, calX_zero D3 B3, calX_zero D4 B4, calX_zero D5 B5, cal_zero D6 B6, cal_zero D7 B7, cal_zero D8 B8, calG_zero D9 B9, cal_zero D10 B10, cal_zero D11 B11, cal_zero D12 B12, cal_zero D13 B13, cal_zero D14 B14, i_FormError DI_FormError BI_FormError a_FormError (PySem.W.mg_of X G a_FormError) ⟨⟨_, _, _, _, _, _, _, _, _, _, _, _, _, _, _, xl_FormError, xr_FormError⟩, sa_FormError, eC_FormError, tC_FormError, ke_FormError⟩ aI_FormError tI_FormError (PySem.W.mg_of X G b_FlowError) sp_FlowError rd_FlowError vV_FlowError no_FormError_at, ⟨C_FormError, a_FormError, PySem.W.mg_of X G a_FormError, caught_own is_FormError se_FormError eC_FormError tC_FormError⟩, ⟨C_FormError, a_FormError, ⟨ga_FormError, gg_FormError, eC_FormError, hC_FormError⟩, no_FormError_at⟩, ⟨C_FormError, E_FlowError, a_FormError, PySem.W.mg_of X G e_FlowError, kit_own ei_FlowError et_FlowError ek_FormError_FlowError, ⟨ga_FormError, gg_FormError, eC_FormError, hC_FormError, cc_FormError, cg, ck, cm_FormError⟩⟩⟩
    | succ n T => exact ⟨Z_abs, Z_bool, Z_int, Z_isinstance, Z_len, Z_list, Z_range, Z_repr, Z_reversed, Z_str, Z_tuple, gc_of X G n_MOST_DIGITS v_MOST_DIGITS, ktab_of X G n_WORDS l_WORDS o_WORDS v_WORDS, ktab_of X G n_CLOSING l_CLOSING o_CLOSING v_CLOSING, t_encode D0 B0 T, t__plain_form D1 B1 T, t_decode D2 B2 T, t_read_form D3 B3 T, t__read_plain D4 B4 T, t__read_number D5 B5 T, t__law_state D6 B6 T, t__law_take D7 B7 T, t__law_data D8 B8 T, t__law_form D9 B9 T, t__law_number D10 B10 T, t__law_read D11 B11 T, t__law_items D12 B12 T, t__law_due D13 B13 T, t__law_told D14 B14 T, i_FormError DI_FormError BI_FormError a_FormError (PySem.W.mg_of X G a_FormError) ⟨⟨_, _, _, _, _, _, _, _, _, _, _, _, _, _, _, xl_FormError, xr_FormError⟩, sa_FormError, eC_FormError, tC_FormError, ke_FormError⟩ aI_FormError tI_FormError (PySem.W.mg_of X G b_FlowError) sp_FlowError rd_FlowError vV_FlowError no_FormError_at, ⟨C_FormError, a_FormError, PySem.W.mg_of X G a_FormError, caught_own is_FormError se_FormError eC_FormError tC_FormError⟩, ⟨C_FormError, a_FormError, ⟨ga_FormError, gg_FormError, eC_FormError, hC_FormError⟩, no_FormError_at⟩, ⟨C_FormError, E_FlowError, a_FormError, PySem.W.mg_of X G e_FlowError, kit_own ei_FlowError et_FlowError ek_FormError_FlowError, ⟨ga_FormError, gg_FormError, eC_FormError, hC_FormError, cc_FormError, cg, ck, cm_FormError⟩⟩⟩
  have L := lawOk_of (k := 2 * 100 + 3) (N := N_law) (y := "script") (ib := b_law (FF 100) (GG 100)) ⟨rfl, by decide, by decide⟩ D15.fn sc_law (k_law (all 100))
  exact L.imp fun vs H Q E h => law_sp (fun ns h => (by have e := J51.e_all ns h; rw [J51.e_law 100] at e; exact e)) h
end J51
open PySem PySem.W PyProof.Rows
set_option maxRecDepth 100000 in
set_option maxHeartbeats 0 in
theorem PySem.Challenge.cw_flowreprise_k51_written_data_holds : PySem.Challenge.rw_flowreprise_k51_written_data.Holds := by
  w_on; o_law; k_head; (case hw => w_witness2)
  k_fill
  refine IL.walk_J (l := PySem.Challenge.rw_flowreprise_k51_written_data) (n := 63) (x := "script") (sp := fun w => IL.spLaw _) rfl (by decide) rfl (fun w h Y => PySem.W.kIn_of Y) ?F (fun _ _ a ns hl hS => ⟨a, ns, rfl, hS, hl, fun _ => rfl⟩)
  case F =>
    intro w mg fa h KX G hmg
    refine' J51.all_mk (mc_FlowError := .type "type") KX G hmg ?a0 ?l0 ?c0 ?k0 ?a1 ?l1 ?c1 ?k1 ?a2 ?l2 ?c2 ?k2 ?a3 ?l3 ?c3 ?k3 ?a4 ?l4 ?c4 ?k4 ?a5 ?l5 ?c5 ?k5 ?a6 ?l6 ?c6 ?k6 ?a7 ?l7 ?c7 ?k7 ?a8 ?l8 ?c8 ?k8 ?a9 ?l9 ?c9 ?k9 ?a10 ?l10 ?c10 ?k10 ?a11 ?l11 ?c11 ?k11 ?a12 ?l12 ?c12 ?k12 ?a13 ?l13 ?c13 ?k13 ?a14 ?l14 ?c14 ?k14 ?a15 ?l15 ?c15 ?k15 ?z_abs ?z_bool ?z_int ?z_isinstance ?z_len ?z_list ?z_range ?z_repr ?z_reversed ?z_str ?z_tuple ?n_MOST_DIGITS ?v_MOST_DIGITS ?n_WORDS ?l_WORDS ?o_WORDS ?v_WORDS ?n_CLOSING ?l_CLOSING ?o_CLOSING ?v_CLOSING ?a_FormError ?xl_FormError ?xr_FormError ?sa_FormError ?ga_FormError ?gg_FormError ?ke_FormError ?eC_FormError ?tC_FormError ?hC_FormError ?no_FormError_at ?b_FlowError ?sp_FlowError ?rd_FlowError ?vV_FlowError ?aI_FormError ?tI_FormError ?lI_FormError ?cI_FormError ?is_FormError ?se_FormError ?cc_FormError ?cm_FormError ?cg ?ck ?e_FlowError ?ei_FlowError ?et_FlowError ?ek_FormError_FlowError
    (case a0 => k_is)
    (case l0 => k_is)
    (case c0 => k_is)
    (case k0 => k_is)
    (case a1 => k_is)
    (case l1 => k_is)
    (case c1 => k_is)
    (case k1 => k_is)
    (case a2 => k_is)
    (case l2 => k_is)
    (case c2 => k_is)
    (case k2 => k_is)
    (case a3 => k_is)
    (case l3 => k_is)
    (case c3 => k_is)
    (case k3 => k_is)
    (case a4 => k_is)
    (case l4 => k_is)
    (case c4 => k_is)
    (case k4 => k_is)
    (case a5 => k_is)
    (case l5 => k_is)
    (case c5 => k_is)
    (case k5 => k_is)
    (case a6 => k_is)
    (case l6 => k_is)
    (case c6 => k_is)
    (case k6 => k_is)
    (case a7 => k_is)
    (case l7 => k_is)
    (case c7 => k_is)
    (case k7 => k_is)
    (case a8 => k_is)
    (case l8 => k_is)
    (case c8 => k_is)
    (case k8 => k_is)
    (case a9 => k_is)
    (case l9 => k_is)
    (case c9 => k_is)
    (case k9 => k_is)
    (case a10 => k_is)
    (case l10 => k_is)
    (case c10 => k_is)
    (case k10 => k_is)
    (case a11 => k_is)
    (case l11 => k_is)
    (case c11 => k_is)
    (case k11 => k_is)
    (case a12 => k_is)
    (case l12 => k_is)
    (case c12 => k_is)
    (case k12 => k_is)
    (case a13 => k_is)
    (case l13 => k_is)
    (case c13 => k_is)
    (case k13 => k_is)
    (case a14 => k_is)
    (case l14 => k_is)
    (case c14 => k_is)
    (case k14 => k_is)
    (case a15 => k_is)
    (case l15 => k_is)
    (case c15 => k_is)
    (case k15 => k_is)
    (case z_abs => k_is)
    (case z_bool => k_is)
    (case z_int => k_is)
    (case z_isinstance => k_is)
    (case z_len => k_is)
    (case z_list => k_is)
    (case z_range => k_is)
    (case z_repr => k_is)
    (case z_reversed => k_is)
    (case z_str => k_is)
    (case z_tuple => k_is)
    (case n_MOST_DIGITS => k_is)
    (case v_MOST_DIGITS => exact IL.kv_int)
    (case n_WORDS => k_is)
    (case l_WORDS => k_is)
    (case o_WORDS => decide)
    (case v_WORDS => exact (.cons rfl rfl IL.kv_non (.cons rfl rfl IL.kv_bl (.cons rfl rfl IL.kv_bl .nil))))
    (case n_CLOSING => k_is)
    (case l_CLOSING => k_is)
    (case o_CLOSING => decide)
    (case v_CLOSING => exact (.cons rfl rfl (IL.kv_str rfl) (.cons rfl rfl (IL.kv_str rfl) .nil)))
    (case a_FormError => unfold IL.ClsAt; k_is)
    (case xl_FormError => k_is)
    (case xr_FormError => decide +kernel)
    (case sa_FormError => k_is)
    (case ga_FormError => k_is)
    (case gg_FormError => k_is)
    (case ke_FormError => k_is)
    (case eC_FormError => k_is)
    (case tC_FormError => k_is)
    (case hC_FormError => k_is)
    (case no_FormError_at => k_is)
    (case b_FlowError => unfold IL.ClsAt; k_is)
    (case sp_FlowError => k_is)
    (case rd_FlowError => k_is)
    (case vV_FlowError => k_is)
    (case aI_FormError => k_is)
    (case tI_FormError => k_is)
    (case lI_FormError => k_is)
    (case cI_FormError => k_is)
    (case is_FormError => k_is)
    (case se_FormError => first | rfl | k_is)
    (case cc_FormError => k_is)
    (case cm_FormError => k_is)
    (case cg => k_is)
    (case ck => k_is)
    (case e_FlowError => unfold IL.ClsAt; k_is)
    (case ei_FlowError => k_is)
    (case et_FlowError => k_is)
    (case ek_FormError_FlowError => first | rfl | k_is)
