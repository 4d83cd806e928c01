import PyProof.Rows.All
import Wide.All
import OpenK.AllK
import Wide.FinOn
import HandS.ForMost
import HandS.Codes
import HandS.TupLe
import HandS.TupAny
import HandS.TupMul
import HandS.Wide
import HandS.IsInst
import HandS.Style
import HandS.Flow
import HandS.Exc
import HandS.TryOnly
import HandS.ExcInit
import HandS.DictComp
import HandS.SortKw
import HandS.Deep
import KE.DatumOrd
import HandS.TryElse
import HandS.TryMany
import HandS.ExcField
import HandS.ExcIs
import HandS.ExcOwn
import HandS.FStr
import HandS.ExcCtx
import KE.KExcIs
import PyProof.Rows.EnumRows
import HandS.ReplaceLit
import PyProof.P3In
import HandS.HotCalls
import HandS.Comp
import PyProof.Walks
import PyProof.ConsumeWalk
import HandS.ReplaceList
import PyProof.Rows.StrDigitsNeg
import PySem.Challenge.RW_flowreprise_k11_written_values
set_option Elab.async false
set_option linter.all false
set_option maxRecDepth 100000
namespace IL
open PySem PySem.Spec PyProof.Rows L2

/-- a value, data as trees, what may change by its number in the store -/
inductive PV where
  | non | bl (b : Bool) | int (i : Int) | str (x : Str) | tup (xs : List PV) | frz (xs : List PV) | ref (n : Nat) | ty (n : String)
  /-- a dict that nobody writes: its keys, its values -/
  | fdk (ks : List Key) (xs : List PV)
/-- what may change -/
inductive SO where
  | lst (xs : List PV)
  | dK (kvs : List (Key × PV))
  /-- an instance of the program's class of that name -/
  | ins (c : Str) (fs : List (Str × PV))
  /-- a list that is no longer written -/
  | gone
/-- the addresses of what may change; those that are no longer written -/
structure Rho where
  l : List Addr
  d : List Addr
def Rho.add (ρ : Rho) (p : Addr) : Rho := ⟨ρ.l ++ [p], ρ.d⟩
def Rho.Safe (ρ : Rho) (a : Addr) : Prop := a ∉ ρ.l ∨ a ∈ ρ.d
/-- the class of that name -/
def ClsAt (K : PySem.W.Frag) (c : Str) (C : Addr) : Prop := PySem.W.nsIn K mainGlobals c = some (some (.ref C))
abbrev Sto := List SO
abbrev PEnv := List (Option PV)

section
variable (K : PySem.W.Frag) (H : Hp) (ρ : Rho)
/-- a list that nobody writes -/
def FrzAt (a : Addr) (vs : List V) : Prop :=
  (Rd H a (.lst vs) ∧ ρ.Safe a) ∨ ∃ (o : Obj) (its : Array Value) (n : Nat), K.lookup a = some o ∧ o.cls = .type "list" ∧ o.dict = none ∧ o.data = .seq its n ∧ its.size ≤ sizeLine ∧ Vals vs its.toList
/-- a dict that nobody writes -/
def FdkAt (a : Addr) (ks : List Key) (vs : List V) : Prop :=
  ∃ kvs : List (Key × V), Rd H a (.dK kvs) ∧ ρ.Safe a ∧ kvs.map (·.1) = ks ∧ kvs.map (·.2) = vs
mutual
def Rep : PV → V → Prop
  | .non, v => v = .non
  | .bl b, v => v = .bl b
  | .int i, v => v = .int i
  | .str x, v => v = .str x
  | .tup xs, v => ∃ a vs, v = .ref a ∧ SqT K H a vs ∧ Reps xs vs
  | .frz xs, v => ∃ a vs, v = .ref a ∧ FrzAt K H ρ a vs ∧ Reps xs vs
  | .ref n, v => ∃ a, v = .ref a ∧ ρ.l[n]? = some a
  | .ty n, v => v = .ty n
  | .fdk ks xs, v => ∃ a vs, v = .ref a ∧ FdkAt H ρ a ks vs ∧ Reps xs vs
def Reps : List PV → List V → Prop
  | [], vs => vs = []
  | x :: xs, vs => ∃ v r, vs = v :: r ∧ Rep x v ∧ Reps xs r
end
def RepK : List (Key × PV) → List (Key × V) → Prop
  | [], vs => vs = []
  | x :: xs, vs => ∃ v r, vs = (x.1, v) :: r ∧ Rep K H ρ x.2 v ∧ RepK xs r
def RepF : List (Str × PV) → List (Str × V) → Prop
  | [], vs => vs = []
  | x :: xs, vs => ∃ v r, vs = (x.1, v) :: r ∧ Rep K H ρ x.2 v ∧ RepF xs r
def RepO : SO → Addr → Prop
  | .lst xs, a => ∃ vs, H a = some (.lst vs) ∧ Reps K H ρ xs vs
  | .dK kvs, a => ∃ vs, H a = some (.dK vs) ∧ RepK K H ρ kvs vs
  | .ins c fs, a => ∃ C dx vs, ClsAt K c C ∧ H a = some (.ins C dx vs) ∧ RepF K H ρ fs vs
  | .gone, a => (∃ vs, Rd H a (.lst vs)) ∨ ∃ vs, Rd H a (.dK vs)
structure RepS (st : Sto) : Prop where
  len : ρ.l.length = st.length
  nd : ρ.l.Nodup
  at_ : ∀ (n : Nat) (so : SO), st[n]? = some so → ∃ a, ρ.l[n]? = some a ∧ RepO K H ρ so a
  lv : ∀ (n : Nat) (so : SO) (a : Addr), st[n]? = some so → so ≠ .gone → ρ.l[n]? = some a → a ∉ ρ.d
  sd : ∀ a, a ∈ ρ.d → a ∈ ρ.l
structure RepE (env : PEnv) (σ : L2.St) : Prop where
  len : env.length = σ.length
  at_ : ∀ (i : Nat) (x : PV), env[i]? = some (some x) → ∃ v, σ[i]? = some (some v) ∧ Rep K H ρ x v
end
/-- not a thing that is locked -/
def NF : HO → Prop
  | .frz _ _ => False
  | _ => True
structure Grow (H : Hp) (ρ : Rho) (H' : Hp) (ρ' : Rho) : Prop where
  ext : ∃ l, ρ'.l = ρ.l ++ l ∧ ∀ b ∈ l, H b = none
  ded : ∀ b, b ∈ ρ.d → b ∈ ρ'.d
  keep : ∀ b u, NF u → ρ.Safe b → Rd H b u → Rd H' b u
  dom : ∀ b, H' b = none → H b = none
  lck : ∀ b o u, ρ.Safe b → H b = some (.frz o u) → H' b = some (.frz o u)

section
variable {K : PySem.W.Frag} {H H' H1 H2 : Hp} {ρ ρ' ρ1 ρ2 : Rho} {st st' : Sto} {env : PEnv} {σ : L2.St}
theorem Grow.refl : Grow H ρ H ρ := ⟨⟨[], by simp, fun _ h => by simp at h⟩, fun _ h => h, fun _ _ _ _ h => h, fun _ h => h, fun _ _ _ _ h => h⟩
theorem Rd.ne_none {a : Addr} {u : HO} (h : Rd H a u) : H a ≠ none := fun e => by
  rcases h with h | ⟨o, h⟩ <;> (rw [e] at h; cases h)
theorem Grow.safe (a : Grow H ρ H1 ρ1) {x : Addr} (h : H x ≠ none) (s : ρ.Safe x) : ρ1.Safe x := by
  obtain ⟨l1, e1, f1⟩ := a.ext
  rcases s with s | s
  · refine .inl fun hm => ?_
    rw [e1] at hm
    rcases List.mem_append.mp hm with hm | hm
    · exact s hm
    · exact h (f1 x hm)
  · exact .inr (a.ded x s)
theorem Grow.trans (a : Grow H ρ H1 ρ1) (b : Grow H1 ρ1 H2 ρ2) : Grow H ρ H2 ρ2 := by
  obtain ⟨l1, e1, f1⟩ := a.ext
  obtain ⟨l2, e2, f2⟩ := b.ext
  refine ⟨⟨l1 ++ l2, by rw [e2, e1, List.append_assoc], fun x hx => ?_⟩, fun x hx => b.ded x (a.ded x hx), fun x u hu hx ho => ?_, fun x hx => a.dom x (b.dom x hx), fun x o u hx ho => b.lck x o u (a.safe (by rw [ho]; simp) hx) (a.lck x o u hx ho)⟩
  · rcases List.mem_append.mp hx with h | h
    · exact f1 x h
    · exact a.dom x (f2 x h)
  · exact b.keep x u hu (a.safe (Rd.ne_none ho) hx) (a.keep x u hu hx ho)
theorem Grow.ix (g : Grow H ρ H' ρ') {n : Nat} {a : Addr} (h : ρ.l[n]? = some a) : ρ'.l[n]? = some a := by
  obtain ⟨l, e, _⟩ := g.ext
  rw [e, List.getElem?_append_left (List.getElem?_eq_some_iff.mp h).1]
  exact h
theorem RepS.mem (S : RepS K H ρ st) {a : Addr} (h : a ∈ ρ.l) : ∃ (n : Nat) (so : SO), ρ.l[n]? = some a ∧ st[n]? = some so ∧ RepO K H ρ so a := by
  obtain ⟨n, hn, e⟩ := List.mem_iff_getElem.mp h
  have hs : n < st.length := by have := S.len; omega
  obtain ⟨b, hb, r⟩ := S.at_ n st[n] (List.getElem?_eq_getElem hs)
  have e2 : ρ.l[n]? = some a := by rw [List.getElem?_eq_getElem hn, e]
  rw [e2] at hb; cases hb
  exact ⟨n, st[n], e2, List.getElem?_eq_getElem hs, r⟩
theorem RepO.some {so : SO} {a : Addr} (h : RepO K H ρ so a) : (∃ vs, Rd H a (.lst vs)) ∨ (∃ vs, Rd H a (.dK vs)) ∨ ∃ C dx vs, Rd H a (.ins C dx vs) := by
  cases so with
  | lst xs => obtain ⟨vs, h, _⟩ := h; exact .inl ⟨vs, .of h⟩
  | dK xs => obtain ⟨vs, h, _⟩ := h; exact .inr (.inl ⟨vs, .of h⟩)
  | ins c xs => obtain ⟨C, dx, vs, _, h, _⟩ := h; exact .inr (.inr ⟨C, dx, vs, .of h⟩)
  | gone =>
    rcases h with ⟨vs, h⟩ | ⟨vs, h⟩
    · exact .inl ⟨vs, h⟩
    · exact .inr (.inl ⟨vs, h⟩)
theorem RepS.notT (S : RepS K H ρ st) {a : Addr} {vs : List V} (h : Rd H a (.tup vs)) : ρ.Safe a := .inl fun hm => by
  obtain ⟨n, so, _, _, r⟩ := S.mem hm
  rcases r.some with ⟨w, e⟩ | ⟨w, e⟩ | ⟨C, dx, w, e⟩ <;> rcases h with h | ⟨o, h⟩ <;> rcases e with e | ⟨o', e⟩ <;> (rw [e] at h; cases h)
theorem RepS.fresh (S : RepS K H ρ st) {p : Addr} (h : H p = none) : p ∉ ρ.l := fun hm => by
  obtain ⟨n, so, _, _, r⟩ := S.mem hm
  rcases r.some with ⟨w, e⟩ | ⟨w, e⟩ | ⟨C, dx, w, e⟩ <;> exact Rd.ne_none e h
theorem Grow.rd (g : Grow H ρ H' ρ') {a : Addr} {u : HO} (n : ρ.Safe a) (h : Rd H a u) (hu : NF u := by trivial) : Rd H' a u := g.keep a u hu n h
theorem SqT.grow (S : RepS K H ρ st) (g : Grow H ρ H' ρ') {a : Addr} {vs : List V} (h : SqT K H a vs) : SqT K H' a vs := by
  rcases h with h | h
  · exact .inl (g.rd (S.notT h) h)
  · exact .inr h
theorem FrzAt.grow (g : Grow H ρ H' ρ') {a : Addr} {vs : List V} (h : FrzAt K H ρ a vs) : FrzAt K H' ρ' a vs := by
  rcases h with ⟨h, n⟩ | h
  · exact .inl ⟨g.rd n h, g.safe (Rd.ne_none h) n⟩
  · exact .inr h
theorem FdkAt.grow (g : Grow H ρ H' ρ') {a : Addr} {ks : List Key} {vs : List V} (h : FdkAt H ρ a ks vs) : FdkAt H' ρ' a ks vs := by
  obtain ⟨kvs, h, n, e1, e2⟩ := h
  exact ⟨kvs, g.rd n h, g.safe (Rd.ne_none h) n, e1, e2⟩
theorem FrzAt.sq {a : Addr} {vs : List V} (h : FrzAt K H ρ a vs) : SqL K H a vs := by
  rcases h with ⟨h, _⟩ | h
  · exact .inl h
  · exact .inr h
mutual
theorem Rep.grow (S : RepS K H ρ st) (g : Grow H ρ H' ρ') : ∀ (x : PV) (v : V), Rep K H ρ x v → Rep K H' ρ' x v
  | .non, v, h => by unfold Rep at *; exact h
  | .bl b, v, h => by unfold Rep at *; exact h
  | .int i, v, h => by unfold Rep at *; exact h
  | .str x, v, h => by unfold Rep at *; exact h
  | .tup xs, v, h => by
    unfold Rep at *
    obtain ⟨a, vs, e, h1, h2⟩ := h
    exact ⟨a, vs, e, SqT.grow S g h1, Reps.grow S g xs vs h2⟩
  | .frz xs, v, h => by
    unfold Rep at *
    obtain ⟨a, vs, e, h1, h2⟩ := h
    exact ⟨a, vs, e, h1.grow g, Reps.grow S g xs vs h2⟩
  | .ref n, v, h => by
    unfold Rep at *
    obtain ⟨a, e, h1⟩ := h
    exact ⟨a, e, g.ix h1⟩
  | .ty n, v, h => by unfold Rep at *; exact h
  | .fdk ks xs, v, h => by
    unfold Rep at *
    obtain ⟨a, vs, e, h1, h2⟩ := h
    exact ⟨a, vs, e, h1.grow g, Reps.grow S g xs vs h2⟩
theorem Reps.grow (S : RepS K H ρ st) (g : Grow H ρ H' ρ') : ∀ (xs : List PV) (vs : List V), Reps K H ρ xs vs → Reps K H' ρ' xs vs
  | [], vs, h => by unfold Reps at *; exact h
  | x :: xs, vs, h => by
    unfold Reps at *
    obtain ⟨v, r, e, h1, h2⟩ := h
    exact ⟨v, r, e, Rep.grow S g x v h1, Reps.grow S g xs r h2⟩
end
theorem RepK.grow (S : RepS K H ρ st) (g : Grow H ρ H' ρ') : ∀ (xs : List (Key × PV)) (vs : List (Key × V)), RepK K H ρ xs vs → RepK K H' ρ' xs vs
  | [], vs, h => h
  | x :: xs, vs, h => by
    obtain ⟨v, r, e, h1, h2⟩ := h
    exact ⟨v, r, e, Rep.grow S g _ v h1, RepK.grow S g xs r h2⟩
theorem RepF.grow (S : RepS K H ρ st) (g : Grow H ρ H' ρ') : ∀ (xs : List (Str × PV)) (vs : List (Str × V)), RepF K H ρ xs vs → RepF K H' ρ' xs vs
  | [], vs, h => h
  | x :: xs, vs, h => by
    obtain ⟨v, r, e, h1, h2⟩ := h
    exact ⟨v, r, e, Rep.grow S g _ v h1, RepF.grow S g xs r h2⟩
theorem RepE.grow (S : RepS K H ρ st) (g : Grow H ρ H' ρ') (E : RepE K H ρ env σ) : RepE K H' ρ' env σ :=
  ⟨E.len, fun i x h => by
    obtain ⟨v, h1, h2⟩ := E.at_ i x h
    exact ⟨v, h1, Rep.grow S g _ _ h2⟩⟩
theorem Reps.length : ∀ {xs : List PV} {vs : List V}, Reps K H ρ xs vs → xs.length = vs.length
  | [], vs, h => by unfold Reps at h; subst h; rfl
  | x :: xs, vs, h => by
    unfold Reps at h
    obtain ⟨v, r, rfl, _, h2⟩ := h
    simp [Reps.length h2]
theorem Reps.get : ∀ {xs : List PV} {vs : List V} {i : Nat} {x : PV}, Reps K H ρ xs vs → xs[i]? = some x → ∃ v, vs[i]? = some v ∧ Rep K H ρ x v
  | [], _, _, _, _, e => by simp at e
  | y :: ys, vs, 0, x, h, e => by
    unfold Reps at h
    obtain ⟨v, r, rfl, h1, _⟩ := h
    simp at e; subst e
    exact ⟨v, rfl, h1⟩
  | y :: ys, vs, i + 1, x, h, e => by
    unfold Reps at h
    obtain ⟨v, r, rfl, _, h2⟩ := h
    obtain ⟨w, a, b⟩ := Reps.get (i := i) (x := x) h2 (by simpa using e)
    exact ⟨w, by simpa using a, b⟩
theorem Reps.append : ∀ {xs ys : List PV} {vs ws : List V}, Reps K H ρ xs vs → Reps K H ρ ys ws → Reps K H ρ (xs ++ ys) (vs ++ ws)
  | [], _, _, _, h, h' => by unfold Reps at h; subst h; exact h'
  | x :: xs, _, _, _, h, h' => by
    unfold Reps at h
    obtain ⟨v, r, rfl, h1, h2⟩ := h
    show Reps K H ρ (x :: (xs ++ _)) (v :: (r ++ _))
    unfold Reps
    exact ⟨v, _, rfl, h1, Reps.append h2 h'⟩
theorem Reps.drop : ∀ {xs : List PV} {vs : List V} (n : Nat), Reps K H ρ xs vs → Reps K H ρ (xs.drop n) (vs.drop n)
  | _, _, 0, h => h
  | [], _, n + 1, h => by unfold Reps at h; subst h; simp [Reps]
  | x :: xs, _, n + 1, h => by
    unfold Reps at h
    obtain ⟨v, r, rfl, _, h2⟩ := h
    exact Reps.drop n h2
theorem Reps.take : ∀ {xs : List PV} {vs : List V} (n : Nat), Reps K H ρ xs vs → Reps K H ρ (xs.take n) (vs.take n)
  | _, _, 0, h => by simp [Reps]
  | [], _, n + 1, h => by unfold Reps at h; subst h; simp [Reps]
  | x :: xs, _, n + 1, h => by
    unfold Reps at h
    obtain ⟨v, r, rfl, h1, h2⟩ := h
    show Reps K H ρ (x :: xs.take n) (v :: r.take n)
    unfold Reps
    exact ⟨v, _, rfl, h1, Reps.take n h2⟩
theorem Reps.set {y : PV} {w : V} (hy : Rep K H ρ y w) : ∀ {xs : List PV} {vs : List V} (n : Nat), Reps K H ρ xs vs → Reps K H ρ (xs.set n y) (vs.set n w)
  | [], _, n, h => by unfold Reps at h; subst h; simp [Reps]
  | x :: xs, _, 0, h => by
    unfold Reps at h
    obtain ⟨v, r, rfl, h1, h2⟩ := h
    show Reps K H ρ (y :: xs) (w :: r)
    unfold Reps
    exact ⟨w, _, rfl, hy, h2⟩
  | x :: xs, _, n + 1, h => by
    unfold Reps at h
    obtain ⟨v, r, rfl, h1, h2⟩ := h
    show Reps K H ρ (x :: xs.set n y) (v :: r.set n w)
    unfold Reps
    exact ⟨v, _, rfl, h1, Reps.set hy n h2⟩
theorem RepE.set (E : RepE K H ρ env σ) {x : PV} {v : V} (h : Rep K H ρ x v) (i : Nat) : RepE K H ρ (env.set i (some x)) (σ.set i (some v)) := by
  refine ⟨by simpa using E.len, fun j y hj => ?_⟩
  by_cases e : i = j
  · subst e
    by_cases hl : i < env.length
    · rw [List.getElem?_set_self hl] at hj
      cases hj
      exact ⟨v, List.getElem?_set_self (by rw [← E.len]; exact hl), h⟩
    · rw [List.getElem?_eq_none (by simpa using hl)] at hj
      cases hj
  · rw [List.getElem?_set_ne e] at hj
    obtain ⟨w, a, b⟩ := E.at_ j y hj
    exact ⟨w, by rw [List.getElem?_set_ne e]; exact a, b⟩
/-- a new tuple -/
theorem grow_new {p : Addr} {o : HO} (h : H p = none) : Grow H ρ (upd H p o) ρ :=
  ⟨⟨[], by simp, fun _ h => by simp at h⟩, fun _ h => h, fun b u _ _ e => by
    have hb : b ≠ p := fun z => Rd.ne_none e (by rw [z]; exact h)
    unfold Rd at e ⊢
    rw [upd_ne hb]; exact e, fun b e => by
    by_cases hb : b = p
    · subst hb; exact h
    · rw [upd_ne hb] at e; exact e, fun b o u _ e => by
    have hb : b ≠ p := fun z => by rw [z, h] at e; cases e
    rw [upd_ne hb]; exact e⟩
theorem grow_alloc {p : Addr} {o : HO} (h : H p = none) : Grow H ρ (upd H p o) (ρ.add p) :=
  ⟨⟨[p], rfl, fun b hb => by simp at hb; subst hb; exact h⟩, fun _ h => h, (grow_new h (ρ := ρ)).keep, (grow_new h (ρ := ρ)).dom, (grow_new h (ρ := ρ)).lck⟩
theorem grow_write {p : Addr} {o u : HO} (h : H p = some u) (m : p ∈ ρ.l) (nd : p ∉ ρ.d) : Grow H ρ (upd H p o) ρ :=
  ⟨⟨[], by simp, fun _ h => by simp at h⟩, fun _ h => h, fun b w _ nb e => by
    have hb : b ≠ p := fun z => by
      subst z
      rcases nb with nb | nb
      · exact nb m
      · exact nd nb
    unfold Rd at e ⊢
    rw [upd_ne hb]; exact e, fun b e => by
    by_cases hb : b = p
    · subst hb; rw [upd_same] at e; cases e
    · rw [upd_ne hb] at e; exact e, fun b w w2 nb e => by
    have hb : b ≠ p := fun z => by
      subst z
      rcases nb with nb | nb
      · exact nb m
      · exact nd nb
    rw [upd_ne hb]; exact e⟩
/-- the store as it was, one heap on -/
theorem RepO.grow (S : RepS K H ρ st) (g : Grow H ρ H' ρ') {so : SO} {a : Addr} (h : RepO K H ρ so a) (e : H' a = H a) : RepO K H' ρ' so a := by
  cases so with
  | lst xs => obtain ⟨vs, h1, h2⟩ := h; exact ⟨vs, by rw [e]; exact h1, Reps.grow S g _ _ h2⟩
  | dK xs => obtain ⟨vs, h1, h2⟩ := h; exact ⟨vs, by rw [e]; exact h1, RepK.grow S g _ _ h2⟩
  | ins c xs => obtain ⟨C, dx, vs, hc, h1, h2⟩ := h; exact ⟨C, dx, vs, hc, by rw [e]; exact h1, RepF.grow S g _ _ h2⟩
  | gone =>
    rcases h with ⟨vs, h1⟩ | ⟨vs, h1⟩
    · exact .inl ⟨vs, by unfold Rd at h1 ⊢; rw [e]; exact h1⟩
    · exact .inr ⟨vs, by unfold Rd at h1 ⊢; rw [e]; exact h1⟩
theorem RepS.same (S : RepS K H ρ st) (g : Grow H ρ H' ρ) (e : ∀ a ∈ ρ.l, H' a = H a) : RepS K H' ρ st :=
  ⟨S.len, S.nd, fun n so h => by
    obtain ⟨a, h1, h2⟩ := S.at_ n so h
    exact ⟨a, h1, h2.grow S g (e a (List.mem_of_getElem? h1))⟩, S.lv, S.sd⟩
theorem RepS.new {p : Addr} {o : HO} (S : RepS K H ρ st) (h : H p = none) : RepS K (upd H p o) ρ st :=
  S.same (grow_new h) fun a ha => upd_ne fun e => S.fresh h (by rw [← e]; exact ha)
theorem RepS.nodead (S : RepS K H ρ st) {p : Addr} (h : H p = none) : p ∉ ρ.d := fun z => S.fresh h (S.sd p z)
theorem RepS.add {p : Addr} {so : SO} (S : RepS K H ρ st) (g : Grow H ρ H' (ρ.add p)) (h : H p = none) (e : ∀ a ∈ ρ.l, H' a = H a) (r : RepO K H' (ρ.add p) so p) : RepS K H' (ρ.add p) (st ++ [so]) := by
  refine ⟨by simp [Rho.add, S.len], ?_, fun n so' hn => ?_, fun n so' a hn hg ha => ?_, fun a ha => List.mem_append_left _ (S.sd a ha)⟩
  · exact List.nodup_append.mpr ⟨S.nd, by simp, fun a ha b hb => by simp at hb; subst hb; exact fun e => S.fresh h (by rw [← e]; exact ha)⟩
  · by_cases hl : n < st.length
    · rw [List.getElem?_append_left hl] at hn
      obtain ⟨a, h1, h2⟩ := S.at_ n so' hn
      exact ⟨a, g.ix h1, h2.grow S g (e a (List.mem_of_getElem? h1))⟩
    · have e : n = st.length := by
        have := (List.getElem?_eq_some_iff.mp hn).1
        simp at this; omega
      subst e
      rw [List.getElem?_append_right (Nat.le_refl _)] at hn
      simp at hn; subst hn
      exact ⟨p, by show (ρ.l ++ [p])[st.length]? = some p; rw [← S.len, List.getElem?_append_right (Nat.le_refl _)]; simp, r⟩
  · by_cases hl : n < st.length
    · rw [List.getElem?_append_left hl] at hn
      exact S.lv n so' a hn hg (by rw [← ha]; show ρ.l[n]? = (ρ.l ++ [p])[n]?; rw [List.getElem?_append_left (by rw [S.len]; exact hl)])
    · have e : n = st.length := by
        have := (List.getElem?_eq_some_iff.mp hn).1
        simp at this; omega
      subst e
      have ha' : (ρ.l ++ [p])[st.length]? = some a := ha
      rw [← S.len, List.getElem?_append_right (Nat.le_refl _)] at ha'
      simp at ha'; subst ha'
      exact S.nodead h
theorem RepS.alloc {p : Addr} {o : HO} {so : SO} (S : RepS K H ρ st) (h : H p = none) (r : RepO K (upd H p o) (ρ.add p) so p) : RepS K (upd H p o) (ρ.add p) (st ++ [so]) :=
  S.add (grow_alloc h) h (fun a ha => upd_ne fun e => S.fresh h (by rw [← e]; exact ha)) r
theorem RepS.write {p : Addr} {o u : HO} {so : SO} {n : Nat} (S : RepS K H ρ st) (hn : ρ.l[n]? = some p) (nd : p ∉ ρ.d) (h : H p = some u) (r : RepO K (upd H p o) ρ so p) : RepS K (upd H p o) ρ (st.set n so) := by
  have g : Grow H ρ (upd H p o) ρ := grow_write h (List.mem_of_getElem? hn) nd
  refine ⟨by simpa using S.len, S.nd, fun m so' hm => ?_, fun m so' a hm hg ha => ?_, S.sd⟩
  · by_cases e : n = m
    · subst e
      have hl : n < st.length := by have := (List.getElem?_eq_some_iff.mp hn).1; rw [S.len] at this; exact this
      rw [List.getElem?_set_self hl] at hm; cases hm
      exact ⟨p, hn, r⟩
    · rw [List.getElem?_set_ne e] at hm
      obtain ⟨a, h1, h2⟩ := S.at_ m so' hm
      refine ⟨a, h1, h2.grow S g (upd_ne fun z => e ?_)⟩
      subst z
      obtain ⟨l1, e1⟩ := List.getElem?_eq_some_iff.mp hn
      obtain ⟨l2, e2⟩ := List.getElem?_eq_some_iff.mp h1
      exact (List.getElem_inj S.nd).mp (e1.trans e2.symm)
  · by_cases e : n = m
    · subst e
      rw [hn] at ha; cases ha
      exact nd
    · rw [List.getElem?_set_ne e] at hm
      exact S.lv m so' a hm hg ha
/-- a list is let go: nobody writes it from now on -/
theorem grow_die {p : Addr} : Grow H ρ H ⟨ρ.l, p :: ρ.d⟩ := ⟨⟨[], by simp, fun _ h => by simp at h⟩, fun _ h => List.mem_cons_of_mem _ h, fun _ _ _ _ h => h, fun _ h => h, fun _ _ _ _ h => h⟩
theorem RepS.die {p : Addr} {n : Nat} {so : SO} (S : RepS K H ρ st) (hn : ρ.l[n]? = some p) (hs : st[n]? = some so) (hk : RepO K H ρ .gone p) : RepS K H ⟨ρ.l, p :: ρ.d⟩ (st.set n .gone) := by
  have g : Grow H ρ H ⟨ρ.l, p :: ρ.d⟩ := grow_die
  refine ⟨by simpa using S.len, S.nd, fun m so' hm => ?_, fun m so' a hm hg ha => ?_, fun a ha => ?_⟩
  · by_cases e : n = m
    · subst e
      have hl : n < st.length := (List.getElem?_eq_some_iff.mp hs).1
      rw [List.getElem?_set_self hl] at hm; cases hm
      exact ⟨p, hn, hk⟩
    · rw [List.getElem?_set_ne e] at hm
      obtain ⟨a, h1, h2⟩ := S.at_ m so' hm
      exact ⟨a, h1, h2.grow S g rfl⟩
  · by_cases e : n = m
    · subst e
      have hl : n < st.length := (List.getElem?_eq_some_iff.mp hs).1
      rw [List.getElem?_set_self hl] at hm; cases hm
      exact absurd rfl hg
    · rw [List.getElem?_set_ne e] at hm
      refine fun z => ?_
      rcases List.mem_cons.mp z with z | z
      · subst z
        obtain ⟨l1, e1⟩ := List.getElem?_eq_some_iff.mp hn
        obtain ⟨l2, e2⟩ := List.getElem?_eq_some_iff.mp (show ρ.l[m]? = some a from ha)
        exact e ((List.getElem_inj S.nd).mp (e1.trans e2.symm))
      · exact S.lv m so' a hm hg ha z
  · rcases List.mem_cons.mp ha with z | z
    · subst z; exact List.mem_of_getElem? hn
    · exact S.sd a z
theorem RepS.dead {p : Addr} {n : Nat} {xs : List PV} (S : RepS K H ρ st) (hn : ρ.l[n]? = some p) (hs : st[n]? = some (.lst xs)) : Rep K H ⟨ρ.l, p :: ρ.d⟩ (.frz xs) (.ref p) := by
  obtain ⟨a, h1, vs, h2, h3⟩ := S.at_ n _ hs
  rw [hn] at h1; cases h1
  unfold Rep
  exact ⟨p, vs, rfl, .inl ⟨.of h2, .inr (List.mem_cons_self ..)⟩, Reps.grow S grow_die _ _ h3⟩
theorem RepK.vals : ∀ {xs : List (Key × PV)} {vs : List (Key × V)}, RepK K H ρ xs vs → Reps K H ρ (xs.map (·.2)) (vs.map (·.2)) ∧ vs.map (·.1) = xs.map (·.1)
  | [], vs, h => by subst h; exact ⟨by unfold Reps; rfl, rfl⟩
  | x :: xs, vs, h => by
    obtain ⟨v, r, rfl, h1, h2⟩ := h
    obtain ⟨a, b⟩ := RepK.vals h2
    refine ⟨?_, by simp [b]⟩
    rw [List.map_cons, List.map_cons]
    unfold Reps
    exact ⟨v, _, rfl, h1, a⟩
theorem RepS.deadK {p : Addr} {n : Nat} {xs : List (Key × PV)} (S : RepS K H ρ st) (hn : ρ.l[n]? = some p) (hs : st[n]? = some (.dK xs)) : Rep K H ⟨ρ.l, p :: ρ.d⟩ (.fdk (xs.map (·.1)) (xs.map (·.2))) (.ref p) := by
  obtain ⟨a, h1, vs, h2, h3⟩ := S.at_ n _ hs
  rw [hn] at h1; cases h1
  obtain ⟨h4, h5⟩ := h3.vals
  unfold Rep
  exact ⟨p, _, rfl, ⟨vs, .of h2, .inr (List.mem_cons_self ..), h5, rfl⟩, Reps.grow S grow_die _ _ h4⟩
/-- what stands at a number -/
theorem RepS.lst (S : RepS K H ρ st) {n : Nat} {v : V} {xs : List PV} (R : Rep K H ρ (.ref n) v) (e : st[n]? = some (.lst xs)) : ∃ a vs, v = .ref a ∧ ρ.l[n]? = some a ∧ a ∉ ρ.d ∧ H a = some (.lst vs) ∧ Reps K H ρ xs vs := by
  unfold Rep at R
  obtain ⟨a, rfl, i1⟩ := R
  obtain ⟨b, hb, vs, h1, h2⟩ := S.at_ _ _ e
  rw [i1] at hb; cases hb
  exact ⟨a, vs, rfl, i1, S.lv n _ a e (by simp) i1, h1, h2⟩
theorem RepS.dct (S : RepS K H ρ st) {n : Nat} {v : V} {xs : List (Key × PV)} (R : Rep K H ρ (.ref n) v) (e : st[n]? = some (.dK xs)) : ∃ a vs, v = .ref a ∧ ρ.l[n]? = some a ∧ a ∉ ρ.d ∧ H a = some (.dK vs) ∧ RepK K H ρ xs vs := by
  unfold Rep at R
  obtain ⟨a, rfl, i1⟩ := R
  obtain ⟨b, hb, vs, h1, h2⟩ := S.at_ _ _ e
  rw [i1] at hb; cases hb
  exact ⟨a, vs, rfl, i1, S.lv n _ a e (by simp) i1, h1, h2⟩
theorem RepS.inst (S : RepS K H ρ st) {n : Nat} {v : V} {c : Str} {fs : List (Str × PV)} (R : Rep K H ρ (.ref n) v) (e : st[n]? = some (.ins c fs)) : ∃ a C dx vs, v = .ref a ∧ ρ.l[n]? = some a ∧ a ∉ ρ.d ∧ ClsAt K c C ∧ H a = some (.ins C dx vs) ∧ RepF K H ρ fs vs := by
  unfold Rep at R
  obtain ⟨a, rfl, i1⟩ := R
  obtain ⟨b, hb, C, dx, vs, hc, h1, h2⟩ := S.at_ _ _ e
  rw [i1] at hb; cases hb
  exact ⟨a, C, dx, vs, rfl, i1, S.lv n _ a e (by simp) i1, hc, h1, h2⟩
theorem ClsAt.uniq {c : Str} {C C' : Addr} (h : ClsAt K c C) (h' : ClsAt K c C') : C = C' := by
  unfold ClsAt at h h'
  rw [h] at h'
  simpa using h'
/-! ### a dict that is walked is locked -/
theorem SqT.rdk (g : ∀ a u, NF u → Rd H a u → Rd H' a u) {a : Addr} {vs : List V} (h : SqT K H a vs) : SqT K H' a vs := by
  rcases h with h | h
  · exact .inl (g _ _ trivial h)
  · exact .inr h
theorem FrzAt.rdk (g : ∀ a u, NF u → Rd H a u → Rd H' a u) {a : Addr} {vs : List V} (h : FrzAt K H ρ a vs) : FrzAt K H' ρ a vs := by
  rcases h with ⟨h, n⟩ | h
  · exact .inl ⟨g _ _ trivial h, n⟩
  · exact .inr h
theorem FdkAt.rdk (g : ∀ a u, NF u → Rd H a u → Rd H' a u) {a : Addr} {ks : List Key} {vs : List V} (h : FdkAt H ρ a ks vs) : FdkAt H' ρ a ks vs := by
  obtain ⟨kvs, h, r⟩ := h
  exact ⟨kvs, g _ _ trivial h, r⟩
mutual
theorem Rep.rdk (g : ∀ a u, NF u → Rd H a u → Rd H' a u) : ∀ (x : PV) (v : V), Rep K H ρ x v → Rep K H' ρ x v
  | .non, v, h => by unfold Rep at *; exact h
  | .bl b, v, h => by unfold Rep at *; exact h
  | .int i, v, h => by unfold Rep at *; exact h
  | .str x, v, h => by unfold Rep at *; exact h
  | .ty x, v, h => by unfold Rep at *; exact h
  | .ref x, v, h => by unfold Rep at *; exact h
  | .tup xs, v, h => by
    unfold Rep at *
    obtain ⟨a, vs, e, h1, h2⟩ := h
    exact ⟨a, vs, e, SqT.rdk g h1, Reps.rdk g xs vs h2⟩
  | .frz xs, v, h => by
    unfold Rep at *
    obtain ⟨a, vs, e, h1, h2⟩ := h
    exact ⟨a, vs, e, h1.rdk g, Reps.rdk g xs vs h2⟩
  | .fdk ks xs, v, h => by
    unfold Rep at *
    obtain ⟨a, vs, e, h1, h2⟩ := h
    exact ⟨a, vs, e, h1.rdk g, Reps.rdk g xs vs h2⟩
theorem Reps.rdk (g : ∀ a u, NF u → Rd H a u → Rd H' a u) : ∀ (xs : List PV) (vs : List V), Reps K H ρ xs vs → Reps K H' ρ xs vs
  | [], vs, h => by unfold Reps at *; exact h
  | x :: xs, vs, h => by
    unfold Reps at *
    obtain ⟨v, r, e, h1, h2⟩ := h
    exact ⟨v, r, e, Rep.rdk g x v h1, Reps.rdk g xs r h2⟩
end
theorem RepK.rdk (g : ∀ a u, NF u → Rd H a u → Rd H' a u) : ∀ (xs : List (Key × PV)) (vs : List (Key × V)), RepK K H ρ xs vs → RepK K H' ρ xs vs
  | [], vs, h => h
  | x :: xs, vs, h => by
    obtain ⟨v, r, e, h1, h2⟩ := h
    exact ⟨v, r, e, Rep.rdk g _ _ h1, RepK.rdk g xs r h2⟩
theorem RepF.rdk (g : ∀ a u, NF u → Rd H a u → Rd H' a u) : ∀ (xs : List (Str × PV)) (vs : List (Str × V)), RepF K H ρ xs vs → RepF K H' ρ xs vs
  | [], vs, h => h
  | x :: xs, vs, h => by
    obtain ⟨v, r, e, h1, h2⟩ := h
    exact ⟨v, r, e, Rep.rdk g _ _ h1, RepF.rdk g xs r h2⟩
theorem RepE.rdk (g : ∀ a u, NF u → Rd H a u → Rd H' a u) (E : RepE K H ρ env σ) : RepE K H' ρ env σ :=
  ⟨E.len, fun i x h => by
    obtain ⟨v, a, b⟩ := E.at_ i x h
    exact ⟨v, a, Rep.rdk g x v b⟩⟩
/-- what is read as u at a, locked or not -/
theorem RepS.rdk (S : RepS K H ρ st) (g : ∀ a u, NF u → Rd H a u → Rd H' a u) {d : Addr} (sd : ρ.Safe d) (e : ∀ a, a ≠ d → H' a = H a) : RepS K H' ρ st := by
  refine ⟨S.len, S.nd, fun n so h => ?_, S.lv, S.sd⟩
  obtain ⟨a, h1, h2⟩ := S.at_ n so h
  refine ⟨a, h1, ?_⟩
  by_cases hg : so = .gone
  · subst hg
    rcases h2 with ⟨vs, h2⟩ | ⟨vs, h2⟩
    · exact .inl ⟨vs, g _ _ trivial h2⟩
    · exact .inr ⟨vs, g _ _ trivial h2⟩
  · have ha : a ≠ d := fun z => by
      subst z
      rcases sd with sd | sd
      · exact sd (List.mem_of_getElem? h1)
      · exact S.lv n so a h hg h1 sd
    cases so with
    | lst xs => obtain ⟨vs, h3, h4⟩ := h2; exact ⟨vs, by rw [e a ha]; exact h3, Reps.rdk g _ _ h4⟩
    | dK xs => obtain ⟨vs, h3, h4⟩ := h2; exact ⟨vs, by rw [e a ha]; exact h3, RepK.rdk g _ _ h4⟩
    | ins c xs => obtain ⟨C, dx, vs, hc, h3, h4⟩ := h2; exact ⟨C, dx, vs, hc, by rw [e a ha]; exact h3, RepF.rdk g _ _ h4⟩
    | gone => exact absurd rfl hg
end
end IL

namespace IL
open PySem PySem.Spec PyProof.Rows L2

/-! ### what is computed, by plain functions -/
def ob {α β : Type} (m : Option (α × Sto)) (k : α → Sto → Option β) : Option β := match m with
  | some (a, s) => k a s
  | none => none
theorem ob_some {α β : Type} {m : Option (α × Sto)} {k : α → Sto → Option β} {r : β} (h : ob m k = some r) : ∃ a s, m = some (a, s) ∧ k a s = some r := by
  unfold ob at h
  split at h
  · exact ⟨_, _, rfl, h⟩
  · cases h
abbrev IE := PEnv → Sto → Option (PV × Sto)
abbrev IA := PEnv → Sto → Option (List PV × Sto)
abbrev IT := PEnv → Sto → Option (Bool × Sto)
abbrev IO := PEnv → Sto → Option (Option Int × Sto)
inductive Fl where
  | nx (e : PEnv) (s : Sto) | rt (v : PV) (s : Sto) | bk (e : PEnv) (s : Sto) | ct (e : PEnv) (s : Sto)
  /-- an exception of the program's class of that name, with its fields -/
  | er (e : PEnv) (c : Str) (fs : List (Str × PV)) (s : Sto)
abbrev IS := PEnv → Sto → Option Fl
/-- operations on values -/
abbrev F1 := PV → Sto → Option (PV × Sto)
abbrev F2 := PV → PV → Sto → Option (PV × Sto)
abbrev FA := List PV → Sto → Option (PV × Sto)

section
variable (K : PySem.W.Frag)
def tI (i : IE) : TE := fun σ H Q => ∃ env st ρ x st', RepE K H ρ env σ ∧ RepS K H ρ st ∧ i env st = some (x, st') ∧ ∀ v H' ρ', Grow H ρ H' ρ' → RepS K H' ρ' st' → Rep K H' ρ' x v → Q v H'
def tIA (i : IA) : TA := fun σ H Q => ∃ env st ρ x st', RepE K H ρ env σ ∧ RepS K H ρ st ∧ i env st = some (x, st') ∧ ∀ v H' ρ', Grow H ρ H' ρ' → RepS K H' ρ' st' → Reps K H' ρ' x v → Q v H'
def tIT (i : IT) : TT := fun σ H Q => ∃ env st ρ x st', RepE K H ρ env σ ∧ RepS K H ρ st ∧ i env st = some (x, st') ∧ ∀ H' ρ', Grow H ρ H' ρ' → RepS K H' ρ' st' → Q x H'
def tIO (i : IO) : TO := fun σ H Q => ∃ env st ρ x st', RepE K H ρ env σ ∧ RepS K H ρ st ∧ i env st = some (x, st') ∧ ∀ H' ρ', Grow H ρ H' ρ' → RepS K H' ρ' st' → Q x H'
def PostF (W : WX) (D : Ends) (H : Hp) (ρ : Rho) : Fl → Prop
  | .nx e s => ∀ σ' H' ρ', Grow H ρ H' ρ' → RepS K H' ρ' s → RepE K H' ρ' e σ' → D.nx σ' H'
  | .bk e s => ∀ σ' H' ρ', Grow H ρ H' ρ' → RepS K H' ρ' s → RepE K H' ρ' e σ' → D.bk σ' H'
  | .ct e s => ∀ σ' H' ρ', Grow H ρ H' ρ' → RepS K H' ρ' s → RepE K H' ρ' e σ' → D.ct σ' H'
  | .rt x s => ∀ v H' ρ', Grow H ρ H' ρ' → RepS K H' ρ' s → Rep K H' ρ' x v → D.rt v H'
  | .er e c fs s => ∀ C d σ' H' ρ' vs, ClsAt K c C → Grow H ρ H' ρ' → RepS K H' ρ' s → RepE K H' ρ' e σ' → RepF K H' ρ' fs vs → H' d = some (.xd vs) → W (.ref C) (some d) σ' H'
def tIS (W : WX) (i : IS) : TS := fun D σ H => ∃ env st ρ f, RepE K H ρ env σ ∧ RepS K H ρ st ∧ i env st = some f ∧ PostF K W D H ρ f
/-- an operation's reading does what the function does -/
def OpI (r : R2) (f : F2) : Prop := ∀ H ρ st x y vx vy z st' (Q : VK), RepS K H ρ st → Rep K H ρ x vx → Rep K H ρ y vy → f x y st = some (z, st') → (∀ v H' ρ', Grow H ρ H' ρ' → RepS K H' ρ' st' → Rep K H' ρ' z v → Q v H') → r vx vy H Q
def UnI (r : V → Hp → VK → Prop) (f : F1) : Prop := ∀ H ρ st x vx z st' (Q : VK), RepS K H ρ st → Rep K H ρ x vx → f x st = some (z, st') → (∀ v H' ρ', Grow H ρ H' ρ' → RepS K H' ρ' st' → Rep K H' ρ' z v → Q v H') → r vx H Q
def CallI (r : List V → Hp → VK → Prop) (f : FA) : Prop := ∀ H ρ st xs vs z st' (Q : VK), RepS K H ρ st → Reps K H ρ xs vs → f xs st = some (z, st') → (∀ v H' ρ', Grow H ρ H' ρ' → RepS K H' ρ' st' → Rep K H' ρ' z v → Q v H') → r vs H Q
end
section
variable {X : Cx} {e : Expr}
theorem PE.imp {t t' : TE} (h : PE X e t) (m : ∀ σ H Q, t' σ H Q → t σ H Q) : PE X e t' := ⟨fun pins s σ H Q I q => h.run pins s σ H Q I (m σ H Q q)⟩
theorem PT.imp {t t' : TT} (h : PT X e t) (m : ∀ σ H Q, t' σ H Q → t σ H Q) : PT X e t' := ⟨fun pins s σ H Q I q => h.run pins s σ H Q I (m σ H Q q)⟩
theorem PA.imp {es : List Expr} {t t' : TA} (h : PA X es t) (m : ∀ σ H Q, t' σ H Q → t σ H Q) : PA X es t' := ⟨fun pos pins s σ H Q I q => h.run pos pins s σ H Q I (m σ H Q q)⟩
theorem PO.imp {e : Option Expr} {t t' : TO} (h : PO X e t) (m : ∀ σ H Q, t' σ H Q → t σ H Q) : PO X e t' := ⟨fun pins s σ H Q I q => h.run pins s σ H Q I (m σ H Q q)⟩
theorem PS.imp {st : Stmt} {t t' : TS} (h : PS X st t) (m : ∀ D σ H, t' D σ H → t D σ H) : PS X st t' := ⟨fun pins s σ H D I q => h.run pins s σ H D I (m D σ H q)⟩
theorem PSs.imp {st : List Stmt} {t t' : TS} (h : PSs X st t) (m : ∀ D σ H, t' D σ H → t D σ H) : PSs X st t' := ⟨fun pins s σ H D I q => h.run pins s σ H D I (m D σ H q)⟩
theorem OpR.or {f : Value → Value → Sem Value} {r r' : R2} (h : OpR X f r) (h' : OpR X f r') : OpR X f (fun x y H Q => r x y H Q ∨ r' x y H Q) := fun pins s σ H x y v u Q I rx ry q =>
  q.elim (h pins s σ H x y v u Q I rx ry) (h' pins s σ H x y v u Q I rx ry)
theorem CallR.or {f : Value} {r r' : List V → Hp → VK → Prop} (h : CallR X f r) (h' : CallR X f r') : CallR X f (fun x H Q => r x H Q ∨ r' x H Q) := fun pins s σ H xs us Q I rx q =>
  q.elim (h pins s σ H xs us Q I rx) (h' pins s σ H xs us Q I rx)
theorem SlR.or {r r' : V → Option Int → Option Int → Hp → VK → Prop} (h : SlR X r) (h' : SlR X r') : SlR X (fun x a b H Q => r x a b H Q ∨ r' x a b H Q) := fun pins s σ H x v vl vu lo hi sl Q I rx hs pl pu q =>
  q.elim (h pins s σ H x v vl vu lo hi sl Q I rx hs pl pu) (h' pins s σ H x v vl vu lo hi sl Q I rx hs pl pu)
end

section
variable {X : Cx} {a b c e : Expr} {es rest : List Expr} {pos : Pos} {ia ib ic : IE} {ta tb : IT}
/-! ### names, constants -/
def iVar (i : Nat) : IE := fun env st => match env[i]? with
  | some (some v) => some (v, st)
  | _ => none
theorem r_var {i : Nat} {x : Str} (hN : X.N[i]? = some x) (hv : Vis X.env.scope x) (hd : (x == ("__debug__" : Str)) = false := by decide) (hcd : (x == ("__classdict__" : Str)) = false := by decide) : PE X (.Name x pos) (tI X.K (iVar i)) :=
  PE.imp (pe_var hN hv hd hcd) fun σ H Q ⟨env, st, ρ, x, st', E, S, h, q⟩ => by
    unfold iVar at h
    split at h
    · rename_i v e
      cases h
      obtain ⟨w, h1, h2⟩ := E.at_ i _ e
      exact ⟨w, h1, q w H ρ Grow.refl S h2⟩
    · cases h
def iC (v : PV) : IE := fun _ st => some (v, st)
theorem r_c {x : PV} {v : V} (h : PE X e (tC v)) (r : ∀ H ρ, Rep X.K H ρ x v) : PE X e (tI X.K (iC x)) := PE.imp h fun σ H Q ⟨env, st, ρ, y, st', E, S, h, q⟩ => by
  cases h
  exact q v H ρ Grow.refl S (r H ρ)
theorem r_int {i j} : PE X (.Constant (.int i) j pos) (tI X.K (iC (.int i))) := r_c pe_int fun _ _ => by unfold Rep; rfl
theorem r_bl {i j} : PE X (.Constant (.bool i) j pos) (tI X.K (iC (.bl i))) := r_c pe_bl fun _ _ => by unfold Rep; rfl
theorem r_non {j} : PE X (.Constant .none j pos) (tI X.K (iC .non)) := r_c pe_non fun _ _ => by unfold Rep; rfl
theorem r_str {i j} : PE X (.Constant (.str i) j pos) (tI X.K (iC (.str i))) := r_c pe_str fun _ _ => by unfold Rep; rfl
/-- a module's constant -/
def GC (K : PySem.W.Frag) (mg : Str → Option Value) (x : Str) (y : PV) : Prop := ∃ u v, mg x = some u ∧ RelV v u ∧ ∀ H ρ, Rep K H ρ y v
theorem r_glob {x : Str} {y : PV} (hg : Gl X x) (h : GC X.K X.mg x y) (hd : (x == ("__debug__" : Str)) = false := by decide) : PE X (.Name x pos) (tI X.K (iC y)) := by
  obtain ⟨u, v, h1, h2, h3⟩ := h
  exact r_c (pe_glob hg h1 h2 hd) h3
/-- a built-in class as a value -/
theorem r_ty {x : Str} {n : String} (hg : Gl X x) (hm : X.mg x = none) (hv : bootBuiltins x = some (.type n)) (hn : x ≠ "__name__" := by decide) (hd : (x == ("__debug__" : Str)) = false := by decide) : PE X (.Name x pos) (tI X.K (iC (.ty n))) :=
  r_c (pe_bltn (v := .ty n) hg hm hv rfl hn hd) fun _ _ => by unfold Rep; rfl

/-! ### two in a row -/
def iBin (f : F2) (ia ib : IE) : IE := fun env st => ob (ia env st) fun x s1 => ob (ib env s1) fun y s2 => f x y s2
def iUn (f : F1) (ia : IE) : IE := fun env st => ob (ia env st) fun x s1 => f x s1
theorem bin_to {r : R2} {f : F2} {K : PySem.W.Frag} (hf : OpI K r f) {σ : L2.St} {H : Hp} {Q : VK} (h : tI K (iBin f ia ib) σ H Q) : tOp r (tI K ia) (tI K ib) σ H Q := by
  obtain ⟨env, st, ρ, z, st', E, S, h, q⟩ := h
  obtain ⟨x, s1, h1, h⟩ := ob_some h
  obtain ⟨y, s2, h2, h⟩ := ob_some h
  refine ⟨env, st, ρ, x, s1, E, S, h1, fun vx H1 ρ1 G1 S1 R1 => ⟨env, s1, ρ1, y, s2, E.grow S G1, S1, h2, fun vy H2 ρ2 G2 S2 R2 => ?_⟩⟩
  exact hf H2 ρ2 s2 x y vx vy z st' Q S2 (Rep.grow S1 G2 _ _ R1) R2 h fun v H3 ρ3 G3 S3 R3 => q v H3 ρ3 ((G1.trans G2).trans G3) S3 R3
theorem r_op {op : Operator} {r : R2} {f : F2} (ho : OpR X (binaryOp op) r) (hf : OpI X.K r f) (ha : PE X a (tI X.K ia)) (hb : PE X b (tI X.K ib)) : PE X (.BinOp a op b pos) (tI X.K (iBin f ia ib)) :=
  PE.imp (pe_op ho ha hb) fun _ _ _ h => bin_to hf h
theorem r_cmp {op : CmpOp} {r : R2} {f : F2} (ho : OpR X (compareOp op) r) (hf : OpI X.K r f) (ha : PE X a (tI X.K ia)) (hb : PE X b (tI X.K ib)) (hm : behindInMarks op b = false) : PE X (.Compare a [op] [b] pos) (tI X.K (iBin f ia ib)) :=
  PE.imp (pe_cmpR ho ha hb hm) fun _ _ _ h => bin_to hf h
theorem r_ix {r : R2} {f : F2} (ho : IxR X r) (hf : OpI X.K r f) (ha : PE X a (tI X.K ia)) (hb : PE X b (tI X.K ib)) (hs : PlainIx b) : PE X (.Subscript a b pos) (tI X.K (iBin f ia ib)) :=
  PE.imp (pe_ix ho ha hb hs) fun _ _ _ h => bin_to hf h
theorem r_un {op : UnaryOp} {r : V → Hp → VK → Prop} {f : F1} (ho : UnR X (unaryOp op) r) (hf : UnI X.K r f) (ha : PE X a (tI X.K ia)) : PE X (.UnaryOp op a pos) (tI X.K (iUn f ia)) :=
  PE.imp (pe_un ho ha) fun σ H Q ⟨env, st, ρ, z, st', E, S, h, q⟩ => by
    obtain ⟨x, s1, h1, h⟩ := ob_some h
    exact ⟨env, st, ρ, x, s1, E, S, h1, fun vx H1 ρ1 G1 S1 R1 => hf H1 ρ1 s1 x vx z st' Q S1 R1 h fun v H3 ρ3 G3 S3 R3 => q v H3 ρ3 (G1.trans G3) S3 R3⟩
/-- a chain of two comparisons -/
def iChain (f g : F2) (ia ib ic : IE) : IE := fun env st => ob (ia env st) fun x s1 => ob (ib env s1) fun y s2 => ob (f x y s2) fun z s3 => match z with
  | .bl true => ob (ic env s3) fun w s4 => g y w s4
  | .bl false => some (.bl false, s3)
  | _ => none
theorem r_chain {op op' : CmpOp} {r r' : R2} {f g : F2} (ho : OpR X (compareOp op) r) (hf : OpI X.K r f) (ho' : OpR X (compareOp op') r') (hg : OpI X.K r' g) (ha : PE X a (tI X.K ia)) (hb : PE X b (tI X.K ib)) (hc : PE X c (tI X.K ic))
    (hm : lastMarks [op, op'] [b, c] = false := by with_unfolding_all rfl) : PE X (.Compare a [op, op'] [b, c] pos) (tI X.K (iChain f g ia ib ic)) :=
  PE.imp (pe_chain ho ho' ha hb hc hm) fun σ H Q ⟨env, st, ρ, z, st', E, S, h, q⟩ => by
    obtain ⟨x, s1, h1, h⟩ := ob_some h
    obtain ⟨y, s2, h2, h⟩ := ob_some h
    obtain ⟨w, s3, h3, h⟩ := ob_some h
    refine ⟨env, st, ρ, x, s1, E, S, h1, fun vx H1 ρ1 G1 S1 R1 => ⟨env, s1, ρ1, y, s2, E.grow S G1, S1, h2, fun vy H2 ρ2 G2 S2 R2 => ?_⟩⟩
    refine hf H2 ρ2 s2 x y vx vy w s3 _ S2 (Rep.grow S1 G2 _ _ R1) R2 h3 fun v H3 ρ3 G3 S3 R3 => ?_
    split at h
    · unfold Rep at R3
      subst R3
      obtain ⟨w, s4, h4, h⟩ := ob_some h
      refine ⟨true, rfl, ?_⟩
      rw [if_pos rfl]
      refine ⟨env, s3, ρ3, w, s4, ((E.grow S G1).grow S1 G2).grow S2 G3, S3, h4, fun vw H4 ρ4 G4 S4 R4 => ?_⟩
      exact hg H4 ρ4 s4 y w vy vw z st' Q S4 (Rep.grow S3 G4 _ _ (Rep.grow S2 G3 _ _ R2)) R4 h fun v H5 ρ5 G5 S5 R5 => q v H5 ρ5 ((((G1.trans G2).trans G3).trans G4).trans G5) S5 R5
    · unfold Rep at R3
      subst R3
      cases h
      refine ⟨false, rfl, ?_⟩
      rw [if_neg Bool.false_ne_true]
      exact q _ H3 ρ3 ((G1.trans G2).trans G3) S3 (by unfold Rep; rfl)
    · cases h

/-! ### truth -/
def tru (st : Sto) : PV → Option Bool
  | .non => some false
  | .bl b => some b
  | .int i => some (i != 0)
  | .str x => if x.length ≤ 9000000 then some ((x.length : Int) != 0) else none
  | .tup xs => some (!xs.isEmpty)
  | .frz xs => some (!xs.isEmpty)
  | .ref n => match st[n]? with
    | some (.lst xs) => some (!xs.isEmpty)
    | some (.dK kvs) => some (!kvs.isEmpty)
    | _ => none
  | .ty _ => none
  | .fdk _ _ => none
theorem line5 {n : Nat} (h : n ≤ 9000000) : n ≤ sizeLine := Nat.le_trans h (by decide)
theorem Reps.empty {K : PySem.W.Frag} {H : Hp} {ρ : Rho} {xs : List PV} {vs : List V} (h : Reps K H ρ xs vs) : vs.isEmpty = xs.isEmpty := by
  have := h.length
  cases xs <;> cases vs <;> simp_all
theorem RepK.length {K : PySem.W.Frag} {H : Hp} {ρ : Rho} : ∀ {xs : List (Key × PV)} {vs : List (Key × V)}, RepK K H ρ xs vs → xs.length = vs.length
  | [], vs, h => by subst h; rfl
  | x :: xs, vs, h => by
    obtain ⟨v, r, rfl, _, h2⟩ := h
    simp [RepK.length h2]
theorem RepK.empty {K : PySem.W.Frag} {H : Hp} {ρ : Rho} {xs : List (Key × PV)} {vs : List (Key × V)} (h : RepK K H ρ xs vs) : vs.isEmpty = xs.isEmpty := by
  have := h.length
  cases xs <;> cases vs <;> simp_all
theorem tru_rep {K : PySem.W.Frag} {H : Hp} {ρ : Rho} {st : Sto} (S : RepS K H ρ st) {x : PV} {v : V} {k : Bool} (R : Rep K H ρ x v) (h : tru st x = some k) : TruV K v H k := by
  cases x with
  | non => unfold Rep at R; subst R; cases h; rfl
  | bl b => unfold Rep at R; subst R; cases h; rfl
  | int i => unfold Rep at R; subst R; cases h; rfl
  | str y =>
    unfold Rep at R; subst R
    simp only [tru] at h
    split at h
    · cases h; exact ⟨line5 (by assumption), rfl⟩
    · cases h
  | tup xs =>
    unfold Rep at R
    obtain ⟨a, vs, rfl, h1, h2⟩ := R
    cases h
    exact .inr (.inl ⟨vs, h1, by rw [h2.empty]⟩)
  | frz xs =>
    unfold Rep at R
    obtain ⟨a, vs, rfl, h1, h2⟩ := R
    cases h
    exact .inl ⟨vs, h1.sq, by rw [h2.empty]⟩
  | ty n => cases h
  | fdk ks xs => cases h
  | ref n =>
    simp only [tru] at h
    split at h
    · rename_i xs e
      obtain ⟨a, vs, rfl, _, _, h2, h3⟩ := S.lst R e
      cases h
      exact .inl ⟨vs, .of h2, by rw [h3.empty]⟩
    · rename_i xs e
      obtain ⟨a, vs, rfl, _, _, h2, h3⟩ := S.dct R e
      cases h
      exact .inr (.inr ⟨vs, h2, by rw [h3.empty]⟩)
    · cases h
def iTest (ia : IE) : IT := fun env st => ob (ia env st) fun x s1 => (tru s1 x).map fun k => (k, s1)
theorem map_pair {α : Type} {o : Option α} {s : Sto} {r : α × Sto} (h : (o.map fun k => (k, s)) = some r) : o = some r.1 ∧ r.2 = s := by
  cases o with
  | none => cases h
  | some k => cases h; exact ⟨rfl, rfl⟩
theorem r_truth (ha : PE X a (tI X.K ia)) (he : ∀ whole, isTrue a X.env whole = (do let v ← whole; standAt a.pos; holding [v] (truthy v))) : PT X a (tIT X.K (iTest ia)) :=
  PT.imp (pt_truth ha he) fun σ H Q ⟨env, st, ρ, z, st', E, S, h, q⟩ => by
    obtain ⟨x, s1, h1, h⟩ := ob_some h
    obtain ⟨h2, h3⟩ := map_pair h
    simp only at h2 h3
    subst h3
    exact ⟨env, st, ρ, x, _, E, S, h1, fun v H1 ρ1 G1 S1 R1 => ⟨z, tru_rep S1 R1 h2, q H1 ρ1 G1 S1⟩⟩
/-- a comparison as a test -/
def isBl : PV → Option Bool
  | .bl b => some b
  | _ => none
def iTestB (ia : IE) : IT := fun env st => ob (ia env st) fun x s1 => (isBl x).map fun k => (k, s1)
theorem testB_to {K : PySem.W.Frag} {σ : L2.St} {H : Hp} {Q : Bool → Hp → Prop} (h : tIT K (iTestB ia) σ H Q) : tTest (tI K ia) σ H Q := by
  obtain ⟨env, st, ρ, z, st', E, S, h, q⟩ := h
  obtain ⟨x, s1, h1, h⟩ := ob_some h
  obtain ⟨h2, h3⟩ := map_pair h
  simp only at h2 h3
  subst h3
  refine ⟨env, st, ρ, x, _, E, S, h1, fun v H1 ρ1 G1 S1 R1 => ?_⟩
  cases x <;> simp only [isBl, Option.some.injEq, reduceCtorEq] at h2
  subst h2
  unfold Rep at R1
  exact ⟨_, R1, q H1 ρ1 G1 S1⟩
theorem TE_test_mono {t t' : TE} (m : ∀ σ H Q, t' σ H Q → t σ H Q) {σ : L2.St} {H : Hp} {Q : Bool → Hp → Prop} (h : tTest t' σ H Q) : tTest t σ H Q := m _ _ _ h
theorem r_cmpT {op : CmpOp} {r : R2} {f : F2} (ho : OpR X (compareOp op) r) (hf : OpI X.K r f) (ha : PE X a (tI X.K ia)) (hb : PE X b (tI X.K ib)) (hm : behindInMarks op b = false) : PT X (.Compare a [op] [b] pos) (tIT X.K (iTestB (iBin f ia ib))) :=
  PT.imp (pt_cmpR ho ha hb hm) fun _ _ _ h => TE_test_mono (fun _ _ _ h => bin_to hf h) (testB_to h)
theorem chain_to {K : PySem.W.Frag} {r r' : R2} {f g : F2} (hf : OpI K r f) (hg : OpI K r' g) {σ : L2.St} {H : Hp} {Q : VK} (h : tI K (iChain f g ia ib ic) σ H Q) : tChain r r' (tI K ia) (tI K ib) (tI K ic) σ H Q := by
  obtain ⟨env, st, ρ, z, st', E, S, h, q⟩ := h
  obtain ⟨x, s1, h1, h⟩ := ob_some h
  obtain ⟨y, s2, h2, h⟩ := ob_some h
  obtain ⟨w, s3, h3, h⟩ := ob_some h
  refine ⟨env, st, ρ, x, s1, E, S, h1, fun vx H1 ρ1 G1 S1 R1 => ⟨env, s1, ρ1, y, s2, E.grow S G1, S1, h2, fun vy H2 ρ2 G2 S2 R2 => ?_⟩⟩
  refine hf H2 ρ2 s2 x y vx vy w s3 _ S2 (Rep.grow S1 G2 _ _ R1) R2 h3 fun v H3 ρ3 G3 S3 R3 => ?_
  split at h
  · unfold Rep at R3
    subst R3
    obtain ⟨w, s4, h4, h⟩ := ob_some h
    refine ⟨true, rfl, ?_⟩
    rw [if_pos rfl]
    refine ⟨env, s3, ρ3, w, s4, ((E.grow S G1).grow S1 G2).grow S2 G3, S3, h4, fun vw H4 ρ4 G4 S4 R4 => ?_⟩
    exact hg H4 ρ4 s4 y w vy vw z st' Q S4 (Rep.grow S3 G4 _ _ (Rep.grow S2 G3 _ _ R2)) R4 h fun v H5 ρ5 G5 S5 R5 => q v H5 ρ5 ((((G1.trans G2).trans G3).trans G4).trans G5) S5 R5
  · unfold Rep at R3
    subst R3
    cases h
    refine ⟨false, rfl, ?_⟩
    rw [if_neg Bool.false_ne_true]
    exact q _ H3 ρ3 ((G1.trans G2).trans G3) S3 (by unfold Rep; rfl)
  · cases h
theorem r_chainT {op op' : CmpOp} {r r' : R2} {f g : F2} (ho : OpR X (compareOp op) r) (hf : OpI X.K r f) (ho' : OpR X (compareOp op') r') (hg : OpI X.K r' g) (ha : PE X a (tI X.K ia)) (hb : PE X b (tI X.K ib)) (hc : PE X c (tI X.K ic))
    (hm : lastMarks [op, op'] [b, c] = false := by with_unfolding_all rfl) : PT X (.Compare a [op, op'] [b, c] pos) (tIT X.K (iTestB (iChain f g ia ib ic))) :=
  PT.imp (pt_chain ho ho' ha hb hc hm) fun _ _ _ h => TE_test_mono (fun _ _ _ h => chain_to hf hg h) (testB_to h)

/-! ### and, or, not -/
def iAnd (t u : IT) : IT := fun env st => ob (t env st) fun k s1 => match k with
  | true => u env s1
  | false => some (false, s1)
def iOr (t u : IT) : IT := fun env st => ob (t env st) fun k s1 => match k with
  | true => some (true, s1)
  | false => u env s1
def iNot (t : IT) : IT := fun env st => ob (t env st) fun k s1 => some (!k, s1)
theorem PW.imp {t t' : TT} (h : PW X e t) (m : ∀ σ H Q, t' σ H Q → t σ H Q) : PW X e t' := ⟨fun w pins s σ H Q I q => h.run w pins s σ H Q I (m σ H Q q)⟩
theorem w_and1 (ha : PT X a (tIT X.K ta)) : PW X (.BoolOp .And [a] pos) (tIT X.K ta) := pw_and1 ha
theorem w_or1 (ha : PT X a (tIT X.K ta)) : PW X (.BoolOp .Or [a] pos) (tIT X.K ta) := pw_or1 ha
theorem w_and (ha : PT X a (tIT X.K ta)) (hb : PW X (.BoolOp .And (b :: rest) pos) (tIT X.K tb)) : PW X (.BoolOp .And (a :: b :: rest) pos) (tIT X.K (iAnd ta tb)) :=
  PW.imp (pw_and ha hb) fun σ H Q ⟨env, st, ρ, z, st', E, S, h, q⟩ => by
    obtain ⟨k, s1, h1, h⟩ := ob_some h
    refine ⟨env, st, ρ, k, s1, E, S, h1, fun H1 ρ1 G1 S1 => ?_⟩
    cases k with
    | true =>
      rw [if_pos rfl]
      exact ⟨env, s1, ρ1, z, st', E.grow S G1, S1, h, fun H2 ρ2 G2 S2 => q H2 ρ2 (G1.trans G2) S2⟩
    | false =>
      rw [if_neg Bool.false_ne_true]
      cases h
      exact q H1 ρ1 G1 S1
theorem w_or (ha : PT X a (tIT X.K ta)) (hb : PW X (.BoolOp .Or (b :: rest) pos) (tIT X.K tb)) : PW X (.BoolOp .Or (a :: b :: rest) pos) (tIT X.K (iOr ta tb)) :=
  PW.imp (pw_or ha hb) fun σ H Q ⟨env, st, ρ, z, st', E, S, h, q⟩ => by
    obtain ⟨k, s1, h1, h⟩ := ob_some h
    refine ⟨env, st, ρ, k, s1, E, S, h1, fun H1 ρ1 G1 S1 => ?_⟩
    cases k with
    | true =>
      rw [if_pos rfl]
      cases h
      exact q H1 ρ1 G1 S1
    | false =>
      rw [if_neg Bool.false_ne_true]
      exact ⟨env, s1, ρ1, z, st', E.grow S G1, S1, h, fun H2 ρ2 G2 S2 => q H2 ρ2 (G1.trans G2) S2⟩
theorem r_not (ha : PT X a (tIT X.K ta)) : PT X (.UnaryOp .Not a pos) (tIT X.K (iNot ta)) :=
  PT.imp (pt_not ha) fun σ H Q ⟨env, st, ρ, z, st', E, S, h, q⟩ => by
    obtain ⟨k, s1, h1, h⟩ := ob_some h
    cases h
    exact ⟨env, st, ρ, k, _, E, S, h1, fun H1 ρ1 G1 S1 => q H1 ρ1 G1 S1⟩
/-- .. as values -/
def iAndV (ia ib : IE) : IE := fun env st => ob (ia env st) fun x s1 => match tru s1 x with
  | some true => ib env s1
  | some false => some (x, s1)
  | none => none
def iOrV (ia ib : IE) : IE := fun env st => ob (ia env st) fun x s1 => match tru s1 x with
  | some true => some (x, s1)
  | some false => ib env s1
  | none => none
def iNotV (ia : IE) : IE := fun env st => ob (ia env st) fun x s1 => (tru s1 x).map fun k => (.bl (!k), s1)
theorem r_one {op} (h : PE X a (tI X.K ia)) : PE X (.BoolOp op [a] pos) (tI X.K ia) := pe_one h
theorem r_andV (ha : PE X a (tI X.K ia)) (hb : PE X (.BoolOp .And (b :: rest) pos) (tI X.K ib)) : PE X (.BoolOp .And (a :: b :: rest) pos) (tI X.K (iAndV ia ib)) :=
  PE.imp (pe_andT ha hb) fun σ H Q ⟨env, st, ρ, z, st', E, S, h, q⟩ => by
    obtain ⟨x, s1, h1, h⟩ := ob_some h
    refine ⟨env, st, ρ, x, s1, E, S, h1, fun v H1 ρ1 G1 S1 R1 => ?_⟩
    split at h
    · rename_i e
      refine ⟨true, tru_rep S1 R1 e, ?_⟩
      rw [if_pos rfl]
      exact ⟨env, s1, ρ1, z, st', E.grow S G1, S1, h, fun v H2 ρ2 G2 S2 R2 => q v H2 ρ2 (G1.trans G2) S2 R2⟩
    · rename_i e
      refine ⟨false, tru_rep S1 R1 e, ?_⟩
      rw [if_neg Bool.false_ne_true]
      cases h
      exact q v H1 ρ1 G1 S1 R1
    · cases h
theorem r_orV (ha : PE X a (tI X.K ia)) (hb : PE X (.BoolOp .Or (b :: rest) pos) (tI X.K ib)) : PE X (.BoolOp .Or (a :: b :: rest) pos) (tI X.K (iOrV ia ib)) :=
  PE.imp (pe_orT ha hb) fun σ H Q ⟨env, st, ρ, z, st', E, S, h, q⟩ => by
    obtain ⟨x, s1, h1, h⟩ := ob_some h
    refine ⟨env, st, ρ, x, s1, E, S, h1, fun v H1 ρ1 G1 S1 R1 => ?_⟩
    split at h
    · rename_i e
      refine ⟨true, tru_rep S1 R1 e, ?_⟩
      rw [if_pos rfl]
      cases h
      exact q v H1 ρ1 G1 S1 R1
    · rename_i e
      refine ⟨false, tru_rep S1 R1 e, ?_⟩
      rw [if_neg Bool.false_ne_true]
      exact ⟨env, s1, ρ1, z, st', E.grow S G1, S1, h, fun v H2 ρ2 G2 S2 R2 => q v H2 ρ2 (G1.trans G2) S2 R2⟩
    · cases h
theorem r_notV (ha : PE X a (tI X.K ia)) : PE X (.UnaryOp .Not a pos) (tI X.K (iNotV ia)) :=
  PE.imp (pe_notT ha) fun σ H Q ⟨env, st, ρ, z, st', E, S, h, q⟩ => by
    obtain ⟨x, s1, h1, h⟩ := ob_some h
    refine ⟨env, st, ρ, x, s1, E, S, h1, fun v H1 ρ1 G1 S1 R1 => ?_⟩
    cases e : tru s1 x with
    | none => rw [e] at h; cases h
    | some k =>
      rw [e] at h
      obtain ⟨rfl, rfl⟩ : PV.bl (!k) = z ∧ s1 = st' := by simpa using h
      exact ⟨k, tru_rep S1 R1 e, q _ H1 ρ1 G1 S1 (by unfold Rep; rfl)⟩
def iIf (t : IT) (ia ib : IE) : IE := fun env st => ob (t env st) fun k s1 => match k with
  | true => ia env s1
  | false => ib env s1
theorem r_ifExp (hc : PT X c (tIT X.K ta)) (ha : PE X a (tI X.K ia)) (hb : PE X b (tI X.K ib)) : PE X (.IfExp c a b pos) (tI X.K (iIf ta ia ib)) :=
  PE.imp (pe_ifExp hc ha hb) fun σ H Q ⟨env, st, ρ, z, st', E, S, h, q⟩ => by
    obtain ⟨k, s1, h1, h⟩ := ob_some h
    refine ⟨env, st, ρ, k, s1, E, S, h1, fun H1 ρ1 G1 S1 => ?_⟩
    cases k with
    | true =>
      rw [if_pos rfl]
      exact ⟨env, s1, ρ1, z, st', E.grow S G1, S1, h, fun v H2 ρ2 G2 S2 R2 => q v H2 ρ2 (G1.trans G2) S2 R2⟩
    | false =>
      rw [if_neg Bool.false_ne_true]
      exact ⟨env, s1, ρ1, z, st', E.grow S G1, S1, h, fun v H2 ρ2 G2 S2 R2 => q v H2 ρ2 (G1.trans G2) S2 R2⟩

/-! ### arguments, displays -/
def iNil : IA := fun _ st => some ([], st)
def iCons (ia : IE) (ir : IA) : IA := fun env st => ob (ia env st) fun x s1 => ob (ir env s1) fun xs s2 => some (x :: xs, s2)
variable {ir : IA}
theorem a_nil : PA X [] (tIA X.K iNil) := PA.imp pa_nil fun σ H Q ⟨env, st, ρ, z, st', E, S, h, q⟩ => by
  cases h
  exact q [] H ρ Grow.refl S (by unfold Reps; rfl)
theorem a_cons (ha : PE X e (tI X.K ia)) (hr : PA X es (tIA X.K ir)) (hs : starEach (e :: es) X.env = (false, eval e X.env) :: starEach es X.env := by rfl) : PA X (e :: es) (tIA X.K (iCons ia ir)) :=
  PA.imp (pa_cons ha hr hs) fun σ H Q ⟨env, st, ρ, z, st', E, S, h, q⟩ => by
    obtain ⟨x, s1, h1, h⟩ := ob_some h
    obtain ⟨xs, s2, h2, h⟩ := ob_some h
    cases h
    refine ⟨env, st, ρ, x, s1, E, S, h1, fun v H1 ρ1 G1 S1 R1 => ⟨env, s1, ρ1, xs, _, E.grow S G1, S1, h2, fun vs H2 ρ2 G2 S2 R2 => ?_⟩⟩
    exact q (v :: vs) H2 ρ2 (G1.trans G2) S2 (by unfold Reps; exact ⟨v, vs, rfl, Rep.grow S1 G2 _ _ R1, R2⟩)
def iTup (ir : IA) : IE := fun env st => ob (ir env st) fun xs s1 => if xs.length ≤ 9000000 then some (.tup xs, s1) else none
theorem new_tup {K : PySem.W.Frag} {H : Hp} {ρ : Rho} {st : Sto} (S : RepS K H ρ st) {xs : List PV} {vs : List V} (R : Reps K H ρ xs vs) {p : Addr} (hp : H p = none) : Rep K (upd H p (.tup vs)) ρ (.tup xs) (.ref p) := by
  unfold Rep
  exact ⟨p, vs, rfl, .of upd_same, Reps.grow S (grow_new hp) _ _ R⟩
theorem r_tup {x1} (h : PA X es (tIA X.K ir)) : PE X (.Tuple es x1 pos) (tI X.K (iTup ir)) :=
  PE.imp (pe_tup h) fun σ H Q ⟨env, st, ρ, z, st', E, S, h, q⟩ => by
    obtain ⟨xs, s1, h1, h⟩ := ob_some h
    split at h
    · rename_i hl
      cases h
      exact ⟨env, st, ρ, xs, _, E, S, h1, fun vs H1 ρ1 G1 S1 R1 => ⟨line5 (by rw [← R1.length]; exact hl), fun p hp => q _ _ ρ1 (G1.trans (grow_new hp)) (S1.new hp) (new_tup S1 R1 hp)⟩⟩
    · cases h
/-- a new list -/
def alloc (so : SO) (st : Sto) : PV × Sto := (.ref st.length, st ++ [so])
theorem new_lst {K : PySem.W.Frag} {H : Hp} {ρ : Rho} {st : Sto} (S : RepS K H ρ st) {xs : List PV} {vs : List V} (R : Reps K H ρ xs vs) {p : Addr} (hp : H p = none) :
    Grow H ρ (upd H p (.lst vs)) (ρ.add p) ∧ RepS K (upd H p (.lst vs)) (ρ.add p) (alloc (.lst xs) st).2 ∧ Rep K (upd H p (.lst vs)) (ρ.add p) (alloc (.lst xs) st).1 (.ref p) := by
  have g : Grow H ρ (upd H p (.lst vs)) (ρ.add p) := grow_alloc hp
  refine ⟨g, S.alloc hp ⟨vs, upd_same, Reps.grow S g _ _ R⟩, ?_⟩
  unfold alloc Rep
  refine ⟨p, rfl, ?_⟩
  show (ρ.l ++ [p])[st.length]? = some p
  rw [← S.len, List.getElem?_append_right (Nat.le_refl _)]
  simp
def iLst (ir : IA) : IE := fun env st => ob (ir env st) fun xs s1 => if xs.length ≤ 9000000 then some (alloc (.lst xs) s1) else none
theorem r_lst (h : PA X es (tIA X.K ir)) : PE X (.List es pos) (tI X.K (iLst ir)) :=
  PE.imp (pe_lst h) fun σ H Q ⟨env, st, ρ, z, st', E, S, h, q⟩ => by
    obtain ⟨xs, s1, h1, h⟩ := ob_some h
    split at h
    · rename_i hl
      refine ⟨env, st, ρ, xs, _, E, S, h1, fun vs H1 ρ1 G1 S1 R1 => ⟨line5 (by rw [← R1.length]; exact hl), fun p hp => ?_⟩⟩
      obtain ⟨a1, a2, a3⟩ := new_lst S1 R1 hp
      have e := Option.some.inj h
      rw [e] at a2 a3
      exact q _ _ _ (G1.trans a1) a2 a3
    · cases h

/-! ### slices -/
def iNo : IO := fun _ st => some (none, st)
def iPart (ia : IE) : IO := fun env st => ob (ia env st) fun x s1 => match x with
  | .int i => some (some i, s1)
  | _ => none
theorem o_none : PO X none (tIO X.K iNo) := PO.imp po_none fun σ H Q ⟨env, st, ρ, z, st', E, S, h, q⟩ => by
  cases h
  exact q H ρ Grow.refl S
theorem o_some (ha : PE X e (tI X.K ia)) : PO X (some e) (tIO X.K (iPart ia)) := PO.imp (po_some ha) fun σ H Q ⟨env, st, ρ, z, st', E, S, h, q⟩ => by
  obtain ⟨x, s1, h1, h⟩ := ob_some h
  split at h
  · cases h
    exact ⟨env, st, ρ, _, _, E, S, h1, fun v H1 ρ1 G1 S1 R1 => by
      unfold Rep at R1
      exact ⟨_, R1, q H1 ρ1 G1 S1⟩⟩
  · cases h
abbrev FSl := PV → Option Int → Option Int → Sto → Option (PV × Sto)
def iSl (f : FSl) (ia : IE) (lo hi : IO) : IE := fun env st => ob (ia env st) fun x s1 => ob (lo env s1) fun l s2 => ob (hi env s2) fun u s3 => f x l u s3
def SlI (K : PySem.W.Frag) (r : V → Option Int → Option Int → Hp → VK → Prop) (f : FSl) : Prop :=
  ∀ H ρ st x vx lo hi z st' (Q : VK), RepS K H ρ st → Rep K H ρ x vx → f x lo hi st = some (z, st') → (∀ v H' ρ', Grow H ρ H' ρ' → RepS K H' ρ' st' → Rep K H' ρ' z v → Q v H') → r vx lo hi H Q
theorem r_slice {r : V → Option Int → Option Int → Hp → VK → Prop} {f : FSl} {lo hi : Option Expr} {il ih : IO} {p2 : Pos} (hr : SlR X r) (hf : SlI X.K r f) (ha : PE X e (tI X.K ia)) (hl : PO X lo (tIO X.K il)) (hh : PO X hi (tIO X.K ih)) :
    PE X (.Subscript e (.Slice lo hi none p2) pos) (tI X.K (iSl f ia il ih)) :=
  PE.imp (pe_slice hr ha hl hh) fun σ H Q ⟨env, st, ρ, z, st', E, S, h, q⟩ => by
    obtain ⟨x, s1, h1, h⟩ := ob_some h
    obtain ⟨l, s2, h2, h⟩ := ob_some h
    obtain ⟨u, s3, h3, h⟩ := ob_some h
    refine ⟨env, st, ρ, x, s1, E, S, h1, fun v H1 ρ1 G1 S1 R1 => ⟨env, s1, ρ1, l, s2, E.grow S G1, S1, h2, fun H2 ρ2 G2 S2 => ⟨env, s2, ρ2, u, s3, (E.grow S G1).grow S1 G2, S2, h3, fun H3 ρ3 G3 S3 => ?_⟩⟩⟩
    exact hf H3 ρ3 s3 x v l u z st' Q S3 (Rep.grow S2 G3 _ _ (Rep.grow S1 G2 _ _ R1)) h fun v H4 ρ4 G4 S4 R4 => q v H4 ρ4 (((G1.trans G2).trans G3).trans G4) S4 R4

/-! ### calls -/
def iCall (f : FA) (ir : IA) : IE := fun env st => ob (ir env st) fun xs s1 => f xs s1
variable {x : Str} {p : Pos}
theorem cb_to {K : PySem.W.Frag} {r : List V → Hp → VK → Prop} {f : FA} (hf : CallI K r f) {σ : L2.St} {H : Hp} {Q : VK} (h : tI K (iCall f ir) σ H Q) : tCB r (tIA K ir) σ H Q := by
  obtain ⟨env, st, ρ, z, st', E, S, h, q⟩ := h
  obtain ⟨xs, s1, h1, h⟩ := ob_some h
  exact ⟨env, st, ρ, xs, s1, E, S, h1, fun vs H1 ρ1 G1 S1 R1 => hf H1 ρ1 s1 xs vs z st' Q S1 R1 h fun v H2 ρ2 G2 S2 R2 => q v H2 ρ2 (G1.trans G2) S2 R2⟩
theorem r_callB {id : String} {r : List V → Hp → VK → Prop} {f : FA} (hc : CallR X (.builtin id) r) (hf : CallI X.K r f) (hg : Gl X x) (hm : X.mg x = none) (hv : bootBuiltins x = some (.builtin id)) (ha : PA X (e :: es) (tIA X.K ir)) (hn : x ≠ "__name__" := by decide) (hdb : (x == ("__debug__" : Str)) = false := by decide)
    (he : starEach (e :: es) X.env = (false, eval e X.env) :: starEach es X.env := by rfl) (hpl : (backTo pos (starEach es X.env)).any (·.1) = false := by rfl) : PE X (.Call (.Name x p) (e :: es) [] pos) (tI X.K (iCall f ir)) :=
  PE.imp (pe_callB hc hg hm hv ha hn hdb he hpl) fun _ _ _ h => cb_to hf h
theorem r_callTy {T : String} {r : List V → Hp → VK → Prop} {f : FA} (hc : CallR X (.type T) r) (hf : CallI X.K r f) (hg : Gl X x) (hm : X.mg x = none) (hv : bootBuiltins x = some (.type T)) (ha : PA X (e :: es) (tIA X.K ir)) (hn : x ≠ "__name__" := by decide) (hdb : (x == ("__debug__" : Str)) = false := by decide)
    (he : starEach (e :: es) X.env = (false, eval e X.env) :: starEach es X.env := by rfl) (hpl : (backTo pos (starEach es X.env)).any (·.1) = false := by rfl) : PE X (.Call (.Name x p) (e :: es) [] pos) (tI X.K (iCall f ir)) :=
  PE.imp (pe_callTy hc hg hm hv ha hn hdb he hpl) fun _ _ _ h => cb_to hf h
/-- a def's promise: it does what f does -/
def spI (K : PySem.W.Frag) (n : Nat) (f : FA) : Sp := fun vs H Q _ => vs.length = n ∧ ∃ st ρ xs z st', RepS K H ρ st ∧ Reps K H ρ xs vs ∧ f xs st = some (z, st') ∧ ∀ v H' ρ', Grow H ρ H' ρ' → RepS K H' ρ' st' → Rep K H' ρ' z v → Q v H'
/-- a def may be called, and does what f does -/
abbrev CalI (P : Program) (w : World) (K : PySem.W.Frag) (mg : Str → Option Value) (base : Heap) (k : Nat) (x : Str) (n : Nat) (f : FA) : Prop := C8.Cal P w K mg base k x (spI K n f) []
/-- f of so many values alone -/
def Ar (n : Nat) (f : FA) : Prop := ∀ xs st r, f xs st = some r → xs.length = n
theorem call_to {K : PySem.W.Frag} {n : Nat} {f : FA} (hn : Ar n f) {σ : L2.St} {H : Hp} {Q : VK} (h : tI K (iCall f ir) σ H Q) : tCall (spI K n f) [] E0 (tIA K ir) σ H Q := by
  obtain ⟨env, st, ρ, z, st', E, S, h, q⟩ := h
  obtain ⟨xs, s1, h1, h⟩ := ob_some h
  refine ⟨env, st, ρ, xs, s1, E, S, h1, fun vs H1 ρ1 G1 S1 R1 => ?_⟩
  show spI K n f (vs ++ []) H1 Q E0
  rw [List.append_nil]
  exact ⟨by rw [← R1.length]; exact hn _ _ _ h, s1, ρ1, xs, z, st', S1, R1, h, fun v H2 ρ2 G2 S2 R2 => q v H2 ρ2 (G1.trans G2) S2 R2⟩
theorem r_call {k j n : Nat} {f : FA} (c : CalI X.prog X.w X.K X.mg X.base k x n f) (hn : Ar n f) (hr : Room j X.A) (hk : k ≤ j) (hg : Gl X x) (ha : PA X (e :: es) (tIA X.K ir))
    (hdb : (x == ("__debug__" : Str)) = false := by decide) (he : starEach (e :: es) X.env = (false, eval e X.env) :: starEach es X.env := by rfl) (hpl : (backTo pos (starEach es X.env)).any (·.1) = false := by rfl) :
    PE X (.Call (.Name x p) (e :: es) [] pos) (tI X.K (iCall f ir)) :=
  PE.imp (C8.pe_c c hr hk hg ha hdb he hpl) fun _ _ _ h => call_to hn h
end
end IL

namespace IL
open PySem PySem.Spec PyProof.Rows L2

section
variable {K : PySem.W.Frag} {H H' : Hp} {ρ ρ' : Rho} {st : Sto} {env : PEnv} {σ : L2.St} {D : Ends} {W : WX}
theorem PostF.grow (g : Grow H ρ H' ρ') : ∀ {f : Fl}, PostF K W D H ρ f → PostF K W D H' ρ' f
  | .nx _ _, h => fun σ' H2 ρ2 G S E => h σ' H2 ρ2 (g.trans G) S E
  | .bk _ _, h => fun σ' H2 ρ2 G S E => h σ' H2 ρ2 (g.trans G) S E
  | .ct _ _, h => fun σ' H2 ρ2 G S E => h σ' H2 ρ2 (g.trans G) S E
  | .rt _ _, h => fun v H2 ρ2 G S R => h v H2 ρ2 (g.trans G) S R
  | .er _ _ _ _, h => fun C d σ' H2 ρ2 vs hc G => h C d σ' H2 ρ2 vs hc (g.trans G)
/-! ### targets -/
abbrev IG := PV → PEnv → Sto → Option PEnv
abbrev IGs := List PV → PEnv → Sto → Option PEnv
def tIG (K : PySem.W.Frag) (T : List Nat) (ig : IG) : TG := fun v σ H Q => ∃ env st ρ x env', RepE K H ρ env σ ∧ RepS K H ρ st ∧ Rep K H ρ x v ∧ ig x env st = some env' ∧
  ∀ σ' : L2.St, RepE K H ρ env' σ' → σ'.length = σ.length → (∀ i, i ∉ T → σ'[i]? = σ[i]?) → Q σ' H
def tIGs (K : PySem.W.Frag) (T : List Nat) (ig : IGs) : TGs := fun vs σ H Q => ∃ env st ρ xs env', RepE K H ρ env σ ∧ RepS K H ρ st ∧ Reps K H ρ xs vs ∧ ig xs env st = some env' ∧
  ∀ σ' : L2.St, RepE K H ρ env' σ' → σ'.length = σ.length → (∀ i, i ∉ T → σ'[i]? = σ[i]?) → Q σ' H
theorem PG.imp {X : Cx} {tg : Expr} {t t' : TG} (h : PG X tg t) (m : ∀ v σ H Q, t' v σ H Q → t v σ H Q) : PG X tg t' := ⟨fun pins s σ H v u Q I r q => h.run pins s σ H v u Q I r (m v σ H Q q)⟩
theorem PGs.imp {X : Cx} {tg : List Expr} {t t' : TGs} (h : PGs X tg t) (m : ∀ v σ H Q, t' v σ H Q → t v σ H Q) : PGs X tg t' := ⟨fun pins s σ H v u Q I r q => h.run pins s σ H v u Q I r (m v σ H Q q)⟩
def gN (i : Nat) : IG := fun x env _ => some (env.set i (some x))
def gNs : IGs := fun xs env _ => if xs.isEmpty then some env else none
def gCs (g : IG) (gs : IGs) : IGs := fun xs env st => match xs with
  | x :: r => match g x env st with
    | some env1 => gs r env1 st
    | none => none
  | [] => none
def gT (n : Nat) (gs : IGs) : IG := fun x env st => match x with
  | .tup xs => if xs.length = n then gs xs env st else none
  | _ => none
end
section
variable {X : Cx} {pos : Pos} {W : WX}
theorem g_name {i : Nat} {x : Str} (hN : X.N.Nodup) (hi : X.N[i]? = some x) (hx : Loc X.env.scope x) (hf : X.fn x = true ∨ X.env.scope.names.lookup x = some .local := by first | exact .inl rfl | exact .inr rfl | assumption) :
    PG X (.Name x pos) (tIG X.K [i] (gN i)) := PG.imp (pg_name hN hi hx hf) fun v σ H Q ⟨env, st, ρ, y, env', E, S, R, h, q⟩ => by
  cases h
  refine q _ (E.set R i) (by simp) fun j hj => ?_
  rw [List.getElem?_set_ne (fun e => hj (by simp [e]))]
theorem gs_nil : PGs X [] (tIGs X.K [] gNs) := PGs.imp pgs_nil fun v σ H Q ⟨env, st, ρ, y, env', E, S, R, h, q⟩ => by
  unfold gNs at h
  cases y with
  | nil =>
    unfold Reps at R
    cases h
    exact ⟨R, q σ E rfl fun _ _ => rfl⟩
  | cons => simp at h
theorem gs_cons {e : Expr} {es : List Expr} {T T' : List Nat} {g : IG} {gs : IGs} (h1 : PG X e (tIG X.K T g)) (h2 : PGs X es (tIGs X.K T' gs))
    (hs : (assignEach (e :: es) X.env).map (·.2) = assign e X.env :: (assignEach es X.env).map (·.2) := by rfl) : PGs X (e :: es) (tIGs X.K (T ++ T') (gCs g gs)) :=
  PGs.imp (pgs_cons h1 h2 hs) fun v σ H Q ⟨env, st, ρ, y, env', E, S, R, h, q⟩ => by
    cases y with
    | nil => cases h
    | cons y ys =>
      unfold Reps at R
      obtain ⟨w, r, rfl, R1, R2⟩ := R
      simp only [gCs] at h
      split at h
      · rename_i env1 h1
        refine ⟨w, r, rfl, env, st, ρ, y, env1, E, S, R1, h1, fun σ1 E1 l1 a1 => ⟨env1, st, ρ, ys, env', E1, S, R2, h, fun σ2 E2 l2 a2 => q σ2 E2 (l2.trans l1) fun i hi => ?_⟩⟩
        rw [a2 i (fun z => hi (List.mem_append_right _ z)), a1 i (fun z => hi (List.mem_append_left _ z))]
      · cases h
theorem g_tup {es : List Expr} {k : Nat} {T : List Nat} {gs : IGs} {n : Nat} (hc : X.calm = true) (h : PGs X es (tIGs X.K T gs))
    (hn : (assignEach es X.env).length = n := by rfl) (hst : (assignEach es X.env).findIdx? (·.1) = none := by rfl) : PG X (.Tuple es k pos) (tIG X.K T (gT n gs)) :=
  PG.imp (pg_tup hc h hn hst) fun v σ H Q ⟨env, st, ρ, y, env', E, S, R, h, q⟩ => by
    cases y with
    | tup xs =>
      unfold Rep at R
      obtain ⟨a, vs, rfl, h1, h2⟩ := R
      simp only [gT] at h
      split at h
      · rename_i hl
        exact ⟨a, vs, rfl, h1, by rw [← h2.length]; exact hl, env, st, ρ, xs, env', E, S, h2, h, q⟩
      · cases h
    | _ => cases h

/-! ### statements -/
def iSkip : IS := fun env st => some (.nx env st)
def iSeq (a b : IS) : IS := fun env st => match a env st with
  | some (.nx e s) => b e s
  | o => o
variable {st : Stmt} {rest : List Stmt} {e : Expr} {ia ib : IS} {ie : IE} {it : IT}
theorem s_nil : PSs X [] (tIS X.K W iSkip) := PSs.imp pss_nil fun D σ H ⟨env, s, ρ, f, E, S, h, q⟩ => by
  cases h
  exact q σ H ρ Grow.refl S E
theorem s_cons (h1 : PS X st (tIS X.K W ia)) (h2 : PSs X rest (tIS X.K W ib)) : PSs X (st :: rest) (tIS X.K W (iSeq ia ib)) := PSs.imp (pss_cons h1 h2) fun D σ H ⟨env, s, ρ, f, E, S, h, q⟩ => by
  unfold iSeq at h
  cases e1 : ia env s with
  | none => rw [e1] at h; cases h
  | some f1 =>
    rw [e1] at h
    refine ⟨env, s, ρ, f1, E, S, e1, ?_⟩
    cases f1 with
    | nx e s1 => exact fun σ' H' ρ' G S' E' => ⟨e, s1, ρ', f, E', S', h, q.grow G⟩
    | rt v s1 => cases h; exact q
    | bk e s1 => cases h; exact q
    | ct e s1 => cases h; exact q
    | er e c fs s1 => cases h; exact q
theorem s_one (h1 : PS X st (tIS X.K W ia)) : PSs X [st] (tIS X.K W ia) := pss_one h1
theorem s_pass : PS X (.Pass pos) (tIS X.K W iSkip) := PS.imp ps_pass fun D σ H ⟨env, s, ρ, f, E, S, h, q⟩ => by
  cases h
  exact q σ H ρ Grow.refl S E
def iBreak : IS := fun env st => some (.bk env st)
def iCont : IS := fun env st => some (.ct env st)
theorem s_break : PS X (.Break pos) (tIS X.K W iBreak) := PS.imp ps_break fun D σ H ⟨env, s, ρ, f, E, S, h, q⟩ => by
  cases h
  exact q σ H ρ Grow.refl S E
theorem s_continue : PS X (.Continue pos) (tIS X.K W iCont) := PS.imp ps_continue fun D σ H ⟨env, s, ρ, f, E, S, h, q⟩ => by
  cases h
  exact q σ H ρ Grow.refl S E
def iDrop (ie : IE) : IS := fun env st => ob (ie env st) fun _ s => some (.nx env s)
theorem s_expr (he : PE X e (tI X.K ie)) (hs : swapsWith e none pos.line X.env = pure false := by rfl) : PS X (.Expr e pos) (tIS X.K W (iDrop ie)) := PS.imp (ps_expr he hs) fun D σ H ⟨env, s, ρ, f, E, S, h, q⟩ => by
  obtain ⟨x, s1, h1, h⟩ := ob_some h
  cases h
  exact ⟨env, s, ρ, x, _, E, S, h1, fun v H1 ρ1 G1 S1 R1 => q σ H1 ρ1 G1 S1 (E.grow S G1)⟩
def iRet (ie : IE) : IS := fun env st => ob (ie env st) fun x s => some (.rt x s)
theorem s_ret (he : PE X e (tI X.K ie)) : PS X (.Return (some e) pos) (tIS X.K W (iRet ie)) := PS.imp (ps_ret he) fun D σ H ⟨env, s, ρ, f, E, S, h, q⟩ => by
  obtain ⟨x, s1, h1, h⟩ := ob_some h
  cases h
  exact ⟨env, s, ρ, x, _, E, S, h1, fun v H1 ρ1 G1 S1 R1 => q v H1 ρ1 G1 S1 R1⟩
def iRetN : IS := fun _ st => some (.rt .non st)
theorem s_retN : PS X (.Return none pos) (tIS X.K W iRetN) := PS.imp ps_retN fun D σ H ⟨env, s, ρ, f, E, S, h, q⟩ => by
  cases h
  exact q .non H ρ Grow.refl S (by unfold Rep; rfl)
def iIfS (t : IT) (a b : IS) : IS := fun env st => ob (t env st) fun k s => match k with
  | true => a env s
  | false => b env s
theorem s_if {c : Expr} {p q : List Stmt} (hc : PT X c (tIT X.K it)) (ha : PSs X p (tIS X.K W ia)) (hb : PSs X q (tIS X.K W ib)) : PS X (.If c p q pos) (tIS X.K W (iIfS it ia ib)) :=
  PS.imp (ps_if hc ha hb) fun D σ H ⟨env, s, ρ, f, E, S, h, q⟩ => by
    obtain ⟨k, s1, h1, h⟩ := ob_some h
    refine ⟨env, s, ρ, k, s1, E, S, h1, fun H1 ρ1 G1 S1 => ?_⟩
    cases k with
    | true =>
      rw [if_pos rfl]
      exact ⟨env, s1, ρ1, f, E.grow S G1, S1, h, q.grow G1⟩
    | false =>
      rw [if_neg Bool.false_ne_true]
      exact ⟨env, s1, ρ1, f, E.grow S G1, S1, h, q.grow G1⟩
def iAsg (ig : IG) (ie : IE) : IS := fun env st => ob (ie env st) fun x s => match ig x env s with
  | some env' => some (.nx env' s)
  | none => none
theorem s_asg {tg : Expr} {T : List Nat} {ig : IG} (he : PE X e (tI X.K ie)) (hg : PG X tg (tIG X.K T ig)) (hs : swapsWithSole [tg] e pos.line X.env = pure false := by rfl) (hw : swappedStores [tg] e X.env = pure none := by rfl)
    (h1 : (assignEach [tg] X.env).map (·.2) = [assign tg X.env] := by rfl) : PS X (.Assign [tg] e pos) (tIS X.K W (iAsg ig ie)) := PS.imp (ps_asg he hg hs hw h1) fun D σ H ⟨env, s, ρ, f, E, S, h, q⟩ => by
  obtain ⟨x, s1, h1, h⟩ := ob_some h
  refine ⟨env, s, ρ, x, s1, E, S, h1, fun v H1 ρ1 G1 S1 R1 => ?_⟩
  split at h
  · rename_i env' hg
    cases h
    exact ⟨env, _, ρ1, x, env', E.grow S G1, S1, R1, hg, fun σ' E' _ _ => q σ' H1 ρ1 G1 S1 E'⟩
  · cases h
theorem s_set {i : Nat} {x : Str} {pos' : Pos} (hN : X.N.Nodup) (hi : X.N[i]? = some x) (hx : Loc X.env.scope x) (he : PE X e (tI X.K ie)) (hs : swapsWith e (some (.Name x pos')) pos.line X.env = pure false := by rfl)
    (hf : X.fn x = true ∨ X.env.scope.names.lookup x = some .local := by first | exact .inl rfl | exact .inr rfl | assumption) : PS X (.Assign [.Name x pos'] e pos) (tIS X.K W (iAsg (gN i) ie)) :=
  PS.imp (ps_set hN hi hx he hs hf) fun D σ H ⟨env, s, ρ, f, E, S, h, q⟩ => by
    obtain ⟨x, s1, h1, h⟩ := ob_some h
    cases h
    exact ⟨env, s, ρ, x, _, E, S, h1, fun v H1 ρ1 G1 S1 R1 => q _ H1 ρ1 G1 S1 ((E.grow S G1).set R1 i)⟩
/-- a, b = x, y: two local names -/
def iPar (i j : Nat) (ir : IA) : IS := fun env st => ob (ir env st) fun xs s => match xs with
  | [x, y] => some (.nx ((env.set i (some x)).set j (some y)) s)
  | _ => none
theorem s_par {i j : Nat} {x y : Str} {a b : Expr} {ir : IA} {px py pt : Pos} {kt k2 pt2} (hc : X.calm = true) (hN : X.N.Nodup) (hi : X.N[i]? = some x) (hj : X.N[j]? = some y) (hij : i ≠ j)
    (hx : X.env.scope.names.lookup x = some .local) (hy : X.env.scope.names.lookup y = some .local) (ha : PA X [a, b] (tIA X.K ir))
    (hw : swappedStores [.Tuple [.Name x px, .Name y py] kt pt] (.Tuple [a, b] k2 pt2) X.env = pure (some [x, y]))
    (hs : swapsWithSole [.Tuple [.Name x px, .Name y py] kt pt] (.Tuple [a, b] k2 pt2) pos.line X.env = pure false := by rfl) :
    PS X (.Assign [.Tuple [.Name x px, .Name y py] kt pt] (.Tuple [a, b] k2 pt2) pos) (tIS X.K W (iPar i j ir)) := PS.imp (ps_par hc hN hi hj hij hx hy ha hw hs) fun D σ H ⟨env, s, ρ, f, E, S, h, q⟩ => by
  obtain ⟨xs, s1, h1, h⟩ := ob_some h
  refine ⟨env, s, ρ, xs, s1, E, S, h1, fun v H1 ρ1 G1 S1 R1 => ?_⟩
  split at h
  · cases h
    unfold Reps at R1
    obtain ⟨v1, r, rfl, R1, R2⟩ := R1
    unfold Reps at R2
    obtain ⟨v2, r, rfl, R2, R3⟩ := R2
    unfold Reps at R3
    subst R3
    exact ⟨v1, v2, rfl, q _ H1 ρ1 G1 S1 (((E.grow S G1).set R1 i).set R2 j)⟩
  · cases h
/-- o[i] = v -/
abbrev FSet := PV → PV → PV → Sto → Option Sto
def SetI (K : PySem.W.Frag) (t : TSet) (f : FSet) : Prop := ∀ H ρ st o i x vo vi vx st' (Q : Hp → Prop), RepS K H ρ st → Rep K H ρ o vo → Rep K H ρ i vi → Rep K H ρ x vx → f o i x st = some st' → (∀ H' ρ', Grow H ρ H' ρ' → RepS K H' ρ' st' → Q H') → t vo vi vx H Q
def iSetIx (f : FSet) (io ii ie : IE) : IS := fun env st => ob (ie env st) fun x s1 => ob (io env s1) fun o s2 => ob (ii env s2) fun i s3 => (f o i x s3).map fun s4 => .nx env s4
theorem s_setIx {o i : Expr} {t : TSet} {f : FSet} {io ii : IE} {ps : Pos} (hs : PSet X t) (hf : SetI X.K t f) (ho : PE X o (tI X.K io)) (hi : PE X i (tI X.K ii)) (he : PE X e (tI X.K ie))
    (ha : ∀ v, assign (.Subscript o i ps) X.env v = (do
      let ov ← holding [v] (eval o X.env)
      let iv ← holding [v, ov] (eval i X.env)
      standAt ps
      holding [v, ov, iv] (setItem ov iv v)
      release [v, ov, iv] []) := by intro _; rfl)
    (hs1 : swapsWithSole [.Subscript o i ps] e pos.line X.env = pure false := by rfl) (hw : swappedStores [.Subscript o i ps] e X.env = pure none := by rfl) (h1 : (assignEach [.Subscript o i ps] X.env).map (·.2) = [assign (.Subscript o i ps) X.env] := by rfl) :
    PS X (.Assign [.Subscript o i ps] e pos) (tIS X.K W (iSetIx f io ii ie)) := PS.imp (ps_asg he (pg_sub ho hi hs ha) hs1 hw h1) fun D σ H ⟨env, s, ρ, fl, E, S, h, q⟩ => by
  obtain ⟨x, s1, h1, h⟩ := ob_some h
  obtain ⟨o, s2, h2, h⟩ := ob_some h
  obtain ⟨i, s3, h3, h⟩ := ob_some h
  cases e4 : f o i x s3 with
  | none => rw [e4] at h; cases h
  | some s4 =>
    rw [e4] at h
    cases h
    refine ⟨env, s, ρ, x, s1, E, S, h1, fun vx H1 ρ1 G1 S1 R1 => ⟨env, s1, ρ1, o, s2, E.grow S G1, S1, h2, fun vo H2 ρ2 G2 S2 R2 => ⟨env, s2, ρ2, i, s3, (E.grow S G1).grow S1 G2, S2, h3, fun vi H3 ρ3 G3 S3 R3 => ?_⟩⟩⟩
    refine hf H3 ρ3 s3 o i x vo vi vx s4 _ S3 (Rep.grow S2 G3 _ _ R2) R3 (Rep.grow S2 G3 _ _ (Rep.grow S1 G2 _ _ R1)) e4 fun H4 ρ4 G4 S4 => ?_
    exact q σ H4 ρ4 (((G1.trans G2).trans G3).trans G4) S4 ((((E.grow S G1).grow S1 G2).grow S2 G3).grow S3 G4)

/-! ### what is walked -/
structure Src where
  n : Nat
  at_ : Sto → Nat → Option (Option PV)
def SrcOk (K : PySem.W.Frag) (src : Src) (J : It) (H0 : Hp) (ρ0 : Rho) : Prop := ∀ H ρ st, Grow H0 ρ0 H ρ → RepS K H ρ st → ∀ i, (src.at_ st i = some none → J.stop i H) ∧
  ∀ x, src.at_ st i = some (some x) → J.go i H ∧ ∀ v H', J.yld i H v H' → ∃ ρ', Grow H ρ H' ρ' ∧ RepS K H' ρ' st ∧ Rep K H' ρ' x v
abbrev II := PEnv → Sto → Option (Src × Sto)
def tII (K : PySem.W.Frag) (ii : II) : TI := fun σ H R => ∃ env st ρ src st', RepE K H ρ env σ ∧ RepS K H ρ st ∧ ii env st = some (src, st') ∧ ∀ J H' ρ', Grow H ρ H' ρ' → RepS K H' ρ' st' → SrcOk K src J H' ρ' → R J H'
theorem PI.imp {tg iter : Expr} {t t' : TI} (h : PI X tg iter t) (m : ∀ σ H R, t' σ H R → t σ H R) : PI X tg iter t' := ⟨fun pins s σ H R I q => h.run pins s σ H R I (m σ H R q)⟩
theorem PI.or {tg iter : Expr} {t t' : TI} (h : PI X tg iter t) (h' : PI X tg iter t') : PI X tg iter (fun σ H R => t σ H R ∨ t' σ H R) := ⟨fun pins s σ H R I q => q.elim (h.run pins s σ H R I) (h'.run pins s σ H R I)⟩
def srcL (n k : Nat) : Src := ⟨k, fun st i => match st[n]? with
  | some (.lst xs) => some xs[i]?
  | _ => none⟩
def srcT (xs : List PV) : Src := ⟨xs.length, fun _ i => some xs[i]?⟩
def srcR (lo : Int) (n : Nat) : Src := ⟨n, fun _ i => some (if i < n then some (.int (lo + i)) else none)⟩
theorem srcL_ok {K : PySem.W.Frag} {H0 : Hp} {ρ0 : Rho} {n k : Nat} {a : Addr} (h : ρ0.l[n]? = some a) : SrcOk K (srcL n k) (Itl K a) H0 ρ0 := fun H ρ st G S i => by
  have ha := G.ix h
  refine ⟨fun hs => ?_, fun x hs => ?_⟩
  · simp only [srcL] at hs
    split at hs
    · rename_i xs e
      obtain ⟨b, vs, e0, hb, _, h1, h2⟩ := S.lst (by unfold Rep; exact ⟨a, rfl, ha⟩) e
      cases e0
      exact ⟨vs, .of h1, by rw [← h2.length]; simpa using hs⟩
    · cases hs
  · simp only [srcL] at hs
    split at hs
    · rename_i xs e
      obtain ⟨b, vs, e0, hb, _, h1, h2⟩ := S.lst (by unfold Rep; exact ⟨a, rfl, ha⟩) e
      cases e0
      obtain ⟨v, hv, r⟩ := h2.get (by simpa using hs)
      refine ⟨⟨vs, v, .of h1, hv⟩, fun w H' y => ?_⟩
      obtain ⟨rfl, y⟩ := y
      have := y vs (.of h1)
      rw [hv] at this; cases this
      exact ⟨ρ, Grow.refl, S, r⟩
    · cases hs
theorem srcT_ok {K : PySem.W.Frag} {H0 : Hp} {ρ0 : Rho} {st0 : Sto} {xs : List PV} {vs : List V} {a : Addr} (S0 : RepS K H0 ρ0 st0) (h : SqT K H0 a vs) (r : Reps K H0 ρ0 xs vs) : SrcOk K (srcT xs) (Itt K a) H0 ρ0 := fun H ρ st G S i => by
  have h1 := SqT.grow S0 G h
  have r1 := Reps.grow S0 G _ _ r
  refine ⟨fun hs => ?_, fun x hs => ?_⟩
  · simp only [srcT] at hs
    exact ⟨vs, h1, by rw [← r1.length]; simpa using hs⟩
  · simp only [srcT] at hs
    obtain ⟨v, hv, r⟩ := r1.get (by simpa using hs)
    refine ⟨⟨vs, v, h1, hv⟩, fun w H' y => ?_⟩
    obtain ⟨rfl, y⟩ := y
    have := y vs h1
    rw [hv] at this; cases this
    exact ⟨ρ, Grow.refl, S, r⟩
theorem srcF_ok {K : PySem.W.Frag} {H0 : Hp} {ρ0 : Rho} {st0 : Sto} {xs : List PV} {vs : List V} {a : Addr} (S0 : RepS K H0 ρ0 st0) (h : FrzAt K H0 ρ0 a vs) (r : Reps K H0 ρ0 xs vs) : SrcOk K (srcT xs) (Itl K a) H0 ρ0 := fun H ρ st G S i => by
  have h1 := (h.grow G).sq
  have r1 := Reps.grow S0 G _ _ r
  refine ⟨fun hs => ?_, fun x hs => ?_⟩
  · simp only [srcT] at hs
    exact ⟨vs, h1, by rw [← r1.length]; simpa using hs⟩
  · simp only [srcT] at hs
    obtain ⟨v, hv, r⟩ := r1.get (by simpa using hs)
    refine ⟨⟨vs, v, h1, hv⟩, fun w H' y => ?_⟩
    obtain ⟨rfl, y⟩ := y
    have := y vs h1
    rw [hv] at this; cases this
    exact ⟨ρ, Grow.refl, S, r⟩
theorem srcR_ok {K : PySem.W.Frag} {H0 : Hp} {ρ0 : Rho} {lo : Int} {n : Nat} : SrcOk K (srcR lo n) (Itr lo n) H0 ρ0 := fun H ρ st G S i => by
  refine ⟨fun hs => ?_, fun x hs => ?_⟩
  · simp only [srcR] at hs
    split at hs
    · cases hs
    · exact Nat.le_of_not_lt (by assumption)
  · simp only [srcR] at hs
    split at hs
    · rename_i hl
      cases hs
      refine ⟨hl, fun w H' y => ?_⟩
      obtain ⟨rfl, rfl⟩ := y
      exact ⟨ρ, Grow.refl, S, by unfold Rep; rfl⟩
    · cases hs
def srcS (x : Str) : Src := ⟨x.length, fun _ i => some ((x.cps[i]?).map fun c => .str ⟨#[c]⟩)⟩
theorem srcS_ok {K : PySem.W.Frag} {H0 : Hp} {ρ0 : Rho} {x : Str} : SrcOk K (srcS x) (Its x) H0 ρ0 := fun H ρ st G S i => by
  refine ⟨fun hs => ?_, fun y hs => ?_⟩
  · simp only [srcS, Option.some.injEq, Option.map_eq_none_iff] at hs
    exact Array.getElem?_eq_none_iff.mp hs
  · simp only [srcS, Option.some.injEq] at hs
    cases e : x.cps[i]? with
    | none => rw [e] at hs; cases hs
    | some c =>
      rw [e] at hs
      cases hs
      refine ⟨(Array.getElem?_eq_some_iff.mp e).1, fun w H' y => ?_⟩
      obtain ⟨rfl, c', e', rfl⟩ := y
      rw [e] at e'; cases e'
      exact ⟨ρ, Grow.refl, S, by unfold Rep; rfl⟩
/-- a list, a tuple or a text is walked -/
def iWalk (ie : IE) : II := fun env st => ob (ie env st) fun x s => match x with
  | .str y => some (srcS y, s)
  | .tup xs => some (srcT xs, s)
  | .frz xs => some (srcT xs, s)
  | .ref n => match s[n]? with
    | some (.lst xs) => some (srcL n xs.length, s)
    | _ => none
  | _ => none
theorem i_walk {tg : Expr} (he : PE X e (tI X.K ie)) : PI X tg e (tII X.K (iWalk ie)) := PI.imp (PI.or (pi_list he) (PI.or (pi_tup he) (pi_str he))) fun σ H R ⟨env, s, ρ, src, st', E, S, h, q⟩ => by
  obtain ⟨x, s1, h1, h⟩ := ob_some h
  cases x with
  | str y =>
    cases h
    refine .inr (.inr ⟨env, s, ρ, _, _, E, S, h1, fun v H1 ρ1 G1 S1 R1 => ?_⟩)
    unfold Rep at R1
    exact ⟨y, R1, q _ H1 ρ1 G1 S1 srcS_ok⟩
  | tup xs =>
    cases h
    refine .inr (.inl ⟨env, s, ρ, _, _, E, S, h1, fun v H1 ρ1 G1 S1 R1 => ?_⟩)
    unfold Rep at R1
    obtain ⟨a, vs, rfl, t1, t2⟩ := R1
    exact ⟨a, rfl, ⟨vs, t1⟩, q _ H1 ρ1 G1 S1 (srcT_ok S1 t1 t2)⟩
  | frz xs =>
    cases h
    refine .inl ⟨env, s, ρ, _, _, E, S, h1, fun v H1 ρ1 G1 S1 R1 => ?_⟩
    unfold Rep at R1
    obtain ⟨a, vs, rfl, t1, t2⟩ := R1
    exact ⟨a, rfl, ⟨vs, t1.sq⟩, q _ H1 ρ1 G1 S1 (srcF_ok S1 t1 t2)⟩
  | ref n =>
    simp only at h
    split at h
    · rename_i xs e1
      cases h
      refine .inl ⟨env, s, ρ, _, _, E, S, h1, fun v H1 ρ1 G1 S1 R1 => ?_⟩
      obtain ⟨a, vs, rfl, t1, _, h2, h3⟩ := S1.lst R1 e1
      exact ⟨a, rfl, ⟨vs, .of h2⟩, q _ H1 ρ1 G1 S1 (srcL_ok t1)⟩
    · cases h
  | _ => cases h
/-- range -/
def big (j : Int) : Bool := decide (-(2 ^ 62) ≤ j) && decide (j < 2 ^ 62)
theorem big_of {j : Int} (h : big j = true) : -(2 ^ 62) ≤ j ∧ j < 2 ^ 62 := by
  unfold big at h
  simp only [Bool.and_eq_true, decide_eq_true_eq] at h
  exact h
def iRange1 (ir : IA) : II := fun env st => ob (ir env st) fun xs s => match xs with
  | [.int j] => if big j then some (srcR 0 j.toNat, s) else none
  | _ => none
def iRange2 (ir : IA) : II := fun env st => ob (ir env st) fun xs s => match xs with
  | [.int i, .int j] => if big i && big j then some (srcR i (j - i).toNat, s) else none
  | _ => none
theorem i_range1 {tg a : Expr} {ir : IA} {p : Pos} (hg : Gl X "range") (hm : X.mg "range" = none) (ha : PA X [a] (tIA X.K ir)) (hs : starEach [a] X.env = [(false, eval a X.env)] := by rfl) : PI X tg (.Call (.Name "range" p) [a] [] pos) (tII X.K (iRange1 ir)) :=
  PI.imp (pi_range1 hg hm ha hs) fun σ H R ⟨env, s, ρ, src, st', E, S, h, q⟩ => by
    obtain ⟨xs, s1, h1, h⟩ := ob_some h
    split at h
    · rename_i j
      split at h
      · rename_i hb
        cases h
        refine ⟨env, s, ρ, _, _, E, S, h1, fun v H1 ρ1 G1 S1 R1 => ?_⟩
        unfold Reps at R1
        obtain ⟨w, r, rfl, R1, R2⟩ := R1
        unfold Reps at R2
        subst R2
        unfold Rep at R1
        subst R1
        obtain ⟨b1, b2⟩ := big_of hb
        exact ⟨j, rfl, b1, b2, q _ H1 ρ1 G1 S1 srcR_ok⟩
      · cases h
    · cases h
theorem i_range2 {tg a b : Expr} {ir : IA} {p : Pos} (hg : Gl X "range") (hm : X.mg "range" = none) (ha : PA X [a, b] (tIA X.K ir)) (hs : starEach [a, b] X.env = [(false, eval a X.env), (false, eval b X.env)] := by rfl) (hs2 : starEach [b] X.env = [(false, eval b X.env)] := by rfl) :
    PI X tg (.Call (.Name "range" p) [a, b] [] pos) (tII X.K (iRange2 ir)) :=
  PI.imp (pi_range2 hg hm ha hs hs2) fun σ H R ⟨env, s, ρ, src, st', E, S, h, q⟩ => by
    obtain ⟨xs, s1, h1, h⟩ := ob_some h
    split at h
    · rename_i i j
      split at h
      · rename_i hb
        cases h
        refine ⟨env, s, ρ, _, _, E, S, h1, fun v H1 ρ1 G1 S1 R1 => ?_⟩
        unfold Reps at R1
        obtain ⟨w, r, rfl, R1, R2⟩ := R1
        unfold Reps at R2
        obtain ⟨w2, r2, rfl, R2, R3⟩ := R2
        unfold Reps at R3
        subst R3
        unfold Rep at R1 R2
        subst R1 R2
        rw [Bool.and_eq_true] at hb
        obtain ⟨b1, b2⟩ := big_of hb.1
        obtain ⟨b3, b4⟩ := big_of hb.2
        exact ⟨i, j, rfl, ⟨b1, b2, b3, b4⟩, q _ H1 ρ1 G1 S1 srcR_ok⟩
      · cases h
    · cases h

/-! ### for -/
def loop (at_ : Sto → Nat → Option (Option PV)) (ig : IG) (body : IS) : Nat → Nat → PEnv → Sto → Option Fl
  | 0, _, _, _ => none
  | m + 1, i, env, st => match at_ st i with
    | none => none
    | some none => some (.nx env st)
    | some (some x) => match ig x env st with
      | none => none
      | some env1 => match body env1 st with
        | some (.nx e s) => loop at_ ig body m (i + 1) e s
        | some (.ct e s) => loop at_ ig body m (i + 1) e s
        | some (.bk e s) => some (.nx e s)
        | some (.rt v s) => some (.rt v s)
        | some (.er e c fs s) => some (.er e c fs s)
        | none => none
def iFor (ii : II) (ig : IG) (body : IS) : IS := fun env st => ob (ii env st) fun src s => loop src.at_ ig body (src.n + 1) 0 env s
theorem s_for {iter tg : Expr} {body : List Stmt} {ii : II} {T : List Nat} {ig : IG} (hp : PassesOwn (model X.prog X.w) X.A X.env X.xe) (hc : X.calm = true) (hi : PI X tg iter (tII X.K ii)) (hg : PG X tg (tIG X.K T ig)) (hb : PSs X body (tIS X.K W ia))
    (hs : ∀ x, foldedSetIterable iter X.env x = pure x := by intro _; rfl) : PS X (.For tg iter body [] pos) (tIS X.K W (iFor ii ig ia)) :=
  PS.imp (ps_for hp hc hi hg hb hs) fun D σ H ⟨env, s, ρ, f, E, S, h, q⟩ => by
    obtain ⟨src, s1, h1, h⟩ := ob_some h
    refine ⟨env, s, ρ, src, s1, E, S, h1, fun J H1 ρ1 G1 S1 O => ?_⟩
    refine ⟨fun i m σ' H' => ∃ env' st' ρ' f', Grow H1 ρ1 H' ρ' ∧ RepE X.K H' ρ' env' σ' ∧ RepS X.K H' ρ' st' ∧ loop src.at_ ig ia m i env' st' = some f' ∧ PostF X.K W D H' ρ' f', ⟨src.n + 1, env, s1, ρ1, f, Grow.refl, E.grow S G1, S1, h, q.grow G1⟩, ?_⟩
    rintro i m σ' H' ⟨env', st', ρ', f', G', E', S', hl, q'⟩
    cases m with
    | zero => cases hl
    | succ m =>
      unfold loop at hl
      obtain ⟨o1, o2⟩ := O H' ρ' st' G' S' i
      split at hl
      · cases hl
      · rename_i e1
        cases hl
        exact .inl ⟨o1 e1, q' σ' H' ρ' Grow.refl S' E'⟩
      · rename_i x e1
        obtain ⟨go, yl⟩ := o2 x e1
        split at hl
        · cases hl
        · rename_i env1 e2
          refine .inr ⟨go, fun σ2 H2 => ∃ m', m' < m + 1 ∧ ∃ env' st' ρ' f', Grow H1 ρ1 H2 ρ' ∧ RepE X.K H2 ρ' env' σ2 ∧ RepS X.K H2 ρ' st' ∧ loop src.at_ ig ia m' (i + 1) env' st' = some f' ∧ PostF X.K W D H2 ρ' f', fun σ2 H2 n => n, fun v H2 y => ?_⟩
          obtain ⟨ρ2, G2, S2, R2⟩ := yl v H2 y
          refine ⟨env', st', ρ2, x, env1, E'.grow S' G2, S2, R2, e2, fun σ3 E3 _ _ => ?_⟩
          cases e3 : ia env1 st' with
          | none => rw [e3] at hl; cases hl
          | some fl =>
            rw [e3] at hl
            refine ⟨env1, st', ρ2, fl, E3, S2, e3, ?_⟩
            cases fl with
            | nx e s => exact fun σ4 H4 ρ4 G4 S4 E4 => ⟨m, Nat.lt_succ_self m, e, s, ρ4, f', (G'.trans G2).trans G4, E4, S4, hl, q'.grow (G2.trans G4)⟩
            | ct e s => exact fun σ4 H4 ρ4 G4 S4 E4 => ⟨m, Nat.lt_succ_self m, e, s, ρ4, f', (G'.trans G2).trans G4, E4, S4, hl, q'.grow (G2.trans G4)⟩
            | bk e s => cases hl; exact fun σ4 H4 ρ4 G4 S4 E4 => q' σ4 H4 ρ4 (G2.trans G4) S4 E4
            | rt v s => cases hl; exact fun v H4 ρ4 G4 S4 R4 => q' v H4 ρ4 (G2.trans G4) S4 R4
            | er e c fs s => cases hl; exact fun C d σ4 H4 ρ4 vs hc G4 => q' C d σ4 H4 ρ4 vs hc (G2.trans G4)

/-! ### while -/
@[irreducible] def bigN : Nat := 1000000
def wloop (t : IT) (body : IS) : Nat → PEnv → Sto → Option Fl
  | 0, _, _ => none
  | m + 1, env, st => match t env st with
    | none => none
    | some (false, s) => some (.nx env s)
    | some (true, s) => match body env s with
      | some (.nx e s) => wloop t body m e s
      | some (.ct e s) => wloop t body m e s
      | some (.bk e s) => some (.nx e s)
      | some (.rt v s) => some (.rt v s)
      | some (.er e c fs s) => some (.er e c fs s)
      | none => none
def iWhile (t : IT) (body : IS) : IS := wloop t body bigN
theorem s_while {c : Expr} {body : List Stmt} (hp : PassesOwn (model X.prog X.w) X.A X.env X.xe) (hc : PT X c (tIT X.K it)) (hb : PSs X body (tIS X.K W ia)) : PS X (.While c body [] pos) (tIS X.K W (iWhile it ia)) :=
  PS.imp (ps_while hp hc hb) fun D σ H ⟨env, s, ρ, f, E, S, h, q⟩ => by
    refine ⟨fun m σ' H' => ∃ env' st' ρ' f', RepE X.K H' ρ' env' σ' ∧ RepS X.K H' ρ' st' ∧ wloop it ia m env' st' = some f' ∧ PostF X.K W D H' ρ' f', ⟨bigN, env, s, ρ, f, E, S, h, q⟩, ?_⟩
    rintro m σ' H' ⟨env', st', ρ', f', E', S', hl, q'⟩
    cases m with
    | zero => cases hl
    | succ m =>
      unfold wloop at hl
      cases e1 : it env' st' with
      | none => rw [e1] at hl; cases hl
      | some r =>
        obtain ⟨b, s1⟩ := r
        rw [e1] at hl
        refine ⟨env', st', ρ', b, s1, E', S', e1, fun H1 ρ1 G1 S1 => ?_⟩
        cases b with
        | false =>
          cases hl
          rw [if_neg Bool.false_ne_true]
          exact q' σ' H1 ρ1 G1 S1 (E'.grow S' G1)
        | true =>
          rw [if_pos rfl]
          refine ⟨fun σ2 H2 => ∃ m', m' < m + 1 ∧ ∃ env' st' ρ' f', RepE X.K H2 ρ' env' σ2 ∧ RepS X.K H2 ρ' st' ∧ wloop it ia m' env' st' = some f' ∧ PostF X.K W D H2 ρ' f', fun σ2 H2 n => n, ?_⟩
          cases e3 : ia env' s1 with
          | none => simp only [e3] at hl; cases hl
          | some fl =>
            simp only [e3] at hl
            refine ⟨env', s1, ρ1, fl, E'.grow S' G1, S1, e3, ?_⟩
            cases fl with
            | nx e s => exact fun σ4 H4 ρ4 G4 S4 E4 => ⟨m, Nat.lt_succ_self m, e, s, ρ4, f', E4, S4, hl, q'.grow (G1.trans G4)⟩
            | ct e s => exact fun σ4 H4 ρ4 G4 S4 E4 => ⟨m, Nat.lt_succ_self m, e, s, ρ4, f', E4, S4, hl, q'.grow (G1.trans G4)⟩
            | bk e s => cases hl; exact fun σ4 H4 ρ4 G4 S4 E4 => q' σ4 H4 ρ4 (G1.trans G4) S4 E4
            | rt v s => cases hl; exact fun v H4 ρ4 G4 S4 R4 => q' v H4 ρ4 (G1.trans G4) S4 R4
            | er e c fs s => cases hl; exact fun C d σ4 H4 ρ4 vs hc G4 => q' C d σ4 H4 ρ4 vs hc (G1.trans G4)

/-! ### comprehensions -/
def wipeE (env : PEnv) : List Nat → PEnv
  | [] => env
  | v :: vs => (wipeE env vs).set v none
theorem RepE.setNone {K : PySem.W.Frag} {H : Hp} {ρ : Rho} {env : PEnv} {σ : L2.St} (E : RepE K H ρ env σ) (i : Nat) : RepE K H ρ (env.set i none) (σ.set i none) := by
  refine ⟨by simpa using E.len, fun j y hj => ?_⟩
  by_cases e : i = j
  · subst e
    by_cases hl : i < env.length
    · rw [List.getElem?_set_self hl] at hj
      cases hj
    · rw [List.getElem?_eq_none (by simpa using hl)] at hj
      cases hj
  · rw [List.getElem?_set_ne e] at hj
    obtain ⟨w, a, b⟩ := E.at_ j y hj
    exact ⟨w, by rw [List.getElem?_set_ne e]; exact a, b⟩
theorem RepE.wipe {K : PySem.W.Frag} {H : Hp} {ρ : Rho} {env : PEnv} {σ : L2.St} (E : RepE K H ρ env σ) : ∀ vs : List Nat, RepE K H ρ (wipeE env vs) (L2.wipe σ vs)
  | [] => E
  | v :: vs => (RepE.wipe E vs).setNone v
theorem wipe_at {σ : L2.St} {i : Nat} : ∀ {vs : List Nat}, i ∈ vs → i < σ.length → (L2.wipe σ vs)[i]? = some none
  | [], h, _ => by simp at h
  | v :: vs, h, hl => by
    unfold L2.wipe
    by_cases e : v = i
    · subst e
      exact List.getElem?_set_self (by rw [L2.wipe_length]; exact hl)
    · rw [List.getElem?_set_ne e]
      exact wipe_at (by rcases List.mem_cons.mp h with h | h; exact absurd h.symm e; exact h) hl
theorem wipe_same {σ σ' : L2.St} {vs : List Nat} (hl : σ'.length = σ.length) (h : ∀ i, i ∉ vs → σ'[i]? = (L2.wipe σ vs)[i]?) : L2.wipe σ' vs = L2.wipe σ vs := by
  refine List.ext_getElem? fun i => ?_
  by_cases hi : i ∈ vs
  · by_cases hb : i < σ.length
    · rw [wipe_at hi hb, wipe_at hi (by rw [hl]; exact hb)]
    · rw [List.getElem?_eq_none (by rw [L2.wipe_length]; omega), List.getElem?_eq_none (by rw [L2.wipe_length]; omega)]
  · rw [L2.wipe_out hi, h i hi]
def lcLoop (at_ : Sto → Nat → Option (Option PV)) (ig : IG) (t : IT) (e : IE) (d : Nat) (env : PEnv) : Nat → Nat → Sto → Option Sto
  | 0, _, _ => none
  | m + 1, i, st => match at_ st i with
    | none => none
    | some none => some st
    | some (some x) => match ig x env st with
      | none => none
      | some env1 => match t env1 st with
        | none => none
        | some (false, s1) => lcLoop at_ ig t e d env m (i + 1) s1
        | some (true, s1) => match e env1 s1 with
          | none => none
          | some (y, s2) => match s2[d]? with
            | some (.lst acc) => if acc.length < 9000000 then lcLoop at_ ig t e d env m (i + 1) (s2.set d (.lst (acc ++ [y]))) else none
            | _ => none
def iLc (ii : II) (ig : IG) (t : IT) (e : IE) (vs : List Nat) : IE := fun env st => ob (ii env st) fun src s =>
  (lcLoop src.at_ ig t e s.length (wipeE env vs) (src.n + 1) 0 (s ++ [.lst []])).map fun s' => (.ref s.length, s')
theorem line6 {n : Nat} (h : n < 9000000) : n < sizeLine := Nat.lt_of_lt_of_le h (by decide)
theorem lc_to {K : PySem.W.Frag} {ii : II} {ig : IG} {T vs : List Nat} {σ : L2.St} {H : Hp} {Q : VK} (hT : ∀ i ∈ T, i ∈ vs) (h : tI K (iLc ii ig it ie vs) σ H Q) : tLc (tII K ii) (tIG K T ig) (tIT K it) (tI K ie) vs σ H Q := by
  obtain ⟨env, s, ρ, z, st', E, S, h, q⟩ := h
  obtain ⟨src, s1, h1, h⟩ := ob_some h
  obtain ⟨hl, hz⟩ : lcLoop src.at_ ig it ie s1.length (wipeE env vs) (src.n + 1) 0 (s1 ++ [.lst []]) = some st' ∧ z = .ref s1.length := by
    cases e : lcLoop src.at_ ig it ie s1.length (wipeE env vs) (src.n + 1) 0 (s1 ++ [.lst []]) with
    | none => rw [e] at h; cases h
    | some s' => rw [e] at h; cases h; exact ⟨rfl, rfl⟩
  subst hz
  refine ⟨env, s, ρ, src, s1, E, S, h1, fun J H1 ρ1 G1 S1 O Dl hD => ?_⟩
  have g0 : Grow H1 ρ1 (upd H1 Dl (.lst [])) (ρ1.add Dl) := grow_alloc hD
  have E1 : RepE K H1 ρ1 env σ := E.grow S G1
  refine ⟨fun i m H' => ∃ st2 ρ', Grow (upd H1 Dl (.lst [])) (ρ1.add Dl) H' ρ' ∧ RepS K H' ρ' st2 ∧ lcLoop src.at_ ig it ie s1.length (wipeE env vs) m i st2 = some st',
    ⟨src.n + 1, _, _, Grow.refl, S1.alloc (so := .lst []) hD ⟨[], upd_same, by unfold Reps; rfl⟩, hl⟩, ?_⟩
  rintro i m H' ⟨st2, ρ', G', S', hl⟩
  have ix : ρ'.l[s1.length]? = some Dl := G'.ix (by show (ρ1.l ++ [Dl])[s1.length]? = some Dl; rw [← S1.len, List.getElem?_append_right (Nat.le_refl _)]; simp)
  cases m with
  | zero => cases hl
  | succ m =>
    unfold lcLoop at hl
    obtain ⟨o1, o2⟩ := O H' ρ' st2 (g0.trans G') S' i
    split at hl
    · cases hl
    · rename_i e1
      cases hl
      refine .inl ⟨o1 e1, q _ H' ρ' (G1.trans (g0.trans G')) S' ?_⟩
      unfold Rep
      exact ⟨Dl, rfl, ix⟩
    · rename_i x e1
      obtain ⟨go, yl⟩ := o2 x e1
      split at hl
      · cases hl
      · rename_i env1 e2
        refine .inr ⟨go, fun H2 => ∃ m', m' < m + 1 ∧ ∃ st2 ρ', Grow (upd H1 Dl (.lst [])) (ρ1.add Dl) H2 ρ' ∧ RepS K H2 ρ' st2 ∧ lcLoop src.at_ ig it ie s1.length (wipeE env vs) m' (i + 1) st2 = some st', fun H2 n => n, fun v H2 y => ?_⟩
        obtain ⟨ρ2, G2, S2, R2⟩ := yl v H2 y
        have Ew : RepE K H2 ρ2 (wipeE env vs) (L2.wipe σ vs) := (E1.wipe vs).grow S1 ((g0.trans G').trans G2)
        refine ⟨wipeE env vs, st2, ρ2, x, env1, Ew, S2, R2, e2, fun σ3 E3 l3 a3 => ⟨?_, ?_⟩⟩
        · rw [L2.wipe_length] at l3
          exact wipe_same l3 fun j hj => a3 j fun z => hj (hT j z)
        · cases e3 : it env1 st2 with
          | none => rw [e3] at hl; cases hl
          | some r =>
            obtain ⟨b, s3⟩ := r
            rw [e3] at hl
            refine ⟨env1, st2, ρ2, b, s3, E3, S2, e3, fun H3 ρ3 G3 S3 => ?_⟩
            cases b with
            | false =>
              rw [if_neg Bool.false_ne_true]
              exact ⟨m, Nat.lt_succ_self m, s3, ρ3, (G'.trans G2).trans G3, S3, hl⟩
            | true =>
              rw [if_pos rfl]
              simp only at hl
              cases e4 : ie env1 s3 with
              | none => rw [e4] at hl; cases hl
              | some r =>
                obtain ⟨y, s4⟩ := r
                rw [e4] at hl
                refine ⟨env1, s3, ρ3, y, s4, E3.grow S2 G3, S3, e4, fun w H4 ρ4 G4 S4 R4 => ?_⟩
                simp only at hl
                split at hl
                · rename_i acc e5
                  split at hl
                  · rename_i hlen
                    have ix4 : ρ4.l[s1.length]? = some Dl := (G2.trans (G3.trans G4)).ix ix
                    obtain ⟨b, ws, e0, hb, ndd, h2, h3⟩ := S4.lst (by unfold Rep; exact ⟨Dl, rfl, ix4⟩) e5
                    cases e0
                    have gw : Grow H4 ρ4 (upd H4 Dl (.lst (ws ++ [w]))) ρ4 := grow_write h2 (List.mem_of_getElem? ix4) ndd
                    refine ⟨ws, h2, line6 (by rw [← h3.length]; exact hlen), m, Nat.lt_succ_self m, _, ρ4, ((G'.trans G2).trans G3).trans (G4.trans gw), S4.write (so := .lst (acc ++ [y])) ix4 ndd h2 ⟨_, upd_same, ?_⟩, hl⟩
                    exact Reps.grow S4 gw _ _ (Reps.append h3 (by unfold Reps; exact ⟨w, [], rfl, R4, by unfold Reps; rfl⟩))
                  · cases hl
                · cases hl
theorem r_lc {elt tg iter : Expr} {ifs : List Expr} {scope : Scope} {own : List (Str × Nat)} {ii : II} {T : List Nat} {ig : IG} (hc : X.calm = true) (hN : X.N.Nodup) (hi : PI X tg iter (tII X.K ii)) (ok : BlkOk X.N X.env.scope scope own)
    (hT : ∀ i ∈ T, i ∈ own.map (·.2))
    (hg : ∀ (s : Shared) (H : Hp) (C : Addr) (cl : List (Str × Addr)) (fp : List Addr), PG (X.blk s H scope (compEnvC scope cl C X.env) fp) tg (tIG X.K T ig)) (ht : ∀ (s : Shared) (H : Hp) (C : Addr) (cl : List (Str × Addr)) (fp : List Addr), PTs (X.blk s H scope (compEnvC scope cl C X.env) fp) ifs (tIT X.K it))
    (he : ∀ (s : Shared) (H : Hp) (C : Addr) (cl : List (Str × Addr)) (fp : List Addr), PE (X.blk s H scope (compEnvC scope cl C X.env) fp) elt (tI X.K ie)) (hs : ∀ x, foldedSetIterable iter X.env x = pure x := by intro _; rfl) :
    PE X (.ListComp elt [⟨tg, iter, ifs, 0⟩] scope pos) (tI X.K (iLc ii ig it ie (own.map (·.2)))) :=
  PE.imp (pe_lc hc hN hi ok hg ht he hs) fun _ _ _ h => lc_to hT h
theorem s_setLc {i : Nat} {y : Str} {py : Pos} {elt tg iter : Expr} {ifs : List Expr} {scope : Scope} {own : List (Str × Nat)} {spos : Pos} {ii : II} {T : List Nat} {ig : IG} (hy : X.N[i]? = some y) (hyl : X.env.scope.names.lookup y = some .local)
    (hsw : swapsWith (.ListComp elt [⟨tg, iter, ifs, 0⟩] scope pos) (some (.Name y py)) spos.line X.env = pure true) (hc : X.calm = true) (hN : X.N.Nodup) (hi : PI X tg iter (tII X.K ii)) (ok : BlkOk X.N X.env.scope scope own)
    (hT : ∀ i ∈ T, i ∈ own.map (·.2))
    (hg : ∀ (s : Shared) (H : Hp) (C : Addr) (cl : List (Str × Addr)) (fp : List Addr), PG (X.blk s H scope (compEnvC scope cl C X.env) fp) tg (tIG X.K T ig)) (ht : ∀ (s : Shared) (H : Hp) (C : Addr) (cl : List (Str × Addr)) (fp : List Addr), PTs (X.blk s H scope (compEnvC scope cl C X.env) fp) ifs (tIT X.K it))
    (he : ∀ (s : Shared) (H : Hp) (C : Addr) (cl : List (Str × Addr)) (fp : List Addr), PE (X.blk s H scope (compEnvC scope cl C X.env) fp) elt (tI X.K ie)) (hs : ∀ x, foldedSetIterable iter X.env x = pure x := by intro _; rfl) :
    PS X (.Assign [.Name y py] (.ListComp elt [⟨tg, iter, ifs, 0⟩] scope pos) spos) (tIS X.K W (iAsg (gN i) (iLc ii ig it ie (own.map (·.2))))) :=
  PS.imp (ps_setLc hc hN hy hyl hsw hi ok hg ht he hs) fun D σ H ⟨env, s, ρ, f, E, S, h, q⟩ => by
    obtain ⟨x, s1, h1, h⟩ := ob_some h
    cases h
    exact lc_to hT ⟨env, s, ρ, x, _, E, S, h1, fun v H1 ρ1 G1 S1 R1 => q _ H1 ρ1 G1 S1 ((E.grow S G1).set R1 i)⟩
/-- x += e of ints -/
def iAugI (g : Int → Int → Int) (i : Nat) (ie : IE) : IS := fun env st => match env[i]? with
  | some (some (.int a)) => ob (ie env st) fun y s => match y with
    | .int b => some (.nx (env.set i (some (.int (g a b)))) s)
    | _ => none
  | _ => none
def iAugAdd : Nat → IE → IS := iAugI (· + ·)
def iAugSub : Nat → IE → IS := iAugI (· - ·)
theorem s_aug {g : Int → Int → Int} {op : Operator} {i : Nat} {x : Str} {pos' : Pos} (hp : PIp X op (ipI g)) (hN : X.N.Nodup) (hi : X.N[i]? = some x) (hx : Loc X.env.scope x) (he : PE X e (tI X.K ie)) (hf : X.fn x = true ∨ X.env.scope.names.lookup x = some .local) :
    PS X (.AugAssign (.Name x pos') op e pos) (tIS X.K W (iAugI g i ie)) :=
  PS.imp (ps_aug hN hi hx he hp hf) fun D σ H ⟨env, s, ρ, f, E, S, h, q⟩ => by
    unfold iAugI at h
    split at h
    · rename_i a ea
      obtain ⟨y, s1, h1, h⟩ := ob_some h
      split at h
      · cases h
        obtain ⟨v, hv, rv⟩ := E.at_ _ _ ea
        refine ⟨v, hv, env, s, ρ, _, _, E, S, h1, fun w H1 ρ1 G1 S1 R1 => ?_⟩
        unfold Rep at rv R1
        subst rv R1
        exact ⟨_, _, rfl, rfl, q _ H1 ρ1 G1 S1 ((E.grow S G1).set (by unfold Rep; rfl) i)⟩
      · cases h
    · cases h
theorem s_augAdd {i : Nat} {x : Str} {pos' : Pos} (hN : X.N.Nodup) (hi : X.N[i]? = some x) (hx : Loc X.env.scope x) (he : PE X e (tI X.K ie)) (hf : X.fn x = true ∨ X.env.scope.names.lookup x = some .local := by first | exact .inl rfl | exact .inr rfl | assumption) :
    PS X (.AugAssign (.Name x pos') .Add e pos) (tIS X.K W (iAugAdd i ie)) := s_aug ip_add hN hi hx he hf
theorem s_augSub {i : Nat} {x : Str} {pos' : Pos} (hN : X.N.Nodup) (hi : X.N[i]? = some x) (hx : Loc X.env.scope x) (he : PE X e (tI X.K ie)) (hf : X.fn x = true ∨ X.env.scope.names.lookup x = some .local := by first | exact .inl rfl | exact .inr rfl | assumption) :
    PS X (.AugAssign (.Name x pos') .Sub e pos) (tIS X.K W (iAugSub i ie)) := s_aug ip_sub hN hi hx he hf
def iYes : IT := fun _ st => some (true, st)
theorem t_yes : PTs X [] (tIT X.K iYes) := ⟨fun pins s σ H Q I h => pts_nil.run pins s σ H Q I (by
  obtain ⟨env, st, ρ, z, st', E, S, h, q⟩ := h
  cases h
  exact q H ρ Grow.refl S)⟩
theorem t_one {c : Expr} (h : PT X c (tIT X.K it)) : PTs X [c] (tIT X.K it) := pts_one h
end

/-! ### defs -/
/-! ### the end of a def: what it made for itself is let go -/
mutual
/-- no number from m on stands in it -/
def rlt (m : Nat) : PV → Prop
  | .tup xs => rlts m xs
  | .frz xs => rlts m xs
  | .fdk _ xs => rlts m xs
  | .ref n => n < m
  | _ => True
def rlts (m : Nat) : List PV → Prop
  | [] => True
  | x :: xs => rlt m x ∧ rlts m xs
end
def rltO (m : Nat) : SO → Prop
  | .lst xs => rlts m xs
  | .dK kvs => rlts m (kvs.map (·.2))
  | .ins _ fs => rlts m (fs.map (·.2))
  | .gone => True
/-- the store behind a def, without what it made for itself alone -/
def Gc (st s : Sto) (v : PV) : Prop := rlt st.length v ∧ ∀ i so, i < st.length → s[i]? = some so → st[i]? = some so ∨ rltO st.length so
open Classical in
noncomputable def gcS (st s : Sto) (v : PV) : Sto := if Gc st s v then s.take st.length else s
section
variable {K : PySem.W.Frag} {H H' : Hp} {ρ ρ' : Rho} {st st' : Sto}
/-- the addresses up to those of ρ -/
def Rho.cut (ρ ρ' : Rho) : Rho := ⟨ρ.l, ρ'.d.filter fun a => decide (a ∈ ρ.l)⟩
theorem safe_cut (g : Grow H ρ H' ρ') {a : Addr} (h : ρ'.Safe a) : (Rho.cut ρ ρ').Safe a := by
  obtain ⟨l, e, _⟩ := g.ext
  by_cases ha : a ∈ ρ.l
  · rcases h with h | h
    · exact absurd (by rw [e]; exact List.mem_append_left _ ha) h
    · exact .inr (List.mem_filter.mpr ⟨h, decide_eq_true ha⟩)
  · exact .inl ha
mutual
theorem rep_cut (g : Grow H ρ H' ρ') : ∀ (x : PV) (v : V), rlt ρ.l.length x → Rep K H' ρ' x v → Rep K H' (Rho.cut ρ ρ') x v
  | .non, v, _, h => by unfold Rep at *; exact h
  | .bl b, v, _, h => by unfold Rep at *; exact h
  | .int i, v, _, h => by unfold Rep at *; exact h
  | .str x, v, _, h => by unfold Rep at *; exact h
  | .tup xs, v, r, h => by
    unfold rlt at r
    unfold Rep at *
    obtain ⟨a, vs, e, h1, h2⟩ := h
    exact ⟨a, vs, e, h1, reps_cut g xs vs r h2⟩
  | .frz xs, v, r, h => by
    unfold rlt at r
    unfold Rep at *
    obtain ⟨a, vs, e, h1, h2⟩ := h
    refine ⟨a, vs, e, ?_, reps_cut g xs vs r h2⟩
    rcases h1 with ⟨h1, n⟩ | h1
    · exact .inl ⟨h1, safe_cut g n⟩
    · exact .inr h1
  | .ref n, v, r, h => by
    unfold rlt at r
    unfold Rep at *
    obtain ⟨a, e, h1⟩ := h
    obtain ⟨l, e2, _⟩ := g.ext
    rw [e2, List.getElem?_append_left r] at h1
    exact ⟨a, e, h1⟩
  | .ty n, v, _, h => by unfold Rep at *; exact h
  | .fdk ks xs, v, r, h => by
    unfold rlt at r
    unfold Rep at *
    obtain ⟨a, vs, e, h1, h2⟩ := h
    obtain ⟨kvs, h1, n, e1, e2⟩ := h1
    exact ⟨a, vs, e, ⟨kvs, h1, safe_cut g n, e1, e2⟩, reps_cut g xs vs r h2⟩
theorem reps_cut (g : Grow H ρ H' ρ') : ∀ (xs : List PV) (vs : List V), rlts ρ.l.length xs → Reps K H' ρ' xs vs → Reps K H' (Rho.cut ρ ρ') xs vs
  | [], vs, _, h => by unfold Reps at *; exact h
  | x :: xs, vs, r, h => by
    unfold rlts at r
    unfold Reps at *
    obtain ⟨v, w, e, h1, h2⟩ := h
    exact ⟨v, w, e, rep_cut g x v r.1 h1, reps_cut g xs w r.2 h2⟩
end
theorem repK_cut (g : Grow H ρ H' ρ') : ∀ (xs : List (Key × PV)) (vs : List (Key × V)), rlts ρ.l.length (xs.map (·.2)) → RepK K H' ρ' xs vs → RepK K H' (Rho.cut ρ ρ') xs vs
  | [], vs, _, h => h
  | x :: xs, vs, r, h => by
    rw [List.map_cons] at r
    unfold rlts at r
    obtain ⟨v, w, e, h1, h2⟩ := h
    exact ⟨v, w, e, rep_cut g _ v r.1 h1, repK_cut g xs w r.2 h2⟩
theorem repF_cut (g : Grow H ρ H' ρ') : ∀ (xs : List (Str × PV)) (vs : List (Str × V)), rlts ρ.l.length (xs.map (·.2)) → RepF K H' ρ' xs vs → RepF K H' (Rho.cut ρ ρ') xs vs
  | [], vs, _, h => h
  | x :: xs, vs, r, h => by
    rw [List.map_cons] at r
    unfold rlts at r
    obtain ⟨v, w, e, h1, h2⟩ := h
    exact ⟨v, w, e, rep_cut g _ v r.1 h1, repF_cut g xs w r.2 h2⟩
theorem repO_cut (g : Grow H ρ H' ρ') {so : SO} {a : Addr} (r : rltO ρ.l.length so) (h : RepO K H' ρ' so a) : RepO K H' (Rho.cut ρ ρ') so a := by
  cases so with
  | lst xs => obtain ⟨vs, h1, h2⟩ := h; exact ⟨vs, h1, reps_cut g xs vs r h2⟩
  | dK xs => obtain ⟨vs, h1, h2⟩ := h; exact ⟨vs, h1, repK_cut g xs vs r h2⟩
  | ins c xs => obtain ⟨C, dx, vs, hc, h1, h2⟩ := h; exact ⟨C, dx, vs, hc, h1, repF_cut g xs vs r h2⟩
  | gone => exact h
mutual
theorem rlt_of : ∀ (x : PV) (v : V), Rep K H ρ x v → rlt ρ.l.length x
  | .non, v, _ => by unfold rlt; trivial
  | .bl b, v, _ => by unfold rlt; trivial
  | .int i, v, _ => by unfold rlt; trivial
  | .str x, v, _ => by unfold rlt; trivial
  | .ty x, v, _ => by unfold rlt; trivial
  | .tup xs, v, h => by
    unfold Rep at h
    unfold rlt
    obtain ⟨a, vs, e, h1, h2⟩ := h
    exact rlts_of xs vs h2
  | .frz xs, v, h => by
    unfold Rep at h
    unfold rlt
    obtain ⟨a, vs, e, h1, h2⟩ := h
    exact rlts_of xs vs h2
  | .fdk ks xs, v, h => by
    unfold Rep at h
    unfold rlt
    obtain ⟨a, vs, e, h1, h2⟩ := h
    exact rlts_of xs vs h2
  | .ref n, v, h => by
    unfold Rep at h
    unfold rlt
    obtain ⟨a, e, h1⟩ := h
    exact (List.getElem?_eq_some_iff.mp h1).1
theorem rlts_of : ∀ (xs : List PV) (vs : List V), Reps K H ρ xs vs → rlts ρ.l.length xs
  | [], vs, _ => by unfold rlts; trivial
  | x :: xs, vs, h => by
    unfold Reps at h
    unfold rlts
    obtain ⟨v, w, e, h1, h2⟩ := h
    exact ⟨rlt_of x v h1, rlts_of xs w h2⟩
end
theorem rltK_of : ∀ (xs : List (Key × PV)) (vs : List (Key × V)), RepK K H ρ xs vs → rlts ρ.l.length (xs.map (·.2))
  | [], vs, _ => by simp [rlts]
  | x :: xs, vs, h => by
    obtain ⟨v, w, e, h1, h2⟩ := h
    rw [List.map_cons]
    unfold rlts
    exact ⟨rlt_of _ v h1, rltK_of xs w h2⟩
theorem rltF_of : ∀ (xs : List (Str × PV)) (vs : List (Str × V)), RepF K H ρ xs vs → rlts ρ.l.length (xs.map (·.2))
  | [], vs, _ => by simp [rlts]
  | x :: xs, vs, h => by
    obtain ⟨v, w, e, h1, h2⟩ := h
    rw [List.map_cons]
    unfold rlts
    exact ⟨rlt_of _ v h1, rltF_of xs w h2⟩
theorem rltO_of {so : SO} {a : Addr} (h : RepO K H ρ so a) : rltO ρ.l.length so := by
  cases so with
  | lst xs => obtain ⟨vs, h1, h2⟩ := h; exact rlts_of xs vs h2
  | dK xs => obtain ⟨vs, h1, h2⟩ := h; exact rltK_of xs vs h2
  | ins c xs => obtain ⟨C, dx, vs, hc, h1, h2⟩ := h; exact rltF_of xs vs h2
  | gone => trivial
theorem gc_to {v : PV} {u : V} (S : RepS K H ρ st) (g : Grow H ρ H' ρ') (S' : RepS K H' ρ' st') (R : Rep K H' ρ' v u) : ∃ ρ2, Grow H ρ H' ρ2 ∧ RepS K H' ρ2 (gcS st st' v) ∧ Rep K H' ρ2 v u := by
  unfold gcS
  split
  · rename_i hg
    obtain ⟨g1, g2⟩ := hg
    obtain ⟨l, e, hl⟩ := g.ext
    have hlen : st.length ≤ st'.length := by rw [← S.len, ← S'.len, e]; simp
    rw [← S.len] at g1
    refine ⟨Rho.cut ρ ρ', ⟨⟨[], by simp [Rho.cut], fun _ h => by simp at h⟩, fun b hb => List.mem_filter.mpr ⟨g.ded b hb, decide_eq_true (S.sd b hb)⟩, g.keep, g.dom, g.lck⟩, ⟨?_, S.nd, fun n so hn => ?_, fun n so a hn hng ha => ?_, fun a ha => of_decide_eq_true (List.mem_filter.mp ha).2⟩, rep_cut g v u g1 R⟩
    · show ρ.l.length = _
      rw [List.length_take, S.len]; omega
    · rw [List.getElem?_take] at hn
      split at hn
      · rename_i hi
        obtain ⟨a, h1, h2⟩ := S'.at_ n so hn
        have h1' : ρ.l[n]? = some a := by rw [e, List.getElem?_append_left (by rw [S.len]; exact hi)] at h1; exact h1
        refine ⟨a, h1', repO_cut g ?_ h2⟩
        rcases g2 n so hi hn with h3 | h3
        · obtain ⟨b, _, h5⟩ := S.at_ n so h3
          exact rltO_of h5
        · rw [S.len]; exact h3
      · cases hn
    · rw [List.getElem?_take] at hn
      split at hn
      · have ha' : ρ'.l[n]? = some a := g.ix ha
        exact fun z => S'.lv n so a hn hng ha' (List.mem_filter.mp z).1
      · cases hn
  · exact ⟨ρ', g, S', R⟩
end
noncomputable def iDef (n nN : Nat) (b : IS) : FA := fun xs st => if xs.length = n then (match b (xs.map some ++ List.replicate (nN - n) none) st with
  | some (.nx _ s) => some (.non, gcS st s .non)
  | some (.rt v s) => some (v, gcS st s v)
  | _ => none) else none
theorem ar_def {n nN : Nat} {b : IS} : Ar n (iDef n nN b) := fun xs st r h => by
  unfold iDef at h
  split at h
  · assumption
  · cases h
theorem repE_start {K : PySem.W.Frag} {H : Hp} {ρ : Rho} {xs : List PV} {vs : List V} (R : Reps K H ρ xs vs) (N : List Str) : RepE K H ρ (xs.map some ++ List.replicate (N.length - vs.length) none) (L2.start N vs) := by
  unfold L2.start
  refine ⟨by simp [R.length], fun i x h => ?_⟩
  by_cases hi : i < xs.length
  · rw [List.getElem?_append_left (by simpa using hi), List.getElem?_map] at h
    cases e : xs[i]? with
    | none => rw [e] at h; cases h
    | some y =>
      rw [e] at h
      cases h
      obtain ⟨v, hv, r⟩ := R.get e
      refine ⟨v, ?_, r⟩
      rw [List.getElem?_append_left (by simp [← R.length]; exact hi), List.getElem?_map, hv]
      rfl
  · rw [List.getElem?_append_right (by simpa using hi), List.getElem?_replicate] at h
    split at h <;> cases h
theorem hb_of {P : Program} {w : World} {K : PySem.W.Frag} {mg : Str → Option Value} {base : Heap} {x : Str} {scope : Scope} {body : List Stmt} {f : Addr} {N ps : List Str} {k : Nat} {ib : IS} {W : WX}
    (hb : ∀ (cdv : Value) (A : Around) (outer : List PySem.Env) (s : Shared) (H : Hp) (E : XK), Room k (A.deeper (envOfC x scope s.heap.objs.size f cdv)) → PSs (cxOf CX0 P w K mg base N x scope f cdv A outer s H E).nox body (tIS K W ib)) :
    ∀ (cdv : Value) (A : Around) (outer : List PySem.Env) (s : Shared) (H : Hp) (vs : List V) (Q : VK) (E : XK), Room k (A.deeper (envOfC x scope s.heap.objs.size f cdv)) → spI K ps.length (iDef ps.length N.length ib) vs H Q E →
      ∃ t, PSs (cxOf CX0 P w K mg base N x scope f cdv A outer s H E).nox body t ∧ t { nx := fun _ H' => Q .non H', rt := Q } (L2.start N vs) H :=
  fun cdv A outer s H vs Q E hr hsp => ⟨tIS K W ib, hb cdv A outer s H E hr, by
    obtain ⟨hl, s1, ρ, xs, z, st', S1, R1, h, q⟩ := hsp
    unfold iDef at h
    split at h
    · have E1 := repE_start R1 N
      rw [hl] at E1
      split at h
      · rename_i e1 s2 e
        cases h
        refine ⟨_, s1, ρ, _, E1, S1, e, fun σ' H' ρ' G S' E' => ?_⟩
        obtain ⟨ρ2, G2, S2, R2⟩ := gc_to (v := .non) (u := .non) S1 G S' (by unfold Rep; rfl)
        exact q .non H' ρ2 G2 S2 R2
      · rename_i v s2 e
        cases h
        refine ⟨_, s1, ρ, _, E1, S1, e, fun v H' ρ' G S' R' => ?_⟩
        obtain ⟨ρ2, G2, S2, R2⟩ := gc_to S1 G S' R'
        exact q v H' ρ2 G2 S2 R2
      · cases h
    · cases h⟩
theorem cal_def {P : Program} {w : World} {K : PySem.W.Frag} {mg : Str → Option Value} {base : Heap} {x : Str} {st : Stmt} {f : Addr} {fd : FuncData} {N ps : List Str} {k : Nat} {ib : IS} {W : WX} (F : C8.Def K mg x st f fd) (b : Binds K fd ps []) (S : FnScope N ps (C8.fnScope st))
    (hb : ∀ (cdv : Value) (A : Around) (outer : List PySem.Env) (s : Shared) (H : Hp) (E : XK), Room k (A.deeper (envOfC x (C8.fnScope st) s.heap.objs.size f cdv)) →
      PSs (cxOf CX0 P w K mg base N x (C8.fnScope st) f cdv A outer s H E).nox (C8.fnBody st) (tIS K W ib)) : CalI P w K mg base (k + 1) x ps.length (iDef ps.length N.length ib) :=
  C8.cal0 F b .nil S (fun vs H Q E h => h.1) (hb_of hb)
end IL

namespace IL
open PySem PySem.Spec PyProof.Rows L2

section
variable {X : Cx}
def listOf (st : Sto) : PV → Option (List PV)
  | .frz xs => some xs
  | .ref n => match st[n]? with
    | some (.lst xs) => some xs
    | _ => none
  | _ => none
theorem list_rep {K : PySem.W.Frag} {H : Hp} {ρ : Rho} {st : Sto} (S : RepS K H ρ st) {x : PV} {v : V} {xs : List PV} (R : Rep K H ρ x v) (h : listOf st x = some xs) : ∃ a vs, v = .ref a ∧ SqL K H a vs ∧ Reps K H ρ xs vs := by
  cases x with
  | frz ys =>
    unfold Rep at R
    obtain ⟨a, vs, rfl, t, r⟩ := R
    cases h
    exact ⟨a, vs, rfl, t.sq, r⟩
  | ref n =>
    unfold Rep at R
    obtain ⟨a, rfl, i1⟩ := R
    simp only [listOf] at h
    split at h
    · rename_i ys e1
      obtain ⟨b1, hb1, vs1, h1, r1⟩ := S.at_ _ _ e1
      rw [i1] at hb1; cases hb1
      cases h
      exact ⟨a, vs1, rfl, .of h1, r1⟩
    · cases h
  | _ => cases h
theorem list_add_any (l : Addr) (items : Array Value) (n : Nat) (s1 s2 : Array (Option Value)) (b : Addr) (items2 : Array Value) (n2 : Nat) (hc0 : items.size + items2.size ≤ sizeLine) :
    Meets (Builtin.«list.__add__» { pos := [Value.ref l, Value.ref b] }) fun x R s =>
      s.heap.get? l = some ⟨Value.type "list", none, Data.seq items n, s1⟩ ∧
        s.heap.get? b = some ⟨Value.type "list", none, Data.seq items2 n2, s2⟩ ∧
          R (Except.ok (Flow.ret (Value.ref s.heap.objs.size)))
            { heap := s.heap.push { cls := Value.type "list", data := Data.seq (items ++ items2) }, gens := s.gens,
              drawn := s.drawn, toks := s.toks, os := s.os } := by
  refine Meets.of_wp fun prog w A R s h => ?_
  obtain ⟨hp, g, d, tk, os⟩ := s
  obtain ⟨hl, hb, h⟩ := h
  have f3 := AutoSeq1.sub_list_list
  have hz : decide ((items ++ items2).size > sizeLine) = false := by
    rw [Array.size_append]; exact decide_eq_false (by omega)
  unfold Builtin.«list.__add__»
  refine wpAny_bind ?_
  unfold slotArgs
  refine wpAny_ite_false rfl (wpAny_ite_false rfl (wpAny_pure ?_))
  refine wpAny_bind ?_
  unfold isInstance
  refine wpAny_bind ?_
  try unfold typeOf
  refine wpAny_bind ?_
  refine AutoSeq1.wpAny_loadPart' hb (wpAny_pure ?_)
  refine wpAny_of_eq f3 ?_
  refine wpAny_ite_false rfl ?_
  refine wpAny_bind ?_
  unfold Builtin.List.listItems
  unfold seqItems?
  refine wpAny_bind ?_
  refine wpAny_bind ?_
  refine wpAny_load' hl (wpAny_pure (wpAny_pure ?_))
  refine wpAny_bind ?_
  refine wpAny_bind ?_
  refine wpAny_bind ?_
  refine wpAny_load' hb (wpAny_pure (wpAny_pure ?_))
  refine wpAny_bind ?_
  unfold newObj
  refine wpAny_ite_false hz ?_
  refine wpAny_bind ?_
  refine wpAny_alloc' (wpAny_pure (wpAny_pure ⟨_, rfl, h⟩))
def rCatS (K : PySem.W.Frag) : R2 := fun x y H Q => ∃ a b xs zs, x = .ref a ∧ y = .ref b ∧ SqL K H a xs ∧ SqL K H b zs ∧ xs.length + zs.length ≤ sizeLine ∧ ∀ p : Addr, H p = none → Q (.ref p) (upd H p (.lst (xs ++ zs)))
theorem op_catS : OpR X (binaryOp .Add) (rCatS X.K) := by
  intro pins s σ H x y v u Q I rx ry h
  obtain ⟨a, b, xs, zs, rfl, rfl, ha, hb, hz, q⟩ := h
  cases rx
  cases ry
  obtain ⟨its, r, ⟨o, n, e, k1, k2, k3⟩, hn⟩ := I.list ha
  obtain ⟨its2, r2, ⟨o2, n2, e2, k12, k22, k32⟩, hn2⟩ := I.list hb
  obtain ⟨oc, od, odd, os⟩ := o
  obtain ⟨oc2, od2, odd2, os2⟩ := o2
  simp only at k1 k2 k3 k12 k22 k32
  subst k1 k2 k3 k12 k22 k32
  refine concat_meets ⟨_, e, rfl⟩ ⟨_, e2, rfl⟩ noFill_list_add seq_list_add F.slot_list_add F.entry_list_add (F.args_list_add_2 (Value.ref a) (Value.ref b)) (list_add_any a _ n _ _ b _ n2 ?_) ⟨e, e2, ?_⟩
  · have h1 := r.length
    have h2 := r2.length
    simp only [List.size_toArray]
    omega
  · rw [List.append_toArray]
    exact ⟨.ref s.heap.objs.size, upd H s.heap.objs.size (.lst (xs ++ zs)), I.lnew (r.append r2) (by rw [List.length_append]; exact hz), rfl, q _ I.fresh⟩
/-! ### arithmetic, joining -/
def fAdd : F2 := fun x y st => match x, y with
  | .int a, .int b => some (.int (a + b), st)
  | .str a, .str b => if a.length + b.length ≤ 9000000 then some (.str (a ++ b), st) else none
  | .tup a, .tup b => if a.length + b.length ≤ 9000000 then some (.tup (a ++ b), st) else none
  | x, y => match listOf st x, listOf st y with
    | some a, some b => if a.length + b.length ≤ 9000000 then some (alloc (.lst (a ++ b)) st) else none
    | _, _ => none
def rAdd (K : PySem.W.Frag) : R2 := fun x y H Q => (rI0 (fun i j => .int (i + j)) x y H Q) ∨ (∃ i j, x = .str i ∧ y = .str j ∧ i.length + j.length ≤ sizeLine ∧ Q (.str (i ++ j)) H) ∨ rCatA K x y H Q ∨ rCatS K x y H Q
theorem op_addI : OpR X (binaryOp .Add) (rAdd X.K) := OpR.or op_add (OpR.or op_add_str (OpR.or op_catA op_catS))
theorem f_add {K : PySem.W.Frag} : OpI K (rAdd K) fAdd := by
  intro H ρ st x y vx vy z st' Q S Rx Ry h q
  unfold fAdd at h
  split at h
  · unfold Rep at Rx Ry
    subst Rx Ry
    cases h
    exact .inl ⟨_, _, rfl, rfl, q _ H ρ Grow.refl S (by unfold Rep; rfl)⟩
  · split at h
    · rename_i hl
      unfold Rep at Rx Ry
      subst Rx Ry
      cases h
      exact .inr (.inl ⟨_, _, rfl, rfl, line5 hl, q _ H ρ Grow.refl S (by unfold Rep; rfl)⟩)
    · cases h
  · rename_i a b
    split at h
    · rename_i hl
      unfold Rep at Rx Ry
      obtain ⟨p1, vs1, rfl, t1, r1⟩ := Rx
      obtain ⟨p2, vs2, rfl, t2, r2⟩ := Ry
      cases h
      refine .inr (.inr (.inl ⟨p1, p2, vs1, vs2, rfl, rfl, t1, t2, line5 (by rw [← r1.length, ← r2.length]; exact hl), fun e => ?_, fun _ e => ?_, fun _ _ p hp => ?_⟩))
      · subst e
        have : a = [] := by have := r1.length; cases a; rfl; simp at this
        subst this
        exact q _ H ρ Grow.refl S (by unfold Rep; exact ⟨p2, vs2, rfl, t2, r2⟩)
      · subst e
        have : b = [] := by have := r2.length; cases b; rfl; simp at this
        subst this
        exact q _ H ρ Grow.refl S (by unfold Rep; exact ⟨p1, vs1, rfl, t1, by rw [List.append_nil]; exact r1⟩)
      · exact q _ _ ρ (grow_new hp) (S.new hp) (new_tup S (Reps.append r1 r2) hp)
    · cases h
  · split at h
    · rename_i a b e1 e2
      split at h
      · rename_i hl
        obtain ⟨p1, vs1, rfl, h1, r1⟩ := list_rep S Rx e1
        obtain ⟨p2, vs2, rfl, h2, r2⟩ := list_rep S Ry e2
        refine .inr (.inr (.inr ⟨p1, p2, vs1, vs2, rfl, rfl, h1, h2, line5 (by rw [← r1.length, ← r2.length]; exact hl), fun p hp => ?_⟩))
        obtain ⟨a1, a2, a3⟩ := new_lst S (Reps.append r1 r2) hp
        have e := Option.some.inj h
        rw [e] at a2 a3
        exact q _ _ _ a1 a2 a3
      · cases h
    · cases h
def fInt (C : Int → Int → Bool) (g : Int → Int → Int) : F2 := fun x y st => match x, y with
  | .int a, .int b => if C a b then some (.int (g a b), st) else none
  | _, _ => none
theorem f_int {K : PySem.W.Frag} {C : Int → Int → Prop} {C' : Int → Int → Bool} {g : Int → Int → Int} (hC : ∀ a b, C' a b = true → C a b) : OpI K (rI C fun i j => .int (g i j)) (fInt C' g) := by
  intro H ρ st x y vx vy z st' Q S Rx Ry h q
  unfold fInt at h
  split at h
  · split at h
    · rename_i hc
      unfold Rep at Rx Ry
      subst Rx Ry
      cases h
      exact ⟨_, _, rfl, rfl, hC _ _ hc, q _ H ρ Grow.refl S (by unfold Rep; rfl)⟩
    · cases h
  · cases h
def fSub : F2 := fInt (fun _ _ => true) (· - ·)
theorem op_subI : OpR X (binaryOp .Sub) (rI (fun _ _ => True) fun i j => .int (i - j)) := opI fun _ _ _ _ _ _ _ _ q => sub_int q
theorem f_sub {K : PySem.W.Frag} : OpI K (rI (fun _ _ => True) fun i j => .int (i - j)) fSub := f_int fun _ _ _ => trivial
def cDiv (_ b : Int) : Bool := decide (b ≠ 0) && decide (b.natAbs < 2 ^ 64)
def fDiv : F2 := fInt cDiv Int.fdiv
theorem op_divI : OpR X (binaryOp .FloorDiv) (rI (fun _ j => j ≠ 0 ∧ j.natAbs < 2 ^ 64) fun i j => .int (i.fdiv j)) := opI fun i j _ _ _ _ _ hc q => floordiv_int hc.1 q (.inl (PyProof.noPylong_of_log2 (Nat.lt_of_lt_of_le (PySem.Flt.log2_lt_of (by decide) hc.2) (by decide))))
theorem f_div {K : PySem.W.Frag} : OpI K (rI (fun _ j => j ≠ 0 ∧ j.natAbs < 2 ^ 64) fun i j => .int (i.fdiv j)) fDiv := f_int fun a b h => by
  unfold cDiv at h
  simp only [Bool.and_eq_true, decide_eq_true_eq] at h
  exact h
def fMod : F2 := fInt (fun _ b => decide (b ≠ 0)) Int.fmod
theorem f_mod {K : PySem.W.Frag} : OpI K (rI (fun _ j => j ≠ 0) fun i j => .int (i.fmod j)) fMod := f_int fun a b h => of_decide_eq_true h
def cMul (a b : Int) : Bool := (decide (-(2 ^ 64) < a) && decide (a < 2 ^ 64)) || (decide (-(2 ^ 64) < b) && decide (b < 2 ^ 64))
theorem cMul_of {a b : Int} (h : cMul a b = true) : CMul a b := by
  unfold cMul at h
  simp only [Bool.or_eq_true, Bool.and_eq_true, decide_eq_true_eq] at h
  exact h
/-- * : ints; a text, a list, a tuple and an int from 2 to 1000 -/
def cRep (n : Nat) (k : Int) : Bool := decide (0 < n) && decide (n ≤ 1000) && decide (2 ≤ k) && decide (k ≤ 1000)
theorem cRep_of {n : Nat} {k : Int} (h : cRep n k = true) : 0 < n ∧ n ≤ 1000 ∧ 2 ≤ k ∧ k ≤ 1000 := by
  unfold cRep at h
  simp only [Bool.and_eq_true, decide_eq_true_eq] at h
  omega
def repStr (a : Str) (k : Nat) : Str := ⟨(List.replicate k a.cps.toList).flatten.toArray⟩
theorem rep_fold (c : Array Nat) : ∀ (k : Nat) (acc : Array Nat), (List.replicate k c).foldl (fun x1 x2 => x1 ++ x2) acc = acc ++ (List.replicate k c.toList).flatten.toArray
  | 0, acc => by simp
  | k + 1, acc => by
    rw [List.replicate_succ, List.foldl_cons, rep_fold c k, List.replicate_succ, List.flatten_cons]
    apply Array.ext'
    simp
theorem repStr_eq (a : Str) (k : Nat) : (⟨(List.replicate k a.cps).foldl (fun x1 x2 => x1 ++ x2) #[]⟩ : Str) = repStr a k := by
  rw [rep_fold]
  unfold repStr
  simp
theorem repStr_len (a : Str) (k : Nat) : (repStr a k).length = k * a.length := by
  unfold repStr Str.length
  simp
def fMul : F2 := fun x y st => match x, y with
  | .int a, .int b => if cMul a b then some (.int (a * b), st) else none
  | .str a, .int k => if cRep a.length k then some (.str (repStr a k.toNat), st) else none
  | .tup a, .int k => if cRep a.length k then some (.tup (List.replicate k.toNat a).flatten, st) else none
  | .ref n, .int k => match st[n]? with
    | some (.lst a) => if cRep a.length k then some (alloc (.lst (List.replicate k.toNat a).flatten) st) else none
    | _ => none
  | _, _ => none
def rMulS : R2 := fun x y H Q => ∃ a k, x = .str a ∧ y = .int k ∧ (0 < a.length ∧ a.length ≤ 1000 ∧ 2 ≤ k ∧ k ≤ 1000) ∧ Q (.str (repStr a k.toNat)) H
theorem op_mulS : OpR X (binaryOp .Mult) rMulS := by
  intro pins s σ H x y v u Q I rx ry h
  obtain ⟨a, k, rfl, rfl, ⟨h0, h1, h2, h3⟩, q⟩ := h
  obtain ⟨t, rfl⟩ := rx
  obtain ⟨t', rfl⟩ := ry
  have hs := sizeLine_eq
  have hle : a.length * k.toNat ≤ 1000 * 1000 := Nat.mul_le_mul h1 (by omega)
  have hn : (k == 1 || a.length == 0) = false := by
    rw [Bool.or_eq_false_iff]
    exact ⟨beq_eq_false_iff_ne.mpr (by omega), beq_eq_false_iff_ne.mpr (by omega)⟩
  refine PySem.P.mul_str ?_ (fun _ _ => ?_) (fun _ _ => ?_) ?_
  · rw [decide_eq_false (by omega), decide_eq_false (by omega)]; rfl
  · have h9 : (1000 : Int) ≤ (2 ^ 63 - 1) / k := by
      rw [Int.le_ediv_iff_mul_le (by omega)]
      omega
    omega
  · unfold Builtin.Str.tooLong
    simp only [decide_eq_false_iff_not]
    omega
  · rw [if_neg (by omega), if_neg (by rw [hn]; decide), repStr_eq]
    refine ⟨?_, ⟨.str _, H, I.tok _, ⟨_, rfl⟩, q⟩⟩
    have e := repStr_len a k.toNat
    rw [Nat.mul_comm] at e
    show (repStr a k.toNat).length ≤ sizeLine
    omega
def rMul (K : PySem.W.Frag) : R2 := fun x y H Q => (rI CMul fun i j => .int (i * j)) x y H Q ∨ rMulS x y H Q ∨ rRepT K x y H Q ∨ rRep x y H Q
theorem op_mulI : OpR X (binaryOp .Mult) (rMul X.K) := OpR.or op_mul (OpR.or op_mulS (OpR.or op_repT op_rep))
theorem Reps.rep {K : PySem.W.Frag} {H : Hp} {ρ : Rho} {xs : List PV} {vs : List V} (R : Reps K H ρ xs vs) : ∀ k : Nat, Reps K H ρ (List.replicate k xs).flatten (List.replicate k vs).flatten
  | 0 => by simp [Reps]
  | k + 1 => by
    rw [List.replicate_succ, List.replicate_succ, List.flatten_cons, List.flatten_cons]
    exact Reps.append R (Reps.rep R k)
theorem f_mul {K : PySem.W.Frag} : OpI K (rMul K) fMul := by
  intro H ρ st x y vx vy z st' Q S Rx Ry h q
  unfold fMul at h
  split at h
  · split at h
    · rename_i hc
      unfold Rep at Rx Ry
      subst Rx Ry
      cases h
      exact .inl ⟨_, _, rfl, rfl, cMul_of hc, q _ H ρ Grow.refl S (by unfold Rep; rfl)⟩
    · cases h
  · split at h
    · rename_i hl
      unfold Rep at Rx Ry
      subst Rx Ry
      cases h
      exact .inr (.inl ⟨_, _, rfl, rfl, cRep_of hl, q _ H ρ Grow.refl S (by unfold Rep; rfl)⟩)
    · cases h
  · rename_i a k
    split at h
    · rename_i hl
      obtain ⟨c1, c2, c3, c4⟩ := cRep_of hl
      unfold Rep at Rx Ry
      subst Ry
      obtain ⟨p1, vs1, rfl, t1, r1⟩ := Rx
      cases h
      have e := r1.length
      refine .inr (.inr (.inl ⟨p1, _, vs1, rfl, rfl, t1, (by intro z; rw [z, List.length_nil] at e; omega), c3, c4, by omega, fun p hp => ?_⟩))
      exact q _ _ ρ (grow_new hp) (S.new hp) (new_tup S (r1.rep _) hp)
    · cases h
  · rename_i n k
    split at h
    · rename_i a e1
      split at h
      · rename_i hl
        obtain ⟨c1, c2, c3, c4⟩ := cRep_of hl
        unfold Rep at Rx Ry
        subst Ry
        obtain ⟨p1, rfl, i1⟩ := Rx
        obtain ⟨b1, hb1, vs1, h1, r1⟩ := S.at_ _ _ e1
        rw [i1] at hb1; cases hb1
        have e := r1.length
        have hle : vs1.length * k.toNat ≤ 1000 * 1000 := Nat.mul_le_mul (by omega) (by omega)
        have hs := sizeLine_eq
        refine .inr (.inr (.inr ⟨p1, _, vs1, rfl, rfl, h1, by omega, by omega, by omega, fun p hp => ?_⟩))
        obtain ⟨a1, a2, a3⟩ := new_lst S (r1.rep k.toNat) hp
        have e := Option.some.inj h
        rw [e] at a2 a3
        exact q _ _ _ a1 a2 a3
      · cases h
    · cases h
  · cases h
def fNeg : F1 := fun x st => match x with
  | .int a => some (.int (-a), st)
  | _ => none
theorem f_neg {K : PySem.W.Frag} : UnI K (rU fun i => .int (-i)) fNeg := by
  intro H ρ st x vx z st' Q S Rx h q
  unfold fNeg at h
  split at h
  · unfold Rep at Rx
    subst Rx
    cases h
    exact ⟨_, rfl, q _ H ρ Grow.refl S (by unfold Rep; rfl)⟩
  · cases h

/-! ### order -/
def ltS (a b : Str) : Bool := decide (a.cps.toList < b.cps.toList)
/-- two ints or two texts: are they the same, is the first less -/
def scal2 : PV → PV → Option (Bool × Bool)
  | .int a, .int b => some (a == b, decide (a < b))
  | .str a, .str b => some (a == b, ltS a b)
  | _, _ => none
def fLt : F2 := fun x y st => match x, y with
  | .int a, .int b => some (.bl (decide (a < b)), st)
  | .str a, .str b => some (.bl (ltS a b), st)
  | .tup [a], .tup [b] => match scal2 a b with
    | some (e, l) => some (.bl (if e then false else l), st)
    | none => none
  | _, _ => none
def fLe : F2 := fun x y st => match x, y with
  | .int a, .int b => some (.bl (decide (a ≤ b)), st)
  | .str a, .str b => some (.bl (!ltS b a), st)
  | .tup [a], .tup [b] => match scal2 a b, scal2 b a with
    | some (e, _), some (_, l) => some (.bl (if e then true else !l), st)
    | _, _ => none
  | _, _ => none
def fGt : F2 := fun x y st => match x, y with
  | .int a, .int b => some (.bl (decide (b < a)), st)
  | .str a, .str b => some (.bl (ltS b a), st)
  | _, _ => none
def fGe : F2 := fun x y st => match x, y with
  | .int a, .int b => some (.bl (decide (b ≤ a)), st)
  | _, _ => none
inductive Sc2 : V → V → Bool → Bool → Prop where
  | int (a b : Int) : Sc2 (.int a) (.int b) (a == b) (decide (a < b))
  | str (a b : Str) : Sc2 (.str a) (.str b) (a == b) (ltS a b)
theorem sc2_rep {K : PySem.W.Frag} {H : Hp} {ρ : Rho} {x y : PV} {v w : V} {e l : Bool} (h : scal2 x y = some (e, l)) (Rx : Rep K H ρ x v) (Ry : Rep K H ρ y w) : Sc2 v w e l := by
  unfold scal2 at h
  split at h
  · unfold Rep at Rx Ry
    subst Rx Ry
    cases h
    exact .int _ _
  · unfold Rep at Rx Ry
    subst Rx Ry
    cases h
    exact .str _ _
  · cases h
def rLt1 (K : PySem.W.Frag) : R2 := fun x y H Q => ∃ p q v w e l, x = .ref p ∧ y = .ref q ∧ SqT K H p [v] ∧ SqT K H q [w] ∧ Sc2 v w e l ∧ Q (.bl (if e then false else l)) H
def rLe1 (K : PySem.W.Frag) : R2 := fun x y H Q => ∃ p q v w e l e', x = .ref p ∧ y = .ref q ∧ SqT K H p [v] ∧ SqT K H q [w] ∧ Sc2 v w e e' ∧ (∃ e2, Sc2 w v e2 l) ∧ Q (.bl (if e then true else !l)) H
theorem Sc2.flat {v w : V} {e l : Bool} (h : Sc2 v w e l) : flatV v = true ∧ flatV w = true ∧ eqV v w = e := by
  cases h
  · exact ⟨rfl, rfl, rfl⟩
  · exact ⟨rfl, rfl, rfl⟩
theorem op_lt1 (hu : X.A.units < cLine) : OpR X (compareOp .Lt) (rLt1 X.K) := by
  intro pins s σ H x y v u Q I rx ry h
  obtain ⟨p, q, v1, w1, e, l, rfl, rfl, ha, hb, sc, hq⟩ := h
  cases rx
  cases ry
  obtain ⟨its, r1, p1, _⟩ := I.tuple ha
  obtain ⟨its2, r2, p2, _⟩ := I.tuple hb
  obtain ⟨u1, rfl, ru⟩ := vals1 r1
  obtain ⟨u2, rfl, rw2⟩ := vals1 r2
  obtain ⟨f1, f2, fe⟩ := sc.flat
  have R := Ob.RcOp.tuples_lt (A := X.A) (s := s) (e := fun _ => e) (r := fun _ => l) p1 p2 hu (fun j h1 h2 => by
    have hj : j = 0 := by simp at h1; omega
    subst hj
    show SeqAt.EqAt _ _ u1 u2 e
    rw [← fe]
    exact eqAt_V ru rw2 f1 f2) (fun j h1 h2 _ => by
    have hj : j = 0 := by simp at h1; omega
    subst hj
    show Ob.RcOp .Lt _ _ u1 u2 l
    cases sc with
    | int a b =>
      obtain ⟨t, rfl⟩ := ru
      obtain ⟨t', rfl⟩ := rw2
      exact Ob.RcOp.lt_int a b t t'
    | str a b =>
      obtain ⟨t, rfl⟩ := ru
      obtain ⟨t', rfl⟩ := rw2
      exact fun prog w E Q h => PyProof.Rows.lt_str h)
  refine R X.prog X.w _ _ ?_
  have z : Ob.lexAt (fun _ => e) (fun _ => l) (decide ([u1].toArray.size < [u2].toArray.size)) 0 (min [u1].toArray.size [u2].toArray.size) = (if e then false else l) := by
    show Ob.lexAt (fun _ => e) (fun _ => l) (decide (1 < 1)) 0 1 = _
    rw [Ob.lexAt_succ, Ob.lexAt_zero]
    cases e <;> rfl
  rw [z]
  exact ⟨.bl _, H, I, rfl, hq⟩
theorem op_le1 (hu : X.A.units < cLine) : OpR X (compareOp .LtE) (rLe1 X.K) := by
  intro pins s σ H x y v u Q I rx ry h
  obtain ⟨p, q, v1, w1, e, l, e', rfl, rfl, ha, hb, sc, ⟨e2, sc2⟩, hq⟩ := h
  cases rx
  cases ry
  obtain ⟨its, r1, p1, _⟩ := I.tuple ha
  obtain ⟨its2, r2, p2, _⟩ := I.tuple hb
  obtain ⟨u1, rfl, ru⟩ := vals1 r1
  obtain ⟨u2, rfl, rw2⟩ := vals1 r2
  obtain ⟨f1, f2, fe⟩ := sc.flat
  have R := Ob.RcOp.tuples_le (A := X.A) (s := s) (e := fun _ => e) (r := fun _ => !l) p1 p2 hu (fun j h1 h2 => by
    have hj : j = 0 := by simp at h1; omega
    subst hj
    show SeqAt.EqAt _ _ u1 u2 e
    rw [← fe]
    exact eqAt_V ru rw2 f1 f2) (fun j h1 h2 _ => by
    have hj : j = 0 := by simp at h1; omega
    subst hj
    show Ob.RcOp .LtE _ _ u1 u2 (!l)
    cases sc2 with
    | int a b =>
      obtain ⟨t, rfl⟩ := ru
      obtain ⟨t', rfl⟩ := rw2
      have := Ob.RcOp.le_int (A := X.A.in1) (s := s) b a t t'
      have ez : decide (b ≤ a) = !decide (a < b) := by
        by_cases hz : a < b
        · rw [decide_eq_true hz, decide_eq_false (by omega)]; rfl
        · rw [decide_eq_false hz, decide_eq_true (by omega)]; rfl
      rw [← ez]
      exact this
    | str a b =>
      obtain ⟨t, rfl⟩ := ru
      obtain ⟨t', rfl⟩ := rw2
      exact fun prog w E Q h => PySem.P.le_str h)
  refine R X.prog X.w _ _ ?_
  have z : Ob.lexAt (fun _ => e) (fun _ => !l) (decide ([u1].toArray.size ≤ [u2].toArray.size)) 0 (min [u1].toArray.size [u2].toArray.size) = (if e then true else !l) := by
    show Ob.lexAt (fun _ => e) (fun _ => !l) (decide (1 ≤ 1)) 0 1 = _
    rw [Ob.lexAt_succ, Ob.lexAt_zero]
    cases e <;> rfl
  rw [z]
  exact ⟨.bl _, H, I, rfl, hq⟩
def rSt (g : Str → Str → Bool) : R2 := fun x y H Q => ∃ i j, x = .str i ∧ y = .str j ∧ Q (.bl (g i j)) H
def rLtA (K : PySem.W.Frag) : R2 := fun x y H Q => (rI0 fun i j => .bl (decide (i < j))) x y H Q ∨ rSt ltS x y H Q ∨ rLt1 K x y H Q
def rLeA (K : PySem.W.Frag) : R2 := fun x y H Q => (rI0 fun i j => .bl (decide (i ≤ j))) x y H Q ∨ rSt (fun i j => !ltS j i) x y H Q ∨ rLe1 K x y H Q
def rGtA : R2 := fun x y H Q => (rI0 fun i j => .bl (decide (j < i))) x y H Q ∨ rSt (fun i j => ltS j i) x y H Q
theorem op_ltA (hu : X.A.units < cLine) : OpR X (compareOp .Lt) (rLtA X.K) := OpR.or op_lt (OpR.or op_lt_str (op_lt1 hu))
theorem op_leA (hu : X.A.units < cLine) : OpR X (compareOp .LtE) (rLeA X.K) := OpR.or op_le (OpR.or op_le_str (op_le1 hu))
theorem op_gtA : OpR X (compareOp .Gt) rGtA := OpR.or op_gt op_gt_str
theorem one_rep {K : PySem.W.Frag} {H : Hp} {ρ : Rho} {x : PV} {v : V} (R : Rep K H ρ (.tup [x]) v) : ∃ p w, v = .ref p ∧ SqT K H p [w] ∧ Rep K H ρ x w := by
  unfold Rep at R
  obtain ⟨p, vs, rfl, t, r⟩ := R
  unfold Reps at r
  obtain ⟨w, r, rfl, r1, r2⟩ := r
  unfold Reps at r2
  subst r2
  exact ⟨p, w, rfl, t, r1⟩
theorem f_lt {K : PySem.W.Frag} : OpI K (rLtA K) fLt := by
  intro H ρ st x y vx vy z st' Q S Rx Ry h q
  unfold fLt at h
  split at h
  · unfold Rep at Rx Ry
    subst Rx Ry
    cases h
    exact .inl ⟨_, _, rfl, rfl, q _ H ρ Grow.refl S (by unfold Rep; rfl)⟩
  · unfold Rep at Rx Ry
    subst Rx Ry
    cases h
    exact .inr (.inl ⟨_, _, rfl, rfl, q _ H ρ Grow.refl S (by unfold Rep; rfl)⟩)
  · split at h
    · rename_i e l hs
      cases h
      obtain ⟨p1, w1, rfl, t1, r1⟩ := one_rep Rx
      obtain ⟨p2, w2, rfl, t2, r2⟩ := one_rep Ry
      exact .inr (.inr ⟨p1, p2, w1, w2, e, l, rfl, rfl, t1, t2, sc2_rep hs r1 r2, q _ H ρ Grow.refl S (by unfold Rep; rfl)⟩)
    · cases h
  · cases h
theorem f_le {K : PySem.W.Frag} : OpI K (rLeA K) fLe := by
  intro H ρ st x y vx vy z st' Q S Rx Ry h q
  unfold fLe at h
  split at h
  · unfold Rep at Rx Ry
    subst Rx Ry
    cases h
    exact .inl ⟨_, _, rfl, rfl, q _ H ρ Grow.refl S (by unfold Rep; rfl)⟩
  · unfold Rep at Rx Ry
    subst Rx Ry
    cases h
    exact .inr (.inl ⟨_, _, rfl, rfl, q _ H ρ Grow.refl S (by unfold Rep; rfl)⟩)
  · split at h
    · rename_i e e' e2 l hs hs2
      cases h
      obtain ⟨p1, w1, rfl, t1, r1⟩ := one_rep Rx
      obtain ⟨p2, w2, rfl, t2, r2⟩ := one_rep Ry
      exact .inr (.inr ⟨p1, p2, w1, w2, e, l, e', rfl, rfl, t1, t2, sc2_rep hs r1 r2, ⟨_, sc2_rep hs2 r2 r1⟩, q _ H ρ Grow.refl S (by unfold Rep; rfl)⟩)
    · cases h
  · cases h
theorem f_gt {K : PySem.W.Frag} : OpI K rGtA fGt := by
  intro H ρ st x y vx vy z st' Q S Rx Ry h q
  unfold fGt at h
  split at h
  · unfold Rep at Rx Ry
    subst Rx Ry
    cases h
    exact .inl ⟨_, _, rfl, rfl, q _ H ρ Grow.refl S (by unfold Rep; rfl)⟩
  · unfold Rep at Rx Ry
    subst Rx Ry
    cases h
    exact .inr ⟨_, _, rfl, rfl, q _ H ρ Grow.refl S (by unfold Rep; rfl)⟩
  · cases h
theorem f_ge {K : PySem.W.Frag} : OpI K (rI0 fun i j => .bl (decide (j ≤ i))) fGe := by
  intro H ρ st x y vx vy z st' Q S Rx Ry h q
  unfold fGe at h
  split at h
  · unfold Rep at Rx Ry
    subst Rx Ry
    cases h
    exact ⟨_, _, rfl, rfl, q _ H ρ Grow.refl S (by unfold Rep; rfl)⟩
  · cases h

/-! ### == of data -/
def mapO {α β : Type} (f : α → Option β) : List α → Option (List β)
  | [] => some []
  | x :: xs => match f x, mapO f xs with
    | some y, some ys => some (y :: ys)
    | _, _ => none
def toD (st : Sto) : Nat → PV → Option PyData
  | 0, _ => none
  | f + 1, x => match x with
    | .non => some .none
    | .bl b => some (.bool b)
    | .int i => some (.int i)
    | .str y => some (.str y)
    | .tup xs => (mapO (toD st f) xs).map .tuple
    | .frz xs => (mapO (toD st f) xs).map .list
    | .ref n => match st[n]? with
      | some (.lst xs) => (mapO (toD st f) xs).map .list
      | _ => none
    | .ty _ => none
    | .fdk _ _ => none
theorem mapO_dp {K : PySem.W.Frag} {H : Hp} {ρ : Rho} {f : PV → Option PyData} (hf : ∀ x v d, Rep K H ρ x v → f x = some d → Dp K H v d) : ∀ {xs : List PV} {vs : List V} {ds : List PyData}, Reps K H ρ xs vs → mapO f xs = some ds → DpAll K H vs ds
  | [], vs, ds, R, h => by
    unfold Reps at R
    subst R
    cases h
    exact .nil
  | x :: xs, vs, ds, R, h => by
    unfold Reps at R
    obtain ⟨v, r, rfl, r1, r2⟩ := R
    unfold mapO at h
    split at h
    · rename_i e1 e2
      cases h
      exact .cons (hf _ _ _ r1 e1) (mapO_dp hf r2 e2)
    · cases h
theorem map_some {α β : Type} {o : Option α} {g : α → β} {r : β} (h : o.map g = some r) : ∃ a, o = some a ∧ g a = r := by
  cases o with
  | none => cases h
  | some a => cases h; exact ⟨a, rfl, rfl⟩
theorem toD_dp {K : PySem.W.Frag} {H : Hp} {ρ : Rho} {st : Sto} (S : RepS K H ρ st) : ∀ (f : Nat) (x : PV) (v : V) (d : PyData), Rep K H ρ x v → toD st f x = some d → Dp K H v d
  | 0, _, _, _, _, h => by cases h
  | f + 1, x, v, d, R, h => by
    cases x with
    | non => unfold Rep at R; subst R; cases h; exact .non
    | bl b => unfold Rep at R; subst R; cases h; exact .bl b
    | int i => unfold Rep at R; subst R; cases h; exact .int i
    | str y => unfold Rep at R; subst R; cases h; exact .str y
    | ty n => cases h
    | fdk ks xs => cases h
    | tup xs =>
      unfold Rep at R
      obtain ⟨a, vs, rfl, t, r⟩ := R
      obtain ⟨ds, e, rfl⟩ := map_some (show (mapO (toD st f) xs).map .tuple = some d from h)
      exact .tup t (mapO_dp (toD_dp S f) r e)
    | frz xs =>
      unfold Rep at R
      obtain ⟨a, vs, rfl, t, r⟩ := R
      obtain ⟨ds, e, rfl⟩ := map_some (show (mapO (toD st f) xs).map .list = some d from h)
      exact .lst t.sq (mapO_dp (toD_dp S f) r e)
    | ref n =>
      simp only [toD] at h
      split at h
      · rename_i xs e1
        obtain ⟨a, vs1, rfl, i1, ndd, h1, r1⟩ := S.lst R e1
        obtain ⟨ds, e, rfl⟩ := map_some h
        exact .lst (.of h1) (mapO_dp (toD_dp S f) r1 e)
      · cases h
def eqP (st : Sto) (x y : PV) : Option Bool := match toD st 70 x, toD st 70 y with
  | some d, some e => if SeqAt.shaped d && SeqAt.shaped e then some (PyData.eqv d e) else none
  | _, _ => none
def fEq : F2 := fun x y st => (eqP st x y).map fun b => (.bl b, st)
def fNe : F2 := fun x y st => (eqP st x y).map fun b => (.bl (!b), st)
theorem eqP_dp {K : PySem.W.Frag} {H : Hp} {ρ : Rho} {st : Sto} (S : RepS K H ρ st) {x y : PV} {v w : V} {b : Bool} (Rx : Rep K H ρ x v) (Ry : Rep K H ρ y w) (h : eqP st x y = some b) :
    ∃ d e, Dp K H v d ∧ Dp K H w e ∧ SeqAt.shaped d = true ∧ SeqAt.shaped e = true ∧ PyData.eqv d e = b := by
  unfold eqP at h
  split at h
  · rename_i d e e1 e2
    split at h
    · rename_i hs
      rw [Bool.and_eq_true] at hs
      cases h
      exact ⟨d, e, toD_dp S _ _ _ _ Rx e1, toD_dp S _ _ _ _ Ry e2, hs.1, hs.2, rfl⟩
    · cases h
  · cases h
theorem f_eq {K : PySem.W.Frag} : OpI K (rEqD K) fEq := by
  intro H ρ st x y vx vy z st' Q S Rx Ry h q
  obtain ⟨b, e0, hz⟩ := map_some h
  cases hz
  obtain ⟨d, e, h1, h2, h3, h4, rfl⟩ := eqP_dp S Rx Ry e0
  exact ⟨d, e, h1, h2, h3, h4, q _ H ρ Grow.refl S (by unfold Rep; rfl)⟩
theorem f_ne {K : PySem.W.Frag} : OpI K (rNeD K) fNe := by
  intro H ρ st x y vx vy z st' Q S Rx Ry h q
  obtain ⟨b, e0, hz⟩ := map_some h
  cases hz
  obtain ⟨d, e, h1, h2, h3, h4, rfl⟩ := eqP_dp S Rx Ry e0
  exact ⟨d, e, h1, h2, h3, h4, q _ H ρ Grow.refl S (by unfold Rep; rfl)⟩

/-! ### is -/
def isNone : PV → Bool
  | .non => true
  | _ => false
def isBool (b : Bool) : PV → Bool
  | .bl c => c == b
  | _ => false
def fIs : F2 := fun x y st => match y with
  | .non => some (.bl (isNone x), st)
  | .bl b => some (.bl (isBool b x), st)
  | _ => none
def fIsNot : F2 := fun x y st => match y with
  | .non => some (.bl (!isNone x), st)
  | .bl b => some (.bl (!isBool b x), st)
  | _ => none
theorem isNone_rep {K : PySem.W.Frag} {H : Hp} {ρ : Rho} {x : PV} {v : V} (R : Rep K H ρ x v) : decide (v = .non) = isNone x := by
  cases x <;> unfold Rep at R <;> first | (subst R; simp [isNone]) | (obtain ⟨a, vs, rfl, _⟩ := R; simp [isNone]) | (obtain ⟨a, rfl, _⟩ := R; simp [isNone])
theorem isBool_rep {K : PySem.W.Frag} {H : Hp} {ρ : Rho} {x : PV} {v : V} {b : Bool} (R : Rep K H ρ x v) : decide (v = .bl b) = isBool b x := by
  cases x <;> unfold Rep at R <;> first | (subst R; simp [isBool]; done) | (obtain ⟨a, vs, rfl, _⟩ := R; simp [isBool]; done) | (obtain ⟨a, rfl, _⟩ := R; simp [isBool]; done) | skip
  · subst R
    rename_i c
    cases b <;> cases c <;> rfl
def rIsB1 : R2 := fun x y H Q => ∃ b : Bool, y = .bl b ∧ Q (.bl (decide (x = .bl b))) H
def rIsNotB1 : R2 := fun x y H Q => ∃ b : Bool, y = .bl b ∧ Q (.bl (!decide (x = .bl b))) H
theorem relV_bool {x : V} {v : Value} {b : Bool} (r : RelV x v) : (v == Value.bool b) = decide (x = .bl b) := by
  cases x with
  | bl c => cases r; cases b <;> cases c <;> rfl
  | non => cases r; rfl
  | int _ => obtain ⟨t, rfl⟩ := r; rfl
  | str _ => obtain ⟨t, rfl⟩ := r; rfl
  | byt _ => obtain ⟨t, rfl⟩ := r; rfl
  | flt _ => obtain ⟨t, rfl⟩ := r; rfl
  | ref _ => cases r; rfl
  | ty _ => cases r; rfl
theorem op_isB1 : OpR X (compareOp .Is) rIsB1 := by
  intro pins s σ H x y v u Q I rx ry h
  obtain ⟨b, rfl, q⟩ := h
  cases (show u = Value.bool b from ry)
  have g : EP X pins σ Q (.bool (v == Value.bool b)) s := ⟨.bl _, H, I, by rw [relV_bool rx]; rfl, q⟩
  cases x <;> first | (cases rx; exact wpAny_pure g) | (obtain ⟨t, rfl⟩ := rx; exact wpAny_pure g)
theorem op_isNotB1 : OpR X (compareOp .IsNot) rIsNotB1 := by
  intro pins s σ H x y v u Q I rx ry h
  obtain ⟨b, rfl, q⟩ := h
  cases (show u = Value.bool b from ry)
  have g : EP X pins σ Q (.bool (!(v == Value.bool b))) s := ⟨.bl _, H, I, by rw [relV_bool rx]; rfl, q⟩
  cases x <;> first | (cases rx; exact wpAny_pure g) | (obtain ⟨t, rfl⟩ := rx; exact wpAny_pure g)
def rIsA : R2 := fun x y H Q => (y = .non ∧ Q (.bl (decide (x = .non))) H) ∨ rIsB1 x y H Q
def rIsNotA : R2 := fun x y H Q => (y = .non ∧ Q (.bl (!decide (x = .non))) H) ∨ rIsNotB1 x y H Q
theorem op_isA : OpR X (compareOp .Is) rIsA := OpR.or op_isN op_isB1
theorem op_isNotA : OpR X (compareOp .IsNot) rIsNotA := OpR.or op_notN op_isNotB1
theorem f_is {K : PySem.W.Frag} : OpI K rIsA fIs := by
  intro H ρ st x y vx vy z st' Q S Rx Ry h q
  unfold fIs at h
  split at h
  · unfold Rep at Ry
    subst Ry
    cases h
    exact .inl ⟨rfl, q _ H ρ Grow.refl S (by unfold Rep; rw [isNone_rep Rx])⟩
  · unfold Rep at Ry
    subst Ry
    cases h
    exact .inr ⟨_, rfl, q _ H ρ Grow.refl S (by unfold Rep; rw [isBool_rep Rx])⟩
  · cases h
theorem f_isNot {K : PySem.W.Frag} : OpI K rIsNotA fIsNot := by
  intro H ρ st x y vx vy z st' Q S Rx Ry h q
  unfold fIsNot at h
  split at h
  · unfold Rep at Ry
    subst Ry
    cases h
    exact .inl ⟨rfl, q _ H ρ Grow.refl S (by unfold Rep; rw [isNone_rep Rx])⟩
  · unfold Rep at Ry
    subst Ry
    cases h
    exact .inr ⟨_, rfl, q _ H ρ Grow.refl S (by unfold Rep; rw [isBool_rep Rx])⟩
  · cases h

/-! ### in a list, a tuple of flat things -/
def flatP : PV → Option V
  | .non => some .non
  | .bl b => some (.bl b)
  | .int i => some (.int i)
  | .str x => some (.str x)
  | _ => none
theorem flatP_rep {K : PySem.W.Frag} {H : Hp} {ρ : Rho} {x : PV} {v w : V} (R : Rep K H ρ x v) (h : flatP x = some w) : v = w ∧ flatV w = true := by
  cases x <;> simp only [flatP, Option.some.injEq, reduceCtorEq] at h <;> (unfold Rep at R; subst R; subst h; exact ⟨rfl, rfl⟩)
theorem flatP_reps {K : PySem.W.Frag} {H : Hp} {ρ : Rho} : ∀ {xs : List PV} {vs ws : List V}, Reps K H ρ xs vs → mapO flatP xs = some ws → vs = ws ∧ ws.all flatV = true
  | [], vs, ws, R, h => by
    unfold Reps at R
    subst R
    cases h
    exact ⟨rfl, rfl⟩
  | x :: xs, vs, ws, R, h => by
    unfold Reps at R
    obtain ⟨v, r, rfl, r1, r2⟩ := R
    unfold mapO at h
    split at h
    · rename_i e1 e2
      cases h
      obtain ⟨rfl, f1⟩ := flatP_rep r1 e1
      obtain ⟨rfl, f2⟩ := flatP_reps r2 e2
      exact ⟨rfl, by rw [List.all_cons, f1, f2]; rfl⟩
    · cases h
def itemsOf (st : Sto) : PV → Option (List PV)
  | .tup xs => some xs
  | .frz xs => some xs
  | .ref n => match st[n]? with
    | some (.lst xs) => some xs
    | _ => none
  | _ => none
theorem items_rep {K : PySem.W.Frag} {H : Hp} {ρ : Rho} {st : Sto} (S : RepS K H ρ st) {x : PV} {v : V} {xs : List PV} (R : Rep K H ρ x v) (h : itemsOf st x = some xs) : ∃ a vs, v = .ref a ∧ (SqL K H a vs ∨ SqT K H a vs) ∧ Reps K H ρ xs vs := by
  cases x with
  | tup ys =>
    unfold Rep at R
    obtain ⟨a, vs, rfl, t, r⟩ := R
    cases h
    exact ⟨a, vs, rfl, .inr t, r⟩
  | frz ys =>
    unfold Rep at R
    obtain ⟨a, vs, rfl, t, r⟩ := R
    cases h
    exact ⟨a, vs, rfl, .inl t.sq, r⟩
  | ref n =>
    unfold Rep at R
    obtain ⟨a, rfl, i1⟩ := R
    simp only [itemsOf] at h
    split at h
    · rename_i ys e1
      obtain ⟨b1, hb1, vs1, h1, r1⟩ := S.at_ _ _ e1
      rw [i1] at hb1; cases hb1
      cases h
      exact ⟨a, vs1, rfl, .inl (.of h1), r1⟩
    · cases h
  | _ => cases h
def inP (st : Sto) (x y : PV) : Option Bool := match flatP x, itemsOf st y with
  | some v, some ys => (mapO flatP ys).map fun ws => inV v ws
  | _, _ => none
def fIn : F2 := fun x y st => (inP st x y).map fun b => (.bl b, st)
def fNotIn : F2 := fun x y st => (inP st x y).map fun b => (.bl (!b), st)
theorem inP_rep {K : PySem.W.Frag} {H : Hp} {ρ : Rho} {st : Sto} (S : RepS K H ρ st) {x y : PV} {v w : V} {b : Bool} (Rx : Rep K H ρ x v) (Ry : Rep K H ρ y w) (h : inP st x y = some b) :
    ∃ p xs, w = .ref p ∧ (SqL K H p xs ∨ SqT K H p xs) ∧ flatV v = true ∧ xs.all flatV = true ∧ inV v xs = b := by
  unfold inP at h
  split at h
  · rename_i e1 e2
    obtain ⟨ws, e3, rfl⟩ := map_some h
    obtain ⟨rfl, f1⟩ := flatP_rep Rx e1
    obtain ⟨a, vs, rfl, t, r⟩ := items_rep S Ry e2
    obtain ⟨rfl, f2⟩ := flatP_reps r e3
    exact ⟨a, vs, rfl, t, f1, f2, rfl⟩
  · cases h
theorem f_in {K : PySem.W.Frag} : OpI K (rIn K false) fIn := by
  intro H ρ st x y vx vy z st' Q S Rx Ry h q
  obtain ⟨b, e, hz⟩ := map_some h
  cases hz
  obtain ⟨p, xs, h1, h2, h3, h4, rfl⟩ := inP_rep S Rx Ry e
  exact ⟨p, xs, h1, h2, h3, h4, q _ H ρ Grow.refl S (by unfold Rep; rfl)⟩
theorem f_notIn {K : PySem.W.Frag} : OpI K (rIn K true) fNotIn := by
  intro H ρ st x y vx vy z st' Q S Rx Ry h q
  obtain ⟨b, e, hz⟩ := map_some h
  cases hz
  obtain ⟨p, xs, h1, h2, h3, h4, rfl⟩ := inP_rep S Rx Ry e
  exact ⟨p, xs, h1, h2, h3, h4, q _ H ρ Grow.refl S (by unfold Rep; rfl)⟩

/-! ### subscripts -/
def fIx : F2 := fun x y st => match y with
  | .int i => match x with
    | .str z => if z.length ≤ 9000000 then (atI z.cps.toList i).map fun c => (.str ⟨#[c]⟩, st) else none
    | _ => match itemsOf st x with
      | some xs => (atI xs i).map fun v => (v, st)
      | none => none
  | _ => none
theorem atI_rep {K : PySem.W.Frag} {H : Hp} {ρ : Rho} {xs : List PV} {vs : List V} {i : Int} {x : PV} (R : Reps K H ρ xs vs) (h : atI xs i = some x) : ∃ v, atI vs i = some v ∧ Rep K H ρ x v := by
  unfold atI at h ⊢
  rw [← R.length]
  cases e : ixN xs.length i with
  | none => rw [e] at h; cases h
  | some j =>
    rw [e] at h
    exact R.get h
def rIxA (K : PySem.W.Frag) : R2 := fun x y H Q => rIxL K x y H Q ∨ rIxT K x y H Q ∨ rIxS x y H Q
theorem ix_any : IxR X (rIxA X.K) := ix_list.or (ix_tup.or ix_str)
theorem f_ix {K : PySem.W.Frag} : OpI K (rIxA K) fIx := by
  intro H ρ st x y vx vy z st' Q S Rx Ry h q
  unfold fIx at h
  split at h
  · rename_i i
    unfold Rep at Ry
    subst Ry
    split at h
    · rename_i w
      split at h
      · rename_i hl
        obtain ⟨c, e, hz⟩ := map_some h
        cases hz
        unfold Rep at Rx
        subst Rx
        exact .inr (.inr ⟨_, _, c, rfl, rfl, line5 hl, e, q _ H ρ Grow.refl S (by unfold Rep; rfl)⟩)
      · cases h
    · split at h
      · rename_i xs e1
        obtain ⟨w, e, hz⟩ := map_some h
        cases hz
        obtain ⟨a, vs, rfl, t, r⟩ := items_rep S Rx e1
        obtain ⟨v, hv, rv⟩ := atI_rep r e
        rcases t with t | t
        · exact .inl ⟨a, vs, i, v, rfl, rfl, t, hv, q _ H ρ Grow.refl S rv⟩
        · exact .inr (.inl ⟨a, vs, i, v, rfl, rfl, t, hv, q _ H ρ Grow.refl S rv⟩)
      · cases h
  · cases h
/-! ### slices -/
def cutP (xs : List PV) (lo hi : Option Int) : List PV := (xs.drop (HT.sIx xs.length 0 lo)).take (HT.sIx xs.length xs.length hi - HT.sIx xs.length 0 lo)
def fSl : FSl := fun x lo hi st => match x with
  | .str z => if z.length ≤ 9000000 then some (.str (cutS z lo hi), st) else none
  | .tup xs => some (.tup (cutP xs lo hi), st)
  | _ => match listOf st x with
    | some xs => some (alloc (.lst (cutP xs lo hi)) st)
    | none => none
def rSlAny (K : PySem.W.Frag) : V → Option Int → Option Int → Hp → VK → Prop := fun x lo hi H Q => rSlL K x lo hi H Q ∨ rSlA K x lo hi H Q ∨ rSlS x lo hi H Q
theorem sl_any : SlR X (rSlAny X.K) := SlR.or sl_list (SlR.or sl_tupA sl_str)
theorem cut_rep {K : PySem.W.Frag} {H : Hp} {ρ : Rho} {xs : List PV} {vs : List V} {lo hi : Option Int} (R : Reps K H ρ xs vs) : Reps K H ρ (cutP xs lo hi) (cutV vs lo hi) := by
  unfold cutP cutV
  rw [R.length]
  exact Reps.take _ (Reps.drop _ R)
theorem f_sl {K : PySem.W.Frag} : SlI K (rSlAny K) fSl := by
  intro H ρ st x vx lo hi z st' Q S Rx h q
  unfold fSl at h
  split at h
  · rename_i w
    split at h
    · rename_i hl
      cases h
      unfold Rep at Rx
      subst Rx
      exact .inr (.inr ⟨_, rfl, line5 hl, q _ H ρ Grow.refl S (by unfold Rep; rfl)⟩)
    · cases h
  · rename_i xs
    cases h
    unfold Rep at Rx
    obtain ⟨a, vs, rfl, t, r⟩ := Rx
    refine .inr (.inl ⟨a, vs, rfl, t, fun ⟨e1, e2⟩ => ?_, fun _ p hp => ?_⟩)
    · have e : cutP xs lo hi = xs := by
        unfold cutP
        rw [r.length, e1, e2, List.drop_zero, Nat.sub_zero, ← r.length, List.take_length]
      rw [e] at q
      exact q _ H ρ Grow.refl S (by unfold Rep; exact ⟨a, vs, rfl, t, r⟩)
    · exact q _ _ ρ (grow_new hp) (S.new hp) (new_tup S (cut_rep r) hp)
  · rename_i n1 n2
    split at h
    · rename_i xs e1
      obtain ⟨a, vs, rfl, t, r⟩ := list_rep S Rx e1
      refine .inl ⟨a, vs, rfl, t, fun p hp => ?_⟩
      obtain ⟨a1, a2, a3⟩ := new_lst S (cut_rep (lo := lo) (hi := hi) r) hp
      have e := Option.some.inj h
      rw [e] at a2 a3
      exact q _ _ _ a1 a2 a3
    · cases h
end
end IL

namespace IL
open PySem PySem.Spec PyProof.Rows L2

section
variable {X : Cx}
theorem one_arg {K : PySem.W.Frag} {H : Hp} {ρ : Rho} {x : PV} {vs : List V} (R : Reps K H ρ [x] vs) : ∃ v, vs = [v] ∧ Rep K H ρ x v := by
  unfold Reps at R
  obtain ⟨v, r, rfl, r1, r2⟩ := R
  unfold Reps at r2
  subst r2
  exact ⟨v, rfl, r1⟩
theorem two_args {K : PySem.W.Frag} {H : Hp} {ρ : Rho} {x y : PV} {vs : List V} (R : Reps K H ρ [x, y] vs) : ∃ v w, vs = [v, w] ∧ Rep K H ρ x v ∧ Rep K H ρ y w := by
  unfold Reps at R
  obtain ⟨v, r, rfl, r1, r2⟩ := R
  obtain ⟨w, rfl, r3⟩ := one_arg r2
  exact ⟨v, w, rfl, r1, r3⟩
/-- a function of one value -/
def a1 (f : F1) : FA := fun xs st => match xs with
  | [x] => f x st
  | _ => none
def a2 (f : F2) : FA := fun xs st => match xs with
  | [x, y] => f x y st
  | _ => none
theorem call1 {K : PySem.W.Frag} {r : List V → Hp → VK → Prop} {f : F1} (hf : ∀ H ρ st x vx z st' (Q : VK), RepS K H ρ st → Rep K H ρ x vx → f x st = some (z, st') → (∀ v H' ρ', Grow H ρ H' ρ' → RepS K H' ρ' st' → Rep K H' ρ' z v → Q v H') → r [vx] H Q) : CallI K r (a1 f) := by
  intro H ρ st xs vs z st' Q S R h q
  unfold a1 at h
  split at h
  · obtain ⟨v, rfl, r1⟩ := one_arg R
    exact hf H ρ st _ v z st' Q S r1 h q
  · cases h
theorem call2 {K : PySem.W.Frag} {r : List V → Hp → VK → Prop} {f : F2} (hf : ∀ H ρ st x y vx vy z st' (Q : VK), RepS K H ρ st → Rep K H ρ x vx → Rep K H ρ y vy → f x y st = some (z, st') → (∀ v H' ρ', Grow H ρ H' ρ' → RepS K H' ρ' st' → Rep K H' ρ' z v → Q v H') → r [vx, vy] H Q) : CallI K r (a2 f) := by
  intro H ρ st xs vs z st' Q S R h q
  unfold a2 at h
  split at h
  · obtain ⟨v, w, rfl, r1, r2⟩ := two_args R
    exact hf H ρ st _ _ v w z st' Q S r1 r2 h q
  · cases h
/-- len -/
def lenP (st : Sto) : PV → Option Nat
  | .str x => if x.length ≤ 9000000 then some x.length else none
  | .tup xs => some xs.length
  | .frz xs => some xs.length
  | .ref n => match st[n]? with
    | some (.lst xs) => some xs.length
    | some (.dK kvs) => some kvs.length
    | _ => none
  | _ => none
def fLen : F1 := fun x st => (lenP st x).map fun n : Nat => (.int (n : Int), st)
def rLenA (K : PySem.W.Frag) : List V → Hp → VK → Prop := fun xs H Q => (∃ x n, xs = [x] ∧ LenV K x H n ∧ Q (.int n) H) ∨ ∃ (p : Addr) (kvs : List (Key × V)), xs = [.ref p] ∧ H p = some (.dK kvs) ∧ Q (.int ((kvs.length : Nat) : Int)) H
theorem cr_len : CallR X (.builtin "len") (rLenA X.K) := CallR.or call_len call_lenD
theorem f_len {K : PySem.W.Frag} : CallI K (rLenA K) (a1 fLen) := call1 fun H ρ st x vx z st' Q S R h q => by
  obtain ⟨n, e, hz⟩ := map_some h
  cases hz
  have fin := q (.int n) H ρ Grow.refl S (by unfold Rep; rfl)
  cases x with
  | str y =>
    simp only [lenP] at e
    split at e
    · rename_i hl
      unfold Rep at R
      subst R
      cases e
      exact .inl ⟨_, _, rfl, ⟨line5 hl, rfl⟩, fin⟩
    · cases e
  | tup xs =>
    unfold Rep at R
    obtain ⟨a, vs, rfl, t, r⟩ := R
    cases e
    exact .inl ⟨_, _, rfl, .inr ⟨vs, t, r.length⟩, fin⟩
  | frz xs =>
    unfold Rep at R
    obtain ⟨a, vs, rfl, t, r⟩ := R
    cases e
    exact .inl ⟨_, _, rfl, .inl ⟨vs, t.sq, r.length⟩, fin⟩
  | ref m =>
    unfold Rep at R
    obtain ⟨a, rfl, i1⟩ := R
    simp only [lenP] at e
    split at e
    · rename_i ys e1
      obtain ⟨b1, hb1, vs1, h1, r1⟩ := S.at_ _ _ e1
      rw [i1] at hb1; cases hb1
      have ndd := S.lv _ _ _ e1 (by simp) i1
      cases e
      exact .inl ⟨_, _, rfl, .inl ⟨vs1, .of h1, r1.length⟩, fin⟩
    · rename_i ys e1
      obtain ⟨b1, hb1, vs1, h1, r1⟩ := S.at_ _ _ e1
      rw [i1] at hb1; cases hb1
      have ndd := S.lv _ _ _ e1 (by simp) i1
      cases e
      refine .inr ⟨a, vs1, rfl, h1, ?_⟩
      rw [← r1.length]
      exact fin
    · cases e
  | _ => cases e
/-- tuple(xs), list(xs) -/
def fTuple : F1 := fun x st => (itemsOf st x).map fun xs => (.tup xs, st)
def fList : F1 := fun x st => (itemsOf st x).map fun xs => alloc (.lst xs) st
theorem f_tuple {K : PySem.W.Frag} : CallI K (fun xs H Q => ∃ p ys, xs = [.ref p] ∧ ((SqL K H p ys ∧ ∀ l, H l = none → Q (.ref l) (upd H l (.tup ys))) ∨ (SqT K H p ys ∧ Q (.ref p) H))) (a1 fTuple) := call1 fun H ρ st x vx z st' Q S R h q => by
  obtain ⟨xs, e, hz⟩ := map_some h
  cases hz
  obtain ⟨a, vs, rfl, t, r⟩ := items_rep S R e
  refine ⟨a, vs, rfl, ?_⟩
  rcases t with t | t
  · exact .inl ⟨t, fun p hp => q _ _ ρ (grow_new hp) (S.new hp) (new_tup S r hp)⟩
  · exact .inr ⟨t, q _ H ρ Grow.refl S (by unfold Rep; exact ⟨a, vs, rfl, t, r⟩)⟩
theorem f_list {K : PySem.W.Frag} : CallI K (fun xs H Q => ∃ p ys, xs = [.ref p] ∧ (SqL K H p ys ∨ SqT K H p ys) ∧ ∀ l, H l = none → Q (.ref l) (upd H l (.lst ys))) (a1 fList) := call1 fun H ρ st x vx z st' Q S R h q => by
  obtain ⟨xs, e, hz⟩ := map_some h
  obtain ⟨a, vs, rfl, t, r⟩ := items_rep S R e
  refine ⟨a, vs, rfl, t, fun p hp => ?_⟩
  obtain ⟨b1, b2, b3⟩ := new_lst S r hp
  rw [hz] at b2 b3
  exact q _ _ _ b1 b2 b3
/-- str(n) -/
def fStr : F1 := fun x st => match x with
  | .int i => if i.natAbs < 2 ^ 1000 then some (.str (toString i), st) else none
  | _ => none
theorem f_str {K : PySem.W.Frag} : CallI K (fun xs H Q => ∃ i : Int, xs = [.int i] ∧ i.natAbs.log2 < 1920 ∧ Q (.str (toString i)) H) (a1 fStr) := call1 fun H ρ st x vx z st' Q S R h q => by
  unfold fStr at h
  split at h
  · split at h
    · rename_i hl
      unfold Rep at R
      subst R
      cases h
      exact ⟨_, rfl, Nat.lt_of_lt_of_le (PySem.Flt.log2_lt_of (by decide) hl) (by decide), q _ H ρ Grow.refl S (by unfold Rep; rfl)⟩
    · cases h
  · cases h
/-- int(n), int(b); abs -/
def fInt1 : F1 := fun x st => match x with
  | .int i => some (.int i, st)
  | .bl b => some (.int (if b then 1 else 0), st)
  | _ => none
theorem f_int1 {K : PySem.W.Frag} : CallI K (fun xs H Q => (∃ i, xs = [.int i] ∧ Q (.int i) H) ∨ ∃ k : Bool, xs = [.bl k] ∧ Q (.int (if k then 1 else 0)) H) (a1 fInt1) := call1 fun H ρ st x vx z st' Q S R h q => by
  unfold fInt1 at h
  split at h
  · unfold Rep at R
    subst R
    cases h
    exact .inl ⟨_, rfl, q _ H ρ Grow.refl S (by unfold Rep; rfl)⟩
  · unfold Rep at R
    subst R
    cases h
    exact .inr ⟨_, rfl, q _ H ρ Grow.refl S (by unfold Rep; rfl)⟩
  · cases h
def fAbs : F1 := fun x st => match x with
  | .int i => some (.int (if i < 0 then -i else i), st)
  | _ => none
theorem f_abs {K : PySem.W.Frag} : CallI K (fun xs H Q => ∃ i : Int, xs = [.int i] ∧ Q (.int (if i < 0 then -i else i)) H) (a1 fAbs) := call1 fun H ρ st x vx z st' Q S R h q => by
  unfold fAbs at h
  split at h
  · unfold Rep at R
    subst R
    cases h
    exact ⟨_, rfl, q _ H ρ Grow.refl S (by unfold Rep; rfl)⟩
  · cases h
/-- isinstance -/
def tyName (st : Sto) : PV → Option String
  | .non => some "NoneType"
  | .bl _ => some "bool"
  | .int _ => some "int"
  | .str _ => some "str"
  | .tup _ => some "tuple"
  | .frz _ => some "list"
  | .ref n => match st[n]? with
    | some (.lst _) => some "list"
    | some (.dK _) => some "dict"
    | _ => none
  | .ty _ => none
  | .fdk _ _ => none
theorem tyName_rep {K : PySem.W.Frag} {H : Hp} {ρ : Rho} {st : Sto} (S : RepS K H ρ st) {x : PV} {v : V} {n : String} (R : Rep K H ρ x v) (h : tyName st x = some n) : TyX K H v (.type n) := by
  cases x with
  | non => unfold Rep at R; subst R; cases h; exact .base .non
  | bl b => unfold Rep at R; subst R; cases h; exact .base (.bl b)
  | int b => unfold Rep at R; subst R; cases h; exact .base (.int b)
  | str b => unfold Rep at R; subst R; cases h; exact .base (.str b)
  | tup xs =>
    unfold Rep at R
    obtain ⟨a, vs, rfl, t, r⟩ := R
    cases h
    rcases t with (t | ⟨o, t⟩) | ⟨o, its, m, t, c, _⟩
    · exact .base (.tup t)
    · exact .fTuple t
    · exact .kTuple t c
  | frz xs =>
    unfold Rep at R
    obtain ⟨a, vs, rfl, t, r⟩ := R
    cases h
    rcases t.sq with (t | ⟨o, t⟩) | ⟨o, its, m, t, c, _⟩
    · exact .base (.lst t)
    · exact .base (.frz t)
    · exact .kList t c
  | ref m =>
    unfold Rep at R
    obtain ⟨a, rfl, i1⟩ := R
    simp only [tyName] at h
    split at h
    · rename_i ys e1
      obtain ⟨b1, hb1, vs1, h1, r1⟩ := S.at_ _ _ e1
      rw [i1] at hb1; cases hb1
      have ndd := S.lv _ _ _ e1 (by simp) i1
      cases h
      exact .base (.lst h1)
    · rename_i ys e1
      obtain ⟨b1, hb1, vs1, h1, r1⟩ := S.at_ _ _ e1
      rw [i1] at hb1; cases hb1
      have ndd := S.lv _ _ _ e1 (by simp) i1
      cases h
      exact .base (.dK h1)
    · cases h
  | ty n => cases h
  | fdk ks xs => cases h
def isP (st : Sto) (x y : PV) : Option Bool := match y with
  | .ty m => match tyName st x with
    | some n => kitB n m
    | none => none
  | _ => none
def fIsi : F2 := fun x y st => (isP st x y).map fun b => (.bl b, st)
theorem f_isi {K : PySem.W.Frag} : CallI K (rIsi K) (a2 fIsi) := call2 fun H ρ st x y vx vy z st' Q S Rx Ry h q => by
  obtain ⟨b, e, hz⟩ := map_some h
  cases hz
  unfold isP at e
  split at e
  · split at e
    · rename_i n e1
      unfold Rep at Ry
      subst Ry
      exact ⟨_, _, _, _, b, rfl, .ty _, tyName_rep S Rx e1, kit_ty e, q _ H ρ Grow.refl S (by unfold Rep; rfl)⟩
    · cases e
  · cases e
/-- all, any of a list of truths -/
theorem bls_reps {K : PySem.W.Frag} {H : Hp} {ρ : Rho} : ∀ {xs : List PV} {vs : List V} {bs : List Bool}, Reps K H ρ xs vs → mapO isBl xs = some bs → vs = bs.map V.bl
  | [], vs, bs, R, h => by
    unfold Reps at R
    subst R
    cases h
    rfl
  | x :: xs, vs, bs, R, h => by
    unfold Reps at R
    obtain ⟨v, r, rfl, r1, r2⟩ := R
    unfold mapO at h
    split at h
    · rename_i e1 e2
      cases h
      cases x <;> simp only [isBl, Option.some.injEq, reduceCtorEq] at e1
      subst e1
      unfold Rep at r1
      rw [r1, bls_reps r2 e2]
      rfl
    · cases h
def blsOf (st : Sto) (x : PV) : Option (List Bool) := match listOf st x with
  | some xs => mapO isBl xs
  | none => none
def fAll : F1 := fun x st => (blsOf st x).map fun bs => (.bl (bs.all id), st)
def fAny : F1 := fun x st => (blsOf st x).map fun bs => (.bl (bs.any id), st)
theorem bls_rep {K : PySem.W.Frag} {H : Hp} {ρ : Rho} {st : Sto} (S : RepS K H ρ st) {x : PV} {v : V} {bs : List Bool} (R : Rep K H ρ x v) (h : blsOf st x = some bs) : ∃ a, v = .ref a ∧ SqL K H a (bs.map V.bl) := by
  unfold blsOf at h
  split at h
  · rename_i xs e
    obtain ⟨a, vs, rfl, t, r⟩ := list_rep S R e
    rw [bls_reps r h] at t
    exact ⟨a, rfl, t⟩
  · cases h
theorem f_all {K : PySem.W.Frag} : CallI K (rAll K) (a1 fAll) := call1 fun H ρ st x vx z st' Q S R h q => by
  obtain ⟨bs, e, hz⟩ := map_some h
  cases hz
  obtain ⟨a, rfl, t⟩ := bls_rep S R e
  exact ⟨a, bs, rfl, t, q _ H ρ Grow.refl S (by unfold Rep; rfl)⟩
theorem f_any {K : PySem.W.Frag} : CallI K (rAny K) (a1 fAny) := call1 fun H ρ st x vx z st' Q S R h q => by
  obtain ⟨bs, e, hz⟩ := map_some h
  cases hz
  obtain ⟨a, rfl, t⟩ := bls_rep S R e
  exact ⟨a, bs, rfl, t, q _ H ρ Grow.refl S (by unfold Rep; rfl)⟩
/-- repr of a truth -/
def fRepr : F1 := fun x st => match x with
  | .bl b => some (.str (if b then "True" else "False"), st)
  | _ => none
def rReprB : List V → Hp → VK → Prop := fun xs H Q => ∃ b : Bool, xs = [.bl b] ∧ Q (.str (if b then "True" else "False")) H
theorem cr_reprB : CallR X (.builtin "repr") rReprB := by
  intro pins s σ H xs us Q I r h
  obtain ⟨b, rfl, q⟩ := h
  obtain ⟨u, rfl, e⟩ := vals1 r
  cases (show u = Value.bool b from e)
  exact PySem.P.repr_of_bool ⟨.str _, H, I.tok _, ⟨_, rfl⟩, q⟩
theorem f_repr {K : PySem.W.Frag} : CallI K rReprB (a1 fRepr) := call1 fun H ρ st x vx z st' Q S R h q => by
  unfold fRepr at h
  split at h
  · unfold Rep at R
    subst R
    cases h
    exact ⟨_, rfl, q _ H ρ Grow.refl S (by unfold Rep; rfl)⟩
  · cases h
/-- max(xs, default=d), max(xs) of ints -/
def maxI : List Int → Int → Int
  | [], d => d
  | y :: ys, _ => ys.foldl (fun a z => if a < z then z else a) y
def rMaxDef (K : PySem.W.Frag) : List V → List V → Hp → VK → Prop := fun vs zs H Q => ∃ (a : Addr) (ns : List Int) (d : Int), vs = [.ref a] ∧ zs = [.int d] ∧ SqL K H a (ns.map V.int) ∧ Q (.int (maxI ns d)) H
theorem hold_ints {h : Heap} : ∀ {us : List Value} {ns : List Int}, IntsAre us ns → PySem.W.HoldAll h us ns
  | _, _, .nil => PySem.W.HoldAll.nil
  | _, _, .cons _ _ r => PySem.W.HoldAll.cons (PySem.W.holds_int _ _) (hold_ints r)
theorem maxOf_int (y : Int) (ys : List Int) : PySem.W.maxOf y ys = maxI (y :: ys) 0 := by
  unfold PySem.W.maxOf maxI
  congr 1
  funext a z
  show (if decide (a < z) = true then z else a) = _
  by_cases h : a < z
  · rw [if_pos (decide_eq_true h), if_pos h]
  · rw [if_neg (by simpa using h), if_neg h]
theorem cr_maxDef (hc : X.calm = true) (hu : X.A.units + 64 < cLine) : CallRK X (.builtin "max") [Str.ofString "default"] (rMaxDef X.K) := by
  intro pins s σ H vs zs us ws Q I r rz h
  obtain ⟨a, ns, d, rfl, rfl, hs, q⟩ := h
  obtain rfl := Vals.ref1 r
  obtain ⟨w1, rfl, e1⟩ := vals1 rz
  obtain ⟨its, rv, pl, _⟩ := I.list hs
  refine PySem.W.max_list_datum_default (α := Int) (xs := ns) (I.ok.hd hc) pl.isList (hold_ints (by simpa using rv.ints)) (by show X.A.units + 1 + 0 < cLine; omega) (fun e h' tk hk => ?_) fun y ys i v h' tk e hi hm hk => ?_
  · subst e
    obtain ⟨t, rfl⟩ := e1
    exact ⟨.int d, H, I.kept hk, ⟨t, rfl⟩, q⟩
  · subst e
    obtain ⟨as, hr⟩ := hm
    rw [maxOf_int] at hr
    have : ∃ t, v = .int (maxI (y :: ys) 0) t := by
      cases hr
      exact ⟨_, rfl⟩
    obtain ⟨t, rfl⟩ := this
    exact ⟨.int (maxI (y :: ys) 0), H, I.kept hk, ⟨t, rfl⟩, q⟩
def isInt : PV → Option Int
  | .int i => some i
  | _ => none
theorem ints_reps {K : PySem.W.Frag} {H : Hp} {ρ : Rho} : ∀ {xs : List PV} {vs : List V} {bs : List Int}, Reps K H ρ xs vs → mapO isInt xs = some bs → vs = bs.map V.int
  | [], vs, bs, R, h => by
    unfold Reps at R
    subst R
    cases h
    rfl
  | x :: xs, vs, bs, R, h => by
    unfold Reps at R
    obtain ⟨v, r, rfl, r1, r2⟩ := R
    unfold mapO at h
    split at h
    · rename_i e1 e2
      cases h
      cases x <;> simp only [isInt, Option.some.injEq, reduceCtorEq] at e1
      subst e1
      unfold Rep at r1
      rw [r1, ints_reps r2 e2]
      rfl
    · cases h
def intsOf (st : Sto) (x : PV) : Option (List Int) := match listOf st x with
  | some xs => mapO isInt xs
  | none => none
def iMaxDef (ir ik : IA) : IE := fun env st => ob (ir env st) fun xs s1 => ob (ik env s1) fun zs s2 => match xs, zs with
  | [x], [.int d] => (intsOf s2 x).map fun ns => (.int (maxI ns d), s2)
  | _, _ => none
theorem k_one {e : Expr} {ie : IE} {nm : Option Str} {kpos : Pos} (ha : PE X e (tI X.K ie)) : PK X [⟨nm, e, kpos⟩] (tIA X.K (iCons ie iNil)) := by
  refine ⟨fun pos pins s σ H Q I h => (pk_cons (nm := nm) (kpos := kpos) ha pk_nil).run pos pins s σ H Q I ?_⟩
  obtain ⟨env, st, ρ, z, st', E, S, h, q⟩ := h
  obtain ⟨x, s1, h1, h⟩ := ob_some h
  obtain ⟨xs, s2, h2, h⟩ := ob_some h
  cases h2
  cases h
  exact ⟨env, st, ρ, x, _, E, S, h1, fun v H1 ρ1 G1 S1 R1 => q [v] H1 ρ1 G1 S1 (by unfold Reps; exact ⟨v, [], rfl, R1, by unfold Reps; rfl⟩)⟩
theorem r_maxDef {e : Expr} {es : List Expr} {kws : List Keyword} {p pos : Pos} {ir ik : IA} (hc : X.calm = true) (hu : X.A.units + 64 < cLine) (hg : Gl X "max") (hm : X.mg "max" = none) (hv : bootBuiltins "max" = some (.builtin "max")) (ha : PA X (e :: es) (tIA X.K ir)) (hk : PK X kws (tIA X.K ik))
    (he : backTo pos (starEach (e :: es) X.env) = (false, eval e X.env) :: backTo pos (starEach es X.env) := by rfl) (hpl : (backTo pos (starEach (e :: es) X.env)).any (·.1) = false := by rfl)
    (hall : (backToKw pos (keywordEach kws X.env)).all (·.1.isSome) = true := by rfl) (hnone : (backToKw pos (keywordEach kws X.env)).any (·.1.isNone) = false := by rfl) (hks : (backToKw pos (keywordEach kws X.env)).filterMap (·.1) = [Str.ofString "default"] := by rfl) :
    PE X (.Call (.Name "max" p) (e :: es) kws pos) (tI X.K (iMaxDef ir ik)) :=
  PE.imp (pe_callBK (cr_maxDef hc hu) hg hm hv ha hk (by decide) (by decide) he hpl hall hnone hks) fun σ H Q ⟨env, st, ρ, z, st', E, S, h, q⟩ => by
    obtain ⟨xs, s1, h1, h⟩ := ob_some h
    obtain ⟨zs, s2, h2, h⟩ := ob_some h
    refine ⟨env, st, ρ, xs, s1, E, S, h1, fun vs H1 ρ1 G1 S1 R1 => ⟨env, s1, ρ1, zs, s2, E.grow S G1, S1, h2, fun ws H2 ρ2 G2 S2 R2 => ?_⟩⟩
    split at h
    · rename_i x d hh
      obtain ⟨ns, e, hz⟩ := map_some h
      cases hz
      obtain ⟨v, rfl, r1⟩ := one_arg (Reps.grow S1 G2 _ _ R1)
      obtain ⟨w, rfl, r2⟩ := one_arg R2
      unfold Rep at r2
      subst r2
      unfold intsOf at e
      split at e
      · rename_i ys e1
        obtain ⟨a, us, rfl, t, r⟩ := list_rep S2 r1 e1
        rw [ints_reps r e] at t
        exact ⟨a, ns, d, rfl, rfl, t, q _ H2 ρ2 (G1.trans G2) S2 (by unfold Rep; rfl)⟩
      · cases e
    · cases h
/-- xs[i] = v of a list -/
def fSetL : FSet := fun o i v st => match o, i with
  | .ref n, .int k => match st[n]? with
    | some (.lst xs) => (ixN xs.length k).map fun j => st.set n (.lst (xs.set j v))
    | _ => none
  | _, _ => none
theorem f_setL {K : PySem.W.Frag} : SetI K rSetL fSetL := by
  intro H ρ st o i x vo vi vx st' Q S Ro Ri Rx h q
  unfold fSetL at h
  split at h
  · rename_i n k
    split at h
    · rename_i xs e1
      obtain ⟨j, e, hz⟩ := map_some h
      subst hz
      unfold Rep at Ro Ri
      obtain ⟨a, rfl, i1⟩ := Ro
      subst Ri
      obtain ⟨b1, hb1, vs1, h1, r1⟩ := S.at_ _ _ e1
      rw [i1] at hb1; cases hb1
      have ndd := S.lv _ _ _ e1 (by simp) i1
      have g : Grow H ρ (upd H a (.lst (vs1.set j vx))) ρ := grow_write h1 (List.mem_of_getElem? i1) ndd
      exact ⟨a, vs1, k, j, rfl, rfl, h1, by rw [← r1.length]; exact e, q _ ρ g (S.write (so := .lst (xs.set j x)) i1 ndd h1 ⟨_, upd_same, Reps.grow S g _ _ (Reps.set Rx j r1)⟩)⟩
    · cases h
  · cases h
/-- xs.append(v) -/
def iAppend (io ie : IE) : IE := fun env st => ob (io env st) fun o s1 => match o with
  | .ref n => match s1[n]? with
    | some (.lst _) => ob (ie env s1) fun x s2 => match s2[n]? with
      | some (.lst xs) => if xs.length < 9000000 then some (.non, s2.set n (.lst (xs ++ [x]))) else none
      | _ => none
    | _ => none
  | _ => none
end
end IL

namespace IL
open PySem PySem.Spec PyProof.Rows L2

section
variable {X : Cx}
theorem PE.or {e : Expr} {t t' : TE} (h : PE X e t) (h' : PE X e t') : PE X e (fun σ H Q => t σ H Q ∨ t' σ H Q) := ⟨fun pins s σ H Q I q => q.elim (h.run pins s σ H Q I) (h'.run pins s σ H Q I)⟩
/-! ### dicts whose keys are ints and texts -/
def keyP : PV → Option Key
  | .int i => some (.inl i)
  | .str x => some (.inr x)
  | _ => none
theorem key_rep {K : PySem.W.Frag} {H : Hp} {ρ : Rho} {x : PV} {v : V} {k : Key} (R : Rep K H ρ x v) (h : keyP x = some k) : v = kV k := by
  cases x <;> simp only [keyP, Option.some.injEq, reduceCtorEq] at h <;> (unfold Rep at R; subst R; subst h; rfl)
def findP : List (Key × PV) → Key → Option PV
  | [], _ => none
  | (k', v) :: r, k => if k' = k then some v else findP r k
def putP : List (Key × PV) → Key → PV → List (Key × PV)
  | [], k, v => [(k, v)]
  | (k', w) :: r, k, v => if k' = k then (k', v) :: r else (k', w) :: putP r k v
theorem find_rep {K : PySem.W.Frag} {H : Hp} {ρ : Rho} {k : Key} : ∀ {xs : List (Key × PV)} {vs : List (Key × V)}, RepK K H ρ xs vs → (∀ x, findP xs k = some x → ∃ v, valV vs k = some v ∧ Rep K H ρ x v) ∧ (findP xs k = none → valV vs k = none)
  | [], vs, R => by
    subst R
    exact ⟨fun x h => (by cases h), fun _ => rfl⟩
  | (k', y) :: xs, vs, R => by
    obtain ⟨v, r, rfl, r1, r2⟩ := R
    obtain ⟨i1, i2⟩ := find_rep (k := k) r2
    unfold findP
    by_cases e : k' = k
    · rw [if_pos e, valV_pos (p := (k', v)) e]
      exact ⟨fun x h => (by cases h; exact ⟨v, rfl, r1⟩), fun h => (by cases h)⟩
    · rw [if_neg e, valV_neg (p := (k', v)) e]
      exact ⟨i1, i2⟩
theorem find_some {K : PySem.W.Frag} {H : Hp} {ρ : Rho} {k : Key} {xs : List (Key × PV)} {vs : List (Key × V)} (R : RepK K H ρ xs vs) : (findP xs k).isSome = (valV vs k).isSome := by
  obtain ⟨i1, i2⟩ := find_rep (k := k) R
  cases e : findP xs k with
  | none => rw [i2 e]; rfl
  | some x =>
    obtain ⟨v, e2, _⟩ := i1 x e
    rw [e2]; rfl
theorem putK_cons {k' k : Key} {w v : V} {r : List (Key × V)} (nd : ((k', w) :: r).map (·.1) |>.Nodup) : putK ((k', w) :: r) k v = if k' = k then (k', v) :: r else (k', w) :: putK r k v := by
  by_cases e : k' = k
  · subst e
    rw [if_pos rfl]
    unfold putK
    rw [if_pos (by simp)]
    rw [List.map_cons, if_pos rfl]
    congr 1
    have : ∀ p ∈ r, ¬ p.1 = k' := fun p hp z => by
      rw [List.map_cons, List.nodup_cons] at nd
      exact nd.1 (List.mem_map.mpr ⟨p, hp, z⟩)
    conv => rhs; rw [← List.map_id r]
    exact List.map_congr_left fun p hp => if_neg (this p hp)
  · rw [if_neg e]
    unfold putK
    rw [List.any_cons, decide_eq_false e, Bool.false_or]
    by_cases h : (r.any fun kv => decide (kv.1 = k)) = true
    · rw [if_pos h, if_pos h, List.map_cons, if_neg e]
    · rw [if_neg h, if_neg h]; rfl
theorem keys_rep {K : PySem.W.Frag} {H : Hp} {ρ : Rho} : ∀ {xs : List (Key × PV)} {vs : List (Key × V)}, RepK K H ρ xs vs → vs.map (·.1) = xs.map (·.1)
  | [], vs, R => by subst R; rfl
  | x :: xs, vs, R => by
    obtain ⟨v, r, rfl, _, r2⟩ := R
    rw [List.map_cons, List.map_cons, keys_rep r2]
theorem put_rep {K : PySem.W.Frag} {H : Hp} {ρ : Rho} {k : Key} {y : PV} {w : V} (Ry : Rep K H ρ y w) : ∀ {xs : List (Key × PV)} {vs : List (Key × V)}, (xs.map (·.1)).Nodup → RepK K H ρ xs vs → RepK K H ρ (putP xs k y) (putK vs k w)
  | [], vs, nd, R => by
    subst R
    exact ⟨w, [], rfl, Ry, rfl⟩
  | (k', z) :: xs, vs, nd, R => by
    have kr := keys_rep R
    obtain ⟨v, r, rfl, r1, r2⟩ := R
    rw [putK_cons (by rw [kr]; exact nd)]
    unfold putP
    by_cases e : k' = k
    · rw [if_pos e, if_pos e]
      exact ⟨w, r, rfl, Ry, r2⟩
    · rw [if_neg e, if_neg e]
      rw [List.map_cons, List.nodup_cons] at nd
      exact ⟨v, _, rfl, r1, put_rep Ry nd.2 r2⟩
def dictOf (st : Sto) : PV → Option (List (Key × PV))
  | .ref n => match st[n]? with
    | some (.dK kvs) => some kvs
    | _ => none
  | _ => none
theorem dict_rep {K : PySem.W.Frag} {H : Hp} {ρ : Rho} {st : Sto} (S : RepS K H ρ st) {x : PV} {v : V} {kvs : List (Key × PV)} (R : Rep K H ρ x v) (h : dictOf st x = some kvs) : ∃ a vs, v = .ref a ∧ H a = some (.dK vs) ∧ RepK K H ρ kvs vs := by
  cases x with
  | ref n =>
    unfold Rep at R
    obtain ⟨a, rfl, i1⟩ := R
    simp only [dictOf] at h
    split at h
    · rename_i ys e1
      obtain ⟨b1, hb1, vs1, h1, r1⟩ := S.at_ _ _ e1
      rw [i1] at hb1; cases hb1
      have ndd := S.lv _ _ _ e1 (by simp) i1
      cases h
      exact ⟨a, vs1, rfl, h1, r1⟩
    · cases h
  | _ => cases h
/-- o[i]: a list, a tuple, a text, a dict -/
def fSubA : F2 := fun x y st => match dictOf st x with
  | some kvs => match keyP y with
    | some k => (findP kvs k).map fun v => (v, st)
    | none => none
  | none => fIx x y st
variable {a b e i o : Expr} {es rest : List Expr} {pos : Pos} {ia ib ie : IE}
theorem r_sub (hu : X.A.units + 1 < cLine) (ha : PE X a (tI X.K ia)) (hb : PE X b (tI X.K ib)) (hs : PlainIx b) : PE X (.Subscript a b pos) (tI X.K (iBin fSubA ia ib)) :=
  PE.imp (PE.or (pe_ix ix_any ha hb hs) (pe_dget hu ha hb hs)) fun σ H Q ⟨env, st, ρ, z, st', E, S, h, q⟩ => by
    obtain ⟨x, s1, h1, h⟩ := ob_some h
    obtain ⟨y, s2, h2, h⟩ := ob_some h
    unfold fSubA at h
    cases e : dictOf s2 x with
    | none =>
      rw [e] at h
      exact .inl (bin_to (f := fIx) f_ix ⟨env, st, ρ, z, st', E, S, by unfold iBin; rw [h1]; simp only [ob]; rw [h2]; exact h, q⟩)
    | some kvs =>
      rw [e] at h
      simp only at h
      split at h
      · rename_i k e2
        obtain ⟨v, e3, hz⟩ := map_some h
        cases hz
        refine .inr ⟨env, st, ρ, x, s1, E, S, h1, fun vx H1 ρ1 G1 S1 R1 => ⟨env, s1, ρ1, y, _, E.grow S G1, S1, h2, fun vy H2 ρ2 G2 S2 R2 => ?_⟩⟩
        obtain ⟨p, vs, rfl, hp, r⟩ := dict_rep S2 (Rep.grow S1 G2 _ _ R1) e
        obtain ⟨w, hw, rw'⟩ := (find_rep (k := k) r).1 _ e3
        have hk := key_rep R2 e2
        subst hk
        exact ⟨p, w, rfl, by rw [← hw]; exact DGet.k hp, q w H2 ρ2 (G1.trans G2) S2 rw'⟩
      · cases h
/-- in, not in: a list or a tuple of flat things, a dict, a text -/
def inA (st : Sto) (x y : PV) : Option Bool := match dictOf st y with
  | some kvs => match keyP x with
    | some k => some (findP kvs k).isSome
    | none => none
  | none => match x, y with
    | .str i, .str j => some (!(Builtin.Str.occurrences j i 0 j.length 1).isEmpty)
    | _, _ => inP st x y
def fInA : F2 := fun x y st => (inA st x y).map fun b => (.bl b, st)
def fNotInA : F2 := fun x y st => (inA st x y).map fun b => (.bl (!b), st)
def rInS : R2 := fun x y H Q => ∃ i j, x = .str i ∧ y = .str j ∧ Q (.bl (!(Builtin.Str.occurrences j i 0 j.length 1).isEmpty)) H
def rNotInS : R2 := fun x y H Q => ∃ i j, x = .str i ∧ y = .str j ∧ Q (.bl (!(!(Builtin.Str.occurrences j i 0 j.length 1).isEmpty))) H
def rInD2 : R2 := fun y x H Q => ∃ a o, x = .ref a ∧ DGet H a y o ∧ Q (.bl o.isSome) H
def rNotInD2 : R2 := fun y x H Q => ∃ a o, x = .ref a ∧ DGet H a y o ∧ Q (.bl (!o.isSome)) H
theorem op_inD2 (hu : X.A.units + 1 < cLine) : OpR X (compareOp .In) rInD2 := by
  intro pins s σ H x y v u Q I rx ry h
  obtain ⟨a, o, rfl, g, q⟩ := h
  cases ry
  exact d_in hu I g rx fun s3 I3 => ⟨.bl o.isSome, H, I3, rfl, q⟩
theorem op_notInD2 (hu : X.A.units + 1 < cLine) : OpR X (compareOp .NotIn) rNotInD2 := by
  intro pins s σ H x y v u Q I rx ry h
  obtain ⟨a, o, rfl, g, q⟩ := h
  cases ry
  exact d_notIn hu I g rx fun s3 I3 => ⟨.bl (!o.isSome), H, I3, rfl, q⟩
def rInAll (K : PySem.W.Frag) : R2 := fun x y H Q => rIn K false x y H Q ∨ rInD2 x y H Q ∨ rInS x y H Q
def rNotInAll (K : PySem.W.Frag) : R2 := fun x y H Q => rIn K true x y H Q ∨ rNotInD2 x y H Q ∨ rNotInS x y H Q
theorem op_inAll (hu : X.A.units + 1 < cLine) : OpR X (compareOp .In) (rInAll X.K) := OpR.or op_in_seq (OpR.or (op_inD2 hu) op_in_str)
theorem op_notInAll (hu : X.A.units + 1 < cLine) : OpR X (compareOp .NotIn) (rNotInAll X.K) := OpR.or op_notIn_seq (OpR.or (op_notInD2 hu) op_notIn_str)
theorem inA_rep {K : PySem.W.Frag} {H : Hp} {ρ : Rho} {st : Sto} (S : RepS K H ρ st) {x y : PV} {v w : V} {b : Bool} (Rx : Rep K H ρ x v) (Ry : Rep K H ρ y w) (h : inA st x y = some b) :
    (∃ p xs, w = .ref p ∧ (SqL K H p xs ∨ SqT K H p xs) ∧ flatV v = true ∧ xs.all flatV = true ∧ inV v xs = b) ∨ (∃ a o, w = .ref a ∧ DGet H a v o ∧ o.isSome = b) ∨ ∃ i j, v = .str i ∧ w = .str j ∧ (!(Builtin.Str.occurrences j i 0 j.length 1).isEmpty) = b := by
  unfold inA at h
  split at h
  · rename_i kvs e
    split at h
    · rename_i k e2
      cases h
      obtain ⟨p, vs, rfl, hp, r⟩ := dict_rep S Ry e
      have hk := key_rep Rx e2
      subst hk
      exact .inr (.inl ⟨p, _, rfl, DGet.k hp, (find_some r).symm⟩)
    · cases h
  · split at h
    · cases h
      unfold Rep at Rx Ry
      subst Rx Ry
      exact .inr (.inr ⟨_, _, rfl, rfl, rfl⟩)
    · exact .inl (inP_rep S Rx Ry h)
theorem f_inA {K : PySem.W.Frag} : OpI K (rInAll K) fInA := by
  intro H ρ st x y vx vy z st' Q S Rx Ry h q
  obtain ⟨b, e, hz⟩ := map_some h
  cases hz
  have fin := q (.bl b) H ρ Grow.refl S (by unfold Rep; rfl)
  rcases inA_rep S Rx Ry e with ⟨p, xs, h1, h2, h3, h4, rfl⟩ | ⟨a, o, h1, h2, rfl⟩ | ⟨i, j, h1, h2, rfl⟩
  · exact .inl ⟨p, xs, h1, h2, h3, h4, fin⟩
  · exact .inr (.inl ⟨a, o, h1, h2, fin⟩)
  · exact .inr (.inr ⟨i, j, h1, h2, fin⟩)
theorem f_notInA {K : PySem.W.Frag} : OpI K (rNotInAll K) fNotInA := by
  intro H ρ st x y vx vy z st' Q S Rx Ry h q
  obtain ⟨b, e, hz⟩ := map_some h
  cases hz
  have fin := q (.bl (!b)) H ρ Grow.refl S (by unfold Rep; rfl)
  rcases inA_rep S Rx Ry e with ⟨p, xs, h1, h2, h3, h4, rfl⟩ | ⟨a, o, h1, h2, rfl⟩ | ⟨i, j, h1, h2, rfl⟩
  · exact .inl ⟨p, xs, h1, h2, h3, h4, fin⟩
  · exact .inr (.inl ⟨a, o, h1, h2, fin⟩)
  · exact .inr (.inr ⟨i, j, h1, h2, fin⟩)
/-- o[i] = v: a list, a dict -/
def nodupK (kvs : List (Key × PV)) : Bool := decide (kvs.map (·.1)).Nodup
def fSetA : FSet := fun o i v st => match o with
  | .ref n => match st[n]? with
    | some (.dK kvs) => match keyP i with
      | some k => if nodupK kvs && decide (kvs.length < 9000000) then some (st.set n (.dK (putP kvs k v))) else none
      | none => none
    | _ => fSetL o i v st
  | _ => none
def rSetD : TSet := fun o i v H Q => ∃ a H', o = .ref a ∧ DPut H a i v H' ∧ Q H'
theorem set_dict (hu : X.A.units + 1 < cLine) : PSet X rSetD := by
  intro pins s σ H o i v ov iv u Q I ro ri rv h
  obtain ⟨a, H', rfl, g, q⟩ := h
  cases ro
  exact d_setItem hu I g ri rv fun s4 I4 => ⟨H', I4, q⟩
theorem PSet.or {t t' : TSet} (h : PSet X t) (h' : PSet X t') : PSet X (fun o i v H Q => t o i v H Q ∨ t' o i v H Q) := fun pins s σ H o i v ov iv u Q I ro ri rv q =>
  q.elim (h pins s σ H o i v ov iv u Q I ro ri rv) (h' pins s σ H o i v ov iv u Q I ro ri rv)
def rSetA : TSet := fun o i v H Q => rSetL o i v H Q ∨ rSetD o i v H Q
theorem set_any (hu : X.A.units + 1 < cLine) : PSet X rSetA := PSet.or set_list (set_dict hu)
theorem f_setA {K : PySem.W.Frag} : SetI K rSetA fSetA := by
  intro H ρ st o i x vo vi vx st' Q S Ro Ri Rx h q
  unfold fSetA at h
  split at h
  · rename_i n
    split at h
    · rename_i kvs e1
      split at h
      · rename_i k e2
        split at h
        · rename_i hc
          rw [Bool.and_eq_true] at hc
          have nd : (kvs.map (·.1)).Nodup := of_decide_eq_true hc.1
          have hl : kvs.length < 9000000 := of_decide_eq_true hc.2
          cases h
          obtain ⟨a, vs1, rfl, i1, ndd, h1, r1⟩ := S.dct Ro e1
          have hk := key_rep Ri e2
          subst hk
          have g : Grow H ρ (upd H a (.dK (putK vs1 k vx))) ρ := grow_write h1 (List.mem_of_getElem? i1) ndd
          exact .inr ⟨a, _, rfl, .inl ⟨vs1, k, h1, rfl, line6 (by rw [← r1.length]; exact hl), rfl⟩, q _ ρ g (S.write (so := .dK (putP kvs k x)) i1 ndd h1 ⟨_, upd_same, RepK.grow S g _ _ (put_rep Rx nd r1)⟩)⟩
        · cases h
      · cases h
    · exact .inl (f_setL H ρ st _ i x vo vi vx st' Q S Ro Ri Rx h q)
  · cases h
/-- {k: v, ..} -/
abbrev IP := PEnv → Sto → Option (List (PV × PV) × Sto)
def iPNil : IP := fun _ st => some ([], st)
def iPCons (ik iv : IE) (ip : IP) : IP := fun env st => ob (ik env st) fun k s1 => ob (iv env s1) fun v s2 => ob (ip env s2) fun ps s3 => some ((k, v) :: ps, s3)
def keysP : List (PV × PV) → Option (List (Key × PV))
  | [] => some []
  | (k, v) :: r => match keyP k, keysP r with
    | some k', some r' => some ((k', v) :: r')
    | _, _ => none
def mergeP (kvs more : List (Key × PV)) : List (Key × PV) := more.foldl (fun acc kv => putP acc kv.1 kv.2) kvs
def iDict (ip : IP) : IE := fun env st => ob (ip env (st ++ [.dK []])) fun ps s1 => match keysP ps, s1[st.length]? with
  | some kvs, some (.dK []) => if kvs.length ≤ 15 then some (.ref st.length, s1.set st.length (.dK (mergeP [] kvs))) else none
  | _, _ => none
/-- the pairs' readings -/
inductive TPs (K : PySem.W.Frag) : List (TE × TE) → IP → Prop where
  | nil : TPs K [] iPNil
  | cons {ik iv : IE} {r : List (TE × TE)} {ip : IP} (h : TPs K r ip) : TPs K ((tI K ik, tI K iv) :: r) (iPCons ik iv ip)
def RepPs (K : PySem.W.Frag) (H : Hp) (ρ : Rho) : List (PV × PV) → List (V × V) → Prop
  | [], vs => vs = []
  | x :: xs, vs => ∃ v w r, vs = (v, w) :: r ∧ Rep K H ρ x.1 v ∧ Rep K H ρ x.2 w ∧ RepPs K H ρ xs r
theorem RepPs.grow {K : PySem.W.Frag} {H H' : Hp} {ρ ρ' : Rho} {st : Sto} (S : RepS K H ρ st) (g : Grow H ρ H' ρ') : ∀ {xs : List (PV × PV)} {vs : List (V × V)}, RepPs K H ρ xs vs → RepPs K H' ρ' xs vs
  | [], _, h => h
  | x :: xs, _, h => by
    obtain ⟨v, w, r, e, h1, h2, h3⟩ := h
    exact ⟨v, w, r, e, Rep.grow S g _ _ h1, Rep.grow S g _ _ h2, RepPs.grow S g h3⟩
theorem tps_to {K : PySem.W.Frag} {trs : List (TE × TE)} {ip : IP} (T : TPs K trs ip) : ∀ {σ : L2.St} {H : Hp} {ρ : Rho} {env : PEnv} {st st' : Sto} {ps : List (PV × PV)} {Q : List (V × V) → Hp → Prop}, RepE K H ρ env σ → RepS K H ρ st → ip env st = some (ps, st') →
    (∀ vs H' ρ', Grow H ρ H' ρ' → RepS K H' ρ' st' → RepPs K H' ρ' ps vs → Q vs H') → tPairs trs σ H Q := by
  induction T with
  | nil =>
    intro σ H ρ env st st' ps Q E S h q
    cases h
    exact q [] H ρ Grow.refl S rfl
  | cons T ih =>
    intro σ H ρ env st st' ps Q E S h q
    obtain ⟨k, s1, h1, h⟩ := ob_some h
    obtain ⟨v, s2, h2, h⟩ := ob_some h
    obtain ⟨r, s3, h3, h⟩ := ob_some h
    cases h
    refine ⟨env, st, ρ, k, s1, E, S, h1, fun vk H1 ρ1 G1 S1 R1 => ⟨env, s1, ρ1, v, s2, E.grow S G1, S1, h2, fun vv H2 ρ2 G2 S2 R2 => ?_⟩⟩
    refine ih ((E.grow S G1).grow S1 G2) S2 h3 fun vs H3 ρ3 G3 S3 R3 => q _ H3 ρ3 ((G1.trans G2).trans G3) S3 ⟨vk, vv, vs, rfl, Rep.grow S2 G3 _ _ (Rep.grow S1 G2 _ _ R1), Rep.grow S2 G3 _ _ R2, R3⟩
theorem keysP_rep {K : PySem.W.Frag} {H : Hp} {ρ : Rho} : ∀ {ps : List (PV × PV)} {vs : List (V × V)} {kvs : List (Key × PV)}, RepPs K H ρ ps vs → keysP ps = some kvs → ∃ ws, vs = ws.map (fun kv => (kV kv.1, kv.2)) ∧ RepK K H ρ kvs ws
  | [], vs, kvs, R, h => by
    cases h
    exact ⟨[], R, rfl⟩
  | (k, v) :: ps, vs, kvs, R, h => by
    obtain ⟨vk, w, r, rfl, r1, r2, r3⟩ := R
    unfold keysP at h
    split at h
    · rename_i k' r' e1 e2
      cases h
      obtain ⟨ws, rfl, r4⟩ := keysP_rep r3 e2
      have := key_rep r1 e1
      subst this
      exact ⟨(k', w) :: ws, rfl, w, ws, rfl, r2, r4⟩
    · cases h
theorem putP_keys (k : Key) (v : PV) : ∀ kvs : List (Key × PV), (kvs.map (·.1)).Nodup → ((putP kvs k v).map (·.1)).Nodup ∧ ∀ z, z ∈ (putP kvs k v).map (·.1) → z = k ∨ z ∈ kvs.map (·.1)
  | [], _ => ⟨by simp [putP], fun z h => by simp [putP] at h; exact .inl h⟩
  | (k', w) :: r, nd => by
    unfold putP
    rw [List.map_cons, List.nodup_cons] at nd
    by_cases e : k' = k
    · rw [if_pos e]
      exact ⟨by rw [List.map_cons, List.nodup_cons]; exact nd, fun z h => .inr h⟩
    · rw [if_neg e]
      obtain ⟨i1, i2⟩ := putP_keys k v r nd.2
      refine ⟨?_, fun z h => ?_⟩
      · rw [List.map_cons, List.nodup_cons]
        exact ⟨fun h => by
          rcases i2 _ h with z | z
          · exact e z
          · exact nd.1 z, i1⟩
      · rw [List.map_cons, List.mem_cons] at h
        rcases h with h | h
        · exact .inr (by rw [h]; exact List.mem_cons_self)
        · rcases i2 z h with z1 | z1
          · exact .inl z1
          · exact .inr (List.mem_cons_of_mem _ z1)
theorem merge_rep {K : PySem.W.Frag} {H : Hp} {ρ : Rho} : ∀ {more kvs : List (Key × PV)} {ms ws : List (Key × V)}, (kvs.map (·.1)).Nodup → RepK K H ρ more ms → RepK K H ρ kvs ws → RepK K H ρ (mergeP kvs more) (mergeK ws ms)
  | [], _, _, _, _, Rm, R => by subst Rm; exact R
  | x :: more, kvs, _, ws, nd, Rm, R => by
    obtain ⟨v, r, rfl, r1, r2⟩ := Rm
    show RepK K H ρ (mergeP (putP kvs x.1 x.2) more) (mergeK (putK ws x.1 v) r)
    exact merge_rep (more := more) (ms := r) (putP_keys _ _ _ nd).1 r2 (put_rep r1 nd R)
theorem r_dict {keys : List (Option Expr)} {values : List Expr} {trs : List (TE × TE)} {ip : IP} (T : TPs X.K trs ip) (h : PPs X pos keys values trs) (hall : keys.all (·.isSome) = true) (hl : keys.length = values.length) (h0 : keys ≠ []) (h15 : keys.length ≤ 15) :
    PE X (.Dict keys values pos) (tI X.K (iDict ip)) := PE.imp (pe_disp h hall hl h0 h15) fun σ H Q ⟨env, st, ρ, z, st', E, S, h, q⟩ p hp => by
  obtain ⟨ps, s1, h1, h⟩ := ob_some h
  split at h
  · rename_i kvs e1 e2
    split at h
    · rename_i h15
      cases h
      have g0 : Grow H ρ (upd H p (.dK [])) (ρ.add p) := grow_alloc hp
      have S0 : RepS X.K (upd H p (.dK [])) (ρ.add p) (st ++ [.dK []]) := S.alloc (so := .dK []) hp ⟨[], upd_same, rfl⟩
      refine tps_to T (E.grow S g0) S0 h1 fun vs H2 ρ2 G2 S2 R2 => ?_
      have ix : ρ2.l[st.length]? = some p := G2.ix (by (first | rw [← S.len, List.getElem?_append_right (Nat.le_refl _)] | (show (ρ.l ++ [_])[_]? = _; rw [← S.len, List.getElem?_append_right (Nat.le_refl _)])); simp)
      obtain ⟨b1, hb1, us, h2, r2⟩ := S2.at_ _ _ e2
      rw [ix] at hb1; cases hb1
      have ndd := S2.lv _ _ _ e2 (by simp) ix
      have hus : us = [] := r2
      subst hus
      obtain ⟨ws, rfl, r4⟩ := keysP_rep R2 e1
      have gw : Grow H2 ρ2 (upd H2 p (.dK (mergeK [] ws))) ρ2 := grow_write h2 (List.mem_of_getElem? ix) ndd
      refine ⟨h2, ws, rfl, by rw [← r4.length]; exact h15, q _ _ ρ2 (g0.trans (G2.trans gw)) (S2.write (so := .dK (mergeP [] kvs)) ix ndd h2 ⟨_, upd_same, RepK.grow S2 gw _ _ (merge_rep (by simp) r4 rfl)⟩) ?_⟩
      unfold Rep
      exact ⟨p, rfl, ix⟩
    · cases h
  · cases h
theorem r_dict0 : PE X (.Dict [] [] pos) (tI X.K (fun _ st => some (alloc (.dK []) st))) := PE.imp pe_dnewK fun σ H Q ⟨env, st, ρ, z, st', E, S, h, q⟩ p hp => by
  have e := Option.some.inj h
  have g0 : Grow H ρ (upd H p (.dK [])) (ρ.add p) := grow_alloc hp
  have S0 : RepS X.K (upd H p (.dK [])) (ρ.add p) (st ++ [.dK []]) := S.alloc (so := .dK []) hp ⟨[], upd_same, rfl⟩
  unfold alloc at e
  cases e
  refine q _ _ _ g0 S0 ?_
  unfold Rep
  exact ⟨p, rfl, by (first | rw [← S.len, List.getElem?_append_right (Nat.le_refl _)] | (show (ρ.l ++ [_])[_]? = _; rw [← S.len, List.getElem?_append_right (Nat.le_refl _)])); simp⟩
/-- xs.append(v) -/
theorem r_append {apos cpos : Pos} (ho : PE X o (tI X.K ia)) (he : PE X e (tI X.K ib))
    (hbase : attributeBase o "append" X.env (eval o X.env) = eval o X.env := by rfl)
    (hfew : ((backTo cpos (starEach (e :: []) X.env)).all (fun x => !x.1) && (backToKw cpos (keywordEach [] X.env)).all (fun x => x.1.isSome)
      && decide ((e :: []).length + ([] : List Keyword).length + (if ([] : List Keyword).isEmpty then 0 else 1) < 30)) = true := by rfl)
    (hline : (apos.endLine == cpos.line) = true := by rfl) (hs : starEach (e :: []) X.env = (false, eval e X.env) :: starEach [] X.env := by rfl) (hplain : (backTo cpos (starEach [] X.env)).any (·.1) = false := by rfl) :
    PE X (.Call (.Attribute o "append" apos) [e] [] cpos) (tI X.K (iAppend ia ib)) :=
  PE.imp (pe_bm PySem.F.plainAttrs_list PySem.F.slot_list_append PySem.F.type_list_append mt_append ho (pa_cons he pa_nil hs) hbase hfew hline hs hplain) fun σ H Q ⟨env, st, ρ, z, st', E, S, h, q⟩ => by
    obtain ⟨x, s1, h1, h⟩ := ob_some h
    refine ⟨env, st, ρ, x, s1, E, S, h1, fun vx H1 ρ1 G1 S1 R1 => ?_⟩
    split at h
    · rename_i n
      split at h
      · rename_i ws e0
        obtain ⟨y, s2, h2, h⟩ := ob_some h
        split at h
        · rename_i xs e1
          split at h
          · rename_i hl
            cases h
            unfold Rep at R1
            obtain ⟨a, rfl, i1⟩ := R1
            refine ⟨?_, env, s1, ρ1, y, s2, E.grow S G1, S1, h2, fun vy H2 ρ2 G2 S2 R2 => ?_⟩
            · obtain ⟨b1, hb1, vs1, h3, r1⟩ := S1.at_ _ _ e0
              rw [i1] at hb1; cases hb1
              exact .inl ⟨rfl, vs1, .of h3⟩
            · have i2 := G2.ix i1
              obtain ⟨b1, hb1, vs1, h3, r1⟩ := S2.at_ _ _ e1
              rw [i2] at hb1; cases hb1
              have ndd := S2.lv _ _ _ e1 (by simp) i2
              have g : Grow H2 ρ2 (upd H2 a (.lst (vs1 ++ [vy]))) ρ2 := grow_write h3 (List.mem_of_getElem? i2) ndd
              refine ⟨a, vs1, vy, rfl, rfl, h3, line6 (by rw [← r1.length]; exact hl), q .non _ ρ2 ((G1.trans G2).trans g) (S2.write (so := .lst (xs ++ [y])) i2 ndd h3 ⟨_, upd_same, Reps.grow S2 g _ _ (Reps.append r1 (by unfold Reps; exact ⟨vy, [], rfl, R2, by unfold Reps; rfl⟩))⟩) (by unfold Rep; rfl)⟩
          · cases h
        · cases h
      · cases h
    · cases h
end
end IL

/-! What the plain functions compute, as rules for simp. -/
namespace IL
open PySem PySem.Spec PyProof.Rows L2

section
variable {α β : Type} {a : α} {s s1 s2 st : Sto} {k : α → Sto → Option β} {env : PEnv} {x y z v : PV} {xs ys : List PV} {ia ib ic ie : IE} {ir ir' : IA} {t u : IT} {i j : Nat} {f g : F2} {p q : IS} {m n : Int}
@[simp] theorem ob_s : ob (some (a, s)) k = k a s := rfl
@[simp] theorem ob_n : ob (none : Option (α × Sto)) k = none := rfl
@[simp] theorem iVar_e : iVar i env st = match env[i]? with
  | some (some v) => some (v, st)
  | _ => none := rfl
@[simp] theorem iC_e : iC v env st = some (v, st) := rfl
@[simp] theorem iBin_e : iBin f ia ib env st = ob (ia env st) fun x s1 => ob (ib env s1) fun y s2 => f x y s2 := rfl
@[simp] theorem iUn_e {f : F1} : iUn f ia env st = ob (ia env st) fun x s1 => f x s1 := rfl
@[simp] theorem iChain_e : iChain f g ia ib ic env st = ob (ia env st) fun x s1 => ob (ib env s1) fun y s2 => ob (f x y s2) fun z s3 => match z with
  | .bl true => ob (ic env s3) fun w s4 => g y w s4
  | .bl false => some (.bl false, s3)
  | _ => none := rfl
@[simp] theorem iTest_e : iTest ia env st = ob (ia env st) fun x s1 => (tru s1 x).map fun k => (k, s1) := rfl
@[simp] theorem iTestB_e : iTestB ia env st = ob (ia env st) fun x s1 => (isBl x).map fun k => (k, s1) := rfl
@[simp] theorem isBl_e {b : Bool} : isBl (.bl b) = some b := rfl
@[simp] theorem tru_bl {b : Bool} : tru st (.bl b) = some b := rfl
@[simp] theorem tru_int : tru st (.int m) = some (m != 0) := rfl
@[simp] theorem tru_tup : tru st (.tup xs) = some (!xs.isEmpty) := rfl
@[simp] theorem tru_non : tru st .non = some false := rfl
@[simp] theorem iAnd_e : iAnd t u env st = ob (t env st) fun k s1 => match k with
  | true => u env s1
  | false => some (false, s1) := rfl
@[simp] theorem iOr_e : iOr t u env st = ob (t env st) fun k s1 => match k with
  | true => some (true, s1)
  | false => u env s1 := rfl
@[simp] theorem iNot_e : iNot t env st = ob (t env st) fun k s1 => some (!k, s1) := rfl
@[simp] theorem iAndV_e : iAndV ia ib env st = ob (ia env st) fun x s1 => match tru s1 x with
  | some true => ib env s1
  | some false => some (x, s1)
  | none => none := rfl
@[simp] theorem iOrV_e : iOrV ia ib env st = ob (ia env st) fun x s1 => match tru s1 x with
  | some true => some (x, s1)
  | some false => ib env s1
  | none => none := rfl
@[simp] theorem iNotV_e : iNotV ia env st = ob (ia env st) fun x s1 => (tru s1 x).map fun k => (.bl (!k), s1) := rfl
@[simp] theorem iIf_e : iIf t ia ib env st = ob (t env st) fun k s1 => match k with
  | true => ia env s1
  | false => ib env s1 := rfl
@[simp] theorem iNil_e : iNil env st = some ([], st) := rfl
@[simp] theorem iCons_e : iCons ia ir env st = ob (ia env st) fun x s1 => ob (ir env s1) fun xs s2 => some (x :: xs, s2) := rfl
@[simp] theorem iTup_e : iTup ir env st = ob (ir env st) fun xs s1 => if xs.length ≤ 9000000 then some (.tup xs, s1) else none := rfl
@[simp] theorem iLst_e : iLst ir env st = ob (ir env st) fun xs s1 => if xs.length ≤ 9000000 then some (.ref s1.length, s1 ++ [.lst xs]) else none := rfl
@[simp] theorem iNo_e : iNo env st = some (none, st) := rfl
@[simp] theorem iPart_e : iPart ia env st = ob (ia env st) fun x s1 => match x with
  | .int i => some (some i, s1)
  | _ => none := rfl
@[simp] theorem iSl_e {h : FSl} {lo hi : IO} : iSl h ia lo hi env st = ob (ia env st) fun x s1 => ob (lo env s1) fun l s2 => ob (hi env s2) fun u s3 => h x l u s3 := rfl
@[simp] theorem iCall_e {h : FA} : iCall h ir env st = ob (ir env st) fun xs s1 => h xs s1 := rfl
@[simp] theorem iSkip_e : iSkip env st = some (.nx env st) := rfl
@[simp] theorem iSeq_e : iSeq p q env st = match p env st with
  | some (.nx e s) => q e s
  | o => o := rfl
@[simp] theorem iDrop_e : iDrop ie env st = ob (ie env st) fun _ s => some (.nx env s) := rfl
@[simp] theorem iRet_e : iRet ie env st = ob (ie env st) fun x s => some (.rt x s) := rfl
@[simp] theorem iIfS_e : iIfS t p q env st = ob (t env st) fun k s => match k with
  | true => p env s
  | false => q env s := rfl
@[simp] theorem iAsg_e {h : IG} : iAsg h ie env st = ob (ie env st) fun x s => match h x env s with
  | some env' => some (.nx env' s)
  | none => none := rfl
@[simp] theorem gN_e : gN i x env st = some (env.set i (some x)) := rfl
@[simp] theorem gNs_e : gNs [] env st = some env := rfl
@[simp] theorem gCs_e {h : IG} {hs : IGs} : gCs h hs (x :: xs) env st = match h x env st with
  | some env1 => hs xs env1 st
  | none => none := rfl
@[simp] theorem gT_e {hs : IGs} {n : Nat} : gT n hs (.tup xs) env st = if xs.length = n then hs xs env st else none := rfl
@[simp] theorem iPar_e : iPar i j ir env st = ob (ir env st) fun xs s => match xs with
  | [x, y] => some (.nx ((env.set i (some x)).set j (some y)) s)
  | _ => none := rfl
@[simp] theorem iSetIx_e {h : FSet} : iSetIx h ia ib ie env st = ob (ie env st) fun x s1 => ob (ia env s1) fun o s2 => ob (ib env s2) fun i s3 => (h o i x s3).map fun s4 => .nx env s4 := rfl
@[simp] theorem iWalk_e : iWalk ie env st = ob (ie env st) fun x s => match x with
  | .str y => some (srcS y, s)
  | .tup xs => some (srcT xs, s)
  | .frz xs => some (srcT xs, s)
  | .ref n => match s[n]? with
    | some (.lst xs) => some (srcL n xs.length, s)
    | _ => none
  | _ => none := rfl
@[simp] theorem iFor_e {ii : II} {h : IG} : iFor ii h p env st = ob (ii env st) fun src s => loop src.at_ h p (src.n + 1) 0 env s := rfl
@[simp] theorem iAugAdd_e : iAugAdd i ie env st = match env[i]? with
  | some (some (.int a)) => ob (ie env st) fun y s => match y with
    | .int b => some (.nx (env.set i (some (.int (a + b)))) s)
    | _ => none
  | _ => none := rfl
@[simp] theorem iYes_e : iYes env st = some (true, st) := rfl
@[simp] theorem a1_e {h : F1} : a1 h [x] st = h x st := rfl
@[simp] theorem a2_e {h : F2} : a2 h [x, y] st = h x y st := rfl
/-! ### operations -/
@[simp] theorem fAdd_i : fAdd (.int m) (.int n) st = some (.int (m + n), st) := rfl
@[simp] theorem fAdd_t : fAdd (.tup xs) (.tup ys) st = if xs.length + ys.length ≤ 9000000 then some (.tup (xs ++ ys), st) else none := rfl
@[simp] theorem fAdd_s {a b : Str} : fAdd (.str a) (.str b) st = if a.length + b.length ≤ 9000000 then some (.str (a ++ b), st) else none := rfl
@[simp] theorem fSub_i : fSub (.int m) (.int n) st = some (.int (m - n), st) := rfl
@[simp] theorem fMul_i : fMul (.int m) (.int n) st = if cMul m n then some (.int (m * n), st) else none := rfl
@[simp] theorem fDiv_i : fDiv (.int m) (.int n) st = if cDiv m n then some (.int (m.fdiv n), st) else none := rfl
@[simp] theorem fMod_i : fMod (.int m) (.int n) st = if decide (n ≠ 0) then some (.int (m.fmod n), st) else none := rfl
@[simp] theorem fNeg_i : fNeg (.int m) st = some (.int (-m), st) := rfl
@[simp] theorem fLt_i : fLt (.int m) (.int n) st = some (.bl (decide (m < n)), st) := rfl
@[simp] theorem fLe_i : fLe (.int m) (.int n) st = some (.bl (decide (m ≤ n)), st) := rfl
@[simp] theorem fGt_i : fGt (.int m) (.int n) st = some (.bl (decide (n < m)), st) := rfl
@[simp] theorem fGe_i : fGe (.int m) (.int n) st = some (.bl (decide (n ≤ m)), st) := rfl
@[simp] theorem fLt_s {a b : Str} : fLt (.str a) (.str b) st = some (.bl (ltS a b), st) := rfl
@[simp] theorem fLe_s {a b : Str} : fLe (.str a) (.str b) st = some (.bl (!ltS b a), st) := rfl
@[simp] theorem fEq_e : fEq x y st = (eqP st x y).map fun b => (.bl b, st) := rfl
@[simp] theorem fNe_e : fNe x y st = (eqP st x y).map fun b => (.bl (!b), st) := rfl
@[simp] theorem fIs_n : fIs x .non st = some (.bl (isNone x), st) := rfl
@[simp] theorem fIs_b {b : Bool} : fIs x (.bl b) st = some (.bl (isBool b x), st) := rfl
@[simp] theorem fIsNot_n : fIsNot x .non st = some (.bl (!isNone x), st) := rfl
@[simp] theorem fIsNot_b {b : Bool} : fIsNot x (.bl b) st = some (.bl (!isBool b x), st) := rfl
@[simp] theorem isBool_b {b c : Bool} : isBool b (.bl c) = (c == b) := rfl
@[simp] theorem isBool_t {b : Bool} : isBool b (.tup xs) = false := rfl
@[simp] theorem isBool_s {b : Bool} {a : Str} : isBool b (.str a) = false := rfl
@[simp] theorem isBool_n {b : Bool} : isBool b .non = false := rfl
@[simp] theorem isNone_n : isNone .non = true := rfl
@[simp] theorem isNone_t : isNone (.tup xs) = false := rfl
@[simp] theorem isNone_s {a : Str} : isNone (.str a) = false := rfl
@[simp] theorem isNone_b {b : Bool} : isNone (.bl b) = false := rfl
theorem eqP_s {a b : Str} : eqP st (.str a) (.str b) = if PyData.strOk a && PyData.strOk b then some (a == b) else none := by
  show (if SeqAt.shaped (.str a) && SeqAt.shaped (.str b) then some (PyData.eqv (.str a) (.str b)) else none) = _
  have e : ∀ c : Str, SeqAt.shaped (.str c) = PyData.strOk c := fun c => by
    unfold SeqAt.shaped
    show (PyData.canLay0 (.str c) && decide (PyData.depth (.str c) ≤ 64)) = _
    have h1 : PyData.canLay0 (.str c) = PyData.strOk c := by simp [PyData.canLay0]
    have h2 : PyData.depth (.str c) = 0 := by simp [PyData.depth]
    rw [h1, h2]
    simp
  rw [e, e]
  have h3 : PyData.eqv (.str a) (.str b) = (a == b) := by simp [PyData.eqv]
  rw [h3]
@[simp] theorem eqP_i : eqP st (.int m) (.int n) = some (m == n) := by
  show (if SeqAt.shaped (.int m) && SeqAt.shaped (.int n) then some (PyData.eqv (.int m) (.int n)) else none) = _
  have e : ∀ c : Int, SeqAt.shaped (.int c) = true := fun c => by simp [SeqAt.shaped, PyData.canLay0, PyData.depth]
  have h3 : PyData.eqv (.int m) (.int n) = (m == n) := by simp [PyData.eqv]
  rw [e, e, h3]; rfl
@[simp] theorem eqP_b {a b : Bool} : eqP st (.bl a) (.bl b) = some (a == b) := by
  show (if SeqAt.shaped (.bool a) && SeqAt.shaped (.bool b) then some (PyData.eqv (.bool a) (.bool b)) else none) = _
  have e : ∀ c : Bool, SeqAt.shaped (.bool c) = true := fun c => by simp [SeqAt.shaped, PyData.canLay0, PyData.depth]
  have h3 : PyData.eqv (.bool a) (.bool b) = (a == b) := by simp [PyData.eqv]
  rw [e, e, h3]; rfl
@[simp] theorem fLen_t : fLen (.tup xs) st = some (.int xs.length, st) := rfl
@[simp] theorem fLen_f : fLen (.frz xs) st = some (.int xs.length, st) := rfl
@[simp] theorem fLen_s {a : Str} : fLen (.str a) st = (if a.length ≤ 9000000 then some (.int (a.length : Int), st) else none) := by
  unfold fLen lenP
  by_cases h : a.length ≤ 9000000
  · simp only [if_pos h]; rfl
  · simp only [if_neg h]; rfl
theorem fLen_l {n : Nat} (h : st[n]? = some (.lst xs)) : fLen (.ref n) st = some (.int xs.length, st) := by
  unfold fLen lenP
  simp only [h]
  rfl
theorem fLen_d {n : Nat} {kvs : List (Key × PV)} (h : st[n]? = some (.dK kvs)) : fLen (.ref n) st = some (.int kvs.length, st) := by
  unfold fLen lenP
  simp only [h]
  rfl
@[simp] theorem fTuple_e : fTuple x st = (itemsOf st x).map fun xs => (.tup xs, st) := rfl
@[simp] theorem fList_e : fList x st = (itemsOf st x).map fun xs => (.ref st.length, st ++ [.lst xs]) := rfl
@[simp] theorem itemsOf_t : itemsOf st (.tup xs) = some xs := rfl
@[simp] theorem itemsOf_f : itemsOf st (.frz xs) = some xs := rfl
@[simp] theorem itemsOf_r {n : Nat} : itemsOf st (.ref n) = match st[n]? with
    | some (.lst xs) => some xs
    | _ => none := rfl
@[simp] theorem listOf_r {n : Nat} : listOf st (.ref n) = match st[n]? with
    | some (.lst xs) => some xs
    | _ => none := rfl
@[simp] theorem dictOf_t : dictOf st (.tup xs) = none := rfl
@[simp] theorem dictOf_f : dictOf st (.frz xs) = none := rfl
@[simp] theorem dictOf_s {a : Str} : dictOf st (.str a) = none := rfl
@[simp] theorem dictOf_r {n : Nat} : dictOf st (.ref n) = match st[n]? with
    | some (.dK kvs) => some kvs
    | _ => none := rfl
@[simp] theorem fInt1_i : fInt1 (.int m) st = some (.int m, st) := rfl
@[simp] theorem fInt1_b {b : Bool} : fInt1 (.bl b) st = some (.int (if b then 1 else 0), st) := rfl
@[simp] theorem fAbs_i : fAbs (.int m) st = some (.int (if m < 0 then -m else m), st) := rfl
@[simp] theorem fStr_i : fStr (.int m) st = if m.natAbs < 2 ^ 1000 then some (.str (toString m), st) else none := rfl
@[simp] theorem fRepr_b {b : Bool} : fRepr (.bl b) st = some (.str (if b then "True" else "False"), st) := rfl
@[simp] theorem fSubA_t : fSubA (.tup xs) (.int m) st = (atI xs m).map fun v => (v, st) := rfl
theorem fSubA_l {n : Nat} (h : st[n]? = some (.lst xs)) : fSubA (.ref n) (.int m) st = (atI xs m).map fun v => (v, st) := by
  have e1 : dictOf st (.ref n) = none := by simp only [dictOf_r, h]
  unfold fSubA
  rw [e1]
  show (match itemsOf st (.ref n) with
      | some xs => (atI xs m).map fun v => (v, st)
      | none => none) = _
  rw [itemsOf_r, h]
theorem fSubA_d {n : Nat} {kvs : List (Key × PV)} (h : st[n]? = some (.dK kvs)) {k : Key} (hk : keyP y = some k) : fSubA (.ref n) y st = (findP kvs k).map fun v => (v, st) := by
  have e1 : dictOf st (.ref n) = some kvs := by simp only [dictOf_r, h]
  unfold fSubA
  rw [e1, hk]
theorem at_nat {α : Type} {xs : List α} {i : Nat} {x : α} (h : xs[i]? = some x) : atI xs (i : Int) = some x := atI_nat h
@[simp] theorem atI_0 {α : Type} {x : α} {xs : List α} : atI (x :: xs) 0 = some x := at_nat (i := 0) rfl
@[simp] theorem atI_1 {α : Type} {x y : α} {xs : List α} : atI (x :: y :: xs) 1 = some y := at_nat (i := 1) rfl
@[simp] theorem atI_2 {α : Type} {x y z : α} {xs : List α} : atI (x :: y :: z :: xs) 2 = some z := at_nat (i := 2) rfl
@[simp] theorem atI_3 {α : Type} {x y z w : α} {xs : List α} : atI (x :: y :: z :: w :: xs) 3 = some w := at_nat (i := 3) rfl
theorem atI_in {α : Type} {xs : List α} {i : Int} (h0 : 0 ≤ i) (h1 : i < xs.length) : ∃ x, x ∈ xs ∧ atI xs i = some x := by
  obtain ⟨k, rfl⟩ := Int.eq_ofNat_of_zero_le h0
  have hk : k < xs.length := by omega
  exact ⟨xs[k], List.getElem_mem hk, at_nat (List.getElem?_eq_getElem hk)⟩
theorem atI_out {α : Type} {xs : List α} {i : Int} (h : ¬ (-(xs.length : Int) ≤ i ∧ i < xs.length)) : atI xs i = none := by
  unfold atI ixN
  split
  · rw [if_neg (by omega)]; rfl
  · rw [if_neg (by omega)]; rfl
@[simp] theorem iMaxDef_e : iMaxDef ir ir' env st = ob (ir env st) fun xs s1 => ob (ir' env s1) fun zs s2 => match xs, zs with
  | [x], [.int d] => (intsOf s2 x).map fun ns => (.int (maxI ns d), s2)
  | _, _ => none := rfl
@[simp] theorem fIsi_e : fIsi x y st = (isP st x y).map fun b => (.bl b, st) := rfl
theorem kb_tt : kitB "tuple" "tuple" = some true := by decide +kernel
theorem kb_st : kitB "str" "tuple" = some false := by decide +kernel
theorem kb_nt : kitB "NoneType" "tuple" = some false := by decide +kernel
theorem kb_bt : kitB "bool" "tuple" = some false := by decide +kernel
theorem kb_it : kitB "int" "tuple" = some false := by decide +kernel
@[simp] theorem isP_tt : isP st (.tup xs) (.ty "tuple") = some true := kb_tt
@[simp] theorem isP_st {a : Str} : isP st (.str a) (.ty "tuple") = some false := kb_st
@[simp] theorem isP_nt : isP st .non (.ty "tuple") = some false := kb_nt
@[simp] theorem isP_bt {b : Bool} : isP st (.bl b) (.ty "tuple") = some false := kb_bt
@[simp] theorem isP_it : isP st (.int m) (.ty "tuple") = some false := kb_it
@[simp] theorem fAll_e : fAll x st = (blsOf st x).map fun bs => (.bl (bs.all id), st) := rfl
@[simp] theorem fSl_t {lo hi : Option Int} : fSl (.tup xs) lo hi st = some (.tup (cutP xs lo hi), st) := rfl
@[simp] theorem fSl_f {lo hi : Option Int} : fSl (.frz xs) lo hi st = some (.ref st.length, st ++ [.lst (cutP xs lo hi)]) := rfl
@[simp] theorem fInA_e : fInA x y st = (inA st x y).map fun b => (.bl b, st) := rfl
@[simp] theorem inA_st {a : Str} : inA st (.str a) (.tup ys) = (mapO flatP ys).map fun ws => inV (.str a) ws := by
  unfold inA
  rfl
end
/-! ### the store -/
@[simp] theorem new_at {st : Sto} {o : SO} : (st ++ [o])[st.length]? = some o := by
  rw [List.getElem?_append_right (Nat.le_refl _)]; simp
theorem old_at {st l : Sto} {n : Nat} {o : SO} (h : st[n]? = some o) : (st ++ l)[n]? = some o := by
  rw [List.getElem?_append_left (List.getElem?_eq_some_iff.mp h).1]; exact h
theorem lt_of_at {st : Sto} {n : Nat} {o : SO} (h : st[n]? = some o) : n < st.length := (List.getElem?_eq_some_iff.mp h).1
/-! ### equal data -/
/-- data without a store -/
def pureP : PV → Prop := fun x => ∀ st, ∃ d, toD st 70 x = some d ∧ SeqAt.shaped d = true
theorem eqP_self {st : Sto} {x : PV} (h : pureP x) : eqP st x x = some true := by
  obtain ⟨d, e, hs⟩ := h st
  unfold eqP
  rw [e]
  simp only [hs, Bool.and_self, if_true]
  have hc : d.canLay0 = true := SeqAt.canLay_of_shaped hs
  rw [SeqAt.eqv_refl d hc]
end IL

/-! Data without a store; loops by what holds between turns. -/
namespace IL
open PySem PySem.Spec PyProof.Rows L2

mutual
def datP : PV → PyData
  | .non => .none
  | .bl b => .bool b
  | .int i => .int i
  | .str x => .str x
  | .tup xs => .tuple (datPs xs)
  | .frz xs => .list (datPs xs)
  | .ref _ => .none
  | .ty _ => .none
  | .fdk _ _ => .none
def datPs : List PV → List PyData
  | [] => []
  | x :: xs => datP x :: datPs xs
end
mutual
/-- data, at most so deep -/
def gd : PV → Nat → Bool
  | .non, _ => true
  | .bl _, _ => true
  | .int _, _ => true
  | .str x, _ => PyData.strOk x
  | .tup xs, n => decide (0 < n) && gds xs (n - 1)
  | .frz xs, n => decide (0 < n) && gds xs (n - 1)
  | .ref _, _ => false
  | .ty _, _ => false
  | .fdk _ _, _ => false
def gds : List PV → Nat → Bool
  | [], _ => true
  | x :: xs, n => gd x n && gds xs n
end
mutual
theorem gd_dat {st : Sto} : ∀ (x : PV) (n f : Nat), gd x n = true → n < f → toD st f x = some (datP x) ∧ (datP x).canLay0 = true ∧ (datP x).depth ≤ n
  | .non, n, 0, _, hf => absurd hf (by omega)
  | .bl b, n, 0, _, hf => absurd hf (by omega)
  | .int i, n, 0, _, hf => absurd hf (by omega)
  | .str x, n, 0, _, hf => absurd hf (by omega)
  | .tup xs, n, 0, _, hf => absurd hf (by omega)
  | .frz xs, n, 0, _, hf => absurd hf (by omega)
  | .ref _, n, _, h, _ => by simp [gd] at h
  | .ty _, n, _, h, _ => by simp [gd] at h
  | .fdk _ _, n, _, h, _ => by simp [gd] at h
  | .non, n, f + 1, _, _ => ⟨rfl, by simp [datP, PyData.canLay0], by simp [datP, PyData.depth]⟩
  | .bl b, n, f + 1, _, _ => ⟨rfl, by simp [datP, PyData.canLay0], by simp [datP, PyData.depth]⟩
  | .int i, n, f + 1, _, _ => ⟨rfl, by simp [datP, PyData.canLay0], by simp [datP, PyData.depth]⟩
  | .str x, n, f + 1, h, _ => ⟨rfl, by unfold gd at h; simp only [datP, PyData.canLay0]; exact h, by simp [datP, PyData.depth]⟩
  | .tup xs, n, f + 1, h, hf => by
    unfold gd at h
    rw [Bool.and_eq_true, decide_eq_true_eq] at h
    obtain ⟨h1, h2, h3⟩ := gds_dat (st := st) xs (n - 1) f h.2 (by omega)
    refine ⟨?_, ?_, ?_⟩
    · show (mapO (toD st f) xs).map PyData.tuple = _
      rw [h1]; rfl
    · simp only [datP, PyData.canLay0]; exact h2
    · simp only [datP, PyData.depth]; omega
  | .frz xs, n, f + 1, h, hf => by
    unfold gd at h
    rw [Bool.and_eq_true, decide_eq_true_eq] at h
    obtain ⟨h1, h2, h3⟩ := gds_dat (st := st) xs (n - 1) f h.2 (by omega)
    refine ⟨?_, ?_, ?_⟩
    · show (mapO (toD st f) xs).map PyData.list = _
      rw [h1]; rfl
    · simp only [datP, PyData.canLay0]; exact h2
    · simp only [datP, PyData.depth]; omega
theorem gds_dat {st : Sto} : ∀ (xs : List PV) (n f : Nat), gds xs n = true → n < f → mapO (toD st f) xs = some (datPs xs) ∧ PyData.canLayAll0 (datPs xs) = true ∧ PyData.depthAll (datPs xs) ≤ n
  | [], n, f, _, _ => ⟨rfl, by simp [datPs, PyData.canLayAll0], by simp [datPs, PyData.depthAll]⟩
  | x :: xs, n, f, h, hf => by
    unfold gds at h
    rw [Bool.and_eq_true] at h
    obtain ⟨a1, a2, a3⟩ := gd_dat (st := st) x n f h.1 hf
    obtain ⟨b1, b2, b3⟩ := gds_dat (st := st) xs n f h.2 hf
    refine ⟨?_, ?_, ?_⟩
    · unfold mapO
      rw [a1, b1]; rfl
    · simp only [datPs, PyData.canLayAll0, a2, b2]; rfl
    · simp only [datPs, PyData.depthAll]; omega
end
theorem gd_shaped {x : PV} (h : gd x 60 = true) : SeqAt.shaped (datP x) = true := by
  obtain ⟨_, h2, h3⟩ := gd_dat (st := []) x 60 61 h (by omega)
  unfold SeqAt.shaped
  rw [h2, decide_eq_true (by omega)]; rfl
theorem eqP_gd {st : Sto} {x y : PV} (hx : gd x 60 = true) (hy : gd y 60 = true) : eqP st x y = some (PyData.eqv (datP x) (datP y)) := by
  unfold eqP
  rw [(gd_dat (st := st) x 60 70 hx (by omega)).1, (gd_dat (st := st) y 60 70 hy (by omega)).1]
  simp only [gd_shaped hx, gd_shaped hy, Bool.and_self, if_true]
theorem eqP_gd_self {st : Sto} {x : PV} (hx : gd x 60 = true) : eqP st x x = some true := by
  rw [eqP_gd hx hx, SeqAt.eqv_refl _ (SeqAt.canLay_of_shaped (gd_shaped hx))]
theorem gds_all {xs : List PV} {n : Nat} : (∀ x ∈ xs, gd x n = true) → gds xs n = true := by
  induction xs with
  | nil => intro _; rfl
  | cons x xs ih =>
    intro h
    unfold gds
    rw [h x List.mem_cons_self, ih fun y hy => h y (List.mem_cons_of_mem _ hy)]; rfl

/-! ### a list made item by item, each of its values data, the store grown by what nobody needs -/
theorem set_mid {α : Type} {a l : List α} {o o' : α} : (a ++ [o] ++ l).set a.length o' = a ++ [o'] ++ l := by
  rw [List.append_assoc, List.append_assoc, List.set_append_right _ _ (Nat.le_refl _), Nat.sub_self]; rfl
theorem at_mid {α : Type} {a l : List α} {o : α} : (a ++ [o] ++ l)[a.length]? = some o := by
  rw [List.append_assoc, List.getElem?_append_right (Nat.le_refl _), Nat.sub_self]; rfl
theorem lc_gar {all : List PV} {ig : IG} {t : IT} {e : IE} {st : Sto} {envw : PEnv} (g : PV → PV) (hl : all.length < 9000000)
    (h : ∀ x ∈ all, ∀ s : Sto, ∃ env1 l, ig x envw s = some env1 ∧ t env1 s = some (true, s) ∧ e env1 s = some (g x, s ++ l)) :
    ∀ (ys pre : List PV) (l : Sto), all = pre ++ ys → ∃ l', lcLoop (srcT all).at_ ig t e st.length envw (ys.length + 1) pre.length (st ++ [.lst (pre.map g)] ++ l) = some (st ++ [.lst (all.map g)] ++ l')
  | [], pre, l, he => by
    rw [List.append_nil] at he
    subst he
    refine ⟨l, ?_⟩
    unfold lcLoop
    simp [srcT]
  | y :: ys, pre, l, he => by
    obtain ⟨env1, l1, h1, h2, h3⟩ := h y (by rw [he]; simp) (st ++ [.lst (pre.map g)] ++ l)
    have hat : (srcT all).at_ (st ++ [.lst (pre.map g)] ++ l) pre.length = some (some y) := by
      simp only [srcT]
      rw [he, List.getElem?_append_right (Nat.le_refl _), Nat.sub_self]; rfl
    have hs : (st ++ [.lst (pre.map g)] ++ l ++ l1)[st.length]? = some (.lst (pre.map g)) := by
      rw [List.append_assoc (st ++ [_])]
      exact at_mid
    have hlen : (pre.map g).length < 9000000 := by
      rw [List.length_map]
      have := congrArg List.length he
      rw [List.length_append] at this
      omega
    obtain ⟨l', hr⟩ := lc_gar (t := t) (st := st) g hl h ys (pre ++ [y]) (l ++ l1) (by rw [he]; simp)
    refine ⟨l', ?_⟩
    rw [← hr]
    show lcLoop _ _ _ _ _ _ (ys.length + 1 + 1) _ _ = _
    conv => lhs; unfold lcLoop
    simp only [hat, h1, h2, h3, hs, hlen, if_true]
    have e2 : (st ++ [SO.lst (pre.map g)] ++ l ++ l1).set st.length (.lst (pre.map g ++ [g y])) = st ++ [SO.lst ((pre ++ [y]).map g)] ++ (l ++ l1) := by
      rw [List.append_assoc (st ++ [_]), set_mid]
      simp
    rw [e2, List.length_append]
    rfl
/-- [e for x in a tuple] -/
theorem iLc_tup {ie e : IE} {ig : IG} {t : IT} {vs : List Nat} {env : PEnv} {st s1 : Sto} {xs : List PV} (g : PV → PV) (hi : ie env st = some (.tup xs, s1)) (hl : xs.length < 9000000)
    (h : ∀ x ∈ xs, ∀ s : Sto, ∃ env1 l, ig x (wipeE env vs) s = some env1 ∧ t env1 s = some (true, s) ∧ e env1 s = some (g x, s ++ l)) :
    ∃ l, iLc (iWalk ie) ig t e vs env st = some (.ref s1.length, s1 ++ [.lst (xs.map g)] ++ l) := by
  obtain ⟨l, hr⟩ := lc_gar (t := t) (e := e) (st := s1) g hl h xs [] [] rfl
  refine ⟨l, ?_⟩
  unfold iLc
  simp only [iWalk_e, hi, ob_s]
  have e3 : (srcT xs).n = xs.length := rfl
  rw [e3]
  simp only [List.map_nil, List.append_nil, List.length_nil] at hr
  rw [hr]; rfl
theorem srcS_eq (x : Str) : srcS x = srcT (x.cps.toList.map fun c => .str ⟨#[c]⟩) := by
  unfold srcS srcT
  congr 1
  · simp [Str.length]
  · funext st i
    simp
/-- [e for x in a text] -/
theorem iLc_str {ie e : IE} {ig : IG} {t : IT} {vs : List Nat} {env : PEnv} {st s1 : Sto} {x : Str} (g : PV → PV) (hi : ie env st = some (.str x, s1)) (hl : x.length < 9000000)
    (h : ∀ c ∈ x.cps.toList, ∀ s : Sto, ∃ env1 l, ig (.str ⟨#[c]⟩) (wipeE env vs) s = some env1 ∧ t env1 s = some (true, s) ∧ e env1 s = some (g (.str ⟨#[c]⟩), s ++ l)) :
    ∃ l, iLc (iWalk ie) ig t e vs env st = some (.ref s1.length, s1 ++ [.lst ((x.cps.toList.map fun c => .str ⟨#[c]⟩).map g)] ++ l) := by
  have hn : (x.cps.toList.map fun c => PV.str ⟨#[c]⟩).length = x.length := by simp [Str.length]
  obtain ⟨l, hr⟩ := lc_gar (t := t) (e := e) (ig := ig) (envw := wipeE env vs) (st := s1) (all := x.cps.toList.map fun c => .str ⟨#[c]⟩) g (by rw [hn]; exact hl) (fun y hy s => by
    obtain ⟨c, hc, rfl⟩ := List.mem_map.mp hy
    exact h c hc s) (x.cps.toList.map fun c => .str ⟨#[c]⟩) [] [] rfl
  refine ⟨l, ?_⟩
  unfold iLc
  simp only [iWalk_e, hi, ob_s, srcS_eq]
  have e3 : (srcT (x.cps.toList.map fun c => PV.str ⟨#[c]⟩)).n = (x.cps.toList.map fun c => PV.str ⟨#[c]⟩).length := rfl
  rw [e3]
  simp only [List.map_nil, List.append_nil, List.length_nil] at hr
  rw [hr]; rfl
/-! ### loops by what holds between turns -/
theorem loop_inv {at_ : Sto → Nat → Option (Option PV)} {ig : IG} {body : IS} (I : Nat → PEnv → Sto → Prop) (N : Nat) (hstop : ∀ e s, I N e s → at_ s N = some none)
    (hstep : ∀ i e s, i < N → I i e s → ∃ x e1 e2 s2, at_ s i = some (some x) ∧ ig x e s = some e1 ∧ (body e1 s = some (.nx e2 s2) ∨ body e1 s = some (.ct e2 s2)) ∧ I (i + 1) e2 s2) :
    ∀ (m i : Nat) (e : PEnv) (s : Sto), I i e s → i ≤ N → N - i < m → ∃ e' s', loop at_ ig body m i e s = some (.nx e' s') ∧ I N e' s'
  | 0, i, e, s, _, _, hm => absurd hm (by omega)
  | m + 1, i, e, s, hI, hi, hm => by
    by_cases hN : i = N
    · subst hN
      refine ⟨e, s, ?_, hI⟩
      unfold loop
      rw [hstop e s hI]
    · obtain ⟨x, e1, e2, s2, h1, h2, h3, h4⟩ := hstep i e s (by omega) hI
      obtain ⟨e', s', h5, h6⟩ := loop_inv I N hstop hstep m (i + 1) e2 s2 h4 (by omega) (by omega)
      refine ⟨e', s', ?_, h6⟩
      unfold loop
      simp only [h1, h2]
      rcases h3 with h3 | h3 <;> simp only [h3] <;> exact h5
theorem lc_inv {at_ : Sto → Nat → Option (Option PV)} {ig : IG} {t : IT} {e : IE} {d : Nat} {envw : PEnv} (I : Nat → List PV → Sto → Prop) (N : Nat) (hstop : ∀ acc s, I N acc s → at_ s N = some none)
    (hstep : ∀ i acc s, i < N → I i acc s → ∃ x env1 y s2, at_ s i = some (some x) ∧ ig x envw s = some env1 ∧ t env1 s = some (true, s) ∧ e env1 s = some (y, s2) ∧ s2[d]? = some (.lst acc) ∧ acc.length < 9000000 ∧ I (i + 1) (acc ++ [y]) (s2.set d (.lst (acc ++ [y])))) :
    ∀ (m i : Nat) (acc : List PV) (s : Sto), I i acc s → i ≤ N → N - i < m → ∃ acc' s', lcLoop at_ ig t e d envw m i s = some s' ∧ I N acc' s'
  | 0, i, acc, s, _, _, hm => absurd hm (by omega)
  | m + 1, i, acc, s, hI, hi, hm => by
    by_cases hN : i = N
    · subst hN
      refine ⟨acc, s, ?_, hI⟩
      unfold lcLoop
      rw [hstop acc s hI]
    · obtain ⟨x, env1, y, s2, h1, h2, h3, h4, h5, h6, h7⟩ := hstep i acc s (by omega) hI
      obtain ⟨acc', s', h8, h9⟩ := lc_inv I N hstop hstep m (i + 1) (acc ++ [y]) _ h7 (by omega) (by omega)
      refine ⟨acc', s', ?_, h9⟩
      unfold lcLoop
      simp only [h1, h2, h3, h4, h5, h6, if_true]
      exact h8
/-! ### truth of membership in written tuples -/
@[simp] theorem mapO_nil {α β : Type} {f : α → Option β} : mapO f [] = some [] := rfl
@[simp] theorem mapO_cons {α β : Type} {f : α → Option β} {x : α} {xs : List α} : mapO f (x :: xs) = match f x, mapO f xs with
    | some y, some ys => some (y :: ys)
    | _, _ => none := rfl
@[simp] theorem flatP_s {a : Str} : flatP (.str a) = some (.str a) := rfl
@[simp] theorem flatP_i {a : Int} : flatP (.int a) = some (.int a) := rfl
@[simp] theorem flatP_n : flatP .non = some .non := rfl
@[simp] theorem inV_nil {x : V} : inV x [] = false := rfl
@[simp] theorem inV_cons {x y : V} {ys : List V} : inV x (y :: ys) = (eqV y x || inV x ys) := rfl
@[simp] theorem eqV_ss {a b : Str} : eqV (.str a) (.str b) = (a == b) := rfl
@[simp] theorem eqV_ns {b : Str} : eqV .non (.str b) = false := rfl
@[simp] theorem eqV_sn {b : Str} : eqV (.str b) .non = false := rfl
@[simp] theorem eqV_nn : eqV .non .non = true := rfl
end IL

/-! Powers, greatest of a list, the first item taken out. -/
namespace IL
open PySem PySem.Spec PyProof.Rows L2
section
variable {X : Cx} {o e : Expr} {ia ib ie : IE} {pos : Pos}
def cPow (a b : Int) : Bool := decide (0 ≤ b) && decide (b ≤ 1000000) && decide (a.natAbs < 2 ^ 64)
def fPow : F2 := fInt cPow fun i j => i ^ j.toNat
theorem f_pow {K : PySem.W.Frag} : OpI K (rI CPow fun i j => .int (i ^ j.toNat)) fPow := f_int fun a b h => by
  unfold cPow at h
  simp only [Bool.and_eq_true, decide_eq_true_eq] at h
  exact ⟨h.1.1, h.1.2, h.2⟩
/-- max of a list of ints -/
def fMax : F1 := fun x st => match intsOf st x with
  | some (n :: ns) => some (.int (maxI (n :: ns) 0), st)
  | _ => none
theorem foldl_max : ∀ (ys : List Int) (y : Int), (∀ z ∈ y :: ys, z ≤ ys.foldl (fun a z => if a < z then z else a) y) ∧ ys.foldl (fun a z => if a < z then z else a) y ∈ y :: ys
  | [], y => ⟨by simp, by simp⟩
  | x :: ys, y => by
    obtain ⟨h1, h2⟩ := foldl_max ys (if y < x then x else y)
    rw [List.foldl_cons]
    have h0 := h1 (if y < x then x else y) List.mem_cons_self
    have h3 : y ≤ (if y < x then x else y) ∧ x ≤ (if y < x then x else y) := by split <;> omega
    refine ⟨fun z hz => ?_, ?_⟩
    · rcases List.mem_cons.mp hz with rfl | hz
      · exact Int.le_trans h3.1 h0
      · rcases List.mem_cons.mp hz with rfl | hz
        · exact Int.le_trans h3.2 h0
        · exact h1 z (List.mem_cons_of_mem _ hz)
    · rcases List.mem_cons.mp h2 with h | h
      · rw [h]
        split
        · exact List.mem_cons_of_mem _ List.mem_cons_self
        · exact List.mem_cons_self
      · exact List.mem_cons_of_mem _ (List.mem_cons_of_mem _ h)
theorem f_max {K : PySem.W.Frag} : CallI K (rMax K) (a1 fMax) := call1 fun H ρ st x vx z st' Q S R h q => by
  unfold fMax at h
  split at h
  · rename_i n ns e
    cases h
    unfold intsOf at e
    split at e
    · rename_i xs e1
      obtain ⟨a, vs, rfl, t, r⟩ := list_rep S R e1
      rw [ints_reps r e] at t
      obtain ⟨g1, g2⟩ := foldl_max ns n
      refine ⟨a, n :: ns, rfl, t, by simp, fun m hm hle => ?_⟩
      have hmm : m = maxI (n :: ns) 0 := by
        have k1 := hle _ g2
        have k2 := g1 m hm
        show m = List.foldl _ _ _
        omega
      rw [hmm]
      exact q _ H ρ Grow.refl S (by unfold Rep; rfl)
    · cases e
  · cases h
/-- xs.pop(0) -/
def iPop0 (io ie : IE) : IE := fun env st => ob (io env st) fun o s1 => match o with
  | .ref n => match s1[n]? with
    | some (.lst _) => ob (ie env s1) fun x s2 => match s2[n]?, x with
      | some (.lst (y :: ys)), .int 0 => some (y, s2.set n (.lst ys))
      | _, _ => none
    | _ => none
  | _ => none
theorem r_pop0 {apos cpos : Pos} (ho : PE X o (tI X.K ia)) (he : PE X e (tI X.K ib))
    (hbase : attributeBase o "pop" X.env (eval o X.env) = eval o X.env := by rfl)
    (hfew : ((backTo cpos (starEach (e :: []) X.env)).all (fun x => !x.1) && (backToKw cpos (keywordEach [] X.env)).all (fun x => x.1.isSome)
      && decide ((e :: []).length + ([] : List Keyword).length + (if ([] : List Keyword).isEmpty then 0 else 1) < 30)) = true := by rfl)
    (hline : (apos.endLine == cpos.line) = true := by rfl) (hs : starEach (e :: []) X.env = (false, eval e X.env) :: starEach [] X.env := by rfl) (hplain : (backTo cpos (starEach [] X.env)).any (·.1) = false := by rfl) :
    PE X (.Call (.Attribute o "pop" apos) [e] [] cpos) (tI X.K (iPop0 ia ib)) :=
  PE.imp (pe_bm PySem.F.plainAttrs_list PySem.F.slot_list_pop PySem.F.type_list_pop mt_popAt ho (pa_cons he pa_nil hs) hbase hfew hline hs hplain) fun σ H Q ⟨env, st, ρ, z, st', E, S, h, q⟩ => by
    obtain ⟨x, s1, h1, h⟩ := ob_some h
    refine ⟨env, st, ρ, x, s1, E, S, h1, fun vx H1 ρ1 G1 S1 R1 => ?_⟩
    split at h
    · rename_i n
      split at h
      · rename_i ws e0
        obtain ⟨y, s2, h2, h⟩ := ob_some h
        split at h
        · rename_i w xs e1
          cases h
          unfold Rep at R1
          obtain ⟨a, rfl, i1⟩ := R1
          refine ⟨?_, env, s1, ρ1, .int 0, s2, E.grow S G1, S1, h2, fun vy H2 ρ2 G2 S2 R2 => ?_⟩
          · obtain ⟨b1, hb1, vs1, h3, r1⟩ := S1.at_ _ _ e0
            rw [i1] at hb1; cases hb1
            exact .inl ⟨rfl, vs1, .of h3⟩
          · have i2 := G2.ix i1
            obtain ⟨b1, hb1, vs1, h3, r1⟩ := S2.at_ _ _ e1
            rw [i2] at hb1; cases hb1
            have ndd := S2.lv _ _ _ e1 (by simp) i2
            unfold Rep at R2
            subst R2
            unfold Reps at r1
            obtain ⟨v0, vr, rfl, r2, r3⟩ := r1
            have g : Grow H2 ρ2 (upd H2 a (.lst vr)) ρ2 := grow_write h3 (List.mem_of_getElem? i2) ndd
            exact ⟨a, v0 :: vr, 0, 0, v0, rfl, rfl, h3, by decide, by decide, by simp [seqIndex?], rfl, q v0 _ ρ2 ((G1.trans G2).trans g) (S2.write (so := .lst xs) i2 ndd h3 ⟨_, upd_same, Reps.grow S2 g _ _ r3⟩) (Rep.grow S2 g _ _ r2)⟩
        · cases h
      · cases h
    · cases h
@[simp] theorem fPow_i {m n : Int} {st : Sto} : fPow (.int m) (.int n) st = if cPow m n then some (.int (m ^ n.toNat), st) else none := rfl
@[simp] theorem fGt_s {a b : Str} {st : Sto} : fGt (.str a) (.str b) st = some (.bl (ltS b a), st) := rfl
@[simp] theorem fMax_e {x : PV} {st : Sto} : fMax x st = match intsOf st x with
  | some (n :: ns) => some (.int (maxI (n :: ns) 0), st)
  | _ => none := rfl
@[simp] theorem fNotInA_e {x y : PV} {st : Sto} : fNotInA x y st = (inA st x y).map fun b => (.bl (!b), st) := rfl
end
end IL

/-! What statements and calls lead to, where they only add to the store. -/
namespace IL
open PySem PySem.Spec PyProof.Rows L2
def Ext (a b : Sto) : Prop := ∃ l, b = a ++ l
theorem Ext.refl {a : Sto} : Ext a a := ⟨[], by simp⟩
theorem Ext.trans {a b c : Sto} (h : Ext a b) (k : Ext b c) : Ext a c := by
  obtain ⟨l, rfl⟩ := h
  obtain ⟨m, rfl⟩ := k
  exact ⟨l ++ m, by simp⟩
theorem Ext.app {a b l : Sto} (h : Ext a b) : Ext a (b ++ l) := h.trans ⟨l, rfl⟩
theorem Ext.at {a b : Sto} {n : Nat} {o : SO} (h : Ext a b) (e : a[n]? = some o) : b[n]? = some o := by
  obtain ⟨l, rfl⟩ := h
  exact old_at e
def Pu (F : FA) (as : List PV) (v : PV) : Prop := ∃ g : Sto → Sto, (∀ st, F as st = some (v, g st)) ∧ ∀ st, Ext st (g st)
theorem pu {F : FA} {as : List PV} {v : PV} (h : ∀ st : Sto, ∃ l, F as st = some (v, st ++ l)) : Pu F as v :=
  ⟨fun st => st ++ Classical.choose (h st), fun st => Classical.choose_spec (h st), fun st => ⟨_, rfl⟩⟩
theorem pu0 {F : FA} {as : List PV} {v : PV} (h : ∀ st : Sto, F as st = some (v, st)) : Pu F as v := ⟨id, h, fun _ => Ext.refl⟩
theorem for_go {n : Nat} {ig : IG} {body : IS} (I : PEnv → Prop) (all : List PV) (h : ∀ x ∈ all, ∀ e, I e → ∀ s, ∃ e1 e2 s2, ig x e s = some e1 ∧ body e1 s = some (.nx e2 s2) ∧ Ext s s2 ∧ I e2) :
    ∀ (ys pre : List PV) (e : PEnv) (s : Sto), all = pre ++ ys → s[n]? = some (.lst all) → I e → ∃ e2 s2, loop (srcL n all.length).at_ ig body (ys.length + 1) pre.length e s = some (.nx e2 s2) ∧ Ext s s2 ∧ I e2
  | [], pre, e, s, he, hs, hI => by
    rw [List.append_nil] at he
    subst he
    refine ⟨e, s, ?_, Ext.refl, hI⟩
    unfold loop
    simp [srcL, hs]
  | y :: ys, pre, e, s, he, hs, hI => by
    obtain ⟨e1, e2, s2, h1, h2, h3, h4⟩ := h y (by rw [he]; simp) e hI s
    obtain ⟨e3, s3, h5, h6, h7⟩ := for_go (n := n) I all h ys (pre ++ [y]) e2 s2 (by rw [he]; simp) (h3.at hs) h4
    refine ⟨e3, s3, ?_, h3.trans h6, h7⟩
    have hat : (srcL n all.length).at_ s pre.length = some (some y) := by
      simp only [srcL, hs]
      rw [he, List.getElem?_append_right (Nat.le_refl _), Nat.sub_self]; rfl
    show loop _ _ _ (ys.length + 1 + 1) _ _ _ = _
    conv => lhs; unfold loop
    simp only [hat, h1, h2]
    rw [List.length_append] at h5
    exact h5
/-- for x in [..] -/
theorem for_list {ir : IA} {ig : IG} {body : IS} {env : PEnv} {st : Sto} {xs : List PV} (I : PEnv → Prop) (hir : ir env st = some (xs, st)) (hl : xs.length ≤ 9000000) (hI : I env)
    (h : ∀ x ∈ xs, ∀ e, I e → ∀ s, ∃ e1 e2 s2, ig x e s = some e1 ∧ body e1 s = some (.nx e2 s2) ∧ Ext s s2 ∧ I e2) :
    ∃ e2 s2, iFor (iWalk (iLst ir)) ig body env st = some (.nx e2 s2) ∧ Ext st s2 ∧ I e2 := by
  obtain ⟨e2, s2, h1, h2, h3⟩ := for_go (n := st.length) I xs h xs [] env (st ++ [.lst xs]) rfl new_at hI
  refine ⟨e2, s2, ?_, Ext.trans ⟨_, rfl⟩ h2, h3⟩
  simp only [iFor_e, iWalk_e, iLst_e, hir, ob_s, if_pos hl, new_at]
  exact h1
def Goes (p : IS) (env : PEnv) (st : Sto) (Q : PEnv → Sto → Prop) : Prop := ∃ e s, p env st = some (.nx e s) ∧ Q e s
def Ends (p : IS) (env : PEnv) (st : Sto) (v : PV) (Q : Sto → Prop) : Prop := ∃ s, p env st = some (.rt v s) ∧ Q s
section
variable {p q : IS} {env : PEnv} {st : Sto} {v : PV}
theorem ends_seq {R : Sto → Prop} (Q : PEnv → Sto → Prop) (h : Goes p env st Q) (k : ∀ e s, Q e s → Ends q e s v R) : Ends (iSeq p q) env st v R := by
  obtain ⟨e, s, h1, h2⟩ := h
  obtain ⟨s2, h3, h4⟩ := k e s h2
  exact ⟨s2, by rw [iSeq_e, h1]; exact h3, h4⟩
theorem goes_seq {R : PEnv → Sto → Prop} (Q : PEnv → Sto → Prop) (h : Goes p env st Q) (k : ∀ e s, Q e s → Goes q e s R) : Goes (iSeq p q) env st R := by
  obtain ⟨e, s, h1, h2⟩ := h
  obtain ⟨e2, s2, h3, h4⟩ := k e s h2
  exact ⟨e2, s2, by rw [iSeq_e, h1]; exact h3, h4⟩
theorem goes_list {ir : IA} {ig : IG} {body : IS} {xs : List PV} (I : PEnv → Prop) (hir : ir env st = some (xs, st)) (hl : xs.length ≤ 9000000) (hI : I env)
    (h : ∀ x ∈ xs, ∀ e, I e → ∀ s, ∃ e1, ig x e s = some e1 ∧ Goes body e1 s fun e2 s2 => Ext s s2 ∧ I e2) : Goes (iFor (iWalk (iLst ir)) ig body) env st fun e2 s2 => Ext st s2 ∧ I e2 :=
  for_list I hir hl hI fun x hx e he s => by
    obtain ⟨e1, h1, e2, s2, h2, h3⟩ := h x hx e he s
    exact ⟨e1, e2, s2, h1, h2, h3⟩
end
theorem rT {st : Sto} : eqP st (.str ("True" : Str)) (.str ("True" : Str)) = some true := by
  rw [eqP_s, if_pos (by decide +kernel)]
  simp
theorem rF {st : Sto} : eqP st (.str ("False" : Str)) (.str ("False" : Str)) = some true := by
  rw [eqP_s, if_pos (by decide +kernel)]
  simp
theorem Goes.mono {p : IS} {env : PEnv} {st : Sto} {Q R : PEnv → Sto → Prop} (h : Goes p env st Q) (k : ∀ e s, Q e s → R e s) : Goes p env st R := by
  obtain ⟨e, s, h1, h2⟩ := h
  exact ⟨e, s, h1, k e s h2⟩
def Vl (A : IE) (env : PEnv) (v : PV) : Prop := ∀ st, ∃ s, A env st = some (v, s) ∧ Ext st s
def Tl (t : IT) (env : PEnv) (b : Bool) : Prop := ∀ st, ∃ s, t env st = some (b, s) ∧ Ext st s
section
variable {env : PEnv} {v w : PV} {A B : IE} {t u : IT} {p q : IS} {st : Sto}
theorem vl_pure (h : ∀ st, A env st = some (v, st)) : Vl A env v := fun st => ⟨st, h st, Ext.refl⟩
theorem vl_call {F : FA} {ir : IA} {as : List PV} (hir : ∀ st, ir env st = some (as, st)) (h : Pu F as v) : Vl (iCall F ir) env v := fun st => by
  obtain ⟨g, h1, h2⟩ := h
  exact ⟨g st, by rw [iCall_e, hir]; exact h1 st, h2 st⟩
theorem vl_sh {F : FA} {ir : IA} {k : PV} {as : List PV} (hir : ∀ st, ir env st = some (as, st)) (hl : as.length ≤ 9000000) (h : ∀ (st : Sto) (p : Nat), st[p]? = some (.lst as) → ∃ l, F [k, .ref p] st = some (v, st ++ l)) : Vl (iCall F (iCons (iC k) (iCons (iLst ir) iNil))) env v := fun st => by
  obtain ⟨l, e⟩ := h (st ++ [.lst as]) st.length new_at
  refine ⟨st ++ [.lst as] ++ l, ?_, Ext.app ⟨_, rfl⟩⟩
  simp only [iCall_e, iCons_e, iC_e, iLst_e, iNil_e, hir, ob_s, if_pos hl]
  exact e
theorem tl_ne (h1 : Vl A env v) (h2 : Vl B env v) (hg : gd v 60 = true) : Tl (iTestB (iBin fNe A B)) env false := fun st => by
  obtain ⟨s1, a1, a2⟩ := h1 st
  obtain ⟨s2, b1, b2⟩ := h2 s1
  refine ⟨s2, ?_, a2.trans b2⟩
  simp [a1, b1, eqP_gd_self (st := s2) hg]
theorem tl_or (h1 : Tl t env false) (h2 : Tl u env false) : Tl (iOr t u) env false := fun st => by
  obtain ⟨s1, a1, a2⟩ := h1 st
  obtain ⟨s2, b1, b2⟩ := h2 s1
  exact ⟨s2, by simp [a1, b1], a2.trans b2⟩
theorem tl_not (h : Vl A env (.bl true)) : Tl (iNot (iTest A)) env false := fun st => by
  obtain ⟨s1, a1, a2⟩ := h st
  exact ⟨s1, by simp [a1], a2⟩
theorem goes_if (h : Tl t env false) : Goes (iIfS t p iSkip) env st fun e s => e = env ∧ Ext st s := by
  obtain ⟨s1, a1, a2⟩ := h st
  exact ⟨env, s1, by simp [a1], rfl, a2⟩
end
section
variable {st : Sto}
theorem goes_par {i j : Nat} {ir : IA} {env : PEnv} {x y : PV} {s2 : Sto} (h : ir env st = some ([x, y], s2)) {Q : PEnv → Sto → Prop} (q : Q ((env.set i (some x)).set j (some y)) s2) : Goes (iPar i j ir) env st Q :=
  ⟨_, s2, by simp [h], q⟩
theorem goes_asg {i : Nat} {ie : IE} {env : PEnv} {x : PV} {s2 : Sto} (h : ie env st = some (x, s2)) {Q : PEnv → Sto → Prop} (q : Q (env.set i (some x)) s2) : Goes (iAsg (gN i) ie) env st Q :=
  ⟨_, s2, by simp [h], q⟩
end
/-! ### the frame of the law's state -/
structure Fm (s c : Nat) (st st' : Sto) : Prop where
  len : st.length ≤ st'.length
  old : ∀ i, i < st.length → i ≠ s → i ≠ c → st'[i]? = st[i]?
theorem Fm.refl {s c : Nat} {st : Sto} : Fm s c st st := ⟨Nat.le_refl _, fun _ _ _ _ => rfl⟩
theorem Fm.trans {s c : Nat} {a b d : Sto} (h : Fm s c a b) (k : Fm s c b d) : Fm s c a d :=
  ⟨Nat.le_trans h.len k.len, fun i hi h1 h2 => by rw [k.old i (Nat.lt_of_lt_of_le hi h.len) h1 h2, h.old i hi h1 h2]⟩
theorem Fm.app {s c : Nat} {a l : Sto} : Fm s c a (a ++ l) := ⟨by simp, fun i hi _ _ => List.getElem?_append_left hi⟩
theorem Fm.ext {s c : Nat} {a b : Sto} (h : Ext a b) : Fm s c a b := by
  obtain ⟨l, rfl⟩ := h
  exact Fm.app
theorem Fm.set {s c d : Nat} {st : Sto} {o : SO} (h : d = s ∨ d = c) : Fm s c st (st.set d o) :=
  ⟨by simp, fun i hi h1 h2 => List.getElem?_set_ne (by omega)⟩
theorem fSetA_l {n : Nat} {st : Sto} {xs : List PV} {k : Int} {j : Nat} {v : PV} (h : st[n]? = some (.lst xs)) (hj : ixN xs.length k = some j) : fSetA (.ref n) (.int k) v st = some (st.set n (.lst (xs.set j v))) := by
  unfold fSetA fSetL
  simp only [h, hj]
  rfl
theorem ixN_in {n : Nat} {i : Int} (h0 : 0 ≤ i) (h1 : i < n) : ixN n i = some i.toNat := by
  unfold ixN
  rw [if_pos h0, if_pos h1]
theorem fmod_b {a b : Int} (hb : 0 < b) : 0 ≤ a.fmod b ∧ a.fmod b < b := by
  rw [Int.fmod_eq_emod_of_nonneg a (by omega)]
  exact ⟨Int.emod_nonneg _ (by omega), Int.emod_lt_of_pos _ hb⟩
theorem mapO_bls {α : Type} (f : α → Bool) : ∀ xs : List α, mapO isBl (xs.map fun x => .bl (f x)) = some (xs.map f)
  | [] => rfl
  | x :: xs => by
    rw [List.map_cons, mapO_cons, mapO_bls f xs]
    rfl
theorem mapO_intsf {α : Type} (f : α → Int) : ∀ xs : List α, mapO isInt (xs.map fun x => .int (f x)) = some (xs.map f)
  | [] => rfl
  | x :: xs => by
    rw [List.map_cons, mapO_cons, mapO_intsf f xs]
    rfl
theorem mapO_flatbl {α : Type} (f : α → Bool) : ∀ xs : List α, mapO flatP (xs.map fun x => .bl (f x)) = some (xs.map fun x => V.bl (f x))
  | [] => rfl
  | x :: xs => by
    rw [List.map_cons, mapO_cons, mapO_flatbl f xs]
    rfl
theorem inV_bls {α : Type} (f : α → Bool) : ∀ xs : List α, inV (.bl false) (xs.map fun x => V.bl (f x)) = !xs.all f
  | [] => rfl
  | x :: xs => by
    rw [List.map_cons, inV_cons, inV_bls f xs, List.all_cons]
    cases h : f x <;> rfl
/-! ### loops over tuples -/
def foldT (ig : IG) (body : IS) : List PV → PEnv → Sto → Option Fl
  | [], e, s => some (.nx e s)
  | y :: ys, e, s => match ig y e s with
    | some e1 => match body e1 s with
      | some (.nx e2 s2) => foldT ig body ys e2 s2
      | some (.ct e2 s2) => foldT ig body ys e2 s2
      | some (.bk e2 s2) => some (.nx e2 s2)
      | r => r
    | none => none
theorem loop_foldT {ig : IG} {body : IS} {all : List PV} : ∀ (ys pre : List PV) (e : PEnv) (s : Sto), all = pre ++ ys → loop (srcT all).at_ ig body (ys.length + 1) pre.length e s = foldT ig body ys e s
  | [], pre, e, s, he => by
    rw [List.append_nil] at he
    subst he
    unfold loop
    simp [srcT, foldT]
  | y :: ys, pre, e, s, he => by
    have hat : (srcT all).at_ s pre.length = some (some y) := by
      simp only [srcT]
      rw [he, List.getElem?_append_right (Nat.le_refl _), Nat.sub_self]; rfl
    have ih := loop_foldT (ig := ig) (body := body) (all := all) ys (pre ++ [y])
    show loop _ _ _ (ys.length + 1 + 1) _ _ _ = _
    conv => lhs; unfold loop
    conv => rhs; unfold foldT
    simp only [hat]
    rw [List.length_append] at ih
    cases ig y e s with
    | none => rfl
    | some e1 =>
      simp only
      cases body e1 s with
      | none => rfl
      | some r => cases r <;> first | rfl | exact ih _ _ (by rw [he]; simp)
theorem iFor_tup {ie : IE} {ig : IG} {body : IS} {env : PEnv} {st s1 : Sto} {xs : List PV} (h : ie env st = some (.tup xs, s1)) : iFor (iWalk ie) ig body env st = foldT ig body xs env s1 := by
  simp only [iFor_e, iWalk_e, h, ob_s]
  exact loop_foldT xs [] env s1 rfl
theorem iWhile_at (m : Nat) (h : m ≤ 1000000) : ∃ k : Nat, ∀ (t : IT) (body : IS) (env : PEnv) (st : Sto), iWhile t body env st = wloop t body (k + m) env st := ⟨1000000 - m, fun t body env st => by
  unfold iWhile bigN
  congr 1
  omega⟩
/-! ### comprehensions over mapped items, with a filter -/
theorem lc_garm {α : Type} {all : List α} {f g : α → PV} {p : α → Bool} {ig : IG} {t : IT} {e : IE} {st : Sto} {envw : PEnv} (hl : all.length < 9000000)
    (h : ∀ x ∈ all, ∀ s : Sto, ∃ env1, ig (f x) envw s = some env1 ∧ t env1 s = some (p x, s) ∧ (p x = true → ∃ l, e env1 s = some (g x, s ++ l))) :
    ∀ (ys pre : List α) (l : Sto), all = pre ++ ys → ∃ l', lcLoop (srcT (all.map f)).at_ ig t e st.length envw (ys.length + 1) pre.length (st ++ [.lst ((pre.filter p).map g)] ++ l) = some (st ++ [.lst ((all.filter p).map g)] ++ l')
  | [], pre, l, he => by
    rw [List.append_nil] at he
    subst he
    refine ⟨l, ?_⟩
    unfold lcLoop
    simp [srcT]
  | y :: ys, pre, l, he => by
    obtain ⟨env1, h1, h2, h3⟩ := h y (by rw [he]; simp) (st ++ [.lst ((pre.filter p).map g)] ++ l)
    have hat : (srcT (all.map f)).at_ (st ++ [.lst ((pre.filter p).map g)] ++ l) pre.length = some (some (f y)) := by
      simp only [srcT]
      rw [he, List.map_append, List.getElem?_append_right (by simp)]
      simp
    cases hp : p y with
    | false =>
      rw [hp] at h2
      obtain ⟨l', hr⟩ := lc_garm (t := t) (st := st) hl h ys (pre ++ [y]) l (by rw [he]; simp)
      refine ⟨l', ?_⟩
      rw [← hr]
      show lcLoop _ _ _ _ _ _ (ys.length + 1 + 1) _ _ = _
      conv => lhs; unfold lcLoop
      simp only [hat, h1, h2]
      rw [List.filter_append, List.length_append]
      simp [hp]
    | true =>
      rw [hp] at h2
      obtain ⟨l1, h3⟩ := h3 hp
      have hs : (st ++ [.lst ((pre.filter p).map g)] ++ l ++ l1)[st.length]? = some (.lst ((pre.filter p).map g)) := by
        rw [List.append_assoc (st ++ [_])]
        exact at_mid
      have hlen : ((pre.filter p).map g).length < 9000000 := by
        rw [List.length_map]
        have := congrArg List.length he
        have h9 := List.length_filter_le p pre
        rw [List.length_append] at this
        omega
      obtain ⟨l', hr⟩ := lc_garm (t := t) (st := st) hl h ys (pre ++ [y]) (l ++ l1) (by rw [he]; simp)
      refine ⟨l', ?_⟩
      rw [← hr]
      show lcLoop _ _ _ _ _ _ (ys.length + 1 + 1) _ _ = _
      conv => lhs; unfold lcLoop
      simp only [hat, h1, h2, h3, hs, hlen, if_true]
      have e2 : (st ++ [SO.lst ((pre.filter p).map g)] ++ l ++ l1).set st.length (.lst ((pre.filter p).map g ++ [g y])) = st ++ [SO.lst (((pre ++ [y]).filter p).map g)] ++ (l ++ l1) := by
        rw [List.append_assoc (st ++ [_]), set_mid, List.filter_append]
        simp [hp]
      rw [e2, List.length_append]
      rfl
theorem iLc_tupm {α : Type} {xs : List α} {f g : α → PV} {p : α → Bool} {ie e : IE} {ig : IG} {t : IT} {vs : List Nat} {env : PEnv} {st s1 : Sto} (hi : ie env st = some (.tup (xs.map f), s1)) (hl : xs.length < 9000000)
    (h : ∀ x ∈ xs, ∀ s : Sto, ∃ env1, ig (f x) (wipeE env vs) s = some env1 ∧ t env1 s = some (p x, s) ∧ (p x = true → ∃ l, e env1 s = some (g x, s ++ l))) :
    ∃ l, iLc (iWalk ie) ig t e vs env st = some (.ref s1.length, s1 ++ [.lst ((xs.filter p).map g)] ++ l) := by
  obtain ⟨l, hr⟩ := lc_garm (t := t) (e := e) (st := s1) hl h xs [] [] rfl
  refine ⟨l, ?_⟩
  unfold iLc
  simp only [iWalk_e, hi, ob_s]
  have e3 : (srcT (xs.map f)).n = xs.length := by simp [srcT]
  rw [e3]
  simp only [List.filter_nil, List.map_nil, List.append_nil, List.length_nil] at hr
  rw [hr]; rfl
theorem iLc_strm {x : Str} {g : Nat → PV} {p : Nat → Bool} {ie e : IE} {ig : IG} {t : IT} {vs : List Nat} {env : PEnv} {st s1 : Sto} (hi : ie env st = some (.str x, s1)) (hl : x.length < 9000000)
    (h : ∀ c ∈ x.cps.toList, ∀ s : Sto, ∃ env1, ig (.str ⟨#[c]⟩) (wipeE env vs) s = some env1 ∧ t env1 s = some (p c, s) ∧ (p c = true → ∃ l, e env1 s = some (g c, s ++ l))) :
    ∃ l, iLc (iWalk ie) ig t e vs env st = some (.ref s1.length, s1 ++ [.lst ((x.cps.toList.filter p).map g)] ++ l) := by
  have hn : x.cps.toList.length = x.length := by simp [Str.length]
  obtain ⟨l, hr⟩ := lc_garm (t := t) (e := e) (ig := ig) (envw := wipeE env vs) (st := s1) (f := fun c => PV.str ⟨#[c]⟩) (by rw [hn]; exact hl) h x.cps.toList [] [] rfl
  refine ⟨l, ?_⟩
  unfold iLc
  simp only [iWalk_e, hi, ob_s, srcS_eq]
  have e3 : (srcT (x.cps.toList.map fun c => PV.str ⟨#[c]⟩)).n = x.cps.toList.length := by simp [srcT]
  rw [e3]
  simp only [List.filter_nil, List.map_nil, List.append_nil, List.length_nil] at hr
  rw [hr]; rfl
theorem filter_yes {α : Type} (xs : List α) : xs.filter (fun _ => true) = xs := List.filter_eq_self.mpr fun _ _ => rfl
theorem inA_bls {α : Type} {xs : List α} {f : α → Bool} {st : Sto} {r : Nat} (h : st[r]? = some (.lst (xs.map fun x => PV.bl (f x)))) : inA st (.bl false) (.ref r) = some (!xs.all f) := by
  unfold inA
  simp only [dictOf_r, h]
  unfold inP
  simp only [itemsOf_r, h]
  show (mapO flatP _).map (fun ws => inV (.bl false) ws) = _
  rw [mapO_flatbl, Option.map_some, inV_bls]
theorem blsOf_r {α : Type} {xs : List α} {f : α → Bool} {st : Sto} {r : Nat} (h : st[r]? = some (.lst (xs.map fun x => PV.bl (f x)))) : blsOf st (.ref r) = some (xs.map f) := by
  unfold blsOf
  rw [listOf_r, h]
  exact mapO_bls f xs
theorem ltS_lo (k a : Nat) : ltS ⟨#[k]⟩ ⟨#[a]⟩ = decide (k < a) := by
  unfold ltS
  simp [List.cons_lt_cons_iff]
theorem lc_garA {α : Type} {all : List α} {f g : α → PV} {p : α → Bool} {at_ : Sto → Nat → Option (Option PV)} {ig : IG} {t : IT} {e : IE} {st : Sto} {envw : PEnv} (hat_ : ∀ (l : Sto) (i : Nat), at_ (st ++ l) i = some ((all.map f)[i]?)) (hl : all.length < 9000000)
    (h : ∀ x ∈ all, ∀ s : Sto, ∃ env1, ig (f x) envw s = some env1 ∧ t env1 s = some (p x, s) ∧ (p x = true → ∃ l, e env1 s = some (g x, s ++ l))) :
    ∀ (ys pre : List α) (l : Sto), all = pre ++ ys → ∃ l', lcLoop at_ ig t e st.length envw (ys.length + 1) pre.length (st ++ [.lst ((pre.filter p).map g)] ++ l) = some (st ++ [.lst ((all.filter p).map g)] ++ l')
  | [], pre, l, he => by
    rw [List.append_nil] at he
    subst he
    refine ⟨l, ?_⟩
    have hat := hat_ ([.lst ((all.filter p).map g)] ++ l) all.length
    rw [← List.append_assoc] at hat
    unfold lcLoop
    rw [hat]
    simp
  | y :: ys, pre, l, he => by
    obtain ⟨env1, h1, h2, h3⟩ := h y (by rw [he]; simp) (st ++ [.lst ((pre.filter p).map g)] ++ l)
    have hat : at_ (st ++ [.lst ((pre.filter p).map g)] ++ l) pre.length = some (some (f y)) := by
      rw [List.append_assoc, hat_]
      rw [he, List.map_append, List.getElem?_append_right (by simp)]
      simp
    cases hp : p y with
    | false =>
      rw [hp] at h2
      obtain ⟨l', hr⟩ := lc_garA (t := t) (st := st) hat_ hl h ys (pre ++ [y]) l (by rw [he]; simp)
      refine ⟨l', ?_⟩
      rw [← hr]
      show lcLoop _ _ _ _ _ _ (ys.length + 1 + 1) _ _ = _
      conv => lhs; unfold lcLoop
      simp only [hat, h1, h2]
      rw [List.filter_append, List.length_append]
      simp [hp]
    | true =>
      rw [hp] at h2
      obtain ⟨l1, h3⟩ := h3 hp
      have hs : (st ++ [.lst ((pre.filter p).map g)] ++ l ++ l1)[st.length]? = some (.lst ((pre.filter p).map g)) := by
        rw [List.append_assoc (st ++ [_])]
        exact at_mid
      have hlen : ((pre.filter p).map g).length < 9000000 := by
        rw [List.length_map]
        have := congrArg List.length he
        have h9 := List.length_filter_le p pre
        rw [List.length_append] at this
        omega
      obtain ⟨l', hr⟩ := lc_garA (t := t) (st := st) hat_ hl h ys (pre ++ [y]) (l ++ l1) (by rw [he]; simp)
      refine ⟨l', ?_⟩
      rw [← hr]
      show lcLoop _ _ _ _ _ _ (ys.length + 1 + 1) _ _ = _
      conv => lhs; unfold lcLoop
      simp only [hat, h1, h2, h3, hs, hlen, if_true]
      have e2 : (st ++ [SO.lst ((pre.filter p).map g)] ++ l ++ l1).set st.length (.lst ((pre.filter p).map g ++ [g y])) = st ++ [SO.lst (((pre ++ [y]).filter p).map g)] ++ (l ++ l1) := by
        rw [List.append_assoc (st ++ [_]), set_mid, List.filter_append]
        simp [hp]
      rw [e2, List.length_append]
      rfl
theorem iLc_srcm {α : Type} {xs : List α} {f g : α → PV} {p : α → Bool} {ii : II} {src : Src} {e : IE} {ig : IG} {t : IT} {vs : List Nat} {env : PEnv} {st s1 : Sto} (hi : ii env st = some (src, s1)) (hn : src.n = xs.length) (hat_ : ∀ (l : Sto) (i : Nat), src.at_ (s1 ++ l) i = some ((xs.map f)[i]?)) (hl : xs.length < 9000000)
    (h : ∀ x ∈ xs, ∀ s : Sto, ∃ env1, ig (f x) (wipeE env vs) s = some env1 ∧ t env1 s = some (p x, s) ∧ (p x = true → ∃ l, e env1 s = some (g x, s ++ l))) :
    ∃ l, iLc ii ig t e vs env st = some (.ref s1.length, s1 ++ [.lst ((xs.filter p).map g)] ++ l) := by
  obtain ⟨l, hr⟩ := lc_garA (t := t) (e := e) (st := s1) hat_ hl h xs [] [] rfl
  refine ⟨l, ?_⟩
  unfold iLc
  rw [hi, ob_s, hn]
  simp only [List.filter_nil, List.map_nil, List.append_nil, List.length_nil] at hr
  rw [hr]; rfl
theorem iLc_refm {α : Type} {xs : List α} {f g : α → PV} {p : α → Bool} {r : Nat} {ie : IE} {e : IE} {ig : IG} {t : IT} {vs : List Nat} {env : PEnv} {st s1 : Sto} (hi : ie env st = some (.ref r, s1)) (hr : s1[r]? = some (.lst (xs.map f))) (hl : xs.length < 9000000)
    (h : ∀ x ∈ xs, ∀ s : Sto, ∃ env1, ig (f x) (wipeE env vs) s = some env1 ∧ t env1 s = some (p x, s) ∧ (p x = true → ∃ l, e env1 s = some (g x, s ++ l))) :
    ∃ l, iLc (iWalk ie) ig t e vs env st = some (.ref s1.length, s1 ++ [.lst ((xs.filter p).map g)] ++ l) :=
  iLc_srcm (src := srcL r (xs.map f).length) (by simp only [iWalk_e, hi, ob_s, hr]) (by simp [srcL]) (fun l i => by simp only [srcL, old_at hr]) hl h
theorem iLc_frzm {α : Type} {xs : List α} {f g : α → PV} {p : α → Bool} {ie : IE} {e : IE} {ig : IG} {t : IT} {vs : List Nat} {env : PEnv} {st s1 : Sto} (hi : ie env st = some (.frz (xs.map f), s1)) (hl : xs.length < 9000000)
    (h : ∀ x ∈ xs, ∀ s : Sto, ∃ env1, ig (f x) (wipeE env vs) s = some env1 ∧ t env1 s = some (p x, s) ∧ (p x = true → ∃ l, e env1 s = some (g x, s ++ l))) :
    ∃ l, iLc (iWalk ie) ig t e vs env st = some (.ref s1.length, s1 ++ [.lst ((xs.filter p).map g)] ++ l) :=
  iLc_srcm (src := srcT (xs.map f)) (by simp only [iWalk_e, hi, ob_s]) (by simp [srcT]) (fun l i => by simp only [srcT]) hl h
theorem iFor_frz {ie : IE} {ig : IG} {body : IS} {env : PEnv} {st s1 : Sto} {xs : List PV} (h : ie env st = some (.frz xs, s1)) : iFor (iWalk ie) ig body env st = foldT ig body xs env s1 := by
  simp only [iFor_e, iWalk_e, h, ob_s]
  exact loop_foldT xs [] env s1 rfl
theorem goes_ref {ie : IE} {ig : IG} {body : IS} {env : PEnv} {st s1 : Sto} {r : Nat} {xs : List PV} (I : PEnv → Prop) (hi : ie env st = some (.ref r, s1)) (hx : Ext st s1) (hr : s1[r]? = some (.lst xs)) (hI : I env)
    (h : ∀ x ∈ xs, ∀ e, I e → ∀ s, ∃ e1, ig x e s = some e1 ∧ Goes body e1 s fun e2 s2 => Ext s s2 ∧ I e2) : Goes (iFor (iWalk ie) ig body) env st fun e2 s2 => Ext st s2 ∧ I e2 := by
  obtain ⟨e2, s2, h1, h2, h3⟩ := for_go (n := r) (ig := ig) (body := body) I xs (fun x hx e he s => by
    obtain ⟨e1, g1, e2, s2, g2, g3⟩ := h x hx e he s
    exact ⟨e1, e2, s2, g1, g2, g3⟩) xs [] env s1 rfl hr hI
  refine ⟨e2, s2, ?_, hx.trans h2, h3⟩
  simp only [iFor_e, iWalk_e, hi, ob_s, hr]
  exact h1
theorem goes_asgV {i : Nat} {A : IE} {env : PEnv} {st : Sto} {v : PV} (h : Vl A env v) : Goes (iAsg (gN i) A) env st fun e s => e = env.set i (some v) ∧ Ext st s := by
  obtain ⟨s, h1, h2⟩ := h st
  exact ⟨_, s, by simp [h1], rfl, h2⟩
end IL

/-! Texts joined; the items of a list with their numbers. -/
namespace IL
open PySem PySem.Spec PyProof.Rows L2
section
variable {X : Cx} {o e : Expr} {ia ib ie : IE} {pos : Pos}
def isStr : PV → Option Str
  | .str a => some a
  | _ => none
theorem strs_reps {K : PySem.W.Frag} {H : Hp} {ρ : Rho} : ∀ {xs : List PV} {vs : List V} {bs : List Str}, Reps K H ρ xs vs → mapO isStr xs = some bs → vs = bs.map V.str
  | [], vs, bs, R, h => by
    unfold Reps at R
    subst R
    cases h
    rfl
  | x :: xs, vs, bs, R, h => by
    unfold Reps at R
    obtain ⟨v, r, rfl, r1, r2⟩ := R
    unfold mapO at h
    split at h
    · rename_i e1 e2
      cases h
      cases x <;> simp only [isStr, Option.some.injEq, reduceCtorEq] at e1
      subst e1
      unfold Rep at r1
      rw [r1, strs_reps r2 e2]
      rfl
    · cases h
def strsOf (st : Sto) (x : PV) : Option (List Str) := match itemsOf st x with
  | some xs => mapO isStr xs
  | none => none
/-- a.join(xs) -/
def iJoin (ia ib : IE) : IE := fun env st => ob (ia env st) fun x s1 => match x with
  | .str a => ob (ib env s1) fun y s2 => match strsOf s2 y with
    | some ys => if (ys.map (·.length)).sum + ys.length * a.length ≤ 9000000 then some (.str (Txt.join a ys), s2) else none
    | none => none
  | _ => none
theorem r_join {apos cpos : Pos} (ho : PE X o (tI X.K ia)) (he : PE X e (tI X.K ib)) (hs : starEach [e] X.env = [(false, eval e X.env)] := by rfl) (hbase : attributeBase o "join" X.env (eval o X.env) = eval o X.env := by rfl) (hline : (apos.endLine == cpos.line) = true := by rfl) :
    PE X (.Call (.Attribute o "join" apos) [e] [] cpos) (tI X.K (iJoin ia ib)) :=
  PE.imp (pe_join ho he hs hbase hline) fun σ H Q ⟨env, st, ρ, z, st', E, S, h, q⟩ => by
    obtain ⟨x, s1, h1, h⟩ := ob_some h
    refine ⟨env, st, ρ, x, s1, E, S, h1, fun vx H1 ρ1 G1 S1 R1 => ?_⟩
    split at h
    · rename_i a
      obtain ⟨y, s2, h2, h⟩ := ob_some h
      unfold Rep at R1
      subst R1
      refine ⟨⟨a, rfl⟩, env, s1, ρ1, y, s2, E.grow S G1, S1, h2, fun vy H2 ρ2 G2 S2 R2 => ?_⟩
      split at h
      · rename_i ys e1
        split at h
        · rename_i hl
          cases h
          unfold strsOf at e1
          split at e1
          · rename_i xs e2
            obtain ⟨p, vs, rfl, t, r⟩ := items_rep S2 R2 e2
            have hv := strs_reps r e1
            rw [hv] at t
            exact ⟨a, p, ys, rfl, rfl, t, by omega, q _ H2 ρ2 (G1.trans G2) S2 (by unfold Rep; rfl)⟩
          · cases e1
        · cases h
      · cases h
    · cases h
/-- enumerate(xs) of a list -/
def srcE (n k : Nat) : Src := ⟨k, fun st i => match st[n]? with
  | some (.lst xs) => some ((xs[i]?).map fun x => .tup [.int (i : Nat), x])
  | _ => none⟩
def srcEF (xs : List PV) : Src := ⟨xs.length, fun _ i => some ((xs[i]?).map fun x => .tup [.int (i : Nat), x])⟩
theorem pair_new {K : PySem.W.Frag} {H : Hp} {ρ : Rho} {st : Sto} (S : RepS K H ρ st) {x : PV} {v : V} {i : Nat} (R : Rep K H ρ x v) {T : Addr} (hT : H T = none) :
    Grow H ρ (upd H T (.tup [.int (i : Nat), v])) ρ ∧ RepS K (upd H T (.tup [.int (i : Nat), v])) ρ st ∧ Rep K (upd H T (.tup [.int (i : Nat), v])) ρ (.tup [.int (i : Nat), x]) (.ref T) :=
  ⟨grow_new hT, S.new hT, new_tup S (by unfold Reps; exact ⟨_, _, rfl, by unfold Rep; rfl, by unfold Reps; exact ⟨_, _, rfl, R, by unfold Reps; rfl⟩⟩) hT⟩
theorem srcE_ok {K : PySem.W.Frag} {H0 : Hp} {ρ0 : Rho} {n k : Nat} {a : Addr} (h : ρ0.l[n]? = some a) : SrcOk K (srcE n k) (Ite K a) H0 ρ0 := fun H ρ st G S i => by
  have ha := G.ix h
  refine ⟨fun hs => ?_, fun x hs => ?_⟩
  · simp only [srcE] at hs
    split at hs
    · rename_i xs e
      obtain ⟨b, hb, vs, h1, h2⟩ := S.at_ _ _ e
      rw [ha] at hb; cases hb
      have ndd := S.lv _ _ _ e (by simp) ha
      exact ⟨vs, .of h1, by rw [← h2.length]; simpa using hs⟩
    · cases hs
  · simp only [srcE] at hs
    split at hs
    · rename_i xs e
      obtain ⟨b, hb, vs, h1, h2⟩ := S.at_ _ _ e
      rw [ha] at hb; cases hb
      have ndd := S.lv _ _ _ e (by simp) ha
      cases hx : xs[i]? with
      | none => rw [hx] at hs; cases hs
      | some y =>
        rw [hx] at hs
        cases hs
        obtain ⟨v, hv, r⟩ := h2.get hx
        refine ⟨⟨vs, v, .of h1, hv⟩, fun w H' yl => ?_⟩
        obtain ⟨T, u, rfl, hT, rfl, yl⟩ := yl
        have := yl vs (.of h1)
        rw [hv] at this; cases this
        obtain ⟨g1, g2, g3⟩ := pair_new (i := i) S r hT
        exact ⟨ρ, g1, g2, g3⟩
    · cases hs
theorem srcEF_ok {K : PySem.W.Frag} {H0 : Hp} {ρ0 : Rho} {st0 : Sto} {xs : List PV} {vs : List V} {a : Addr} (S0 : RepS K H0 ρ0 st0) (h : FrzAt K H0 ρ0 a vs) (r : Reps K H0 ρ0 xs vs) : SrcOk K (srcEF xs) (Ite K a) H0 ρ0 := fun H ρ st G S i => by
  have h1 := (h.grow G).sq
  have r1 := Reps.grow S0 G _ _ r
  refine ⟨fun hs => ?_, fun x hs => ?_⟩
  · simp only [srcEF] at hs
    exact ⟨vs, h1, by rw [← r1.length]; simpa using hs⟩
  · simp only [srcEF] at hs
    cases hx : xs[i]? with
    | none => rw [hx] at hs; cases hs
    | some y =>
      rw [hx] at hs
      cases hs
      obtain ⟨v, hv, r⟩ := r1.get hx
      refine ⟨⟨vs, v, h1, hv⟩, fun w H' yl => ?_⟩
      obtain ⟨T, u, rfl, hT, rfl, yl⟩ := yl
      have := yl vs h1
      rw [hv] at this; cases this
      obtain ⟨g1, g2, g3⟩ := pair_new (i := i) S r hT
      exact ⟨ρ, g1, g2, g3⟩
def enumSrc (s : Sto) : PV → Option Src
  | .frz xs => some (srcEF xs)
  | .ref n => match s[n]? with
    | some (.lst xs) => some (srcE n xs.length)
    | _ => none
  | _ => none
def iEnumL (ir : IA) : II := fun env st => ob (ir env st) fun xs s => match xs with
  | [x] => (enumSrc s x).map fun src => (src, s)
  | _ => none
theorem i_enum {e : Expr} {ir : IA} {p tpos pos : Pos} {elts : List Expr} {kk : Nat} (hg : Gl X "enumerate") (hm : X.mg "enumerate" = none) (ha : PA X [e] (tIA X.K ir)) (hs : starEach [e] X.env = [(false, eval e X.env)] := by rfl) :
    PI X (.Tuple elts kk tpos) (.Call (.Name "enumerate" p) [e] [] pos) (tII X.K (iEnumL ir)) := PI.imp (pi_enum hg hm ha hs) fun σ H R ⟨env, s, ρ, src, st', E, S, h, q⟩ => by
  obtain ⟨xs, s1, h1, h⟩ := ob_some h
  split at h
  · rename_i x
    obtain ⟨src', e2, e3⟩ := map_some h
    cases e3
    refine ⟨env, s, ρ, _, _, E, S, h1, fun v H1 ρ1 G1 S1 R1 => ?_⟩
    unfold Reps at R1
    obtain ⟨w, r, rfl, R1, R2⟩ := R1
    unfold Reps at R2
    subst R2
    cases x with
    | frz xs =>
      cases e2
      unfold Rep at R1
      obtain ⟨a, vs, rfl, t1, t2⟩ := R1
      exact ⟨a, vs, rfl, t1.sq, q _ H1 ρ1 G1 S1 (srcEF_ok S1 t1 t2)⟩
    | ref n =>
      simp only [enumSrc] at e2
      split at e2
      · rename_i xs e1
        cases e2
        obtain ⟨a, vs, rfl, t1, ndd, h3, h4⟩ := S1.lst R1 e1
        exact ⟨a, vs, rfl, .of h3, q _ H1 ρ1 G1 S1 (srcE_ok t1)⟩
      · cases e2
    | _ => cases e2
  · cases h
end
end IL

namespace IL
open PySem PySem.Spec PyProof.Rows L2
section
variable {X : Cx} {ik ie : IE} {it : IT} {pos : Pos}
/-! ### dict comprehensions -/
def dcLoop (at_ : Sto → Nat → Option (Option PV)) (ig : IG) (t : IT) (ek e : IE) (d : Nat) (env : PEnv) : Nat → Nat → Sto → Option Sto
  | 0, _, _ => none
  | m + 1, i, st => match at_ st i with
    | none => none
    | some none => some st
    | some (some x) => match ig x env st with
      | none => none
      | some env1 => match t env1 st with
        | none => none
        | some (false, s1) => dcLoop at_ ig t ek e d env m (i + 1) s1
        | some (true, s1) => match ek env1 s1 with
          | none => none
          | some (k, s2) => match e env1 s2 with
            | none => none
            | some (y, s3) => match keyP k, s3[d]? with
              | some kk, some (.dK acc) => if nodupK acc && decide (acc.length < 9000000) then dcLoop at_ ig t ek e d env m (i + 1) (s3.set d (.dK (putP acc kk y))) else none
              | _, _ => none
def iDc (ii : II) (ig : IG) (t : IT) (ek e : IE) (vs : List Nat) : IE := fun env st => ob (ii env st) fun src s =>
  (dcLoop src.at_ ig t ek e s.length (wipeE env vs) (src.n + 1) 0 (s ++ [.dK []])).map fun s' => (.ref s.length, s')
theorem dc_to {K : PySem.W.Frag} {ii : II} {ig : IG} {T vs : List Nat} {σ : L2.St} {H : Hp} {Q : VK} (hT : ∀ i ∈ T, i ∈ vs) (h : tI K (iDc ii ig it ik ie vs) σ H Q) : tDc (tII K ii) (tIG K T ig) (tIT K it) (tI K ik) (tI K ie) vs σ H Q := by
  obtain ⟨env, s, ρ, z, st', E, S, h, q⟩ := h
  obtain ⟨src, s1, h1, h⟩ := ob_some h
  obtain ⟨hl, hz⟩ : dcLoop src.at_ ig it ik ie s1.length (wipeE env vs) (src.n + 1) 0 (s1 ++ [.dK []]) = some st' ∧ z = .ref s1.length := by
    cases e : dcLoop src.at_ ig it ik ie s1.length (wipeE env vs) (src.n + 1) 0 (s1 ++ [.dK []]) with
    | none => rw [e] at h; cases h
    | some s' => rw [e] at h; cases h; exact ⟨rfl, rfl⟩
  subst hz
  refine ⟨env, s, ρ, src, s1, E, S, h1, fun J H1 ρ1 G1 S1 O Dl hD => ?_⟩
  have g0 : Grow H1 ρ1 (upd H1 Dl (.dK [])) (ρ1.add Dl) := grow_alloc hD
  have E1 : RepE K H1 ρ1 env σ := E.grow S G1
  refine ⟨fun i m H' => ∃ st2 ρ', Grow (upd H1 Dl (.dK [])) (ρ1.add Dl) H' ρ' ∧ RepS K H' ρ' st2 ∧ dcLoop src.at_ ig it ik ie s1.length (wipeE env vs) m i st2 = some st',
    ⟨src.n + 1, _, _, Grow.refl, S1.alloc (so := .dK []) hD ⟨[], upd_same, rfl⟩, hl⟩, ?_⟩
  rintro i m H' ⟨st2, ρ', G', S', hl⟩
  have ix : ρ'.l[s1.length]? = some Dl := G'.ix (by show (ρ1.l ++ [Dl])[s1.length]? = some Dl; rw [← S1.len, List.getElem?_append_right (Nat.le_refl _)]; simp)
  cases m with
  | zero => cases hl
  | succ m =>
    unfold dcLoop at hl
    obtain ⟨o1, o2⟩ := O H' ρ' st2 (g0.trans G') S' i
    split at hl
    · cases hl
    · rename_i e1
      cases hl
      refine .inl ⟨o1 e1, q _ H' ρ' (G1.trans (g0.trans G')) S' ?_⟩
      unfold Rep
      exact ⟨Dl, rfl, ix⟩
    · rename_i x e1
      obtain ⟨go, yl⟩ := o2 x e1
      split at hl
      · cases hl
      · rename_i env1 e2
        refine .inr ⟨go, fun H2 => ∃ m', m' < m + 1 ∧ ∃ st2 ρ', Grow (upd H1 Dl (.dK [])) (ρ1.add Dl) H2 ρ' ∧ RepS K H2 ρ' st2 ∧ dcLoop src.at_ ig it ik ie s1.length (wipeE env vs) m' (i + 1) st2 = some st', fun H2 n => n, fun v H2 y => ?_⟩
        obtain ⟨ρ2, G2, S2, R2⟩ := yl v H2 y
        have Ew : RepE K H2 ρ2 (wipeE env vs) (L2.wipe σ vs) := (E1.wipe vs).grow S1 ((g0.trans G').trans G2)
        refine ⟨wipeE env vs, st2, ρ2, x, env1, Ew, S2, R2, e2, fun σ3 E3 l3 a3 => ⟨?_, ?_⟩⟩
        · rw [L2.wipe_length] at l3
          exact wipe_same l3 fun j hj => a3 j fun z => hj (hT j z)
        · cases e3 : it env1 st2 with
          | none => rw [e3] at hl; cases hl
          | some r =>
            obtain ⟨b, s3⟩ := r
            rw [e3] at hl
            refine ⟨env1, st2, ρ2, b, s3, E3, S2, e3, fun H3 ρ3 G3 S3 => ?_⟩
            cases b with
            | false =>
              rw [if_neg Bool.false_ne_true]
              exact ⟨m, Nat.lt_succ_self m, s3, ρ3, (G'.trans G2).trans G3, S3, hl⟩
            | true =>
              rw [if_pos rfl]
              simp only at hl
              cases e4 : ik env1 s3 with
              | none => rw [e4] at hl; cases hl
              | some r =>
                obtain ⟨kx, s4⟩ := r
                rw [e4] at hl
                refine ⟨env1, s3, ρ3, kx, s4, E3.grow S2 G3, S3, e4, fun u H4 ρ4 G4 S4 R4 => ?_⟩
                simp only at hl
                cases e6 : ie env1 s4 with
                | none => rw [e6] at hl; cases hl
                | some r =>
                  obtain ⟨y, s5⟩ := r
                  rw [e6] at hl
                  refine ⟨env1, s4, ρ4, y, s5, (E3.grow S2 G3).grow S3 G4, S4, e6, fun w H5 ρ5 G5 S5 R5 => ?_⟩
                  simp only at hl
                  split at hl
                  · rename_i kk acc ek e5
                    split at hl
                    · rename_i hlen
                      rw [Bool.and_eq_true, decide_eq_true_eq] at hlen
                      have ix4 : ρ5.l[s1.length]? = some Dl := (G2.trans (G3.trans (G4.trans G5))).ix ix
                      obtain ⟨b, hb, ws, h2, h3⟩ := S5.at_ _ _ e5
                      rw [ix4] at hb; cases hb
                      have ndd := S5.lv _ _ _ e5 (by simp) ix4
                      have gw : Grow H5 ρ5 (upd H5 Dl (.dK (putK ws kk w))) ρ5 := grow_write h2 (List.mem_of_getElem? ix4) ndd
                      refine ⟨ws, kk, key_rep R4 ek, h2, line6 (by rw [← h3.length]; exact hlen.2), m, Nat.lt_succ_self m, _, ρ5, (((G'.trans G2).trans G3).trans G4).trans (G5.trans gw), S5.write (so := .dK (putP acc kk y)) ix4 ndd h2 ⟨_, upd_same, ?_⟩, hl⟩
                      exact RepK.grow S5 gw _ _ (put_rep R5 (of_decide_eq_true hlen.1) h3)
                    · cases hl
                  · cases hl
theorem r_dc {kx elt tg iter : Expr} {ifs : List Expr} {scope : Scope} {own : List (Str × Nat)} {ii : II} {T : List Nat} {ig : IG} (hc : X.calm = true) (hN : X.N.Nodup) (hi : PI X tg iter (tII X.K ii)) (ok : BlkOk X.N X.env.scope scope own)
    (hT : ∀ i ∈ T, i ∈ own.map (·.2))
    (hg : ∀ (s : Shared) (H : Hp) (C : Addr) (cl : List (Str × Addr)) (fp : List Addr), PG (X.blk s H scope (compEnvC scope cl C X.env) fp) tg (tIG X.K T ig)) (ht : ∀ (s : Shared) (H : Hp) (C : Addr) (cl : List (Str × Addr)) (fp : List Addr), PTs (X.blk s H scope (compEnvC scope cl C X.env) fp) ifs (tIT X.K it))
    (hk : ∀ (s : Shared) (H : Hp) (C : Addr) (cl : List (Str × Addr)) (fp : List Addr), PE (X.blk s H scope (compEnvC scope cl C X.env) fp) kx (tI X.K ik))
    (he : ∀ (s : Shared) (H : Hp) (C : Addr) (cl : List (Str × Addr)) (fp : List Addr), PE (X.blk s H scope (compEnvC scope cl C X.env) fp) elt (tI X.K ie)) (hs : ∀ x, foldedSetIterable iter X.env x = pure x := by intro _; rfl) :
    PE X (.DictComp kx elt [⟨tg, iter, ifs, 0⟩] scope pos) (tI X.K (iDc ii ig it ik ie (own.map (·.2)))) :=
  PE.imp (pe_dc hc hN hi ok hg ht hk he hs) fun _ _ _ h => dc_to hT h
end
end IL

namespace IL
open PySem PySem.Spec PyProof.Rows L2

section
variable {X : Cx} {a b c e i o : Expr} {es rest : List Expr} {pos : Pos} {ia ib ic ie io : IE} {ir : IA}
/-! ### what nobody writes any more; what an expression made for itself is let go -/
/-- the list or the dict is not written from now on -/
def frzV (s : Sto) : PV → PV × Sto
  | .ref n => match s[n]? with
    | some (.lst xs) => (.frz xs, s.set n .gone)
    | some (.dK kvs) => (.fdk (kvs.map (·.1)) (kvs.map (·.2)), s.set n .gone)
    | _ => (.ref n, s)
  | x => (x, s)
theorem frz_to {K : PySem.W.Frag} {H : Hp} {ρ : Rho} {st : Sto} (S : RepS K H ρ st) {x : PV} {v : V} (R : Rep K H ρ x v) : ∃ ρ', Grow H ρ H ρ' ∧ RepS K H ρ' (frzV st x).2 ∧ Rep K H ρ' (frzV st x).1 v := by
  unfold frzV
  split
  · rename_i n
    split
    · rename_i xs e
      obtain ⟨a, vs, rfl, h1, h2, h3, h4⟩ := S.lst R e
      exact ⟨_, grow_die, S.die h1 e (.inl ⟨vs, .of h3⟩), S.dead h1 e⟩
    · rename_i xs e
      obtain ⟨a, vs, rfl, h1, h2, h3, h4⟩ := S.dct R e
      exact ⟨_, grow_die, S.die h1 e (.inr ⟨vs, .of h3⟩), S.deadK h1 e⟩
    · exact ⟨ρ, Grow.refl, S, R⟩
  · exact ⟨ρ, Grow.refl, S, R⟩
def iFrz (ia : IE) : IE := fun env st => ob (ia env st) fun x s => some (frzV s x)
theorem r_frz (ha : PE X e (tI X.K ia)) : PE X e (tI X.K (iFrz ia)) := PE.imp ha fun σ H Q ⟨env, st, ρ, z, st', E, S, h, q⟩ => by
  obtain ⟨x, s1, h1, h⟩ := ob_some h
  have e := Option.some.inj h
  refine ⟨env, st, ρ, x, s1, E, S, h1, fun v H1 ρ1 G1 S1 R1 => ?_⟩
  obtain ⟨ρ2, G2, S2, R2⟩ := frz_to S1 R1
  rw [e] at S2 R2
  exact q v H1 ρ2 (G1.trans G2) S2 R2
noncomputable def iGc (ia : IE) : IE := fun env st => (ia env st).map fun r => (r.1, gcS st r.2 r.1)
theorem r_gc (ha : PE X e (tI X.K ia)) : PE X e (tI X.K (iGc ia)) := PE.imp ha fun σ H Q ⟨env, st, ρ, z, st', E, S, h, q⟩ => by
  obtain ⟨r, h1, h2⟩ := map_some h
  obtain ⟨x, s1⟩ := r
  have e1 : x = z := congrArg Prod.fst h2
  have e2 : gcS st s1 x = st' := congrArg Prod.snd h2
  subst e1
  subst e2
  refine ⟨env, st, ρ, x, s1, E, S, h1, fun v H1 ρ1 G1 S1 R1 => ?_⟩
  obtain ⟨ρ2, G2, S2, R2⟩ := gc_to S G1 S1 R1
  exact q v H1 ρ2 G2 S2 R2
/-- a new thing that is not written: its value alone -/
noncomputable def iNew (ia : IE) : IE := iGc (iFrz ia)
theorem r_new (ha : PE X e (tI X.K ia)) : PE X e (tI X.K (iNew ia)) := r_gc (r_frz ha)

/-! ### attributes -/
/-- what is known of the class of that name -/
structure KCls (K : PySem.W.Frag) (c : Str) : Prop where
  ex : ∃ C, ClsAt K c C ∧ Cls K C
/-- .. the class has no attribute of that name -/
def KFld (K : PySem.W.Frag) (c f : Str) : Prop := ∃ C, ClsAt K c C ∧ Cls K C ∧ NoAttr K C f
theorem KFld.at_ {K : PySem.W.Frag} {c f : Str} {C : Addr} (h : KFld K c f) (hc : ClsAt K c C) : Cls K C ∧ NoAttr K C f := by
  obtain ⟨C', h1, h2, h3⟩ := h
  rw [hc.uniq h1]
  exact ⟨h2, h3⟩
theorem lookF {K : PySem.W.Frag} {H : Hp} {ρ : Rho} {f : Str} : ∀ {fs : List (Str × PV)} {vs : List (Str × V)} , RepF K H ρ fs vs → (∀ x, fs.lookup f = some x → ∃ v, vs.lookup f = some v ∧ Rep K H ρ x v) ∧ (fs.lookup f = none → vs.lookup f = none) ∧ fs.length = vs.length
  | [], vs, h => by
    subst h
    exact ⟨fun x h => by simp at h, fun _ => rfl, rfl⟩
  | (g, y) :: fs, vs, h => by
    obtain ⟨v, r, rfl, h1, h2⟩ := h
    obtain ⟨a1, a2, a3⟩ := lookF (f := f) h2
    refine ⟨fun x hx => ?_, fun hx => ?_, by simp [a3]⟩
    · rw [List.lookup_cons] at hx
      rw [List.lookup_cons]
      cases e : f == g with
      | true =>
        rw [e] at hx
        simp only [Option.some.injEq] at hx
        subst hx
        exact ⟨v, rfl, h1⟩
      | false =>
        rw [e] at hx
        exact a1 x hx
    · rw [List.lookup_cons] at hx
      rw [List.lookup_cons]
      cases e : f == g with
      | true => rw [e] at hx; simp at hx
      | false => rw [e] at hx; exact a2 hx
def putP1 (f : Str) (v : PV) : List (Str × PV) → List (Str × PV)
  | [] => [(f, v)]
  | (g, x) :: r => if g = f then (g, v) :: r else (g, x) :: putP1 f v r
theorem put_F {K : PySem.W.Frag} {H : Hp} {ρ : Rho} {f : Str} {x : PV} {v : V} (R : Rep K H ρ x v) : ∀ {fs : List (Str × PV)} {vs : List (Str × V)}, RepF K H ρ fs vs → RepF K H ρ (putP1 f x fs) (putF f v vs)
  | [], vs, h => by
    subst h
    exact ⟨v, [], rfl, R, rfl⟩
  | (g, y) :: fs, vs, h => by
    obtain ⟨w, r, rfl, h1, h2⟩ := h
    unfold putP1 putF
    split
    · exact ⟨v, r, rfl, R, h2⟩
    · exact ⟨w, _, rfl, h1, put_F R h2⟩
/-- o.f, for instances of these classes -/
def fFld (cs : List Str) (f : Str) : F1 := fun x s => match x with
  | .ref n => match s[n]? with
    | some (.ins c fs) => if cs.contains c then (fs.lookup f).map fun v => (v, s) else none
    | _ => none
  | _ => none
def iFld (cs : List Str) (f : Str) (ia : IE) : IE := iUn (fFld cs f) ia
theorem r_fld {cs : List Str} {f : Str} (hk : ∀ c ∈ cs, KFld X.K c f) (ha : PE X a (tI X.K ia)) (hb : attributeBase a f X.env (eval a X.env) = eval a X.env := by rfl) : PE X (.Attribute a f pos) (tI X.K (iFld cs f ia)) :=
  PE.imp (pe_fld ha hb) fun σ H Q ⟨env, st, ρ, z, st', E, S, h, q⟩ => by
    obtain ⟨x, s1, h1, h⟩ := ob_some h
    refine ⟨env, st, ρ, x, s1, E, S, h1, fun vx H1 ρ1 G1 S1 R1 => ?_⟩
    unfold fFld at h
    split at h
    · rename_i n
      split at h
      · rename_i c fs e
        split at h
        · rename_i hc
          obtain ⟨v, e2, hz⟩ := map_some h
          cases hz
          obtain ⟨p, C, dx, vs, rfl, i1, ndd, hC, h2, h3⟩ := S1.inst R1 e
          obtain ⟨k1, k2⟩ := (hk c (by simpa using hc)).at_ hC
          obtain ⟨w, hw, R2⟩ := (lookF h3).1 _ e2
          exact ⟨p, C, dx, vs, w, rfl, h2, k1, k2, hw, q w H1 ρ1 G1 S1 R2⟩
        · cases h
      · cases h
    · cases h
/-- o.f = v -/
def setFld (cs : List Str) (f : Str) (x y : PV) (s : Sto) : Option Sto := match x with
  | .ref n => match s[n]? with
    | some (.ins c fs) => if cs.contains c && decide (fs.length < 900) then some (s.set n (.ins c (putP1 f y fs))) else none
    | _ => none
  | _ => none
theorem setFld_to {K : PySem.W.Frag} {H : Hp} {ρ : Rho} {st st' : Sto} {cs : List Str} {f : Str} {x y : PV} {vx vy : V} (hk : ∀ c ∈ cs, KFld K c f) (S : RepS K H ρ st) (Rx : Rep K H ρ x vx) (Ry : Rep K H ρ y vy) (h : setFld cs f x y st = some st') :
    ∃ a C dx fs, vx = .ref a ∧ H a = some (.ins C dx fs) ∧ Cls K C ∧ NoAttr K C f ∧ fs.length < 1000 ∧ Grow H ρ (upd H a (.ins C dx (putF f vy fs))) ρ ∧ RepS K (upd H a (.ins C dx (putF f vy fs))) ρ st' := by
  unfold setFld at h
  split at h
  · rename_i n
    split at h
    · rename_i c fs e
      split at h
      · rename_i hc
        cases h
        rw [Bool.and_eq_true, decide_eq_true_eq] at hc
        obtain ⟨p, C, dx, vs, rfl, i1, ndd, hC, h2, h3⟩ := S.inst Rx e
        obtain ⟨k1, k2⟩ := (hk c (by simpa using hc.1)).at_ hC
        have g : Grow H ρ (upd H p (.ins C dx (putF f vy vs))) ρ := grow_write h2 (List.mem_of_getElem? i1) ndd
        refine ⟨p, C, dx, vs, rfl, h2, k1, k2, by rw [← (lookF (f := f) h3).2.2]; omega, g, S.write (so := .ins c (putP1 f y fs)) i1 ndd h2 ⟨C, dx, _, hC, upd_same, RepF.grow S g _ _ (put_F Ry h3)⟩⟩
      · cases h
    · cases h
  · cases h
variable {W : WX}
def iSetFld (cs : List Str) (f : Str) (io ie : IE) : IS := fun env st => ob (ie env st) fun y s1 => ob (io env s1) fun x s2 => (setFld cs f x y s2).map fun s3 => .nx env s3
theorem s_setFld {cs : List Str} {f : Str} {pos' : Pos} (hk : ∀ c ∈ cs, KFld X.K c f) (ho : PE X o (tI X.K io)) (he : PE X e (tI X.K ie)) (hs : swapsWith e (some (.Attribute o f pos')) pos.line X.env = pure false := by rfl) :
    PS X (.Assign [.Attribute o f pos'] e pos) (tIS X.K W (iSetFld cs f io ie)) := PS.imp (ps_fld ho he hs) fun D σ H ⟨env, s, ρ, fl, E, S, h, q⟩ => by
  obtain ⟨y, s1, h1, h⟩ := ob_some h
  obtain ⟨x, s2, h2, h⟩ := ob_some h
  obtain ⟨s3, h3, hz⟩ := map_some h
  subst hz
  refine ⟨env, s, ρ, y, s1, E, S, h1, fun vy H1 ρ1 G1 S1 R1 => ⟨env, s1, ρ1, x, s2, E.grow S G1, S1, h2, fun vx H2 ρ2 G2 S2 R2 => ?_⟩⟩
  obtain ⟨p, C, dx, fs, ex, e1, e2, e3, e4, G3, S3⟩ := setFld_to hk S2 R2 (Rep.grow S1 G2 _ _ R1) h3
  exact ⟨p, C, dx, fs, ex, e1, e2, e3, e4, q σ _ ρ2 ((G1.trans G2).trans G3) S3 (((E.grow S G1).grow S1 G2).grow S2 G3)⟩
/-- o.f += v, o.f -= v: integers -/
def augTo (f : Str) (g : Int → Int → Int) (n : Nat) (c : Str) (m : Int) (y : PV) (s2 : Sto) : Option Sto := match y with
  | .int k => match s2[n]? with
    | some (.ins c' fs') => if c' = c ∧ fs'.length < 900 then some (s2.set n (.ins c' (putP1 f (.int (g m k)) fs'))) else none
    | _ => none
  | _ => none
theorem augTo_some {f : Str} {g : Int → Int → Int} {n : Nat} {c : Str} {m : Int} {y : PV} {s2 s3 : Sto} (h : augTo f g n c m y s2 = some s3) : ∃ k fs', y = .int k ∧ s2[n]? = some (.ins c fs') ∧ fs'.length < 900 ∧ s3 = s2.set n (.ins c (putP1 f (.int (g m k)) fs')) := by
  unfold augTo at h
  split at h
  · split at h
    · rename_i k c' fs' e
      split at h
      · rename_i hl
        obtain ⟨rfl, hl⟩ := hl
        cases h
        exact ⟨_, fs', rfl, e, hl, rfl⟩
      · cases h
    · cases h
  · cases h
def intFld (cs : List Str) (f : Str) (x : PV) (s : Sto) : Option (Nat × Str × Int) := match x with
  | .ref n => match s[n]? with
    | some (.ins c fs) => if cs.contains c then (match fs.lookup f with
      | some (.int m) => some (n, c, m)
      | _ => none) else none
    | _ => none
  | _ => none
theorem intFld_some {cs : List Str} {f : Str} {x : PV} {s : Sto} {r : Nat × Str × Int} (h : intFld cs f x s = some r) : ∃ fs, x = .ref r.1 ∧ s[r.1]? = some (.ins r.2.1 fs) ∧ cs.contains r.2.1 = true ∧ fs.lookup f = some (.int r.2.2) := by
  unfold intFld at h
  split at h
  · split at h
    · rename_i c fs e
      split at h
      · rename_i hc
        split at h
        · rename_i m e2
          cases h
          exact ⟨fs, rfl, e, hc, e2⟩
        · cases h
      · cases h
    · cases h
  · cases h
def iAugFld (cs : List Str) (f : Str) (g : Int → Int → Int) (io ie : IE) : IS := fun env st => ob (io env st) fun x s1 => match intFld cs f x s1 with
  | some (n, c, m) => ob (ie env s1) fun y s2 => (augTo f g n c m y s2).map fun s3 => .nx env s3
  | none => none
theorem s_augFld {op : Operator} {cs : List Str} {f : Str} {g : Int → Int → Int} {tpos : Pos} {rd : V → V → Hp → VK → Prop} (hop : InOp X op rd) (hrd : ∀ m n H Q, Q (.int (g m n)) H → rd (.int m) (.int n) H Q) (hk : ∀ c ∈ cs, KFld X.K c f) (ho : PE X o (tI X.K io)) (he : PE X e (tI X.K ie)) :
    PS X (.AugAssign (.Attribute o f tpos) op e pos) (tIS X.K W (iAugFld cs f g io ie)) := PS.imp (ps_fldaug ho he hop) fun D σ H ⟨env, s, ρ, fl, E, S, h, q⟩ => by
  obtain ⟨x, s1, h1, h⟩ := ob_some h
  cases e0 : intFld cs f x s1 with
  | none => rw [e0] at h; cases h
  | some r =>
    obtain ⟨n, c, m⟩ := r
    rw [e0] at h
    obtain ⟨fs, ex, e, hc, e2⟩ := intFld_some e0
    simp only at ex e hc e2
    subst ex
    obtain ⟨y, s2, h3, h⟩ := ob_some h
    obtain ⟨s3, h4, hz⟩ := map_some h
    subst hz
    obtain ⟨k, fs', rfl, e3, hl, rfl⟩ := augTo_some h4
    refine ⟨env, s, ρ, _, s1, E, S, h1, fun vx H1 ρ1 G1 S1 R1 => ?_⟩
    obtain ⟨p, C, dx, vs, rfl, i1, ndd, hC, h2', h3'⟩ := S1.inst R1 e
    obtain ⟨k1, k2⟩ := (hk c (by simpa using hc)).at_ hC
    obtain ⟨w, hw, R2⟩ := (lookF h3').1 _ e2
    unfold Rep at R2
    subst R2
    refine ⟨p, C, dx, vs, .int m, rfl, h2', k1, k2, hw, env, _, ρ1, _, s2, E.grow S G1, S1, h3, fun vy H2 ρ2 G2 S2 R2 => ?_⟩
    unfold Rep at R2
    subst R2
    refine hrd m k H2 _ ?_
    obtain ⟨p', C', dx', vs', ep, i2, ndd2, hC', h4, h5⟩ := S2.inst (Rep.grow S1 G2 _ _ R1) e3
    cases ep
    have hCC := hC'.uniq hC
    subst hCC
    have gw : Grow H2 ρ2 (upd H2 p (.ins C' dx' (putF f (.int (g m k)) vs'))) ρ2 := grow_write h4 (List.mem_of_getElem? i2) ndd2
    exact ⟨dx', vs', h4, by rw [← (lookF (f := f) h5).2.2]; omega, q σ _ ρ2 ((G1.trans G2).trans gw) (S2.write (so := .ins c (putP1 f (.int (g m k)) fs')) i2 ndd2 h4 ⟨C', dx', _, hC', upd_same, RepF.grow S2 gw _ _ (put_F (by unfold Rep; rfl) h5)⟩) (((E.grow S G1).grow S1 G2).grow S2 gw)⟩
end
end IL

namespace IL
open PySem PySem.Spec PyProof.Rows L2

/-! ### what may be called -/
abbrev CalJ (P : Program) (w : World) (K : PySem.W.Frag) (mg : Str → Option Value) (base : Heap) (k : Nat) (x : Str) (n : Nat) (f : FA) : Prop := C8.Cal P w K mg base k x (spI K n f) []
/-- a method of the class of that name -/
structure MetJ (P : Program) (w : World) (K : PySem.W.Frag) (mg : Str → Option Value) (base : Heap) (k : Nat) (c m : Str) (n : Nat) (f : FA) : Prop where
  ex : ∃ C : Addr, ClsAt K c C ∧ C8.Met P w K mg base k C m (spI K n f) []
/-- a class that may be made by its name -/
structure MakJ (P : Program) (w : World) (K : PySem.W.Frag) (mg : Str → Option Value) (base : Heap) (k : Nat) (c : Str) (n : Nat) (f : FA) : Prop where
  ex : ∃ C : Addr, ClsAt K c C ∧ C8.Mak P w K mg base k c C (spI K n f) []
section
variable {X : Cx} {k j n : Nat} {F : FA} {x m : Str} {p pos apos : Pos} {e o : Expr} {es : List Expr} {io : IE} {ir : IA}
theorem j_call (c : CalJ X.prog X.w X.K X.mg X.base k x n F) (hn : Ar n F) (hr : Room j X.A) (hk : k ≤ j) (hg : Gl X x) (ha : PA X (e :: es) (tIA X.K ir))
    (hdb : (x == ("__debug__" : Str)) = false := by decide) (he : starEach (e :: es) X.env = (false, eval e X.env) :: starEach es X.env := by rfl) (hpl : (backTo pos (starEach es X.env)).any (·.1) = false := by rfl) :
    PE X (.Call (.Name x p) (e :: es) [] pos) (tI X.K (iCall F ir)) := r_call c hn hr hk hg ha hdb he hpl
theorem nil_to {K : PySem.W.Frag} {σ : L2.St} {H : Hp} {Q : List V → Hp → Prop} (h : tIA K iNil σ H Q) : tNil σ H Q := by
  obtain ⟨env, st, ρ, x, st', E, S, h1, q⟩ := h
  cases h1
  exact q [] H ρ Grow.refl S (by unfold Reps; rfl)
theorem j_call0 (c : CalJ X.prog X.w X.K X.mg X.base k x 0 F) (hn : Ar 0 F) (hr : Room j X.A) (hk : k ≤ j) (hg : Gl X x)
    (hdb : (x == ("__debug__" : Str)) = false := by decide) : PE X (.Call (.Name x p) [] [] pos) (tI X.K (iCall F iNil)) := by
  obtain ⟨f, fd, ps, ds, hF, hm, kp, b, d⟩ := c.ex
  exact PE.imp (pe_call0 (E := C8.E0) hF (hr.mono hk) hg hm kp b d C8.pass0 hdb) fun _ _ _ h => nil_to (call_to hn h)
/-- o.m(..): the def of o's class -/
def iMeth (m : Str) (tbl : List (Str × FA)) (io : IE) (ir : IA) : IE := fun env st => ob (io env st) fun x s1 => match x with
  | .ref n => match s1[n]? with
    | some (.ins c fs) => match tbl.lookup c, fs.lookup m with
      | some F, none => ob (ir env s1) fun xs s2 => F (x :: xs) s2
      | _, _ => none
    | _ => none
  | _ => none
theorem iMeth_some {tbl : List (Str × FA)} {env : PEnv} {st : Sto} {r : PV × Sto} (h : iMeth m tbl io ir env st = some r) : ∃ n s1 c fs F xs s2, io env st = some (.ref n, s1) ∧ s1[n]? = some (.ins c fs) ∧ tbl.lookup c = some F ∧ fs.lookup m = none ∧ ir env s1 = some (xs, s2) ∧ F (.ref n :: xs) s2 = some r := by
  obtain ⟨x, s1, h1, h⟩ := ob_some h
  split at h
  · rename_i n
    split at h
    · rename_i c fs e
      split at h
      · rename_i F e1 e2
        obtain ⟨xs, s2, h2, h⟩ := ob_some h
        exact ⟨n, s1, c, fs, F, xs, s2, h1, e, e1, e2, h2, h⟩
      · cases h
    · cases h
  · cases h
theorem lookup_mem {α : Type} {c : Str} {x : α} : ∀ {l : List (Str × α)}, l.lookup c = some x → (c, x) ∈ l
  | [], h => by simp at h
  | (d, y) :: l, h => by
    rw [List.lookup_cons] at h
    cases e : c == d with
    | true =>
      rw [e] at h
      have := eq_of_beq e
      subst this
      cases h
      exact List.mem_cons_self ..
    | false => rw [e] at h; exact List.mem_cons_of_mem _ (lookup_mem h)
theorem j_meth {tbl : List (Str × FA)} {pl : Sem Bool} (c : ∀ cf ∈ tbl, MetJ X.prog X.w X.K X.mg X.base k cf.1 m (n + 1) cf.2 ∧ Ar (n + 1) cf.2) (hr : Room j X.A) (hk : k ≤ j) (ho : PE X o (tI X.K io)) (ha : PA X (e :: es) (tIA X.K ir))
    (hst : starEach (e :: es) X.env = (false, eval e X.env) :: starEach es X.env := by rfl) (hpl : (backTo pos (starEach es X.env)).any (·.1) = false := by rfl)
    (ht : eval (.Call (.Attribute o m apos) (e :: es) [] pos) X.env = (do
      let ov ← eval o X.env
      standAt apos.atName
      let (f, first) ← holding [ov] (getMethod ov m pl)
      callWith pos f first (backTo pos (starEach (e :: es) X.env)) (backToKw pos (keywordEach [] X.env))) := by rfl) :
    PE X (.Call (.Attribute o m apos) (e :: es) [] pos) (tI X.K (iMeth m tbl io ir)) := by
  refine ⟨fun pins s σ H Q I h => ?_⟩
  obtain ⟨env, st, ρ, z, st', E, S, h, q⟩ := h
  obtain ⟨nn, s1, cl, fs, F, xs, s2, h1, h2, h3, h4, h5, h6⟩ := iMeth_some h
  obtain ⟨mj, hn⟩ := c (cl, F) (lookup_mem h3)
  obtain ⟨C, hC, mm⟩ := mj.ex
  refine (C8.pe_mt (pl := pl) mm hr hk ho ha hst hpl ht).run pins s σ H Q I ?_
  refine ⟨env, st, ρ, _, s1, E, S, h1, fun vx H1 ρ1 G1 S1 R1 => ?_⟩
  obtain ⟨a, C', dx, vs, rfl, i1, ndd, hC', h7, h8⟩ := S1.inst R1 h2
  rw [hC'.uniq hC] at h7
  refine ⟨a, dx, vs, rfl, h7, (lookF (f := m) h8).2.1 h4, env, s1, ρ1, xs, s2, E.grow S G1, S1, h5, fun us H2 ρ2 G2 S2 R2 => ?_⟩
  show spI X.K (n + 1) F (.ref a :: (us ++ [])) H2 Q C8.E0
  rw [List.append_nil]
  refine ⟨by have := R2.length; have := hn _ _ _ h6; simp at this ⊢; omega, s2, ρ2, .ref nn :: xs, z, st', S2, ?_, h6, fun v H3 ρ3 G3 S3 R3 => q v H3 ρ3 ((G1.trans G2).trans G3) S3 R3⟩
  unfold Reps
  exact ⟨.ref a, us, rfl, Rep.grow S1 G2 _ _ R1, R2⟩
theorem j_meth0 {tbl : List (Str × FA)} {pl : Sem Bool} (c : ∀ cf ∈ tbl, MetJ X.prog X.w X.K X.mg X.base k cf.1 m 1 cf.2 ∧ Ar 1 cf.2) (hr : Room j X.A) (hk : k ≤ j) (ho : PE X o (tI X.K io))
    (ht : eval (.Call (.Attribute o m apos) [] [] pos) X.env = (do
      let ov ← eval o X.env
      standAt apos.atName
      let (f, first) ← holding [ov] (getMethod ov m pl)
      callWith pos f first (backTo pos (starEach [] X.env)) (backToKw pos (keywordEach [] X.env))) := by rfl) :
    PE X (.Call (.Attribute o m apos) [] [] pos) (tI X.K (iMeth m tbl io iNil)) := by
  refine ⟨fun pins s σ H Q I h => ?_⟩
  obtain ⟨env, st, ρ, z, st', E, S, h, q⟩ := h
  obtain ⟨nn, s1, cl, fs, F, xs, s2, h1, h2, h3, h4, h5, h6⟩ := iMeth_some h
  cases h5
  obtain ⟨mj, hn⟩ := c (cl, F) (lookup_mem h3)
  obtain ⟨C, hC, mm⟩ := mj.ex
  refine (C8.pe_mt0 (pl := pl) mm hr hk ho ht).run pins s σ H Q I ?_
  refine ⟨env, st, ρ, _, _, E, S, h1, fun vx H1 ρ1 G1 S1 R1 => ?_⟩
  obtain ⟨a, C', dx, vs, rfl, i1, ndd, hC', h7, h8⟩ := S1.inst R1 h2
  rw [hC'.uniq hC] at h7
  refine ⟨a, dx, vs, rfl, h7, (lookF (f := m) h8).2.1 h4, ?_⟩
  refine ⟨by have := hn _ _ _ h6; simp at this ⊢, _, ρ1, [.ref nn], z, st', S1, ?_, h6, fun v H3 ρ3 G3 S3 R3 => q v H3 ρ3 (G1.trans G3) S3 R3⟩
  unfold Reps
  exact ⟨.ref a, [], rfl, R1, by unfold Reps; rfl⟩
/-- C(..): a new instance -/
def iMake (c : Str) (F : FA) (ir : IA) : IE := fun env st => ob (ir env st) fun xs s1 => ob (F (.ref s1.length :: xs) (s1 ++ [.ins c []])) fun v s2 => match v with
  | .non => some (.ref s1.length, s2)
  | _ => none
theorem make_to {K : PySem.W.Frag} {c : Str} {C : Addr} (hC : ClsAt K c C) {n : Nat} {f : FA} (hn : Ar (n + 1) f) {σ : L2.St} {H : Hp} {Q : VK} (h : tI K (iMake c f ir) σ H Q) : tMake C (spI K (n + 1) f) [] C8.E0 (tIA K ir) σ H Q := by
  obtain ⟨env, st, ρ, z, st', E, S, h, q⟩ := h
  obtain ⟨xs, s1, h1, h⟩ := ob_some h
  obtain ⟨v, s2, h2, h⟩ := ob_some h
  refine ⟨env, st, ρ, xs, s1, E, S, h1, fun vs H1 ρ1 G1 S1 R1 x dx hx hdx hne => ?_⟩
  split at h
  · cases h
    show spI K (n + 1) f (.ref x :: (vs ++ [])) _ _ C8.E0
    rw [List.append_nil]
    have gd : Grow H1 ρ1 (upd H1 dx (.own x)) ρ1 := grow_new hdx
    have hx' : upd H1 dx (.own x) x = none := by rw [upd_ne (fun z => hne z.symm)]; exact hx
    have Sd : RepS K (upd H1 dx (.own x)) ρ1 s1 := S1.new hdx
    have ga : Grow (upd H1 dx (.own x)) ρ1 (upd (upd H1 dx (.own x)) x (.ins C dx [])) (ρ1.add x) := grow_alloc hx'
    have Sa : RepS K (upd (upd H1 dx (.own x)) x (.ins C dx [])) (ρ1.add x) (s1 ++ [.ins c []]) := Sd.alloc hx' ⟨C, dx, [], hC, upd_same, rfl⟩
    have Rx : Rep K (upd (upd H1 dx (.own x)) x (.ins C dx [])) (ρ1.add x) (.ref s1.length) (.ref x) := by
      unfold Rep
      refine ⟨x, rfl, ?_⟩
      show (ρ1.l ++ [x])[s1.length]? = some x
      rw [← S1.len, List.getElem?_append_right (Nat.le_refl _)]
      simp
    refine ⟨by have := R1.length; have := hn _ _ _ h2; simp at this ⊢; omega, _, _, .ref s1.length :: xs, .non, _, Sa, ?_, h2, fun v H3 ρ3 G3 S3 R3 => ?_⟩
    · unfold Reps
      exact ⟨.ref x, vs, rfl, Rx, Reps.grow S1 (gd.trans ga) _ _ R1⟩
    · unfold Rep at R3
      subst R3
      exact ⟨rfl, q (.ref x) H3 ρ3 ((G1.trans (gd.trans ga)).trans G3) S3 (Rep.grow Sa G3 _ _ Rx)⟩
  · cases h
theorem j_make (c : MakJ X.prog X.w X.K X.mg X.base k x (n + 1) F) (hn : Ar (n + 1) F) (hr : Room j X.A) (hk : k + 1 ≤ j) (hg : Gl X x) (ha : PA X (e :: es) (tIA X.K ir))
    (hdb : (x == ("__debug__" : Str)) = false := by decide) (he : starEach (e :: es) X.env = (false, eval e X.env) :: starEach es X.env := by rfl) (hpl : (backTo pos (starEach es X.env)).any (·.1) = false := by rfl) :
    PE X (.Call (.Name x p) (e :: es) [] pos) (tI X.K (iMake x F ir)) := by
  obtain ⟨C, hC, mm⟩ := c.ex
  exact PE.imp (C8.pe_mk mm hr hk hg ha hdb he hpl) fun _ _ _ h => make_to hC hn h
theorem j_make0 (c : MakJ X.prog X.w X.K X.mg X.base k x 1 F) (hn : Ar 1 F) (hr : Room j X.A) (hk : k + 1 ≤ j) (hg : Gl X x)
    (hdb : (x == ("__debug__" : Str)) = false := by decide) : PE X (.Call (.Name x p) [] [] pos) (tI X.K (iMake x F iNil)) := by
  obtain ⟨C, hC, mm⟩ := c.ex
  obtain ⟨f, fd, ps, ds, M, hF, hm, b, d⟩ := mm.ex
  exact PE.imp (pe_make0 (E := C8.E0) M hF (hr.mono hk) hg hm b d C8.pass0 hdb) fun _ _ _ h => nil_to (make_to hC hn h)
end
/-- what a body has done, for its promise -/
theorem body_to {K : PySem.W.Frag} {N ps : List Str} {ib : IS} {W : WX} {H : Hp} {vs : List V} {Q : VK} {E : XK} (hsp : spI K ps.length (iDef ps.length N.length ib) vs H Q E) : tIS K W ib { nx := fun _ H' => Q .non H', rt := Q } (L2.start N vs) H := by
  obtain ⟨hl, s1, ρ, xs, z, st', S1, R1, h, q⟩ := hsp
  unfold iDef at h
  split at h
  · have E1 := repE_start R1 N
    rw [hl] at E1
    split at h
    · rename_i e1 s2 e
      cases h
      refine ⟨_, s1, ρ, _, E1, S1, e, fun σ' H' ρ' G S' E' => ?_⟩
      obtain ⟨ρ2, G2, S2, R2⟩ := gc_to (v := .non) (u := .non) S1 G S' (by unfold Rep; rfl)
      exact q .non H' ρ2 G2 S2 R2
    · rename_i v s2 e
      cases h
      refine ⟨_, s1, ρ, _, E1, S1, e, fun v H' ρ' G S' R' => ?_⟩
      obtain ⟨ρ2, G2, S2, R2⟩ := gc_to S1 G S' R'
      exact q v H' ρ2 G2 S2 R2
    · cases h
  · cases h
abbrev W0 : WX := fun _ _ _ _ => False
/-- a def of the module, by its body -/
theorem cal_J {P : Program} {w : World} {K : PySem.W.Frag} {mg : Str → Option Value} {base : Heap} {x : Str} {st : Stmt} {f : Addr} {fd : FuncData} {N ps : List Str} {k : Nat} {ib : IS} (F : C8.Def K mg x st f fd) (b : Binds K fd ps []) (S : FnScope N ps (C8.fnScope st))
    (hb : ∀ (cdv : Value) (A : Around) (outer : List PySem.Env) (s : Shared) (H : Hp) (E : XK), Room k (A.deeper (envOfC x (C8.fnScope st) s.heap.objs.size f cdv)) →
      PSs (cxOf CX0 P w K mg base N x (C8.fnScope st) f cdv A outer s H E).nox (C8.fnBody st) (tIS K W0 ib)) : CalJ P w K mg base (k + 1) x ps.length (iDef ps.length N.length ib) :=
  C8.cal0 F b .nil S (fun vs H Q E h => h.1) fun cdv A outer s H vs Q E hr hsp => ⟨_, hb cdv A outer s H E hr, body_to hsp⟩
/-- a method -/
theorem met_J {P : Program} {w : World} {K : PySem.W.Frag} {mg : Str → Option Value} {base : Heap} {c m qual : Str} {C : Addr} {st : Stmt} {f : Addr} {fd : FuncData} {N ps : List Str} {k : Nat} {ib : IS} (hC : ClsAt K c C) (hc : Cls K C) (me : Meth K C m f) (F : C8.Fun K m qual st f fd) (b : Binds K fd ps []) (S : FnScope N ps (C8.fnScope st))
    (hb : ∀ (cdv : Value) (A : Around) (outer : List PySem.Env) (s : Shared) (H : Hp) (E : XK), Room k (A.deeper (envOfC qual (C8.fnScope st) s.heap.objs.size f cdv)) →
      PSs (cxOf CX0 P w K mg base N qual (C8.fnScope st) f cdv A outer s H E).nox (C8.fnBody st) (tIS K W0 ib)) : MetJ P w K mg base (k + 1) c m ps.length (iDef ps.length N.length ib) :=
  ⟨C, hC, C8.met0 hc me F b S (fun vs H Q E h => h.1) fun cdv A outer s H vs Q E hr hsp => ⟨_, hb cdv A outer s H E hr, body_to hsp⟩⟩
/-- a class by its __init__ -/
theorem mak_J {P : Program} {w : World} {K : PySem.W.Frag} {mg : Str → Option Value} {base : Heap} {c qual : Str} {C : Addr} {st : Stmt} {f : Addr} {fd : FuncData} {N ps : List Str} {k : Nat} {ib : IS} (hC : ClsAt K c C) (M : Mk K C f) (hm : mg c = some (.ref C)) (F : C8.Fun K "__init__" qual st f fd) (b : Binds K fd ps []) (S : FnScope N ps (C8.fnScope st))
    (hb : ∀ (cdv : Value) (A : Around) (outer : List PySem.Env) (s : Shared) (H : Hp) (E : XK), Room k (A.deeper (envOfC qual (C8.fnScope st) s.heap.objs.size f cdv)) →
      PSs (cxOf CX0 P w K mg base N qual (C8.fnScope st) f cdv A outer s H E).nox (C8.fnBody st) (tIS K W0 ib)) : MakJ P w K mg base (k + 1) c ps.length (iDef ps.length N.length ib) :=
  ⟨C, hC, C8.mak0 M hm F b .nil S (fun vs H Q E h => h.1) fun cdv A outer s H vs Q E hr hsp => ⟨_, hb cdv A outer s H E hr, body_to hsp⟩⟩
end IL

namespace IL
open PySem PySem.Spec PyProof.Rows L2

section
variable {X : Cx} {a b c e i o : Expr} {es rest : List Expr} {pos : Pos} {ia ib ic ie io : IE} {ir : IA}
/-! ### repr of data -/
/-- lists, tuples, integers, truths, None, texts, not too deep, written in less than a line -/
def reprOk (d : PyData) : Bool := d.showable && !d.hasDict && decide (d.depth ≤ 60) && decide (d.shown.length ≤ 16000000)
def rReprD (K : PySem.W.Frag) : List V → Hp → VK → Prop := fun xs H Q => ∃ (p : Addr) (d : PyData), xs = [.ref p] ∧ Dp K H (.ref p) d ∧ reprOk d = true ∧ Q (.str d.shown) H
theorem cr_reprD (hG : X.A.guards = some []) (hu : X.A.units + 64 < cLine) : CallR X (.builtin "repr") (rReprD X.K) := by
  intro pins s σ H xs us Q I r h
  obtain ⟨p, d, rfl, hd, hk, q⟩ := h
  unfold reprOk at hk
  simp only [Bool.and_eq_true, Bool.not_eq_true', decide_eq_true_eq] at hk
  obtain ⟨⟨⟨k1, k2⟩, k3⟩, k4⟩ := hk
  cases r with
  | @cons _ u0 _ ur ra rb =>
    cases rb
    obtain rfl : u0 = Value.ref p := ra
    obtain ⟨as, r1⟩ := Dp.reads I d (.ref p) (.ref p) hd rfl
    refine PySem.repr_of_reads' r1 k1 (fun z => by rw [k2] at z; cases z) hG (by omega) (fun _ _ z => z) (fun h' u tk hk => ?_) (Nat.le_trans k4 (by decide))
    exact ⟨.str d.shown, H, I.un (h' := h') (t' := tk) (Un.kept hk) (I.hok.kept hk), ⟨_, rfl⟩, q⟩
def fReprD : F1 := fun x st => match x with
  | .bl b => some (.str (if b then "True" else "False"), st)
  | .tup _ => match toD st 70 x with
    | some d => if reprOk d then some (.str d.shown, st) else none
    | none => none
  | .frz _ => match toD st 70 x with
    | some d => if reprOk d then some (.str d.shown, st) else none
    | none => none
  | .ref _ => match toD st 70 x with
    | some d => if reprOk d then some (.str d.shown, st) else none
    | none => none
  | _ => none
theorem CallI.orL {K : PySem.W.Frag} {r r' : List V → Hp → VK → Prop} {f : FA} (h : CallI K r f) : CallI K (fun x H Q => r x H Q ∨ r' x H Q) f := fun H ρ st xs vs z st' Q S R h1 q => .inl (h H ρ st xs vs z st' Q S R h1 q)
theorem f_reprD {K : PySem.W.Frag} : CallI K (fun xs H Q => rReprB xs H Q ∨ rReprD K xs H Q) (a1 fReprD) := call1 fun H ρ st x vx z st' Q S R h q => by
  have main : ∀ (p : Addr), vx = .ref p → (match toD st 70 x with
    | some d => if reprOk d then some (PV.str d.shown, st) else none
    | none => none) = some (z, st') → rReprD K [vx] H Q := fun p hp h => by
    split at h
    · rename_i d e
      split at h
      · rename_i hk
        cases h
        subst hp
        exact ⟨p, d, rfl, toD_dp S _ _ _ _ R e, hk, q _ H ρ Grow.refl S (by unfold Rep; rfl)⟩
      · cases h
    · cases h
  cases x with
  | bl b =>
    cases h
    unfold Rep at R
    subst R
    exact .inl ⟨b, rfl, q _ H ρ Grow.refl S (by unfold Rep; rfl)⟩
  | tup xs =>
    have R0 := R
    unfold Rep at R0
    obtain ⟨p, vs, hp, _⟩ := R0
    exact .inr (main p hp h)
  | frz xs =>
    have R0 := R
    unfold Rep at R0
    obtain ⟨p, vs, hp, _⟩ := R0
    exact .inr (main p hp h)
  | ref n =>
    have R0 := R
    unfold Rep at R0
    obtain ⟨p, hp, _⟩ := R0
    exact .inr (main p hp h)
  | _ => cases h
theorem cr_repr2 (hG : X.A.guards = some []) (hu : X.A.units + 64 < cLine) : CallR X (.builtin "repr") (fun xs H Q => rReprB xs H Q ∨ rReprD X.K xs H Q) := CallR.or cr_reprB (cr_reprD hG hu)

/-! ### == of dicts -/
def rEqK (K : PySem.W.Frag) (neg : Bool) : R2 := fun x y H Q => ∃ a b ks ls, x = .ref a ∧ y = .ref b ∧ Rd H a (.dK ks) ∧ Rd H b (.dK ls) ∧ ks.length = ls.length ∧
  (∀ p ∈ ks, ∃ v d d', valV ls p.1 = some v ∧ Dp K H p.2 d ∧ Dp K H v d' ∧ SeqAt.shaped d = true ∧ SeqAt.shaped d' = true ∧ PyData.eqv d d' = true) ∧ Q (.bl (!neg)) H
theorem hits_data {A : Around} {pins : List (Addr × Obj)} {σ : L2.St} {H : Hp} {s : Shared} (I : L2.Inv X pins σ H s) (hu : A.units + 64 < cLine) {kvs : List (Key × V)} {vb : List (Key × Value)} (rb : KV kvs vb) {ks : List (Key × V)} {va : List (Key × Value)} (ra : KV ks va) :
    (∀ p ∈ ks, ∃ v d d', valV kvs p.1 = some v ∧ Dp X.K H p.2 d ∧ Dp X.K H v d' ∧ SeqAt.shaped d = true ∧ SeqAt.shaped d' = true ∧ PyData.eqv d d' = true) → PySem.W.KeqHits A s vb va true := by
  unfold KV at ra
  induction ra with
  | nil => intro _; exact .nil
  | @cons p q ps qs h t ih =>
    intro hp
    obtain ⟨h1, h2⟩ := h
    obtain ⟨v, d, d', e, f1, f2, f3, f4, f5⟩ := hp p List.mem_cons_self
    have rr : RelO (some v) (valueAt vb p.1) := by rw [← e]; exact rb.val p.1
    obtain ⟨y, hy, ry⟩ := rr.some_of
    obtain ⟨k, w⟩ := q
    have h1' : p.1 = k := h1
    rw [h1'] at hy
    obtain ⟨as, r1⟩ := Dp.reads I d p.2 w f1 h2
    obtain ⟨bs, r2⟩ := Dp.reads I d' v y f2 ry
    have he := SeqAt.eqAt_reads d d' A s w y as bs r1 r2 (SeqAt.canLay_of_shaped f3) (SeqAt.canLay_of_shaped f4) (SeqAt.room_of_shaped f3 hu)
    rw [f5] at he
    show PySem.W.KeqHits A s vb ((k, w) :: qs) (true && true)
    exact .hit hy he (ih fun p' hm => hp p' (List.mem_cons_of_mem _ hm))
theorem objd {pins : List (Addr × Obj)} {σ : L2.St} {H : Hp} {s : Shared} {a : Addr} {ks : List (Key × V)} (I : L2.Inv X pins σ H s) (h : Rd H a (.dK ks)) : ObjOk X.prog X.w H s.heap a (.dK ks) := by
  rcases h with h | ⟨o, h⟩
  · exact I.hok a _ h
  · exact (I.hok a _ h).2
theorem op_eqK (hu : X.A.units + 65 < cLine) : OpR X (compareOp .Eq) (rEqK X.K false) := by
  intro pins s σ H x y v u Q I rx ry h
  obtain ⟨a, b, ks, ls, rfl, rfl, ea, eb, hlen, hp, q⟩ := h
  obtain rfl : v = Value.ref a := rx
  obtain rfl : u = Value.ref b := ry
  obtain ⟨_, ya, va, ra, da⟩ := (objd I ea)
  obtain ⟨_, yb, vb, rb, db⟩ := (objd I eb)
  have hl : va.length = vb.length := by rw [← ra.length, ← rb.length]; exact hlen
  exact PySem.W.keq_eq (knd := mixKind X.prog X.w) (r := true) ya yb da db (by omega) (fun _ => hits_data I (by show X.A.units + 1 + 64 < cLine; omega) rb ra hp) ⟨.bl true, H, I, by simp [hl]; rfl, q⟩
theorem op_neK (hu : X.A.units + 65 < cLine) : OpR X (compareOp .NotEq) (rEqK X.K true) := by
  intro pins s σ H x y v u Q I rx ry h
  obtain ⟨a, b, ks, ls, rfl, rfl, ea, eb, hlen, hp, q⟩ := h
  obtain rfl : v = Value.ref a := rx
  obtain rfl : u = Value.ref b := ry
  obtain ⟨_, ya, va, ra, da⟩ := (objd I ea)
  obtain ⟨_, yb, vb, rb, db⟩ := (objd I eb)
  have hl : va.length = vb.length := by rw [← ra.length, ← rb.length]; exact hlen
  exact PySem.W.keq_ne (knd := mixKind X.prog X.w) (r := true) ya yb da db (by omega) (fun _ => hits_data I (by show X.A.units + 1 + 64 < cLine; omega) rb ra hp) ⟨.bl false, H, I, by simp [hl]; rfl, q⟩
/-- the pairs of a dict, be it written any more or not -/
def pairsOf (st : Sto) : PV → Option (List (Key × PV))
  | .ref n => match st[n]? with
    | some (.dK kvs) => some kvs
    | _ => none
  | .fdk ks xs => if ks.length = xs.length then some (ks.zip xs) else none
  | _ => none
theorem repK_zip {K : PySem.W.Frag} {H : Hp} {ρ : Rho} : ∀ {ks : List Key} {xs : List PV} {vs : List (Key × V)}, ks.length = xs.length → vs.map (·.1) = ks → Reps K H ρ xs (vs.map (·.2)) → RepK K H ρ (ks.zip xs) vs
  | [], [], [], _, _, _ => rfl
  | [], [], v :: vs, _, h, _ => by simp at h
  | [], x :: xs, _, h, _, _ => by simp at h
  | k :: ks, [], _, h, _, _ => by simp at h
  | k :: ks, x :: xs, [], _, h, _ => by simp at h
  | k :: ks, x :: xs, v :: vs, h, h2, h3 => by
    simp only [List.map_cons, List.cons.injEq] at h2
    rw [List.map_cons] at h3
    unfold Reps at h3
    obtain ⟨w, r, e, h4, h5⟩ := h3
    cases e
    obtain ⟨v1, v2⟩ := v
    simp only at h2 h4
    obtain ⟨rfl, h2⟩ := h2
    exact ⟨v2, vs, rfl, h4, repK_zip (by simpa using h) h2 h5⟩
theorem pairs_rep {K : PySem.W.Frag} {H : Hp} {ρ : Rho} {st : Sto} (S : RepS K H ρ st) {x : PV} {v : V} {kvs : List (Key × PV)} (R : Rep K H ρ x v) (h : pairsOf st x = some kvs) : ∃ a vs, v = .ref a ∧ Rd H a (.dK vs) ∧ RepK K H ρ kvs vs := by
  unfold pairsOf at h
  split at h
  · split at h
    · rename_i kvs' e
      cases h
      obtain ⟨a, vs, rfl, _, _, h1, h2⟩ := S.dct R e
      exact ⟨a, vs, rfl, .of h1, h2⟩
    · cases h
  · rename_i ks xs
    split at h
    · rename_i hl
      cases h
      unfold Rep at R
      obtain ⟨a, vs, rfl, ⟨ws, h1, _, h2, h3⟩, h4⟩ := R
      subst h3
      exact ⟨a, ws, rfl, h1, repK_zip hl h2 h4⟩
    · cases h
  · cases h
/-- every value of one is that of the other one -/
def sameK (st : Sto) (kvs ls : List (Key × PV)) : Bool := decide (kvs.length = ls.length) && kvs.all fun p => match findP ls p.1 with
  | some y => eqP st p.2 y == some true
  | none => false
def eqB (st : Sto) (x y : PV) : Option Bool := match pairsOf st x, pairsOf st y with
  | some ks, some ls => if sameK st ks ls then some true else none
  | _, _ => eqP st x y
def fEqB : F2 := fun x y st => (eqB st x y).map fun b => (.bl b, st)
def fNeB : F2 := fun x y st => (eqB st x y).map fun b => (.bl (!b), st)
theorem mem_repK {K : PySem.W.Frag} {H : Hp} {ρ : Rho} : ∀ {xs : List (Key × PV)} {vs : List (Key × V)}, RepK K H ρ xs vs → ∀ p ∈ vs, ∃ x, (p.1, x) ∈ xs ∧ Rep K H ρ x p.2
  | [], vs, h, p, hp => by subst h; simp at hp
  | x :: xs, vs, h, p, hp => by
    obtain ⟨v, r, rfl, h1, h2⟩ := h
    rcases List.mem_cons.mp hp with e | hp
    · subst e
      exact ⟨x.2, List.mem_cons_self .., h1⟩
    · obtain ⟨y, h3, h4⟩ := mem_repK h2 p hp
      exact ⟨y, List.mem_cons_of_mem _ h3, h4⟩
theorem eqB_rep {K : PySem.W.Frag} {H : Hp} {ρ : Rho} {st : Sto} (S : RepS K H ρ st) {x y : PV} {v w : V} {b : Bool} (Rx : Rep K H ρ x v) (Ry : Rep K H ρ y w) (h : eqB st x y = some b) :
    (∃ d e, Dp K H v d ∧ Dp K H w e ∧ SeqAt.shaped d = true ∧ SeqAt.shaped e = true ∧ PyData.eqv d e = b) ∨
    (b = true ∧ ∃ a c ks ls, v = .ref a ∧ w = .ref c ∧ Rd H a (.dK ks) ∧ Rd H c (.dK ls) ∧ ks.length = ls.length ∧
      (∀ p ∈ ks, ∃ v d d', valV ls p.1 = some v ∧ Dp K H p.2 d ∧ Dp K H v d' ∧ SeqAt.shaped d = true ∧ SeqAt.shaped d' = true ∧ PyData.eqv d d' = true)) := by
  unfold eqB at h
  split at h
  · rename_i ks ls e1 e2
    split at h
    · rename_i hs
      cases h
      refine .inr ⟨rfl, ?_⟩
      obtain ⟨a, vs, rfl, h1, r1⟩ := pairs_rep S Rx e1
      obtain ⟨c, ws, rfl, h2, r2⟩ := pairs_rep S Ry e2
      unfold sameK at hs
      rw [Bool.and_eq_true, decide_eq_true_eq, List.all_eq_true] at hs
      refine ⟨a, c, vs, ws, rfl, rfl, h1, h2, by rw [← r1.length, ← r2.length]; exact hs.1, fun p hp => ?_⟩
      obtain ⟨z, hz, Rz⟩ := mem_repK r1 p hp
      have h3 := hs.2 _ hz
      simp only at h3
      split at h3
      · rename_i y' e3
        obtain ⟨u, hu, Ru⟩ := (find_rep (k := p.1) r2).1 _ e3
        have h4 : eqP st z y' = some true := by simpa using h3
        obtain ⟨d, e', f1, f2, f3, f4, f5⟩ := eqP_dp S Rz Ru h4
        exact ⟨u, d, e', hu, f1, f2, f3, f4, f5⟩
      · cases h3
    · cases h
  · exact .inl (eqP_dp S Rx Ry h)
theorem f_eqB {K : PySem.W.Frag} : OpI K (fun x y H Q => rEqD K x y H Q ∨ rEqK K false x y H Q) fEqB := by
  intro H ρ st x y vx vy z st' Q S Rx Ry h q
  obtain ⟨b, e0, hz⟩ := map_some h
  cases hz
  have fin := q (.bl b) H ρ Grow.refl S (by unfold Rep; rfl)
  rcases eqB_rep S Rx Ry e0 with ⟨d, e, h1, h2, h3, h4, rfl⟩ | ⟨rfl, a, c, ks, ls, h1, h2, h3, h4, h5, h6⟩
  · exact .inl ⟨d, e, h1, h2, h3, h4, fin⟩
  · exact .inr ⟨a, c, ks, ls, h1, h2, h3, h4, h5, h6, fin⟩
theorem f_neB {K : PySem.W.Frag} : OpI K (fun x y H Q => rNeD K x y H Q ∨ rEqK K true x y H Q) fNeB := by
  intro H ρ st x y vx vy z st' Q S Rx Ry h q
  obtain ⟨b, e0, hz⟩ := map_some h
  cases hz
  have fin := q (.bl (!b)) H ρ Grow.refl S (by unfold Rep; rfl)
  rcases eqB_rep S Rx Ry e0 with ⟨d, e, h1, h2, h3, h4, rfl⟩ | ⟨rfl, a, c, ks, ls, h1, h2, h3, h4, h5, h6⟩
  · exact .inl ⟨d, e, h1, h2, h3, h4, fin⟩
  · exact .inr ⟨a, c, ks, ls, h1, h2, h3, h4, h5, h6, fin⟩
theorem op_eqB (hu : X.A.units + 65 < cLine) : OpR X (compareOp .Eq) (fun x y H Q => rEqD X.K x y H Q ∨ rEqK X.K false x y H Q) := OpR.or (op_eqD (by omega)) (op_eqK hu)
theorem op_neB (hu : X.A.units + 65 < cLine) : OpR X (compareOp .NotEq) (fun x y H Q => rNeD X.K x y H Q ∨ rEqK X.K true x y H Q) := OpR.or (op_neD (by omega)) (op_neK hu)

/-! ### subscripts and membership, of dicts that are not written any more, too -/
def fSubB : F2 := fun x y st => match pairsOf st x with
  | some kvs => match keyP y with
    | some k => (findP kvs k).map fun v => (v, st)
    | none => none
  | none => fIx x y st
theorem r_subB (hu : X.A.units + 1 < cLine) (ha : PE X a (tI X.K ia)) (hb : PE X b (tI X.K ib)) (hs : PlainIx b) : PE X (.Subscript a b pos) (tI X.K (iBin fSubB ia ib)) :=
  PE.imp (PE.or (pe_ix ix_any ha hb hs) (pe_dget hu ha hb hs)) fun σ H Q ⟨env, st, ρ, z, st', E, S, h, q⟩ => by
    obtain ⟨x, s1, h1, h⟩ := ob_some h
    obtain ⟨y, s2, h2, h⟩ := ob_some h
    unfold fSubB at h
    cases e : pairsOf s2 x with
    | none =>
      rw [e] at h
      exact .inl (bin_to (f := fIx) f_ix ⟨env, st, ρ, z, st', E, S, by unfold iBin; rw [h1]; simp only [ob]; rw [h2]; exact h, q⟩)
    | some kvs =>
      rw [e] at h
      simp only at h
      split at h
      · rename_i k e2
        obtain ⟨v, e3, hz⟩ := map_some h
        cases hz
        refine .inr ⟨env, st, ρ, x, s1, E, S, h1, fun vx H1 ρ1 G1 S1 R1 => ⟨env, s1, ρ1, y, _, E.grow S G1, S1, h2, fun vy H2 ρ2 G2 S2 R2 => ?_⟩⟩
        obtain ⟨p, vs, rfl, hp, r⟩ := pairs_rep S2 (Rep.grow S1 G2 _ _ R1) e
        obtain ⟨w, hw, rw'⟩ := (find_rep (k := k) r).1 _ e3
        have hk := key_rep R2 e2
        subst hk
        exact ⟨p, w, rfl, by rw [← hw]; exact .inl ⟨_, _, hp, rfl, rfl⟩, q w H2 ρ2 (G1.trans G2) S2 rw'⟩
      · cases h
def inB (st : Sto) (x y : PV) : Option Bool := match pairsOf st y with
  | some kvs => match keyP x with
    | some k => some (findP kvs k).isSome
    | none => none
  | none => match x, y with
    | .str i, .str j => some (!(Builtin.Str.occurrences j i 0 j.length 1).isEmpty)
    | _, _ => inP st x y
def fInB : F2 := fun x y st => (inB st x y).map fun b => (.bl b, st)
def fNotInB : F2 := fun x y st => (inB st x y).map fun b => (.bl (!b), st)
theorem inB_rep {K : PySem.W.Frag} {H : Hp} {ρ : Rho} {st : Sto} (S : RepS K H ρ st) {x y : PV} {v w : V} {b : Bool} (Rx : Rep K H ρ x v) (Ry : Rep K H ρ y w) (h : inB st x y = some b) :
    (∃ p xs, w = .ref p ∧ (SqL K H p xs ∨ SqT K H p xs) ∧ flatV v = true ∧ xs.all flatV = true ∧ inV v xs = b) ∨ (∃ a o, w = .ref a ∧ DGet H a v o ∧ o.isSome = b) ∨ ∃ i j, v = .str i ∧ w = .str j ∧ (!(Builtin.Str.occurrences j i 0 j.length 1).isEmpty) = b := by
  unfold inB at h
  split at h
  · rename_i kvs e
    split at h
    · rename_i k e2
      cases h
      obtain ⟨p, vs, rfl, hp, r⟩ := pairs_rep S Ry e
      have hk := key_rep Rx e2
      subst hk
      exact .inr (.inl ⟨p, _, rfl, .inl ⟨_, _, hp, rfl, rfl⟩, (find_some r).symm⟩)
    · cases h
  · split at h
    · cases h
      unfold Rep at Rx Ry
      subst Rx Ry
      exact .inr (.inr ⟨_, _, rfl, rfl, rfl⟩)
    · exact .inl (inP_rep S Rx Ry h)
theorem f_inB {K : PySem.W.Frag} : OpI K (rInAll K) fInB := by
  intro H ρ st x y vx vy z st' Q S Rx Ry h q
  obtain ⟨b, e, hz⟩ := map_some h
  cases hz
  have fin := q (.bl b) H ρ Grow.refl S (by unfold Rep; rfl)
  rcases inB_rep S Rx Ry e with ⟨p, xs, h1, h2, h3, h4, rfl⟩ | ⟨a, o, h1, h2, rfl⟩ | ⟨i, j, h1, h2, rfl⟩
  · exact .inl ⟨p, xs, h1, h2, h3, h4, fin⟩
  · exact .inr (.inl ⟨a, o, h1, h2, fin⟩)
  · exact .inr (.inr ⟨i, j, h1, h2, fin⟩)
theorem f_notInB {K : PySem.W.Frag} : OpI K (rNotInAll K) fNotInB := by
  intro H ρ st x y vx vy z st' Q S Rx Ry h q
  obtain ⟨b, e, hz⟩ := map_some h
  cases hz
  have fin := q (.bl (!b)) H ρ Grow.refl S (by unfold Rep; rfl)
  rcases inB_rep S Rx Ry e with ⟨p, xs, h1, h2, h3, h4, rfl⟩ | ⟨a, o, h1, h2, rfl⟩ | ⟨i, j, h1, h2, rfl⟩
  · exact .inl ⟨p, xs, h1, h2, h3, h4, fin⟩
  · exact .inr (.inl ⟨a, o, h1, h2, fin⟩)
  · exact .inr (.inr ⟨i, j, h1, h2, fin⟩)
/-- len, of these dicts, too -/
def ownPairs (st : Sto) : PV → Option (List (Key × PV))
  | .ref n => match st[n]? with
    | some (.dK kvs) => some kvs
    | _ => none
  | _ => none
def fLenB : F1 := fun x st => match ownPairs st x with
  | some kvs => some (.int (kvs.length : Int), st)
  | none => fLen x st
theorem f_lenB {K : PySem.W.Frag} : CallI K (rLenA K) (a1 fLenB) := by
  intro H ρ st xs vs z st' Q S R h q
  cases xs with
  | nil => cases h
  | cons x xs =>
    cases xs with
    | cons => cases h
    | nil =>
      have h' : fLenB x st = some (z, st') := h
      unfold fLenB at h'
      split at h'
      · rename_i kvs e
        cases h'
        obtain ⟨vx, rfl, Rx⟩ := one_arg R
        obtain ⟨a, vs, rfl, h1, r⟩ : ∃ a vs, vx = .ref a ∧ H a = some (.dK vs) ∧ RepK K H ρ kvs vs := by
          unfold ownPairs at e
          split at e
          · split at e
            · rename_i kvs' e2
              cases e
              obtain ⟨a, vs, rfl, _, _, h1, h2⟩ := S.dct Rx e2
              exact ⟨a, vs, rfl, h1, h2⟩
            · cases e
          · cases e
        exact .inr ⟨a, vs, rfl, h1, by rw [← r.length]; exact q _ H ρ Grow.refl S (by unfold Rep; rfl)⟩
      · exact f_len H ρ st [x] vs z st' Q S R h' q
/-! ### a dict of the module, with texts as keys -/
structure KTab (K : PySem.W.Frag) (w : World) (mg : Str → Option Value) (x : Str) (tab : List (Str × PV)) : Prop where
  ex : ∃ (d : Addr) (es : Array DictEntry) (n : Nat), mg x = some (.ref d) ∧ KDict K w d es n ∧ (∀ z : Str, (PySem.W.nsIn K d z = some none ∧ tab.lookup z = none) ∨ ∃ (u : Value) (v : V) (y : PV), PySem.W.nsIn K d z = some (some u) ∧ tab.lookup z = some y ∧ RelV v u ∧ ∀ H ρ, Rep K H ρ y v)
def fTab (tab : List (Str × PV)) : F1 := fun x st => match x with
  | .str z => (tab.lookup z).map fun v => (v, st)
  | _ => none
def fInTab (tab : List (Str × PV)) (neg : Bool) : F1 := fun x st => match x with
  | .str z => some (.bl (xor neg (tab.lookup z).isSome), st)
  | _ => none
variable {x : Str} {p1 p2 : Pos} {tab : List (Str × PV)}
/-- NAME[e] -/
theorem j_tab (T : KTab X.K X.w X.mg x tab) (hg : Gl X x) (hb : PE X b (tI X.K ib)) (hs : PlainIx b) (hd : (x == ("__debug__" : Str)) = false := by decide) : PE X (.Subscript (.Name x p1) b pos) (tI X.K (iUn (fTab tab) ib)) := by
  obtain ⟨d, es, n, hm, D, h⟩ := T.ex
  refine PE.imp (pe_ix ix_kdict (pe_glob (v := .ref d) hg hm rfl hd) hb hs) fun σ H Q ⟨env, st, ρ, z, st', E, S, h1, q⟩ => ?_
  obtain ⟨y, s1, h2, h3⟩ := ob_some h1
  refine ⟨env, st, ρ, y, s1, E, S, h2, fun vy H1 ρ1 G1 S1 R1 => ?_⟩
  unfold fTab at h3
  split at h3
  · rename_i t
    obtain ⟨v, e, hz⟩ := map_some h3
    cases hz
    unfold Rep at R1
    subst R1
    rcases h t with ⟨_, h5⟩ | ⟨u, v', y', h4, h5, h6, h7⟩
    · rw [h5] at e; cases e
    · rw [h5] at e; cases e
      exact ⟨d, t, v', rfl, rfl, ⟨es, n, u, D.at_, D.lit, h4, h6⟩, q v' H1 ρ1 G1 S1 (h7 _ _)⟩
  · cases h3
/-- e in NAME, e not in NAME -/
theorem j_inTab (T : KTab X.K X.w X.mg x tab) (hg : Gl X x) (ha : PE X a (tI X.K ia)) (hm2 : behindInMarks .In (.Name x p1) = false := by rfl) (hd : (x == ("__debug__" : Str)) = false := by decide) : PE X (.Compare a [.In] [.Name x p1] pos) (tI X.K (iUn (fInTab tab false) ia)) := by
  obtain ⟨d, es, n, hm, D, h⟩ := T.ex
  refine PE.imp (pe_cmpR (op_in_kd D) ha (pe_glob (v := .ref d) hg hm rfl hd) hm2) fun σ H Q ⟨env, st, ρ, z, st', E, S, h1, q⟩ => ?_
  obtain ⟨y, s1, h2, h3⟩ := ob_some h1
  refine ⟨env, st, ρ, y, s1, E, S, h2, fun vy H1 ρ1 G1 S1 R1 => ?_⟩
  unfold fInTab at h3
  split at h3
  · rename_i t
    cases h3
    unfold Rep at R1
    subst R1
    rcases h t with ⟨h4, h5⟩ | ⟨u, v', y', h4, h5, h6, h7⟩
    · exact ⟨t, none, rfl, rfl, h4, q _ H1 ρ1 G1 S1 (by unfold Rep; simp [h5])⟩
    · exact ⟨t, some u, rfl, rfl, h4, q _ H1 ρ1 G1 S1 (by unfold Rep; simp [h5])⟩
  · cases h3
theorem j_notInTab (T : KTab X.K X.w X.mg x tab) (hg : Gl X x) (ha : PE X a (tI X.K ia)) (hm2 : behindInMarks .NotIn (.Name x p1) = false := by rfl) (hd : (x == ("__debug__" : Str)) = false := by decide) : PE X (.Compare a [.NotIn] [.Name x p1] pos) (tI X.K (iUn (fInTab tab true) ia)) := by
  obtain ⟨d, es, n, hm, D, h⟩ := T.ex
  refine PE.imp (pe_cmpR (op_notIn_kd D) ha (pe_glob (v := .ref d) hg hm rfl hd) hm2) fun σ H Q ⟨env, st, ρ, z, st', E, S, h1, q⟩ => ?_
  obtain ⟨y, s1, h2, h3⟩ := ob_some h1
  refine ⟨env, st, ρ, y, s1, E, S, h2, fun vy H1 ρ1 G1 S1 R1 => ?_⟩
  unfold fInTab at h3
  split at h3
  · rename_i t
    cases h3
    unfold Rep at R1
    subst R1
    rcases h t with ⟨h4, h5⟩ | ⟨u, v', y', h4, h5, h6, h7⟩
    · exact ⟨t, none, rfl, rfl, h4, q _ H1 ρ1 G1 S1 (by unfold Rep; simp [h5])⟩
    · exact ⟨t, some u, rfl, rfl, h4, q _ H1 ρ1 G1 S1 (by unfold Rep; simp [h5])⟩
  · cases h3
end
/-! ### the end of a law: called where no repr is under way -/
/-- the law's def keeps its promise at the call -/
def LawOk (P : Program) (w : World) (K : PySem.W.Frag) (mg : Str → Option Value) (base : Heap) (fa : Addr) (fd : FuncData) (x : Str) (sp : Sp) : Prop :=
  ∀ (s : Shared) (H : Hp) (u : Value) (v : V) (Q : VK), Env0 P w K mg base callerA [] s H → BindsTo s fd ⟨[u], []⟩ [(x, u)] → RelV v u → sp [v] H Q C8.E0 →
    codeAny (model P w) callerA (.call (.ref fa) ⟨[u], []⟩) (CR CX0 [] P w H s Q C8.E0) s
theorem deeper_guards {env : PySem.Env} : (callerA.deeper env).guards = some [] := rfl
/-- .. by its body, that may know that no repr is under way -/
theorem lawOk_of {P : Program} {w : World} {K : PySem.W.Frag} {mg : Str → Option Value} {base : Heap} {k : Nat} {x : Str} {st : Stmt} {f : Addr} {fd : FuncData} {N : List Str} {y : Str} {ib : IS} (hroom : Room (k + 1) callerA) (F : C8.Fun K x x st f fd) (S : FnScope N [y] (C8.fnScope st))
    (hb : ∀ (cdv : Value) (A : Around) (outer : List PySem.Env) (s : Shared) (H : Hp) (E : XK), Room k (A.deeper (envOfC x (C8.fnScope st) s.heap.objs.size f cdv)) → (A.deeper (envOfC x (C8.fnScope st) s.heap.objs.size f cdv)).guards = some [] →
      PSs (cxOf CX0 P w K mg base N x (C8.fnScope st) f cdv A outer s H E).nox (C8.fnBody st) (tIS K W0 ib)) : LawOk P w K mg base f fd y (spI K 1 (iDef 1 N.length ib)) := by
  obtain ⟨oc, od, dV, kV, doc, pm, an, cdv, ct, osl, rfl, lk, hcd⟩ := F.ex
  intro s H u v Q e0 hbind hv hsp
  have kin : K.In s.heap := e0.mod.kin.keeps fun b o e => (e0.bs b o e).1
  have lim : s.heap.NoLimit := e0.mod.nolimit.keeps fun b o e => (e0.bs b o e).1
  have kinds : ∀ z ∈ [y].zip [u], (C8.fnScope st).names.lookup z.1 = some .local ∨ ((C8.fnScope st).names.lookup z.1 = some .cell ∧ ((cellsFrom (s.heap.objs.size + 1) (C8.fnScope st).names []).lookup z.1).isSome = true) := by
    rintro ⟨n, z⟩ hz
    exact (S.par n (List.of_mem_zip hz).1).imp_right fun q => ⟨q, PySem.W.cellsFrom_some _ _ _ (.inl q)⟩
  apply codeAny_call_function hroom.depth (kin _ _ lk) rfl S.co S.gen rfl (PySem.W.codeRec_of kin hcd)
  apply hbind
  apply wpAny_newFunctionEnv_cells S.kind kinds
  intro env henv s1 inC
  subst henv
  refine ⟨lim.keeps inC.toInCall.keep, codeAny_func ?_⟩
  have body := (hb cdv callerA [] s H C8.E0 (hroom.deeper _) deeper_guards).nox
  have start := inv_start (CX := CX0) (E := C8.E0) (vs := [v]) (us := [u]) S hroom.hd e0 rfl (.cons hv .nil) inC
  refine wpAny_mono (body.run [] s1 _ H _ start (body_to (ps := [y]) hsp)) ?_ fun _ _ z => z
  rintro (_ | _ | _ | r) s' hs
  · obtain ⟨σ', H', J, q⟩ := hs
    exact ⟨.non, H', J.os, J.bare, J.base, J.hok, rfl, q⟩
  · exact False.elim hs.choose_spec.choose_spec.2
  · exact False.elim hs.choose_spec.choose_spec.2
  · obtain ⟨v', σ', H', J, rv, q⟩ := hs
    exact ⟨v', H', J.os, J.bare, J.base, J.hok, rv, q⟩
/-- the heap that the law's def sees: the script alone is tracked, unless it is the module's own -/
theorem script_heap {P : Program} {w : World} {K : PySem.W.Frag} {h : Heap} {a : Addr} {vs : List Value} {ns : List Int} (KX : K.In h) (ha : h.get? a = some { cls := .type "list", data := .seq vs.toArray }) (hi : IntsAre vs ns) (hl : ns.length ≤ sizeLine) :
    ∃ H : Hp, (∀ b u, H b = some u → b = a ∧ u = .frz { cls := .type "list", data := .seq vs.toArray } (.lst (ns.map V.int)) ∧ K.lookup a = none) ∧ SqL K H a (ns.map V.int) ∧ HOk P w H h := by
  have rv := vals_ints hi
  cases hk : K.lookup a with
  | some o =>
    have e := KX a o hk
    rw [ha] at e
    cases e
    refine ⟨fun _ => none, fun b u z => (nomatch z), .inr ⟨_, vs.toArray, _, hk, rfl, rfl, rfl, ?_, by simpa using rv⟩, fun b u z => (nomatch z)⟩
    rw [List.size_toArray, hi.length]
    exact hl
  | none =>
    refine ⟨fun b => if b = a then some (.frz { cls := .type "list", data := .seq vs.toArray } (.lst (ns.map V.int))) else none, fun b u z => ?_, .inl (.inr ⟨_, if_pos rfl⟩), fun b u z => ?_⟩
    · by_cases hb : b = a
      · refine ⟨hb, ?_, rfl⟩
        simp only [if_pos hb] at z
        exact (Option.some.inj z).symm
      · simp only [if_neg hb] at z
        cases z
    · by_cases hb : b = a
      · simp only [if_pos hb] at z
        cases z
        subst hb
        exact ⟨ha, by simpa using hl, vs, _, rv, ha⟩
      · simp only [if_neg hb] at z
        cases z
theorem law_runs {P : Program} {w : World} {K : PySem.W.Frag} {mg mb : Str → Option Value} {fa a : Addr} {fd : FuncData} {x : Str} {sp : Sp} {s : Shared} {vs : List Value} {ns : List Int} (KX : K.In s.heap) (hns : s.heap.Ns mainGlobals mg) (hb : s.heap.Ns builtinsNs mb) (hbb : ∀ x : Str, x ≠ "__name__" → mb x = bootBuiltins x)
    (hlim : s.heap.NoLimit) (hg : s.gens = #[]) (ha : s.heap.get? a = some { cls := .type "list", data := .seq vs.toArray }) (hi : IntsAre vs ns) (hl : ns.length ≤ sizeLine)
    (F : ∀ base : Heap, K.In base → base.Ns mainGlobals mg → LawOk P w K mg base fa fd x sp) (hbind : ∀ (s : Shared) (u : Value), BindsTo s fd ⟨[u], []⟩ [(x, u)])
    (hsp : ∀ H : Hp, SqL K H a (ns.map V.int) → sp [.ref a] H (fun v _ => v = .bl true) C8.E0) :
    codeAny (model P w) callerA (.call (.ref fa) ⟨[.ref a], []⟩) (fun r s' => r = .ok (.ret (.bool true)) ∧ OldK s.heap s'.heap ∧ s'.os = s.os ∧ AllBare s'.gens) s := by
  obtain ⟨H, hH, hS, hok⟩ := script_heap (P := P) (w := w) KX ha hi hl
  have out : ∀ {b : Addr} {o : Obj}, s.heap.get? b = some o → (b = a → False) → (hidT s.heap H).get? b = some o := fun {b o} e n => hidT_get e (by
    cases q : H b with
    | none => rfl
    | some u => exact (n (hH b u q).1).elim)
  have ns_ : ∀ {b : Addr} {m : Str → Option Value}, s.heap.Ns b m → (hidT s.heap H).Ns b m := by
    rintro b m ⟨o, es, ep, e, d, r⟩
    refine ⟨o, es, ep, out e fun z => ?_, d, r⟩
    subst z
    rw [ha] at e
    cases e
    exact nomatch (show Data.seq vs.toArray _ = Data.dict es ep from d)
  have kin : K.In (hidT s.heap H) := fun b o e => hidT_get (KX b o e) (by
    cases q : H b with
    | none => rfl
    | some u =>
      obtain ⟨e1, _, e3⟩ := hH b u q
      subst e1
      rw [e3] at e
      cases e)
  obtain ⟨mc, l1, l2⟩ := hlim
  have e0 : Env0 P w K mg (hidT s.heap H) callerA [] s H := {
    frames := rfl
    mod := ⟨kin, ns_ hns, ⟨mb, ns_ hb, hbb⟩, mc, ns_ l1, l2⟩
    bs := fun b o e => of_hidT e
    bsz := Nat.le_of_eq (hidT_size _ _)
    funs := trivial
    frf := fun b z => nomatch (show b ∈ ([] : List Addr) from z)
    hok := hok
    bare := .of_eq hg }
  refine codeAny_mono (F _ kin (ns_ hns) s H _ (.ref a) _ e0 (hbind s (.ref a)) rfl (hsp H hS)) ?_
  rintro (er | fl) s' h
  · exact h.elim
  · cases fl with
    | ret u =>
      obtain ⟨v, H', os, bare, un, hok', r, q⟩ := h
      cases (show v = .bl true from q)
      cases (show u = Value.bool true from r)
      refine ⟨rfl, OldK.of_keep fun b o e => ?_, os, bare⟩
      cases q : H b with
      | none => exact un.keep b o e q (fun z => nomatch (show b ∈ ([] : List Addr) from z)) (fun z => nomatch z)
      | some u =>
        obtain ⟨_, e2, _⟩ := hH b u q
        subst e2
        obtain ⟨f1, _⟩ := hok b _ q
        obtain ⟨f2, _⟩ := hok' b _ (un.frzs b _ _ q)
        rw [e] at f1
        cases f1
        exact f2
    | next => exact False.elim h
    | brk => exact False.elim h
    | cont => exact False.elim h
theorem walk_J {l : PySem.W.OpenLaw} {n : Nat} {q : Program} {loose : List Str} {XP : (Str → Option Value) → Heap → Prop} {YP : World → Heap → Prop} {d : DefRec} {K : Params → PySem.W.Frag} {sp : World → Sp} {x : Str} (hn : l.most = some n) (hn2 : n ≤ sizeLine) (hdf : d.params.defaults = [])
    (hY : ∀ (w : World) (h : Heap), YP w h → (K w.params).In h)
    (F : ∀ (w : World) (mg : Str → Option Value) (fa : Addr) (h : Heap), (K w.params).In h → h.Ns mainGlobals mg → mg d.name = some (.ref fa) →
      ∃ fd : FuncData, (∀ (s : Shared) (u : Value), BindsTo s fd ⟨[u], []⟩ [(x, u)]) ∧ ∀ base : Heap, (K w.params).In base → base.Ns mainGlobals mg → LawOk l.prog w (K w.params) mg base fa fd x (sp w))
    (hsp : ∀ (w : World) (H : Hp) (a : Addr) (ns : List Int), ns.length ≤ n → SqL (K w.params) H a (ns.map V.int) → sp w [.ref a] H (fun v _ => v = .bl true) C8.E0) :
    PySem.W.WalkO q loose XP YP l.row.toRowW d [] (fun f vs => PySem.call f vs) :=
  Att.attach_call hn hdf fun w s₀ s₁ mg mb fa o pm cd doc a vs ns G Y ho hd hcd hmg hobj hints hlen hg => by
    obtain ⟨fd, hb, hF⟩ := F w mg fa _ (hY w _ Y) G.T.g hmg
    exact law_runs (hY w _ Y) G.T.g G.T.b G.T.builtins G.T.nolimit hg hobj hints (Nat.le_trans hlen hn2) hF hb fun H hS => hsp w H a ns hlen hS
end IL
namespace IL
open PySem PySem.Spec PyProof.Rows L2
section
variable {X : Cx} {W : WX} {pos : Pos} {it : IT} {ie : IE}
theorem new_split {i : IE} {env : PEnv} {st st' : Sto} {z : PV} (h : iNew i env st = some (z, st')) : ∃ x s1, i env st = some (x, s1) ∧ ∀ {K : PySem.W.Frag} {H H1 : Hp} {ρ ρ1 : Rho} {v : V}, RepS K H ρ st → Grow H ρ H1 ρ1 → RepS K H1 ρ1 s1 → Rep K H1 ρ1 x v →
    ∃ ρ2, Grow H ρ H1 ρ2 ∧ RepS K H1 ρ2 st' ∧ Rep K H1 ρ2 z v := by
  unfold iNew iGc at h
  obtain ⟨r, h1, h2⟩ := map_some h
  obtain ⟨x, s1, h3, h4⟩ := ob_some h1
  refine ⟨x, s1, h3, fun {K H H1 ρ ρ1 v} S G S1 R => ?_⟩
  obtain ⟨ρ2, G2, S2, R2⟩ := frz_to S1 R
  rw [Option.some.inj h4] at S2 R2
  obtain ⟨ρ3, G3, S3, R3⟩ := gc_to S (G.trans G2) S2 R2
  obtain ⟨rfl, rfl⟩ := Prod.mk.inj h2
  exact ⟨ρ3, G3, S3, R3⟩
theorem s_setLcN {i : Nat} {y : Str} {py : Pos} {elt tg iter : Expr} {ifs : List Expr} {scope : Scope} {own : List (Str × Nat)} {spos : Pos} {ii : II} {T : List Nat} {ig : IG} (hy : X.N[i]? = some y) (hyl : X.env.scope.names.lookup y = some .local)
    (hsw : swapsWith (.ListComp elt [⟨tg, iter, ifs, 0⟩] scope pos) (some (.Name y py)) spos.line X.env = pure true) (hc : X.calm = true) (hN : X.N.Nodup) (hi : PI X tg iter (tII X.K ii)) (ok : BlkOk X.N X.env.scope scope own)
    (hT : ∀ i ∈ T, i ∈ own.map (·.2))
    (hg : ∀ (s : Shared) (H : Hp) (C : Addr) (cl : List (Str × Addr)) (fp : List Addr), PG (X.blk s H scope (compEnvC scope cl C X.env) fp) tg (tIG X.K T ig)) (ht : ∀ (s : Shared) (H : Hp) (C : Addr) (cl : List (Str × Addr)) (fp : List Addr), PTs (X.blk s H scope (compEnvC scope cl C X.env) fp) ifs (tIT X.K it))
    (he : ∀ (s : Shared) (H : Hp) (C : Addr) (cl : List (Str × Addr)) (fp : List Addr), PE (X.blk s H scope (compEnvC scope cl C X.env) fp) elt (tI X.K ie)) (hs : ∀ x, foldedSetIterable iter X.env x = pure x := by intro _; rfl) :
    PS X (.Assign [.Name y py] (.ListComp elt [⟨tg, iter, ifs, 0⟩] scope pos) spos) (tIS X.K W (iAsg (gN i) (iNew (iLc ii ig it ie (own.map (·.2)))))) :=
  PS.imp (ps_setLc hc hN hy hyl hsw hi ok hg ht he hs) fun D σ H ⟨env, s, ρ, f, E, S, h, q⟩ => by
    obtain ⟨x, s1, h1, h⟩ := ob_some h
    cases h
    obtain ⟨x0, s0, h2, h3⟩ := new_split h1
    refine lc_to hT ⟨env, s, ρ, x0, s0, E, S, h2, fun v H1 ρ1 G1 S1 R1 => ?_⟩
    obtain ⟨ρ2, G2, S2, R2⟩ := h3 S G1 S1 R1
    exact q _ H1 ρ2 G2 S2 ((E.grow S G2).set R2 i)
end
end IL

namespace IL
open PySem PySem.Spec PyProof.Rows L2
theorem fld_nil {K : PySem.W.Frag} {f : Str} : ∀ c ∈ ([] : List Str), KFld K c f := fun _ h => nomatch h
theorem fld_cons {K : PySem.W.Frag} {f c : Str} {cs : List Str} (h : KFld K c f) (hs : ∀ c ∈ cs, KFld K c f) : ∀ d ∈ c :: cs, KFld K d f := fun d hd => (List.mem_cons.mp hd).elim (fun e => by rw [e]; exact h) (hs d)
section
variable {P : Program} {w : World} {K : PySem.W.Frag} {mg : Str → Option Value} {base : Heap} {k n : Nat} {m : Str}
theorem tbl_nil : ∀ cf ∈ ([] : List (Str × FA)), MetJ P w K mg base k cf.1 m n cf.2 ∧ Ar n cf.2 := fun _ h => nomatch h
theorem tbl_cons {c : Str} {F : FA} {tbl : List (Str × FA)} (h : MetJ P w K mg base k c m n F) (a : Ar n F) (hs : ∀ cf ∈ tbl, MetJ P w K mg base k cf.1 m n cf.2 ∧ Ar n cf.2) : ∀ cf ∈ (c, F) :: tbl, MetJ P w K mg base k cf.1 m n cf.2 ∧ Ar n cf.2 := fun d hd => (List.mem_cons.mp hd).elim (fun e => by rw [e]; exact ⟨h, a⟩) (hs d)
end
section
variable {X : Cx} {a : Expr} {pos p1 : Pos} {ia : IE} {x : Str} {tab : List (Str × PV)}
theorem j_inTabT (T : KTab X.K X.w X.mg x tab) (hg : Gl X x) (ha : PE X a (tI X.K ia)) (hm2 : behindInMarks .In (.Name x p1) = false := by rfl) (hd : (x == ("__debug__" : Str)) = false := by decide) : PT X (.Compare a [.In] [.Name x p1] pos) (tIT X.K (iTestB (iUn (fInTab tab false) ia))) := by
  obtain ⟨d, es, n, hm, D, h⟩ := T.ex
  refine PT.imp (pt_cmpR (op_in_kd D) ha (pe_glob (v := .ref d) hg hm rfl hd) hm2) fun σ H Q hq => ?_
  obtain ⟨env, st, ρ, z, st', E, S, h1, q⟩ := testB_to hq
  obtain ⟨y, s1, h2, h3⟩ := ob_some h1
  refine ⟨env, st, ρ, y, s1, E, S, h2, fun vy H1 ρ1 G1 S1 R1 => ?_⟩
  unfold fInTab at h3
  split at h3
  · rename_i t
    cases h3
    unfold Rep at R1
    subst R1
    rcases h t with ⟨h4, h5⟩ | ⟨u, v', y', h4, h5, h6, h7⟩
    · exact ⟨t, none, rfl, rfl, h4, q _ H1 ρ1 G1 S1 (by unfold Rep; simp [h5])⟩
    · exact ⟨t, some u, rfl, rfl, h4, q _ H1 ρ1 G1 S1 (by unfold Rep; simp [h5])⟩
  · cases h3
theorem j_notInTabT (T : KTab X.K X.w X.mg x tab) (hg : Gl X x) (ha : PE X a (tI X.K ia)) (hm2 : behindInMarks .NotIn (.Name x p1) = false := by rfl) (hd : (x == ("__debug__" : Str)) = false := by decide) : PT X (.Compare a [.NotIn] [.Name x p1] pos) (tIT X.K (iTestB (iUn (fInTab tab true) ia))) := by
  obtain ⟨d, es, n, hm, D, h⟩ := T.ex
  refine PT.imp (pt_cmpR (op_notIn_kd D) ha (pe_glob (v := .ref d) hg hm rfl hd) hm2) fun σ H Q hq => ?_
  obtain ⟨env, st, ρ, z, st', E, S, h1, q⟩ := testB_to hq
  obtain ⟨y, s1, h2, h3⟩ := ob_some h1
  refine ⟨env, st, ρ, y, s1, E, S, h2, fun vy H1 ρ1 G1 S1 R1 => ?_⟩
  unfold fInTab at h3
  split at h3
  · rename_i t
    cases h3
    unfold Rep at R1
    subst R1
    rcases h t with ⟨h4, h5⟩ | ⟨u, v', y', h4, h5, h6, h7⟩
    · exact ⟨t, none, rfl, rfl, h4, q _ H1 ρ1 G1 S1 (by unfold Rep; simp [h5])⟩
    · exact ⟨t, some u, rfl, rfl, h4, q _ H1 ρ1 G1 S1 (by unfold Rep; simp [h5])⟩
  · cases h3
end
end IL

namespace IL
open PySem PySem.Spec PyProof.Rows L2
/-! ### constants of the top -/
def KVal (K : PySem.W.Frag) (u : Value) (x : PV) : Prop := ∃ v, RelV v u ∧ ∀ H ρ, Rep K H ρ x v
inductive KVals (K : PySem.W.Frag) : List Value → List PV → Prop
  | nil : KVals K [] []
  | cons {u : Value} {x : PV} {us : List Value} {xs : List PV} : KVal K u x → KVals K us xs → KVals K (u :: us) (x :: xs)
section
variable {K : PySem.W.Frag}
theorem kv_int {i : Int} {t : Tok} : KVal K (.int i t) (.int i) := ⟨.int i, ⟨t, rfl⟩, fun _ _ => by unfold Rep; rfl⟩
theorem kv_str {x y : Str} {t : Tok} (h : x = y) : KVal K (.str x t) (.str y) := ⟨.str y, ⟨t, by rw [h]⟩, fun _ _ => by unfold Rep; rfl⟩
theorem kv_bl {b : Bool} : KVal K (.bool b) (.bl b) := ⟨.bl b, rfl, fun _ _ => by unfold Rep; rfl⟩
theorem kv_non : KVal K .none .non := ⟨.non, rfl, fun _ _ => by unfold Rep; rfl⟩
theorem KVals.to : ∀ {us : List Value} {xs : List PV}, KVals K us xs → ∃ vs, Vals vs us ∧ vs.length = xs.length ∧ ∀ H ρ, Reps K H ρ xs vs
  | _, _, .nil => ⟨[], .nil, rfl, fun _ _ => by unfold Reps; rfl⟩
  | _, _, .cons h t => by
    obtain ⟨v, h1, h2⟩ := h
    obtain ⟨vs, h3, h4, h5⟩ := t.to
    exact ⟨v :: vs, .cons h1 h3, by simp [h4], fun H ρ => by unfold Reps; exact ⟨v, vs, rfl, h2 H ρ, h5 H ρ⟩⟩
theorem kv_tup {f : Addr} {od : Option Addr} {its : Array Value} {nn : Nat} {sl : Array (Option Value)} {xs : List PV} (l : K.lookup f = some ⟨.type "tuple", od, .seq its nn, sl⟩) (h : KVals K its.toList xs) (hs : xs.length ≤ sizeLine := by decide) : KVal K (.ref f) (.tup xs) := by
  obtain ⟨vs, h1, h2, h3⟩ := h.to
  refine ⟨.ref f, rfl, fun H ρ => ?_⟩
  unfold Rep
  refine ⟨f, vs, rfl, .inr ⟨_, _, _, l, rfl, rfl, ?_, h1⟩, h3 H ρ⟩
  rw [← Array.length_toList, ← h1.length, h2]
  exact hs
theorem gc_of {h : Heap} {mg : Str → Option Value} (X : K.In h) (G : h.Ns mainGlobals mg) {x : Str} {u : Value} {y : PV} (n : PySem.W.nsIn K mainGlobals x = some (some u)) (k : KVal K u y) : GC K mg x y := by
  obtain ⟨v, h1, h2⟩ := k
  exact ⟨u, v, PySem.W.mg_of X G n, h1, h2⟩
/-- the entries of a dict of the top: its keys are these texts, its values are these -/
inductive KEnts (K : PySem.W.Frag) (P : Params) : List DictEntry → List (Str × PV) → Prop
  | nil : KEnts K P [] []
  | cons {e : DictEntry} {x : Str} {y : PV} {t : Tok} {es : List DictEntry} {xs : List (Str × PV)} : e.key = .str x t → e.hash = PyData.keyHash P x → KVal K e.val y → KEnts K P es xs → KEnts K P (e :: es) ((x, y) :: xs)
theorem KEnts.lit {P : Params} : ∀ {es : List DictEntry} {xs : List (Str × PV)}, KEnts K P es xs → PySem.W.KeysLit P es
  | _, _, .nil => trivial
  | _, _, .cons a b _ t => ⟨⟨_, _, a, b⟩, t.lit⟩
theorem KEnts.find {P : Params} (z : Str) : ∀ {es : List DictEntry} {xs : List (Str × PV)}, KEnts K P es xs → es.any (·.refKey) = false ∧
    ((es.find? (·.key.isStr z) = none ∧ xs.lookup z = none) ∨ ∃ e y, es.find? (·.key.isStr z) = some e ∧ xs.lookup z = some y ∧ KVal K e.val y)
  | _, _, .nil => ⟨rfl, .inl ⟨rfl, rfl⟩⟩
  | _, _, .cons (e := e) (x := x) (y := y) (t := t) a b c r => by
    obtain ⟨h1, h2⟩ := r.find z
    refine ⟨?_, ?_⟩
    · rw [List.any_cons, h1, Bool.or_false]
      unfold DictEntry.refKey
      rw [a]
    · have hk : e.key.isStr z = (z == x) := by
        rw [a, PySem.W.isStr_of]
        unfold Value.isStrOf
        by_cases hz : z = x
        · subst hz; simp
        · have e1 : (z == x) = false := beq_eq_false_iff_ne.mpr hz
          have e2 : (x == z) = false := beq_eq_false_iff_ne.mpr fun q => hz q.symm
          rw [e1]
          exact e2
      rw [List.find?_cons, List.lookup_cons, hk]
      cases z == x with
      | true => exact .inr ⟨e, y, rfl, rfl, c⟩
      | false => exact h2
theorem ktab_of {w : World} {h : Heap} {mg : Str → Option Value} (X : K.In h) (G : h.Ns mainGlobals mg) {x : Str} {d : Addr} {es : Array DictEntry} {n : Nat} {tab : List (Str × PV)} (hn : PySem.W.nsIn K mainGlobals x = some (some (.ref d))) (l : K.lookup d = some ⟨.type "dict", none, .dict es n, #[]⟩)
    (low : (d == sysModules) = false) (k : KEnts K w.params es.toList tab) : KTab K w mg x tab := by
  refine ⟨d, es, n, PySem.W.mg_of X G hn, ⟨l, k.lit, low⟩, fun z => ?_⟩
  obtain ⟨h1, h2⟩ := k.find z
  have e : PySem.W.nsIn K d z = match es.toList.find? (·.key.isStr z) with
      | some e => some (some e.val)
      | none => if es.toList.any (·.refKey) then none else some none := by
    unfold PySem.W.nsIn
    rw [l]
    rfl
  rw [e]
  rcases h2 with ⟨h3, h4⟩ | ⟨e', y, h3, h4, v, h5, h6⟩
  · left
    rw [h3, h1]
    exact ⟨rfl, h4⟩
  · right
    rw [h3]
    exact ⟨e'.val, v, y, rfl, h4, h5, h6⟩
end
/-- the promise of a law -/
def spLaw (K : PySem.W.Frag) : Sp := fun vs H Q _ => ∃ (a : Addr) (ns : List Int), vs = [.ref a] ∧ SqL K H a (ns.map V.int) ∧ ns.length ≤ 63 ∧ ∀ H', Q (.bl true) H'
theorem reps_ints {K : PySem.W.Frag} {H : Hp} {ρ : Rho} : ∀ ns : List Int, Reps K H ρ (ns.map PV.int) (ns.map V.int)
  | [] => by simp [Reps]
  | n :: ns => by
    show Reps K H ρ (PV.int n :: ns.map PV.int) (V.int n :: ns.map V.int)
    unfold Reps
    exact ⟨_, _, rfl, by unfold Rep; rfl, reps_ints ns⟩
theorem law_sp {K : PySem.W.Frag} {F : FA} (hF : ∀ ns : List Int, ns.length ≤ 63 → ∃ s', F [.frz (ns.map .int)] [] = some (.bl true, s')) {vs : List V} {H : Hp} {Q : VK} {E : XK} (h : spLaw K vs H Q E) : spI K 1 F vs H Q E := by
  obtain ⟨a, ns, rfl, hS, hlen, q⟩ := h
  obtain ⟨s', hl⟩ := hF ns hlen
  refine ⟨rfl, [], ⟨[], []⟩, [.frz (ns.map .int)], .bl true, s', ⟨rfl, List.nodup_nil, fun n so h => by simp at h, fun n so a h => by simp at h, fun a h => by simp at h⟩, ?_, hl, fun v H' ρ' _ _ h => ?_⟩
  · unfold Reps
    refine ⟨.ref a, [], rfl, ?_, by unfold Reps; rfl⟩
    unfold Rep
    refine ⟨a, ns.map V.int, rfl, ?_, reps_ints ns⟩
    rcases hS with h | h
    · exact .inl ⟨h, .inl (by simp)⟩
    · exact .inr h
  · unfold Rep at h
    subst h
    exact q _
theorem LawOk.imp {P : Program} {w : World} {K : PySem.W.Frag} {mg : Str → Option Value} {base : Heap} {fa : Addr} {fd : FuncData} {x : Str} {sp sp' : Sp} (L : LawOk P w K mg base fa fd x sp) (h : ∀ vs H Q E, sp' vs H Q E → sp vs H Q E) : LawOk P w K mg base fa fd x sp' :=
  fun s H u v Q e b r q => L s H u v Q e b r (h _ _ _ _ q)
/-- defs, classes, by the facts of the top -/
theorem def_mk {K : PySem.W.Frag} {h : Heap} {mg : Str → Option Value} {x : Str} {st : Stmt} {f : Addr} {oc kV dc pm cd ct : Value} {od an : Option Addr} {sl : Array (Option Value)} (X : K.In h) (G : h.Ns mainGlobals mg) (a : PySem.W.nsIn K mainGlobals x = some (some (.ref f)))
    (l : K.lookup f = some ⟨oc, od, .func (PySem.W.fnOf x x (C8.fnArgs st) (C8.fnBody st) (C8.fnScope st) .none kV dc pm an cd ct), sl⟩) (c : PySem.W.codeIn K cd x = true) (k : PySem.W.keepIn K (.ref f) = true) :
    C8.Def K mg x st f (PySem.W.fnOf x x (C8.fnArgs st) (C8.fnBody st) (C8.fnScope st) .none kV dc pm an cd ct) := ⟨⟨_, _, _, _, _, _, _, _, _, _, rfl, l, c⟩, PySem.W.mg_of X G a, k⟩
theorem fun_mk0 {K : PySem.W.Frag} {x q : Str} {st : Stmt} {f : Addr} {oc kV dc pm cd ct : Value} {od an : Option Addr} {sl : Array (Option Value)}
    (l : K.lookup f = some ⟨oc, od, .func (PySem.W.fnOf x q (C8.fnArgs st) (C8.fnBody st) (C8.fnScope st) .none kV dc pm an cd ct), sl⟩) (c : PySem.W.codeIn K cd q = true) :
    C8.Fun K x q st f (PySem.W.fnOf x q (C8.fnArgs st) (C8.fnBody st) (C8.fnScope st) .none kV dc pm an cd ct) := ⟨_, _, _, _, _, _, _, _, _, _, rfl, l, c⟩
section
variable {P : Program} {w : World} {K : PySem.W.Frag} {mg : Str → Option Value} {base : Heap} {k : Nat}
theorem no_fn {n : Nat} {f : Addr} {fd : FuncData} {ps : List Str} : FnOk P w K mg base CX0 k f fd ps (spI K ps.length (fun _ _ => none)) :=
  ⟨fun vs H Q E h => h.1, fun A outer s H args us vs Q E hr e0 hb r h => by obtain ⟨_, _, _, _, _, _, _, _, q, _⟩ := h; cases q⟩
theorem cal_zero {x : Str} {st : Stmt} {f : Addr} {fd : FuncData} {ps : List Str} (F : C8.Def K mg x st f fd) (b : Binds K fd ps []) : CalJ P w K mg base k x ps.length (fun _ _ => none) :=
  ⟨f, fd, ps, [], no_fn (n := 0), F.mgf, F.kp, b, .nil⟩
theorem met_zero {c m : Str} {C f : Addr} {fd : FuncData} {ps : List Str} (hC : ClsAt K c C) (hc : Cls K C) (me : Meth K C m f) (b : Binds K fd ps []) : MetJ P w K mg base k c m ps.length (fun _ _ => none) :=
  ⟨C, hC, f, fd, ps, [], hc, me, no_fn (n := 0), b, .nil⟩
theorem mak_zero {c : Str} {C f : Addr} {fd : FuncData} {ps : List Str} (hC : ClsAt K c C) (M : Mk K C f) (hm : mg c = some (.ref C)) (b : Binds K fd ps []) : MakJ P w K mg base k c ps.length (fun _ _ => none) :=
  ⟨C, hC, f, fd, ps, [], M, no_fn (n := 0), hm, b, .nil⟩
end
end IL

/-! rules for simp, of what layer J adds; what is let go at the end of a def -/
namespace IL
open PySem PySem.Spec PyProof.Rows L2
mutual
/-- no number stands in it -/
def nr : PV → Bool
  | .tup xs => nrs xs
  | .frz xs => nrs xs
  | .fdk _ xs => nrs xs
  | .ref _ => false
  | _ => true
def nrs : List PV → Bool
  | [] => true
  | x :: xs => nr x && nrs xs
end
section
variable {st s s1 s2 : Sto} {env : PEnv} {x y z v : PV} {xs ys : List PV} {ia ib ic ie io : IE} {ir : IA} {m k n : Nat} {c f : Str}
mutual
theorem rlt_nr : ∀ (x : PV), nr x = true → rlt m x
  | .tup xs, h => by unfold nr at h; unfold rlt; exact rlts_nr xs h
  | .frz xs, h => by unfold nr at h; unfold rlt; exact rlts_nr xs h
  | .fdk _ xs, h => by unfold nr at h; unfold rlt; exact rlts_nr xs h
  | .ref _, h => by simp [nr] at h
  | .non, _ => by unfold rlt; trivial
  | .bl _, _ => by unfold rlt; trivial
  | .int _, _ => by unfold rlt; trivial
  | .str _, _ => by unfold rlt; trivial
  | .ty _, _ => by unfold rlt; trivial
theorem rlts_nr : ∀ (xs : List PV), nrs xs = true → rlts m xs
  | [], _ => by unfold rlts; trivial
  | x :: xs, h => by
    unfold nrs at h
    rw [Bool.and_eq_true] at h
    unfold rlts
    exact ⟨rlt_nr x h.1, rlts_nr xs h.2⟩
end
theorem nrs_all {xs : List PV} : (∀ x ∈ xs, nr x = true) → nrs xs = true := by
  induction xs with
  | nil => intro _; simp [nrs]
  | cons x xs ih =>
    intro h
    unfold nrs
    rw [Bool.and_eq_true]
    exact ⟨h x (List.mem_cons_self ..), ih fun y hy => h y (List.mem_cons_of_mem _ hy)⟩
theorem nrs_append {xs ys : List PV} : nrs (xs ++ ys) = (nrs xs && nrs ys) := by
  induction xs with
  | nil => simp [nrs]
  | cons x xs ih => simp [nrs, ih, Bool.and_assoc]
/-! ### what is let go -/
theorem gc_app {l : Sto} (h : rlt st.length v) : gcS st (st ++ l) v = st := by
  unfold gcS
  rw [if_pos]
  · simp
  · refine ⟨h, fun i so hi e => .inl ?_⟩
    rwa [List.getElem?_append_left hi] at e
theorem gc_id (h : rlt st.length v) : gcS st st v = st := by
  have := gc_app (l := []) h
  simpa using this
/-- what stood before is there, or was changed to what has no numbers from there on -/
theorem gc_take (h : rlt st.length v) (h2 : ∀ i so, i < st.length → s[i]? = some so → st[i]? = some so ∨ rltO st.length so) : gcS st s v = s.take st.length := by
  unfold gcS
  rw [if_pos ⟨h, h2⟩]
theorem def_rt {nN : Nat} {b : IS} (hl : xs.length = n) (h : b (xs.map some ++ List.replicate (nN - n) none) st = some (.rt v s)) : iDef n nN b xs st = some (v, gcS st s v) := by
  unfold iDef
  rw [if_pos hl, h]
theorem def_nx {nN : Nat} {b : IS} {e : PEnv} (hl : xs.length = n) (h : b (xs.map some ++ List.replicate (nN - n) none) st = some (.nx e s)) : iDef n nN b xs st = some (.non, gcS st s .non) := by
  unfold iDef
  rw [if_pos hl, h]
/-- a def that gives what has no number, and leaves the store but for what is new -/
theorem def_pure {nN : Nat} {b : IS} {l : Sto} (hl : xs.length = n) (h : b (xs.map some ++ List.replicate (nN - n) none) st = some (.rt v (st ++ l))) (hv : nr v = true) : iDef n nN b xs st = some (v, st) := by
  rw [def_rt hl h, gc_app (rlt_nr _ hv)]
theorem def_pure0 {nN : Nat} {b : IS} (hl : xs.length = n) (h : b (xs.map some ++ List.replicate (nN - n) none) st = some (.rt v st)) (hv : nr v = true) : iDef n nN b xs st = some (v, st) := by
  rw [def_rt hl h, gc_id (rlt_nr _ hv)]
@[simp] theorem frzV_tup : frzV s (.tup xs) = (.tup xs, s) := rfl
@[simp] theorem frzV_frz : frzV s (.frz xs) = (.frz xs, s) := rfl
@[simp] theorem frzV_str {a : Str} : frzV s (.str a) = (.str a, s) := rfl
@[simp] theorem frzV_int {a : Int} : frzV s (.int a) = (.int a, s) := rfl
@[simp] theorem frzV_bl {a : Bool} : frzV s (.bl a) = (.bl a, s) := rfl
@[simp] theorem frzV_non : frzV s .non = (.non, s) := rfl
theorem frzV_lst (h : s[n]? = some (.lst xs)) : frzV s (.ref n) = (.frz xs, s.set n .gone) := by simp only [frzV, h]
theorem frzV_dct {kvs : List (Key × PV)} (h : s[n]? = some (.dK kvs)) : frzV s (.ref n) = (.fdk (kvs.map (·.1)) (kvs.map (·.2)), s.set n .gone) := by simp only [frzV, h]
theorem frzV_nr (h : nr x = true) : frzV s x = (x, s) := by
  cases x with
  | ref n => simp [nr] at h
  | _ => rfl
@[simp] theorem iFrz_e : iFrz ia env st = ob (ia env st) fun x s => some (frzV s x) := rfl
theorem new_val (h : ia env st = some (x, st)) (hx : nr x = true) : iNew ia env st = some (x, st) := by
  unfold iNew iGc
  rw [iFrz_e, h, ob_s, frzV_nr hx]
  simp only [Option.map_some, gc_id (rlt_nr _ hx)]
/-- a new list -/
theorem new_at_ {l : Sto} (h : ia env st = some (.ref k, s)) (hk : s[k]? = some (.lst xs)) (hle : st.length ≤ k) (hs : s = st ++ l) (hx : rlts st.length xs) : iNew ia env st = some (.frz xs, st) := by
  unfold iNew iGc
  rw [iFrz_e, h, ob_s, frzV_lst hk]
  subst hs
  have e : (st ++ l).set k .gone = st ++ l.set (k - st.length) .gone := List.set_append_right k .gone hle
  simp only [Option.map_some, e]
  rw [gc_app (by unfold rlt; exact hx)]
theorem new_l (h : ia env st = some (.ref st.length, st ++ [.lst xs])) (hx : nrs xs = true) : iNew ia env st = some (.frz xs, st) :=
  new_at_ h new_at (Nat.le_refl _) rfl (rlts_nr _ hx)
theorem new_d {kvs : List (Key × PV)} (h : ia env st = some (.ref st.length, st ++ [.dK kvs])) (hx : nrs (kvs.map (·.2)) = true) : iNew ia env st = some (.fdk (kvs.map (·.1)) (kvs.map (·.2)), st) := by
  unfold iNew iGc
  rw [iFrz_e, h, ob_s, frzV_dct new_at]
  have e : (st ++ [SO.dK kvs]).set st.length SO.gone = st ++ [SO.dK kvs].set (st.length - st.length) SO.gone := List.set_append_right _ SO.gone (Nat.le_refl _)
  simp only [Option.map_some, e]
  rw [gc_app (by unfold rlt; exact rlts_nr _ hx)]
/-- .. where the store has changed, too -/
theorem new_ch (h : ia env st = some (.ref k, s)) (hk : s[k]? = some (.lst xs)) (hle : st.length ≤ k) (hx : nrs xs = true) (h2 : ∀ i so, i < st.length → s[i]? = some so → st[i]? = some so ∨ rltO st.length so) : iNew ia env st = some (.frz xs, s.take st.length) := by
  unfold iNew iGc
  rw [iFrz_e, h, ob_s, frzV_lst hk]
  simp only [Option.map_some]
  rw [gc_take (by unfold rlt; exact rlts_nr _ hx)]
  · congr 2
    apply List.ext_getElem?
    intro i
    rw [List.getElem?_take, List.getElem?_take]
    split
    · rw [List.getElem?_set_ne (by omega)]
    · rfl
  · intro i so hi e
    rw [List.getElem?_set_ne (by omega)] at e
    exact h2 i so hi e
/-! ### a list as it is written down -/
theorem iLst_new (h : ir env st = some (xs, st)) (hx : nrs xs = true) (hl : xs.length ≤ 9000000 := by decide) : iNew (iLst ir) env st = some (.frz xs, st) :=
  new_l (by simp [h, hl]) hx
/-! ### comparisons, items, membership, lengths -/
@[simp] theorem pairsOf_tup : pairsOf st (.tup xs) = none := rfl
@[simp] theorem pairsOf_frz : pairsOf st (.frz xs) = none := rfl
@[simp] theorem pairsOf_str {a : Str} : pairsOf st (.str a) = none := rfl
@[simp] theorem pairsOf_int {a : Int} : pairsOf st (.int a) = none := rfl
@[simp] theorem pairsOf_bl {a : Bool} : pairsOf st (.bl a) = none := rfl
@[simp] theorem pairsOf_non : pairsOf st .non = none := rfl
theorem pairsOf_lst (h : st[n]? = some (.lst xs)) : pairsOf st (.ref n) = none := by simp only [pairsOf, h]
theorem pairsOf_dct {kvs : List (Key × PV)} (h : st[n]? = some (.dK kvs)) : pairsOf st (.ref n) = some kvs := by simp only [pairsOf, h]
@[simp] theorem fEqB_e : fEqB x y st = (eqB st x y).map fun b => (.bl b, st) := rfl
@[simp] theorem fNeB_e : fNeB x y st = (eqB st x y).map fun b => (.bl (!b), st) := rfl
theorem eqB_l (h : pairsOf st x = none) : eqB st x y = eqP st x y := by
  unfold eqB
  rw [h]
theorem eqB_r (h : pairsOf st y = none) : eqB st x y = eqP st x y := by
  unfold eqB
  rw [h]
  cases pairsOf st x <;> rfl
@[simp] theorem eqB_str {a : Str} : eqB st x (.str a) = eqP st x (.str a) := eqB_r rfl
@[simp] theorem eqB_int {a : Int} : eqB st x (.int a) = eqP st x (.int a) := eqB_r rfl
@[simp] theorem eqB_bl {a : Bool} : eqB st x (.bl a) = eqP st x (.bl a) := eqB_r rfl
@[simp] theorem eqB_tup : eqB st x (.tup ys) = eqP st x (.tup ys) := eqB_r rfl
@[simp] theorem eqB_frz : eqB st x (.frz ys) = eqP st x (.frz ys) := eqB_r rfl
@[simp] theorem fSubB_t {i : Int} : fSubB (.tup xs) (.int i) st = (atI xs i).map fun v => (v, st) := rfl
@[simp] theorem fSubB_f {i : Int} : fSubB (.frz xs) (.int i) st = (atI xs i).map fun v => (v, st) := rfl
theorem fSubB_l {i : Int} (h : st[n]? = some (.lst xs)) : fSubB (.ref n) (.int i) st = (atI xs i).map fun v => (v, st) := by
  unfold fSubB
  rw [pairsOf_lst h]
  show (match itemsOf st (.ref n) with
      | some xs => (atI xs i).map fun v => (v, st)
      | none => none) = _
  rw [itemsOf_r, h]
theorem fSubB_d {kvs : List (Key × PV)} {q : Key} (h : st[n]? = some (.dK kvs)) (hk : keyP y = some q) : fSubB (.ref n) y st = (findP kvs q).map fun v => (v, st) := by
  unfold fSubB
  rw [pairsOf_dct h, hk]
@[simp] theorem keyP_s {a : Str} : keyP (.str a) = some (.inr a) := rfl
@[simp] theorem keyP_i {a : Int} : keyP (.int a) = some (.inl a) := rfl
@[simp] theorem fInB_e : fInB x y st = (inB st x y).map fun b => (.bl b, st) := rfl
@[simp] theorem fNotInB_e : fNotInB x y st = (inB st x y).map fun b => (.bl (!b), st) := rfl
@[simp] theorem inB_st {a : Str} : inB st (.str a) (.tup ys) = (mapO flatP ys).map fun ws => inV (.str a) ws := rfl
@[simp] theorem inB_sf {a : Str} : inB st (.str a) (.frz ys) = (mapO flatP ys).map fun ws => inV (.str a) ws := rfl
theorem inB_d {kvs : List (Key × PV)} {q : Key} (h : st[n]? = some (.dK kvs)) (hk : keyP x = some q) : inB st x (.ref n) = some (findP kvs q).isSome := by
  unfold inB
  rw [pairsOf_dct h, hk]
@[simp] theorem fLenB_t : fLenB (.tup xs) st = some (.int xs.length, st) := rfl
@[simp] theorem fLenB_f : fLenB (.frz xs) st = some (.int xs.length, st) := rfl
@[simp] theorem fLenB_s {a : Str} : fLenB (.str a) st = if a.length ≤ 9000000 then some (.int (a.length : Int), st) else none := by
  have e : fLenB (.str a) st = fLen (.str a) st := rfl
  rw [e, fLen_s]
theorem fLenB_l (h : st[n]? = some (.lst xs)) : fLenB (.ref n) st = some (.int xs.length, st) := by
  have e : ownPairs st (.ref n) = none := by simp only [ownPairs, h]
  unfold fLenB
  rw [e]
  exact fLen_l h
theorem fLenB_d {kvs : List (Key × PV)} (h : st[n]? = some (.dK kvs)) : fLenB (.ref n) st = some (.int kvs.length, st) := by
  have e : ownPairs st (.ref n) = some kvs := by simp only [ownPairs, h]
  unfold fLenB
  rw [e]
/-! ### attributes, methods, classes, tables -/
@[simp] theorem iFld_e {cs : List Str} : iFld cs f ia env st = ob (ia env st) fun x s1 => fFld cs f x s1 := rfl
theorem fFld_e {cs : List Str} {fs : List (Str × PV)} (h : s[n]? = some (.ins c fs)) (hc : cs.contains c = true) (hf : fs.lookup f = some v) : fFld cs f (.ref n) s = some (v, s) := by
  simp only [fFld, h, hc, hf, if_true, Option.map_some]
theorem setFld_e {cs : List Str} {fs : List (Str × PV)} (h : s[n]? = some (.ins c fs)) (hc : cs.contains c = true) (hl : fs.length < 900) : setFld cs f (.ref n) y s = some (s.set n (.ins c (putP1 f y fs))) := by
  have hl' : decide (fs.length < 900) = true := decide_eq_true hl
  simp only [setFld, h, hc, hl', Bool.and_self, if_true]
@[simp] theorem iSetFld_e {cs : List Str} : iSetFld cs f io ie env st = ob (ie env st) fun y s1 => ob (io env s1) fun x s2 => (setFld cs f x y s2).map fun s3 => .nx env s3 := rfl
theorem meth_e {tbl : List (Str × FA)} {fs : List (Str × PV)} {F : FA} {q : Str} (h1 : io env st = some (.ref n, s1)) (h2 : s1[n]? = some (.ins c fs)) (h3 : tbl.lookup c = some F) (h4 : fs.lookup q = none) : iMeth q tbl io ir env st = ob (ir env s1) fun xs s2 => F (.ref n :: xs) s2 := by
  simp only [iMeth, h1, ob_s, h2, h3, h4]
theorem make_e {F : FA} (h : ir env st = some (xs, s1)) (hF : F (.ref s1.length :: xs) (s1 ++ [.ins c []]) = some (.non, s2)) : iMake c F ir env st = some (.ref s1.length, s2) := by
  simp only [iMake, h, ob_s, hF]
@[simp] theorem fTab_s {tab : List (Str × PV)} {a : Str} : fTab tab (.str a) st = (tab.lookup a).map fun v => (v, st) := rfl
@[simp] theorem fInTab_s {tab : List (Str × PV)} {a : Str} {b : Bool} : fInTab tab b (.str a) st = some (.bl (xor b (tab.lookup a).isSome), st) := rfl
@[simp] theorem iDict0_e : (fun (_ : PEnv) (st : Sto) => some (alloc (.dK []) st)) env st = some (.ref st.length, st ++ [.dK []]) := rfl
theorem append_e (h1 : io env st = some (.ref n, s1)) (h2 : s1[n]? = some (.lst ys)) (h3 : ie env s1 = some (x, s2)) (h4 : s2[n]? = some (.lst xs)) (hl : xs.length < 9000000) : iAppend io ie env st = some (.non, s2.set n (.lst (xs ++ [x]))) := by
  simp only [iAppend, h1, ob_s, h2, h3, h4, hl, if_true]
theorem fSetA_d {kvs : List (Key × PV)} {q : Key} (h : st[n]? = some (.dK kvs)) (hk : keyP y = some q) (hn : nodupK kvs = true) (hl : kvs.length < 9000000) : fSetA (.ref n) y v st = some (st.set n (.dK (putP kvs q v))) := by
  have hl' : decide (kvs.length < 9000000) = true := decide_eq_true hl
  simp only [fSetA, h, hk, hn, hl', Bool.and_self, if_true]
end
end IL

/-! how long data are when they are written; data that are good for ==, repr and to be let go -/
namespace IL
open PySem PySem.Spec PyProof.Rows L2
mutual
/-- at most so many signs -/
def wt : PV → Nat
  | .str x => 10 * x.length + 2
  | .int i => if i.natAbs < 10 ^ 30 then 31 else 10 ^ 9
  | .tup xs => 4 + wts xs
  | .frz xs => 4 + wts xs
  | _ => 5
def wts : List PV → Nat
  | [] => 0
  | x :: xs => wt x + 2 + wts xs
end
theorem textFrom_le : ∀ (ts : List Str) (k : Nat) (acc : Str), (textFrom k acc ts).length ≤ acc.length + piled ts
  | [], _, acc => Nat.le_refl _
  | t :: r, k, acc => by
    have ih := textFrom_le r (k + 1) (acc ++ (if k > 0 then ", " else "" : String) ++ t)
    have e : (acc ++ (if k > 0 then ", " else "" : String) ++ t).length ≤ acc.length + 2 + t.length := by
      rw [strLen_append, strLen_append]
      split
      · exact Nat.le_refl _
      · show acc.length + 0 + t.length ≤ _
        omega
    rw [piled_cons]
    show (textFrom (k + 1) _ r).length ≤ _
    omega
theorem listText_le (ts : List Str) : (listText ts).length ≤ piled ts + 2 := by
  unfold listText
  rw [strLen_append]
  have h := textFrom_le ts 0 "["
  have e1 : ((("[" : String) : Str)).length = 1 := rfl
  have e2 : ((("]" : String) : Str)).length = 1 := rfl
  omega
theorem tupleText_le (ts : List Str) : (tupleText ts).length ≤ piled ts + 4 := by
  unfold tupleText
  rw [strLen_append, strLen_append]
  have e1 : ((("(" : String) : Str)).length = 1 := rfl
  have e3 : (((if ts.length == 1 then ",)" else ")" : String) : Str)).length ≤ 2 := by split <;> decide
  by_cases h : ts = []
  · subst h
    have : (Str.join ", " ([] : List Str)).length = 0 := rfl
    omega
  · have := join_length_add ts h
    omega
mutual
theorem shown_le : ∀ (x : PV) (n : Nat), gd x n = true → wt x < 10 ^ 9 → (datP x).shown.length ≤ wt x
  | .non, _, _, _ => by show (("None" : Str)).length ≤ wt .non; simp only [wt]; decide
  | .bl true, _, _, _ => by show (("True" : Str)).length ≤ wt (.bl true); simp only [wt]; decide
  | .bl false, _, _, _ => by show (("False" : Str)).length ≤ wt (.bl false); simp only [wt]; decide
  | .int i, _, _, hw => by
    show ((toString i : String) : Str).length ≤ wt (.int i)
    unfold wt at hw ⊢
    split
    · rename_i h
      rw [PySem.ofString_length]
      exact int_text_length_le10 (k := 30) (by decide) h
    · rename_i h
      rw [if_neg h] at hw
      omega
  | .str x, n, h, _ => by
    unfold gd at h
    show (reprText x).length ≤ wt (.str x)
    unfold wt
    refine StrLaws.reprText_len x fun c hc => ?_
    unfold PyData.strOk at h
    rw [Array.all_eq_true_iff_forall_mem] at h
    have := of_decide_eq_true (h c (by simpa using hc))
    omega
  | .tup xs, n, h, hw => by
    unfold gd at h
    rw [Bool.and_eq_true] at h
    show (tupleText (PyData.shownAll (datPs xs))).length ≤ wt (.tup xs)
    have h1 := tupleText_le (PyData.shownAll (datPs xs))
    unfold wt at hw ⊢
    have h2 := showns_le xs _ h.2 (by omega)
    omega
  | .frz xs, n, h, hw => by
    unfold gd at h
    rw [Bool.and_eq_true] at h
    show (listText (PyData.shownAll (datPs xs))).length ≤ wt (.frz xs)
    have h1 := listText_le (PyData.shownAll (datPs xs))
    unfold wt at hw ⊢
    have h2 := showns_le xs _ h.2 (by omega)
    omega
  | .ref _, _, h, _ => by simp [gd] at h
  | .ty _, _, h, _ => by simp [gd] at h
  | .fdk _ _, _, h, _ => by simp [gd] at h
theorem showns_le : ∀ (xs : List PV) (n : Nat), gds xs n = true → wts xs < 10 ^ 9 → piled (PyData.shownAll (datPs xs)) ≤ wts xs
  | [], _, _, _ => by show piled [] ≤ _; rw [piled_nil]; exact Nat.zero_le _
  | x :: xs, n, h, hw => by
    unfold gds at h
    rw [Bool.and_eq_true] at h
    show piled ((datP x).shown :: PyData.shownAll (datPs xs)) ≤ wts (x :: xs)
    rw [piled_cons]
    unfold wts at hw ⊢
    have h1 := shown_le x n h.1 (by omega)
    have h2 := showns_le xs n h.2 (by omega)
    omega
end
mutual
theorem dat_ok : ∀ (x : PV) (n : Nat), gd x n = true → wt x < 10 ^ 9 → (datP x).showable = true ∧ (datP x).hasDict = false
  | .non, _, _, _ => ⟨by simp [datP, PyData.showable], by simp [datP, PyData.hasDict]⟩
  | .bl b, _, _, _ => ⟨by simp [datP, PyData.showable], by simp [datP, PyData.hasDict]⟩
  | .str b, _, _, _ => ⟨by simp [datP, PyData.showable], by simp [datP, PyData.hasDict]⟩
  | .int i, _, _, hw => by
    refine ⟨?_, by simp [datP, PyData.hasDict]⟩
    unfold wt at hw
    have h : i.natAbs < 10 ^ 30 := by
      by_cases h : i.natAbs < 10 ^ 30
      · exact h
      · rw [if_neg h] at hw; omega
    show decide (i.natAbs.log2 < 1920) = true
    exact decide_eq_true (Nat.lt_of_lt_of_le (PySem.Flt.log2_lt_of (by decide) (Nat.lt_of_lt_of_le h (by decide : 10 ^ 30 ≤ 2 ^ 100))) (by decide))
  | .tup xs, n, h, hw => by
    unfold gd at h
    rw [Bool.and_eq_true] at h
    unfold wt at hw
    obtain ⟨a, b⟩ := dats_ok xs _ h.2 (by omega)
    exact ⟨by simp only [datP, PyData.showable]; exact a, by simp only [datP, PyData.hasDict]; exact b⟩
  | .frz xs, n, h, hw => by
    unfold gd at h
    rw [Bool.and_eq_true] at h
    unfold wt at hw
    obtain ⟨a, b⟩ := dats_ok xs _ h.2 (by omega)
    exact ⟨by simp only [datP, PyData.showable]; exact a, by simp only [datP, PyData.hasDict]; exact b⟩
  | .ref _, _, h, _ => by simp [gd] at h
  | .ty _, _, h, _ => by simp [gd] at h
  | .fdk _ _, _, h, _ => by simp [gd] at h
theorem dats_ok : ∀ (xs : List PV) (n : Nat), gds xs n = true → wts xs < 10 ^ 9 → PyData.showableAll (datPs xs) = true ∧ PyData.hasDictAll (datPs xs) = false
  | [], _, _, _ => ⟨by simp [datPs, PyData.showableAll], by simp [datPs, PyData.hasDictAll]⟩
  | x :: xs, n, h, hw => by
    unfold gds at h
    rw [Bool.and_eq_true] at h
    unfold wts at hw
    obtain ⟨a, b⟩ := dat_ok x n h.1 (by omega)
    obtain ⟨c, d⟩ := dats_ok xs n h.2 (by omega)
    exact ⟨by simp only [datPs, PyData.showableAll, a, c, Bool.and_self], by simp only [datPs, PyData.hasDictAll, b, d, Bool.or_self]⟩
end
/-- data: no deeper than n, no longer than w when they are written -/
structure Gd (n w : Nat) (x : PV) : Prop where
  g : gd x n = true
  r : nr x = true
  w : wt x ≤ w
structure Gds (n w : Nat) (xs : List PV) : Prop where
  g : gds xs n = true
  r : nrs xs = true
  w : wts xs ≤ w
mutual
theorem gd_mono : ∀ (x : PV) {n m : Nat}, gd x n = true → n ≤ m → gd x m = true
  | .non, _, _, _, _ => by simp [gd]
  | .bl b, _, _, _, _ => by simp [gd]
  | .int b, _, _, _, _ => by simp [gd]
  | .str b, _, _, h, _ => by simpa [gd] using h
  | .tup xs, n, m, h, hm => by
    unfold gd at h ⊢
    rw [Bool.and_eq_true, decide_eq_true_eq] at h ⊢
    exact ⟨by omega, gds_mono xs h.2 (by omega)⟩
  | .frz xs, n, m, h, hm => by
    unfold gd at h ⊢
    rw [Bool.and_eq_true, decide_eq_true_eq] at h ⊢
    exact ⟨by omega, gds_mono xs h.2 (by omega)⟩
  | .ref _, _, _, h, _ => by simp [gd] at h
  | .ty _, _, _, h, _ => by simp [gd] at h
  | .fdk _ _, _, _, h, _ => by simp [gd] at h
theorem gds_mono : ∀ (xs : List PV) {n m : Nat}, gds xs n = true → n ≤ m → gds xs m = true
  | [], _, _, _, _ => by simp [gds]
  | x :: xs, n, m, h, hm => by
    unfold gds at h ⊢
    rw [Bool.and_eq_true] at h ⊢
    exact ⟨gd_mono x h.1 hm, gds_mono xs h.2 hm⟩
end
theorem Gd.mono {n m w v : Nat} {x : PV} (h : Gd n w x) (hn : n ≤ m) (hw : w ≤ v) : Gd m v x := ⟨gd_mono x h.g hn, h.r, Nat.le_trans h.w hw⟩
theorem Gds.mono {n m w v : Nat} {xs : List PV} (h : Gds n w xs) (hn : n ≤ m) (hw : w ≤ v) : Gds m v xs := ⟨gds_mono xs h.g hn, h.r, Nat.le_trans h.w hw⟩
theorem Gds.nil {n w : Nat} : Gds n w [] := ⟨by simp [gds], by simp [nrs], by simp [wts]⟩
theorem Gds.cons {n w v : Nat} {x : PV} {xs : List PV} (h : Gd n w x) (t : Gds n v xs) : Gds n (w + 2 + v) (x :: xs) := by
  refine ⟨?_, ?_, ?_⟩
  · unfold gds; rw [h.g, t.g]; rfl
  · unfold nrs; rw [h.r, t.r]; rfl
  · unfold wts; have := h.w; have := t.w; omega
theorem Gds.append {n w v : Nat} {xs ys : List PV} (h : Gds n w xs) (t : Gds n v ys) : Gds n (w + v) (xs ++ ys) := by
  induction xs generalizing w with
  | nil => exact t.mono (Nat.le_refl _) (by omega)
  | cons x xs ih =>
    obtain ⟨g, r, hw⟩ := h
    unfold gds at g
    unfold nrs at r
    unfold wts at hw
    rw [Bool.and_eq_true] at g r
    have i := ih (w := wts xs) ⟨g.2, r.2, Nat.le_refl _⟩
    exact (Gds.cons (w := wt x) ⟨g.1, r.1, Nat.le_refl _⟩ i).mono (Nat.le_refl _) (by omega)
theorem Gd.tup {n w : Nat} {xs : List PV} (h : Gds n w xs) : Gd (n + 1) (w + 4) (.tup xs) := by
  refine ⟨?_, ?_, ?_⟩
  · unfold gd; rw [Nat.add_sub_cancel, h.g]; simp
  · unfold nr; exact h.r
  · unfold wt; have := h.w; omega
theorem Gd.frz {n w : Nat} {xs : List PV} (h : Gds n w xs) : Gd (n + 1) (w + 4) (.frz xs) := by
  refine ⟨?_, ?_, ?_⟩
  · unfold gd; rw [Nat.add_sub_cancel, h.g]; simp
  · unfold nr; exact h.r
  · unfold wt; have := h.w; omega
theorem Gd.str {n w : Nat} {x : Str} (h : PyData.strOk x = true) (hw : 10 * x.length + 2 ≤ w) : Gd n w (.str x) := ⟨by simpa [gd] using h, by simp [nr], by simpa [wt] using hw⟩
theorem Gd.int {n w : Nat} {i : Int} (h : i.natAbs < 10 ^ 30) (hw : 31 ≤ w) : Gd n w (.int i) := ⟨by simp [gd], by simp [nr], by unfold wt; rw [if_pos h]; exact hw⟩
theorem Gd.bl {n w : Nat} {b : Bool} (hw : 5 ≤ w) : Gd n w (.bl b) := ⟨by simp [gd], by simp [nr], by simpa [wt] using hw⟩
theorem Gds.all {n w : Nat} : ∀ {xs : List PV}, (∀ x ∈ xs, Gd n w x) → Gds n (xs.length * (w + 2)) xs
  | [], _ => Gds.nil
  | x :: xs, h => by
    have := Gds.cons (h x (List.mem_cons_self ..)) (Gds.all fun y hy => h y (List.mem_cons_of_mem _ hy))
    refine this.mono (Nat.le_refl _) ?_
    rw [List.length_cons, Nat.succ_mul]
    omega
theorem Gds.mem {n w : Nat} : ∀ {xs : List PV}, Gds n w xs → ∀ x ∈ xs, Gd n w x
  | x :: xs, h, y, hy => by
    obtain ⟨g, r, hw⟩ := h
    unfold gds at g
    unfold nrs at r
    unfold wts at hw
    rw [Bool.and_eq_true] at g r
    rcases List.mem_cons.mp hy with e | hy
    · subst e
      exact ⟨g.1, r.1, by omega⟩
    · exact Gds.mem ⟨g.2, r.2, by omega⟩ y hy
theorem repr_gd {n w : Nat} {x : PV} {st : Sto} (h : Gd n w x) (hn : n ≤ 60) (hw : w ≤ 16000000) : reprOk (datP x) = true ∧ toD st 70 x = some (datP x) := by
  obtain ⟨h1, h2, h3⟩ := gd_dat (st := st) x n 70 h.g (by omega)
  have hw' : wt x < 10 ^ 9 := Nat.lt_of_le_of_lt (Nat.le_trans h.w hw) (by decide)
  obtain ⟨h4, h5⟩ := dat_ok x n h.g hw'
  have h6 := shown_le x n h.g hw'
  have := h.w
  refine ⟨?_, h1⟩
  unfold reprOk
  simp only [Bool.and_eq_true, Bool.not_eq_true', decide_eq_true_eq]
  exact ⟨⟨⟨h4, h5⟩, by omega⟩, by omega⟩
theorem repr_frz {n w : Nat} {xs : List PV} {st : Sto} (h : Gd n w (.frz xs)) (hn : n ≤ 60) (hw : w ≤ 16000000) : fReprD (.frz xs) st = some (.str (datP (.frz xs)).shown, st) := by
  obtain ⟨h1, h2⟩ := repr_gd (st := st) h hn hw
  simp only [fReprD, h2, h1, if_true]
theorem repr_tup {n w : Nat} {xs : List PV} {st : Sto} (h : Gd n w (.tup xs)) (hn : n ≤ 60) (hw : w ≤ 16000000) : fReprD (.tup xs) st = some (.str (datP (.tup xs)).shown, st) := by
  obtain ⟨h1, h2⟩ := repr_gd (st := st) h hn hw
  simp only [fReprD, h2, h1, if_true]
end IL

/-! rules for simp, of values that are new and not written -/
namespace IL
open PySem PySem.Spec PyProof.Rows L2
section
variable {st s s1 s2 : Sto} {env : PEnv} {x y z v : PV} {xs ys : List PV} {ia ib ic ie io : IE} {ir : IA} {m k n : Nat} {c f : Str}
theorem iNew_e : iNew ia env st = (ob (ia env st) fun x s => some (frzV s x)).map fun r => (r.1, gcS st r.2 r.1) := rfl
@[simp] theorem frzV_newl : frzV (s ++ [.lst xs]) (.ref s.length) = (.frz xs, s ++ [.gone]) := by
  rw [frzV_lst new_at]
  congr 1
  have := List.set_append_right (s := s) (t := [SO.lst xs]) s.length SO.gone (Nat.le_refl _)
  rw [this]
  simp
@[simp] theorem frzV_newd {kvs : List (Key × PV)} : frzV (s ++ [.dK kvs]) (.ref s.length) = (.fdk (kvs.map (·.1)) (kvs.map (·.2)), s ++ [.gone]) := by
  rw [frzV_dct new_at]
  congr 1
  have := List.set_append_right (s := s) (t := [SO.dK kvs]) s.length SO.gone (Nat.le_refl _)
  rw [this]
  simp
theorem gcS_nr {l : Sto} (h : nr v = true) : gcS st (st ++ l) v = st := gc_app (rlt_nr _ h)
theorem gcS_nr0 (h : nr v = true) : gcS st st v = st := gc_id (rlt_nr _ h)
theorem gcS_same (h : s.length = st.length) : gcS st s v = s := by
  unfold gcS
  split
  · rw [← h, List.take_length]
  · rfl
theorem def_same {nN : Nat} {b : IS} (hl : xs.length = n) (h : b (xs.map some ++ List.replicate (nN - n) none) st = some (.rt v s)) (he : s.length = st.length) : iDef n nN b xs st = some (v, s) := by
  rw [def_rt hl h, gcS_same he]
theorem def_same0 {nN : Nat} {b : IS} {e : PEnv} (hl : xs.length = n) (h : b (xs.map some ++ List.replicate (nN - n) none) st = some (.nx e s)) (he : s.length = st.length) : iDef n nN b xs st = some (.non, s) := by
  rw [def_nx hl h, gcS_same he]
@[simp] theorem fAdd_f : fAdd (.frz xs) (.frz ys) st = if xs.length + ys.length ≤ 9000000 then some (.ref st.length, st ++ [.lst (xs ++ ys)]) else none := rfl
theorem fAdd_l (h : st[n]? = some (.lst xs)) : fAdd (.ref n) (.frz ys) st = if xs.length + ys.length ≤ 9000000 then some (.ref st.length, st ++ [.lst (xs ++ ys)]) else none := by
  show (match listOf st (.ref n), listOf st (.frz ys) with
    | some a, some b => if a.length + b.length ≤ 9000000 then some (alloc (.lst (a ++ b)) st) else none
    | _, _ => none) = _
  simp only [listOf, h]
  rfl
theorem findP_put {v : PV} {k : Key} : ∀ {kvs : List (Key × PV)} {j : Key}, findP (putP kvs k v) j = if j = k then some v else findP kvs j
  | [], j => by
    by_cases h : j = k
    · simp [putP, findP, h]
    · simp [putP, findP, h, Ne.symm h]
  | p :: r, j => by
    have ih := findP_put (v := v) (k := k) (kvs := r) (j := j)
    by_cases h : j = k <;> by_cases h2 : p.1 = k <;> by_cases h3 : p.1 = j <;> simp_all [putP, findP]
@[simp] theorem findP_put_self {v : PV} {k : Key} {kvs : List (Key × PV)} : findP (putP kvs k v) k = some v := by rw [findP_put, if_pos rfl]
end
end IL

/-! a dict that nobody writes is walked -/
namespace IL
open PySem PySem.Spec PyProof.Rows L2
def kPV : Key → PV
  | .inl i => .int i
  | .inr x => .str x
section
variable {X : Cx} {W : WX} {pos : Pos} {ia : IS}
/-- a walk over src, however it is read -/
theorem for_core {K : PySem.W.Frag} {src : Src} {J : It} {H1 : Hp} {ρ1 : Rho} {D : L2.Ends} {ig : IG} {T : List Nat} {env : PEnv} {σ : L2.St} {s1 : Sto} {f : Fl} (O : SrcOk K src J H1 ρ1) (E : RepE K H1 ρ1 env σ) (S1 : RepS K H1 ρ1 s1) (h : loop src.at_ ig ia (src.n + 1) 0 env s1 = some f) (q : PostF K W D H1 ρ1 f) :
    ∃ W2 : Nat → Nat → L2.St → Hp → Prop, (∃ m, W2 0 m σ H1) ∧ ∀ (i m : Nat) (σ : L2.St) (H : Hp), W2 i m σ H → J.stop i H ∧ D.nx σ H ∨ J.go i H ∧ ∃ N : L2.St → Hp → Prop, (∀ (σ' : L2.St) (H' : Hp), N σ' H' → ∃ m', m' < m ∧ W2 (i + 1) m' σ' H') ∧
      ∀ (x : V) (H' : Hp), J.yld i H x H' → tIG K T ig x σ H' fun σ2 H2 => tIS K W ia { nx := N, rt := D.rt, bk := D.nx, ct := N } σ2 H2 := by
    refine ⟨fun i m σ' H' => ∃ env' st' ρ' f', Grow H1 ρ1 H' ρ' ∧ RepE K H' ρ' env' σ' ∧ RepS K H' ρ' st' ∧ loop src.at_ ig ia m i env' st' = some f' ∧ PostF K W D H' ρ' f', ⟨src.n + 1, env, s1, ρ1, f, Grow.refl, E, S1, h, q⟩, ?_⟩
    rintro i m σ' H' ⟨env', st', ρ', f', G', E', S', hl, q'⟩
    cases m with
    | zero => cases hl
    | succ m =>
      unfold loop at hl
      obtain ⟨o1, o2⟩ := O H' ρ' st' G' S' i
      split at hl
      · cases hl
      · rename_i e1
        cases hl
        exact .inl ⟨o1 e1, q' σ' H' ρ' Grow.refl S' E'⟩
      · rename_i x e1
        obtain ⟨go, yl⟩ := o2 x e1
        split at hl
        · cases hl
        · rename_i env1 e2
          refine .inr ⟨go, fun σ2 H2 => ∃ m', m' < m + 1 ∧ ∃ env' st' ρ' f', Grow H1 ρ1 H2 ρ' ∧ RepE K H2 ρ' env' σ2 ∧ RepS K H2 ρ' st' ∧ loop src.at_ ig ia m' (i + 1) env' st' = some f' ∧ PostF K W D H2 ρ' f', fun σ2 H2 n => n, fun v H2 y => ?_⟩
          obtain ⟨ρ2, G2, S2, R2⟩ := yl v H2 y
          refine ⟨env', st', ρ2, x, env1, E'.grow S' G2, S2, R2, e2, fun σ3 E3 _ _ => ?_⟩
          cases e3 : ia env1 st' with
          | none => rw [e3] at hl; cases hl
          | some fl =>
            rw [e3] at hl
            refine ⟨env1, st', ρ2, fl, E3, S2, e3, ?_⟩
            cases fl with
            | nx e s => exact fun σ4 H4 ρ4 G4 S4 E4 => ⟨m, Nat.lt_succ_self m, e, s, ρ4, f', (G'.trans G2).trans G4, E4, S4, hl, q'.grow (G2.trans G4)⟩
            | ct e s => exact fun σ4 H4 ρ4 G4 S4 E4 => ⟨m, Nat.lt_succ_self m, e, s, ρ4, f', (G'.trans G2).trans G4, E4, S4, hl, q'.grow (G2.trans G4)⟩
            | bk e s => cases hl; exact fun σ4 H4 ρ4 G4 S4 E4 => q' σ4 H4 ρ4 (G2.trans G4) S4 E4
            | rt v s => cases hl; exact fun v H4 ρ4 G4 S4 R4 => q' v H4 ρ4 (G2.trans G4) S4 R4
            | er e c fs s => cases hl; exact fun C d σ4 H4 ρ4 vs hc G4 => q' C d σ4 H4 ρ4 vs hc (G2.trans G4)
theorem srcK_ok {K : PySem.W.Frag} {H0 : Hp} {ρ0 : Rho} {d : Addr} {od : Obj} {kvs : List (Key × V)} (h : H0 d = some (.frz od (.dK kvs))) (sd : ρ0.Safe d) : SrcOk K (srcT ((kvs.map (·.1)).map kPV)) (Itk d od kvs) H0 ρ0 := fun H ρ st G S i => by
  have h1 := G.lck d od _ sd h
  refine ⟨fun hs => ?_, fun x hs => ?_⟩
  · simp only [srcT, Option.some.injEq, List.getElem?_eq_none_iff, List.length_map] at hs
    exact ⟨h1, hs⟩
  · simp only [srcT, Option.some.injEq, List.getElem?_map, Option.map_eq_some_iff] at hs
    obtain ⟨k, ⟨p, hp, rfl⟩, rfl⟩ := hs
    refine ⟨⟨h1, (List.getElem?_eq_some_iff.mp hp).1⟩, fun w H' y => ?_⟩
    obtain ⟨rfl, k, v, e, rfl⟩ := y
    rw [hp] at e; cases e
    refine ⟨ρ, Grow.refl, S, ?_⟩
    cases k <;> (unfold kPV Rep; rfl)
def iForK (i : Nat) (ig : IG) (body : IS) : IS := fun env st => match env[i]? with
  | some (some (.fdk ks _)) => loop (srcT (ks.map kPV)).at_ ig body (ks.length + 1) 0 env st
  | _ => none
theorem PS.or {st : Stmt} {t t' : TS} (h : PS X st t) (h' : PS X st t') : PS X st (fun D σ H => t D σ H ∨ t' D σ H) := ⟨fun pins s σ H D I q => q.elim (h.run pins s σ H D I) (h'.run pins s σ H D I)⟩
theorem rd_lock {H : Hp} {d : Addr} {od : Obj} {u : HO} (h : H d = some u) (hu : NF u) : ∀ a w, NF w → Rd H a w → Rd (upd H d (.frz od u)) a w := fun a w hw r => by
  by_cases e : a = d
  · subst e
    rcases r with r | ⟨o, r⟩
    · rw [h] at r; cases r
      exact .inr ⟨od, upd_same⟩
    · rw [h] at r; cases r
      exact absurd hu (by simp [NF])
  · unfold Rd at r ⊢
    rw [upd_ne e]; exact r
theorem rd_unlock {H : Hp} {d : Addr} {od : Obj} {u : HO} (h : H d = some (.frz od u)) : ∀ a w, NF w → Rd H a w → Rd (upd H d u) a w := fun a w hw r => by
  by_cases e : a = d
  · subst e
    rcases r with r | ⟨o, r⟩
    · rw [h] at r; cases r
      exact absurd hw (by simp [NF])
    · rw [h] at r; cases r
      exact .inl upd_same
  · unfold Rd at r ⊢
    rw [upd_ne e]; exact r
theorem grow_lock {H : Hp} {ρ : Rho} {d : Addr} {od : Obj} {u : HO} (h : H d = some u) (hu : NF u) : Grow H ρ (upd H d (.frz od u)) ρ :=
  ⟨⟨[], by simp, fun _ h => by simp at h⟩, fun _ h => h, fun b w hw _ r => rd_lock h hu b w hw r, fun b e => by
    by_cases hb : b = d
    · subst hb; rw [upd_same] at e; cases e
    · rw [upd_ne hb] at e; exact e, fun b o w _ e => by
    have hb : b ≠ d := fun z => by
      rw [z, h] at e; cases e
      exact hu
    rw [upd_ne hb]; exact e⟩
/-- locked, walked, unlocked -/
theorem grow_locked {H H2 : Hp} {ρ ρ2 : Rho} {d : Addr} {od : Obj} {u : HO} (h : H d = some u) (hu : NF u) (g : Grow (upd H d (.frz od u)) ρ H2 ρ2) (h2 : H2 d = some (.frz od u)) : Grow H ρ (upd H2 d u) ρ2 := by
  have G := (grow_lock (ρ := ρ) (od := od) h hu).trans g
  refine ⟨G.ext, G.ded, fun b w hw sb r => rd_unlock h2 b w hw (G.keep b w hw sb r), fun b e => ?_, fun b o w sb e => ?_⟩
  · by_cases hb : b = d
    · subst hb; rw [upd_same] at e; cases e
    · rw [upd_ne hb] at e; exact G.dom b e
  · have hb : b ≠ d := fun z => by
      rw [z, h] at e; cases e
      exact hu
    rw [upd_ne hb]; exact G.lck b o w sb e
theorem s_forK {iter tg : Expr} {body : List Stmt} {i : Nat} {T : List Nat} {ig : IG} (hp : PassesOwn (model X.prog X.w) X.A X.env X.xe) (hc : X.calm = true) (he : PE X iter (tVar i)) (hg : PG X tg (tIG X.K T ig)) (hb : PSs X body (tIS X.K W ia))
    (hs : ∀ x, foldedSetIterable iter X.env x = pure x := by intro _; rfl) : PS X (.For tg iter body [] pos) (tIS X.K W (iForK i ig ia)) :=
  PS.imp (PS.or (ps_lock (ps_for hp hc (pi_keys he) hg hb hs)) (ps_for hp hc (pi_keys he) hg hb hs)) fun D σ H ⟨env, s, ρ, f, E, S, h, q⟩ => by
    unfold iForK at h
    split at h
    · rename_i ks xs e
      obtain ⟨v, hv, R⟩ := E.at_ i _ e
      unfold Rep at R
      obtain ⟨d, vs, rfl, ⟨kvs, rd, sd, hk, hvs⟩, _⟩ := R
      subst hk
      have hn : (srcT ((kvs.map (·.1)).map kPV)).n = (kvs.map (·.1)).length := by simp [srcT]
      rcases rd with rd | ⟨od, rd⟩
      · refine .inl ⟨d, .dK kvs, rd, trivial, fun od => ?_⟩
        have r1 := rd_lock (od := od) rd trivial
        have E1 := E.rdk r1
        have S1 := S.rdk r1 sd (fun a ha => upd_ne ha)
        refine ⟨.ref d, hv, d, od, rfl, .inl ⟨kvs, upd_same, ?_⟩⟩
        refine for_core (srcK_ok upd_same sd) E1 S1 (by rw [hn]; exact h) ?_
        have fin : ∀ {H2 : Hp} {ρ2 : Rho}, Grow (upd H d (.frz od (.dK kvs))) ρ H2 ρ2 → H2 d = some (.frz od (.dK kvs)) ∧ Grow H ρ (upd H2 d (.dK kvs)) ρ2 ∧ ρ2.Safe d ∧ (∀ a w, NF w → Rd H2 a w → Rd (upd H2 d (.dK kvs)) a w) := fun g => by
          have h2 := g.lck d od _ sd upd_same
          exact ⟨h2, grow_locked rd trivial g h2, g.safe (by rw [upd_same]; simp) sd, rd_unlock h2⟩
        cases f with
        | nx e s => exact fun σ' H2 ρ2 g S2 E2 => ⟨(fin g).1, q σ' _ ρ2 (fin g).2.1 (S2.rdk (fin g).2.2.2 (fin g).2.2.1 (fun a ha => upd_ne ha)) (E2.rdk (fin g).2.2.2)⟩
        | ct e s => exact fun σ' H2 ρ2 g S2 E2 => ⟨(fin g).1, q σ' _ ρ2 (fin g).2.1 (S2.rdk (fin g).2.2.2 (fin g).2.2.1 (fun a ha => upd_ne ha)) (E2.rdk (fin g).2.2.2)⟩
        | bk e s => exact fun σ' H2 ρ2 g S2 E2 => ⟨(fin g).1, q σ' _ ρ2 (fin g).2.1 (S2.rdk (fin g).2.2.2 (fin g).2.2.1 (fun a ha => upd_ne ha)) (E2.rdk (fin g).2.2.2)⟩
        | rt v s => exact fun w H2 ρ2 g S2 R2 => ⟨(fin g).1, q w _ ρ2 (fin g).2.1 (S2.rdk (fin g).2.2.2 (fin g).2.2.1 (fun a ha => upd_ne ha)) (Rep.rdk (fin g).2.2.2 _ _ R2)⟩
        | er e c fs s => exact fun C d2 σ' H2 ρ2 vs hc g => q C d2 σ' H2 ρ2 vs hc ((grow_lock rd trivial).trans g)
      · exact .inr ⟨.ref d, hv, d, od, rfl, .inl ⟨kvs, rd, for_core (srcK_ok rd sd) E S (by rw [hn]; exact h) q⟩⟩
    · cases h
theorem loop_srcT {ig : IG} {body : IS} {all : List PV} {env : PEnv} {st : Sto} : loop (srcT all).at_ ig body (all.length + 1) 0 env st = foldT ig body all env st := loop_foldT all [] env st rfl
theorem iForK_e {i : Nat} {ig : IG} {body : IS} {env : PEnv} {st : Sto} {ks : List Key} {xs : List PV} (h : env[i]? = some (some (.fdk ks xs))) : iForK i ig body env st = foldT ig body (ks.map kPV) env st := by
  unfold iForK
  rw [h]
  have := loop_srcT (ig := ig) (body := body) (all := ks.map kPV) (env := env) (st := st)
  rw [List.length_map] at this
  exact this
end
end IL

/-! a dict comprehension over a list, of what leaves the store -/
namespace IL
open PySem PySem.Spec PyProof.Rows L2
def putAllP {α : Type} (key : α → Key) (val : α → PV) : List (Key × PV) → List α → List (Key × PV)
  | acc, [] => acc
  | acc, x :: xs => putAllP key val (putP acc (key x) (val x)) xs
section
variable {α : Type} {key : α → Key} {val f : α → PV} {ig : IG} {t : IT} {ek e : IE} {w : PEnv} {st : Sto}
theorem putP_some' {σ : List (Key × PV)} {k : Key} {v : PV} : findP σ k ≠ none → (putP σ k v).map (·.1) = σ.map (·.1) := by
  induction σ with
  | nil => intro h; exact absurd rfl h
  | cons p r ih =>
    obtain ⟨k', x⟩ := p
    intro h
    unfold findP at h
    unfold putP
    by_cases e : k' = k
    · rw [if_pos e]; rfl
    · rw [if_neg e] at h ⊢
      simp [ih h]
theorem putP_none' {σ : List (Key × PV)} {k : Key} {v : PV} (h : findP σ k = none) : putP σ k v = σ ++ [(k, v)] ∧ k ∉ σ.map (·.1) := by
  induction σ with
  | nil => exact ⟨rfl, by simp⟩
  | cons p r ih =>
    obtain ⟨k', x⟩ := p
    unfold findP at h
    unfold putP
    by_cases e : k' = k
    · rw [if_pos e] at h; cases h
    · rw [if_neg e] at h ⊢
      rw [(ih h).1]
      refine ⟨rfl, ?_⟩
      simp only [List.map_cons, List.mem_cons, not_or]
      exact ⟨fun z => e z.symm, (ih h).2⟩
theorem nodupK_put' {σ : List (Key × PV)} {k : Key} {v : PV} (h : nodupK σ = true) : nodupK (putP σ k v) = true ∧ (putP σ k v).length ≤ σ.length + 1 := by
  have h1 : (σ.map (·.1)).Nodup := of_decide_eq_true h
  unfold nodupK
  cases e : findP σ k with
  | some v' =>
    have q := putP_some' (v := v) (show findP σ k ≠ none by rw [e]; simp)
    refine ⟨decide_eq_true (by rw [q]; exact h1), ?_⟩
    have := congrArg List.length q
    simp only [List.length_map] at this
    omega
  | none =>
    obtain ⟨q1, q2⟩ := putP_none' (v := v) e
    refine ⟨decide_eq_true ?_, by rw [q1, List.length_append]; simp⟩
    rw [q1, List.map_append, List.nodup_append]
    refine ⟨h1, by simp, fun a ha b hb hab => ?_⟩
    simp only [List.map_cons, List.map_nil, List.mem_singleton] at hb
    subst hb; subst hab
    exact q2 ha
theorem dc_loop {all : List PV} (M : α → Prop) (h : ∀ x, M x → ∀ s, ∃ env1 kx, ig (f x) w s = some env1 ∧ t env1 s = some (true, s) ∧ ek env1 s = some (kx, s) ∧ e env1 s = some (val x, s) ∧ keyP kx = some (key x)) :
    ∀ (ys : List α) (pre : List PV) (acc : List (Key × PV)), all = pre ++ ys.map f → (∀ y ∈ ys, M y) → nodupK acc = true → acc.length + ys.length < 9000000 →
      dcLoop (srcT all).at_ ig t ek e st.length w (ys.length + 1) pre.length (st ++ [.dK acc]) = some (st ++ [.dK (putAllP key val acc ys)])
  | [], pre, acc, he, _, _, _ => by
    rw [List.map_nil, List.append_nil] at he
    subst he
    show dcLoop (srcT all).at_ ig t ek e st.length w 1 all.length (st ++ [.dK acc]) = _
    unfold dcLoop
    simp [srcT, putAllP]
  | y :: ys, pre, acc, he, hM, hn, hl => by
    obtain ⟨env1, kx, h1, h2, h3, h4, h5⟩ := h y (hM y (List.mem_cons_self ..)) (st ++ [.dK acc])
    have hat : (srcT all).at_ (st ++ [.dK acc]) pre.length = some (some (f y)) := by
      simp only [srcT, he, List.map_cons]
      rw [List.getElem?_append_right (Nat.le_refl _)]; simp
    have ih := dc_loop (all := all) M h ys (pre ++ [f y]) (putP acc (key y) (val y)) (by rw [he]; simp) (fun z hz => hM z (List.mem_cons_of_mem _ hz)) (nodupK_put' hn).1 (by have := (nodupK_put' (k := key y) (v := val y) hn).2; simp only [List.length_cons] at hl; omega)
    rw [List.length_append, List.length_singleton] at ih
    have hs : (st ++ [SO.dK acc]).set st.length (.dK (putP acc (key y) (val y))) = st ++ [.dK (putP acc (key y) (val y))] := by
      rw [List.set_append_right _ _ (Nat.le_refl _)]; simp
    have hc : (nodupK acc && decide (acc.length < 9000000)) = true := by
      rw [hn, Bool.true_and]; exact decide_eq_true (by simp only [List.length_cons] at hl; omega)
    rw [List.length_cons]
    unfold dcLoop
    rw [hat]
    simp only [h1, h2, h3, h4, h5, new_at, hc, if_true, hs]
    exact ih
theorem dc_new {xs : List α} {ie : IE} {vs : List Nat} {env : PEnv} (hi : ie env st = some (.frz (xs.map f), st)) (hl : xs.length < 9000000)
    (h : ∀ x, x ∈ xs → ∀ s, ∃ env1 kx, ig (f x) (wipeE env vs) s = some env1 ∧ t env1 s = some (true, s) ∧ ek env1 s = some (kx, s) ∧ e env1 s = some (val x, s) ∧ keyP kx = some (key x)) (hv : nrs ((putAllP key val [] xs).map (·.2)) = true) :
    iNew (iDc (iWalk ie) ig t ek e vs) env st = some (.fdk ((putAllP key val [] xs).map (·.1)) ((putAllP key val [] xs).map (·.2)), st) := by
  refine new_d ?_ hv
  have hd := dc_loop (st := st) (t := t) (ek := ek) (e := e) (all := xs.map f) (fun x => x ∈ xs) h xs [] [] rfl (fun _ h => h) rfl (by simpa using hl)
  have hn : (srcT (xs.map f)).n = xs.length := by simp [srcT]
  unfold iDc
  rw [iWalk_e, hi]
  simp only [ob_s, hn]
  rw [List.length_nil] at hd
  rw [hd]
  rfl
end
end IL

/-! a text that repr gives has signs as texts have -/
namespace IL
open PySem PySem.Spec PyProof.Rows L2
theorem ok_iff {s : Str} : PyData.strOk s = true ↔ ∀ c ∈ s.cps.toList, c < 1114112 := by
  unfold PyData.strOk
  rw [Array.all_eq_true_iff_forall_mem]
  simp
theorem ok_of (s : String) : PyData.strOk (Str.ofString s) = true := by
  rw [ok_iff, PyProof.Rows.signs_ofString]
  intro c hc
  obtain ⟨ch, _, rfl⟩ := List.mem_map.mp hc
  have := ch.valid
  unfold Char.toNat
  unfold UInt32.isValidChar Nat.isValidChar at this
  omega
theorem ok_app {a b : Str} (ha : PyData.strOk a = true) (hb : PyData.strOk b = true) : PyData.strOk (a ++ b) = true := by
  rw [ok_iff] at *
  intro c hc
  have e : (a ++ b).cps.toList = a.cps.toList ++ b.cps.toList := by
    show (a.cps ++ b.cps).toList = _
    simp
  rw [e] at hc
  rcases List.mem_append.mp hc with h | h
  · exact ha c h
  · exact hb c h
theorem ok_hex {c w : Nat} : ∀ x ∈ (List.replicate (w - (List.map Char.toNat (Nat.toDigits 16 c)).length) 48 ++ List.map Char.toNat (Nat.toDigits 16 c)), x < 1114112 := by
  intro x hx
  rcases List.mem_append.mp hx with h | h
  · have := (List.mem_replicate.mp h).2
    omega
  · obtain ⟨ch, _, rfl⟩ := List.mem_map.mp h
    have := ch.valid
    unfold Char.toNat
    unfold UInt32.isValidChar Nat.isValidChar at this
    omega
theorem ok_char {q c : Nat} (hc : c < 1114112) : ∀ x ∈ Builtin.Str.reprChar q c, x < 1114112 := by
  intro x hx
  unfold Builtin.Str.reprChar at hx
  simp only at hx
  split at hx
  · simp at hx; omega
  · split at hx
    · simp at hx; omega
    · split at hx
      · simp at hx; omega
      · split at hx
        · simp at hx; omega
        · split at hx
          · simp at hx; omega
          · split at hx
            · rcases List.mem_append.mp hx with h | h
              · simp at h; omega
              · exact ok_hex x h
            · split at hx
              · rcases List.mem_append.mp hx with h | h
                · simp at h; omega
                · exact ok_hex x h
              · rcases List.mem_append.mp hx with h | h
                · simp at h; omega
                · exact ok_hex x h
theorem ok_fold {q : Nat} : ∀ (cs : List Nat) (out : Array Nat), (∀ c ∈ cs, c < 1114112) → (∀ c ∈ out.toList, c < 1114112) → ∀ c ∈ (cs.foldl (fun out c => out ++ (Builtin.Str.reprChar q c).toArray) out).toList, c < 1114112
  | [], out, _, h => h
  | x :: cs, out, hc, h => by
    rw [List.foldl_cons]
    refine ok_fold cs _ (fun c hm => hc c (List.mem_cons_of_mem _ hm)) fun c hm => ?_
    rw [Array.toList_append] at hm
    rcases List.mem_append.mp hm with hm | hm
    · exact h c hm
    · exact ok_char (hc x (List.mem_cons_self ..)) c hm
theorem ok_repr {x : Str} (h : PyData.strOk x = true) : PyData.strOk (reprText x) = true := by
  rw [ok_iff] at *
  have hq : reprQuote x < 1114112 := by unfold reprQuote; split <;> omega
  intro c hc
  unfold reprText at hc
  rw [Array.toList_push] at hc
  rcases List.mem_append.mp hc with hc | hc
  · rw [← Array.foldl_toList] at hc
    exact ok_fold x.cps.toList _ h (by simp; omega) c hc
  · simp at hc; omega
theorem ok_from : ∀ (ts : List Str) (k : Nat) (acc : Str), (∀ t ∈ ts, PyData.strOk t = true) → PyData.strOk acc = true → PyData.strOk (textFrom k acc ts) = true
  | [], k, acc, _, h => h
  | t :: r, k, acc, ht, h => by
    show PyData.strOk (textFrom (k + 1) (acc ++ (if k > 0 then ", " else "" : String) ++ t) r) = true
    exact ok_from r (k + 1) _ (fun u hu => ht u (List.mem_cons_of_mem _ hu)) (ok_app (ok_app h (ok_of _)) (ht t (List.mem_cons_self ..)))
theorem ok_join {s : Str} (hs : PyData.strOk s = true) : ∀ (ts : List Str), (∀ t ∈ ts, PyData.strOk t = true) → PyData.strOk (Str.join s ts) = true
  | [], _ => ok_of ""
  | [t], h => h t (List.mem_cons_self ..)
  | t :: u :: r, h => by
    have ih := ok_join hs (u :: r) fun x hx => h x (List.mem_cons_of_mem _ hx)
    show PyData.strOk (t ++ s ++ Str.join s (u :: r)) = true
    exact ok_app (ok_app (h t (List.mem_cons_self ..)) hs) ih
mutual
theorem shown_ok : ∀ (x : PV) (n : Nat), gd x n = true → PyData.strOk (datP x).shown = true
  | .non, _, _ => ok_of "None"
  | .bl true, _, _ => ok_of "True"
  | .bl false, _, _ => ok_of "False"
  | .int i, _, _ => ok_of (toString i)
  | .str x, n, h => by
    unfold gd at h
    exact ok_repr h
  | .tup xs, n, h => by
    unfold gd at h
    rw [Bool.and_eq_true] at h
    show PyData.strOk (tupleText (PyData.shownAll (datPs xs))) = true
    unfold tupleText
    exact ok_app (ok_app (ok_of _) (ok_join (ok_of _) _ (showns_ok xs _ h.2))) (ok_of _)
  | .frz xs, n, h => by
    unfold gd at h
    rw [Bool.and_eq_true] at h
    show PyData.strOk (listText (PyData.shownAll (datPs xs))) = true
    unfold listText
    exact ok_app (ok_from _ _ _ (showns_ok xs _ h.2) (ok_of _)) (ok_of _)
  | .ref _, _, h => by simp [gd] at h
  | .ty _, _, h => by simp [gd] at h
  | .fdk _ _, _, h => by simp [gd] at h
theorem showns_ok : ∀ (xs : List PV) (n : Nat), gds xs n = true → ∀ t ∈ PyData.shownAll (datPs xs), PyData.strOk t = true
  | [], _, _ => fun t ht => by
    have e : PyData.shownAll (datPs []) = [] := rfl
    rw [e] at ht; cases ht
  | x :: xs, n, h => fun t ht => by
    unfold gds at h
    rw [Bool.and_eq_true] at h
    have e : PyData.shownAll (datPs (x :: xs)) = (datP x).shown :: PyData.shownAll (datPs xs) := rfl
    rw [e] at ht
    rcases List.mem_cons.mp ht with z | ht
    · rw [z]; exact shown_ok x n h.1
    · exact showns_ok xs n h.2 t ht
end
theorem eq_repr {st : Sto} {x : PV} {n : Nat} (h : gd x n = true) : fEqB (.str (datP x).shown) (.str (datP x).shown) st = some (.bl true, st) := by
  rw [fEqB_e, eqB_str, eqP_s, shown_ok x n h]
  simp
end IL

/-! expressions and defs that may raise -/
namespace IL
open PySem PySem.Spec PyProof.Rows L2

inductive RX where
  | ok (v : PV) | er (c : Str) (fs : List (Str × PV))
inductive RL where
  | ok (xs : List PV) | er (c : Str) (fs : List (Str × PV))
abbrev IX := PEnv → Sto → Option (RX × Sto)
abbrev IXA := PEnv → Sto → Option (RL × Sto)
abbrev FX := List PV → Sto → Option (RX × Sto)
section
variable (K : PySem.W.Frag) (W : WX)
/-- an exception behind H, at the slots σ -/
def PostE (H : Hp) (ρ : Rho) (σ : L2.St) (c : Str) (fs : List (Str × PV)) (s : Sto) : Prop := ∀ C d H' ρ' vs, ClsAt K c C → Grow H ρ H' ρ' → RepS K H' ρ' s → RepF K H' ρ' fs vs → H' d = some (.xd vs) → W (.ref C) (some d) σ H'
def PostX (H : Hp) (ρ : Rho) (σ : L2.St) (Q : VK) : RX × Sto → Prop
  | (.ok z, s) => ∀ v H' ρ', Grow H ρ H' ρ' → RepS K H' ρ' s → Rep K H' ρ' z v → Q v H'
  | (.er c fs, s) => PostE K W H ρ σ c fs s
def PostL (H : Hp) (ρ : Rho) (σ : L2.St) (Q : List V → Hp → Prop) : RL × Sto → Prop
  | (.ok z, s) => ∀ v H' ρ', Grow H ρ H' ρ' → RepS K H' ρ' s → Reps K H' ρ' z v → Q v H'
  | (.er c fs, s) => PostE K W H ρ σ c fs s
def tIX (i : IX) : TE := fun σ H Q => ∃ env st ρ r, RepE K H ρ env σ ∧ RepS K H ρ st ∧ i env st = some r ∧ PostX K W H ρ σ Q r
def tIXA (i : IXA) : TA := fun σ H Q => ∃ env st ρ r, RepE K H ρ env σ ∧ RepS K H ρ st ∧ i env st = some r ∧ PostL K W H ρ σ Q r
end
section
variable {K : PySem.W.Frag} {W : WX} {H H' : Hp} {ρ ρ' : Rho} {σ : L2.St}
theorem PostE.grow {c : Str} {fs : List (Str × PV)} {s : Sto} (h : PostE K W H ρ σ c fs s) (g : Grow H ρ H' ρ') : PostE K W H' ρ' σ c fs s := fun C d H2 ρ2 vs hc G => h C d H2 ρ2 vs hc (g.trans G)
theorem PostX.grow {Q : VK} {r : RX × Sto} (h : PostX K W H ρ σ Q r) (g : Grow H ρ H' ρ') : PostX K W H' ρ' σ Q r := by
  obtain ⟨r, s⟩ := r
  cases r with
  | ok z => exact fun v H2 ρ2 G => h v H2 ρ2 (g.trans G)
  | er c fs => exact PostE.grow h g
theorem PostL.grow {Q : List V → Hp → Prop} {r : RL × Sto} (h : PostL K W H ρ σ Q r) (g : Grow H ρ H' ρ') : PostL K W H' ρ' σ Q r := by
  obtain ⟨r, s⟩ := r
  cases r with
  | ok z => exact fun v H2 ρ2 G => h v H2 ρ2 (g.trans G)
  | er c fs => exact PostE.grow h g
end
/-- what does not raise -/
def iOk (ie : IE) : IX := fun env st => ob (ie env st) fun x s => some (.ok x, s)
def iOks (ir : IA) : IXA := fun env st => ob (ir env st) fun x s => some (.ok x, s)
/-- f(..), f may raise -/
def iCallX (f : FX) (ir : IA) : IX := fun env st => ob (ir env st) fun xs s => f xs s
/-- .. and so may what it is given -/
def iCallXX (f : FX) (ir : IXA) : IX := fun env st => ob (ir env st) fun r s => match r with
  | .ok xs => f xs s
  | .er c fs => some (.er c fs, s)
def iConsX (ix : IX) (ir : IXA) : IXA := fun env st => ob (ix env st) fun r s => match r with
  | .ok x => ob (ir env s) fun r2 s2 => match r2 with
    | .ok xs => some (.ok (x :: xs), s2)
    | .er c fs => some (.er c fs, s2)
  | .er c fs => some (.er c fs, s)
/-- the values where nothing was raised -/
def pureF (f : FX) : FA := fun xs st => match f xs st with
  | some (.ok v, s) => some (v, s)
  | _ => none
/-- a tuple, a list -/
def iTupX (ir : IXA) : IX := fun env st => ob (ir env st) fun r s => match r with
  | .ok xs => if xs.length ≤ 9000000 then some (.ok (.tup xs), s) else none
  | .er c fs => some (.er c fs, s)
def iLstX (ir : IXA) : IX := fun env st => ob (ir env st) fun r s => match r with
  | .ok xs => if xs.length ≤ 9000000 then some (.ok (.ref s.length), s ++ [.lst xs]) else none
  | .er c fs => some (.er c fs, s)
end IL

/-! rules of what may raise -/
namespace IL
open PySem PySem.Spec PyProof.Rows L2
section
variable {X : Cx} {W : WX} {e : Expr} {es : List Expr} {pos : Pos} {ie : IE} {ix : IX} {ir : IA} {iy : IXA}
theorem x_ok (h : PE X e (tI X.K ie)) : PE X e (tIX X.K W (iOk ie)) := PE.imp h fun σ H Q ⟨env, st, ρ, r, E, S, h, q⟩ => by
  obtain ⟨x, s1, h1, h⟩ := ob_some h
  cases h
  exact ⟨env, st, ρ, x, s1, E, S, h1, q⟩
theorem x_oks (h : PA X es (tIA X.K ir)) : PA X es (tIXA X.K W (iOks ir)) := PA.imp h fun σ H Q ⟨env, st, ρ, r, E, S, h, q⟩ => by
  obtain ⟨x, s1, h1, h⟩ := ob_some h
  cases h
  exact ⟨env, st, ρ, x, s1, E, S, h1, q⟩
theorem x_cons (ha : PE X e (tIX X.K W ix)) (hr : PA X es (tIXA X.K W iy)) (hs : starEach (e :: es) X.env = (false, eval e X.env) :: starEach es X.env := by rfl) : PA X (e :: es) (tIXA X.K W (iConsX ix iy)) :=
  PA.imp (pa_cons ha hr hs) fun σ H Q ⟨env, st, ρ, r, E, S, h, q⟩ => by
    obtain ⟨r1, s1, h1, h⟩ := ob_some h
    refine ⟨env, st, ρ, (r1, s1), E, S, h1, ?_⟩
    cases r1 with
    | er c fs => cases h; exact q
    | ok x =>
      intro v H1 ρ1 G1 S1 R1
      obtain ⟨r2, s2, h2, h⟩ := ob_some h
      refine ⟨env, s1, ρ1, (r2, s2), E.grow S G1, S1, h2, ?_⟩
      cases r2 with
      | er c fs => cases h; exact PostE.grow q G1
      | ok xs =>
        cases h
        intro vs H2 ρ2 G2 S2 R2
        exact q (v :: vs) H2 ρ2 (G1.trans G2) S2 (by unfold Reps; exact ⟨v, vs, rfl, Rep.grow S1 G2 _ _ R1, R2⟩)
theorem x_tup {x1} (h : PA X es (tIXA X.K W iy)) : PE X (.Tuple es x1 pos) (tIX X.K W (iTupX iy)) :=
  PE.imp (pe_tup h) fun σ H Q ⟨env, st, ρ, r, E, S, h, q⟩ => by
    obtain ⟨r1, s1, h1, h⟩ := ob_some h
    refine ⟨env, st, ρ, (r1, s1), E, S, h1, ?_⟩
    cases r1 with
    | er c fs => cases h; exact q
    | ok xs =>
      simp only at h
      split at h
      · rename_i hl
        cases h
        exact fun vs H1 ρ1 G1 S1 R1 => ⟨line5 (by rw [← R1.length]; exact hl), fun p hp => q _ _ ρ1 (G1.trans (grow_new hp)) (S1.new hp) (new_tup S1 R1 hp)⟩
      · cases h
theorem x_lst (h : PA X es (tIXA X.K W iy)) : PE X (.List es pos) (tIX X.K W (iLstX iy)) :=
  PE.imp (pe_lst h) fun σ H Q ⟨env, st, ρ, r, E, S, h, q⟩ => by
    obtain ⟨r1, s1, h1, h⟩ := ob_some h
    refine ⟨env, st, ρ, (r1, s1), E, S, h1, ?_⟩
    cases r1 with
    | er c fs => cases h; exact q
    | ok xs =>
      simp only at h
      split at h
      · rename_i hl
        cases h
        refine fun vs H1 ρ1 G1 S1 R1 => ⟨line5 (by rw [← R1.length]; exact hl), fun p hp => ?_⟩
        obtain ⟨a1, a2, a3⟩ := new_lst S1 R1 hp
        exact q _ _ _ (G1.trans a1) a2 a3
      · cases h
end
/-! ### defs that may raise -/
abbrev WC (E : XK) : WX := fun c d _ H => E c d H
def spX (K : PySem.W.Frag) (n : Nat) (f : FX) : Sp := fun vs H Q E => vs.length = n ∧ ∃ st ρ xs r, RepS K H ρ st ∧ Reps K H ρ xs vs ∧ f xs st = some r ∧ PostX K (WC E) H ρ [] Q r
def ArX (n : Nat) (f : FX) : Prop := ∀ xs st r, f xs st = some r → xs.length = n
structure CalX (P : Program) (w : World) (K : PySem.W.Frag) (mg : Str → Option Value) (base : Heap) (k : Nat) (x : Str) (n : Nat) (f : FX) : Prop where
  ex : ∃ (fa : Addr) (fd : FuncData) (ps : List Str), FnOk P w K mg base (L2N.CX P w) k fa fd ps (spX K n f) ∧ mg x = some (.ref fa) ∧ PySem.W.keepIn K (.ref fa) = true ∧ Binds K fd ps []
theorem PostX.at {K : PySem.W.Frag} {W : WX} {H : Hp} {ρ : Rho} {σ : L2.St} {Q : VK} {r : RX × Sto} (h : PostX K W H ρ σ Q r) : PostX K (WC (WE W σ)) H ρ [] Q r := by
  obtain ⟨r, s⟩ := r
  cases r with
  | ok z => exact h
  | er c fs => exact h
section
variable {X : Cx} {W : WX} {x : Str} {p pos : Pos} {e : Expr} {es : List Expr} {ir : IA} {iy : IXA} {k j n : Nat} {f : FX}
theorem x_call (c : CalX X.prog X.w X.K X.mg X.base k x n f) (hn : ArX n f) (hr : Room j X.A) (hk : k ≤ j) (hg : Gl X x) (tk : L2N.Takes X W) (ha : PA X (e :: es) (tIA X.K ir))
    (hdb : (x == ("__debug__" : Str)) = false := by decide) (he : starEach (e :: es) X.env = (false, eval e X.env) :: starEach es X.env := by rfl) (hpl : (backTo pos (starEach es X.env)).any (·.1) = false := by rfl) :
    PE X (.Call (.Name x p) (e :: es) [] pos) (tIX X.K W (iCallX f ir)) := by
  obtain ⟨fa, fd, ps, F, hm, kp, b⟩ := c.ex
  refine PE.imp (pe_callS (E := WE W) F (hr.mono hk) hg hm kp b (fun σ => L2N.passAt tk σ) ha hdb he hpl) fun σ H Q ⟨env, st, ρ, r, E, S, h, q⟩ => ?_
  obtain ⟨xs, s1, h1, h⟩ := ob_some h
  exact ⟨env, st, ρ, xs, s1, E, S, h1, fun vs H1 ρ1 G1 S1 R1 => ⟨by rw [← R1.length]; exact hn _ _ _ h, s1, ρ1, xs, r, S1, R1, h, (q.grow G1).at⟩⟩
theorem x_callX (c : CalX X.prog X.w X.K X.mg X.base k x n f) (hn : ArX n f) (hr : Room j X.A) (hk : k ≤ j) (hg : Gl X x) (tk : L2N.Takes X W) (ha : PA X (e :: es) (tIXA X.K W iy))
    (hdb : (x == ("__debug__" : Str)) = false := by decide) (he : starEach (e :: es) X.env = (false, eval e X.env) :: starEach es X.env := by rfl) (hpl : (backTo pos (starEach es X.env)).any (·.1) = false := by rfl) :
    PE X (.Call (.Name x p) (e :: es) [] pos) (tIX X.K W (iCallXX f iy)) := by
  obtain ⟨fa, fd, ps, F, hm, kp, b⟩ := c.ex
  refine PE.imp (pe_callS (E := WE W) F (hr.mono hk) hg hm kp b (fun σ => L2N.passAt tk σ) ha hdb he hpl) fun σ H Q ⟨env, st, ρ, r, E, S, h, q⟩ => ?_
  obtain ⟨r1, s1, h1, h⟩ := ob_some h
  refine ⟨env, st, ρ, (r1, s1), E, S, h1, ?_⟩
  cases r1 with
  | er c fs => cases h; exact q
  | ok xs => exact fun vs H1 ρ1 G1 S1 R1 => ⟨by rw [← R1.length]; exact hn _ _ _ h, s1, ρ1, xs, r, S1, R1, h, (q.grow G1).at⟩
theorem passF {P : Program} {w : World} : ∀ (X : Cx) (pins : List (Addr × Obj)) (σ : L2.St) (H : Hp) (s : Shared) (e : Value) (s' : Shared), Inv X pins σ H s → L2N.CX P w X.stack H s (fun _ _ _ => False) e s' → X.xe e s' :=
  fun X pins σ H s e s' _ ⟨_, _, _, _, _, _, _, _, _, _, _, _, h⟩ => h.elim
/-- .. where it does not raise -/
theorem x_callP (c : CalX X.prog X.w X.K X.mg X.base k x n f) (hn : ArX n f) (hr : Room j X.A) (hk : k ≤ j) (hg : Gl X x) (ha : PA X (e :: es) (tIA X.K ir))
    (hdb : (x == ("__debug__" : Str)) = false := by decide) (he : starEach (e :: es) X.env = (false, eval e X.env) :: starEach es X.env := by rfl) (hpl : (backTo pos (starEach es X.env)).any (·.1) = false := by rfl) :
    PE X (.Call (.Name x p) (e :: es) [] pos) (tI X.K (iCall (pureF f) ir)) := by
  obtain ⟨fa, fd, ps, F, hm, kp, b⟩ := c.ex
  refine PE.imp (pe_call (dvs := []) (E := fun _ _ _ => False) F (hr.mono hk) hg hm kp b .nil (passF X) ha hdb he hpl) fun σ H Q ⟨env, st, ρ, z, st', E, S, h, q⟩ => ?_
  obtain ⟨xs, s1, h1, h⟩ := ob_some h
  have hf : f xs s1 = some (.ok z, st') := by
    unfold pureF at h
    split at h
    · rename_i v s e1
      cases h; exact e1
    · cases h
  refine ⟨env, st, ρ, xs, s1, E, S, h1, fun vs H1 ρ1 G1 S1 R1 => ?_⟩
  show spX X.K n f (vs ++ []) H1 Q _
  rw [List.append_nil]
  exact ⟨by rw [← R1.length]; exact hn _ _ _ hf, s1, ρ1, xs, _, S1, R1, hf, fun v H2 ρ2 G2 S2 R2 => q v H2 ρ2 (G1.trans G2) S2 R2⟩
end
/-! ### statements -/
def iAsgX (ig : IG) (ix : IX) : IS := fun env st => ob (ix env st) fun r s => match r with
  | .ok x => (match ig x env s with
    | some env' => some (.nx env' s)
    | none => none)
  | .er c fs => some (.er env c fs s)
def iRetX (ix : IX) : IS := fun env st => ob (ix env st) fun r s => match r with
  | .ok x => some (.rt x s)
  | .er c fs => some (.er env c fs s)
def iDropX (ix : IX) : IS := fun env st => ob (ix env st) fun r s => match r with
  | .ok _ => some (.nx env s)
  | .er c fs => some (.er env c fs s)
section
variable {X : Cx} {W : WX} {pos : Pos} {e : Expr} {ix : IX}
theorem er_to {K : PySem.W.Frag} {W : WX} {D : L2.Ends} {H : Hp} {ρ : Rho} {σ : L2.St} {env : PEnv} {st s : Sto} {c : Str} {fs : List (Str × PV)} (E : RepE K H ρ env σ) (S : RepS K H ρ st) (q : PostF K W D H ρ (.er env c fs s)) : PostE K W H ρ σ c fs s :=
  fun C d H' ρ' vs hc G S' R' hd => q C d σ H' ρ' vs hc G S' (E.grow S G) R' hd
theorem s_asgX {tg : Expr} {T : List Nat} {ig : IG} (he : PE X e (tIX X.K W ix)) (hg : PG X tg (tIG X.K T ig)) (hs : swapsWithSole [tg] e pos.line X.env = pure false := by rfl) (hw : swappedStores [tg] e X.env = pure none := by rfl)
    (h1 : (assignEach [tg] X.env).map (·.2) = [assign tg X.env] := by rfl) : PS X (.Assign [tg] e pos) (tIS X.K W (iAsgX ig ix)) := PS.imp (ps_asg he hg hs hw h1) fun D σ H ⟨env, s, ρ, f, E, S, h, q⟩ => by
  obtain ⟨r, s1, h1, h⟩ := ob_some h
  refine ⟨env, s, ρ, (r, s1), E, S, h1, ?_⟩
  cases r with
  | er c fs => cases h; exact er_to E S q
  | ok x =>
    intro v H1 ρ1 G1 S1 R1
    simp only at h
    split at h
    · rename_i env' hg
      cases h
      exact ⟨env, _, ρ1, x, env', E.grow S G1, S1, R1, hg, fun σ' E' _ _ => q σ' H1 ρ1 G1 S1 E'⟩
    · cases h
theorem s_setX {i : Nat} {x : Str} {pos' : Pos} (hN : X.N.Nodup) (hi : X.N[i]? = some x) (hx : Loc X.env.scope x) (he : PE X e (tIX X.K W ix)) (hs : swapsWith e (some (.Name x pos')) pos.line X.env = pure false := by rfl)
    (hf : X.fn x = true ∨ X.env.scope.names.lookup x = some .local := by first | exact .inl rfl | exact .inr rfl | assumption) : PS X (.Assign [.Name x pos'] e pos) (tIS X.K W (iAsgX (gN i) ix)) :=
  PS.imp (ps_set hN hi hx he hs hf) fun D σ H ⟨env, s, ρ, f, E, S, h, q⟩ => by
    obtain ⟨r, s1, h1, h⟩ := ob_some h
    refine ⟨env, s, ρ, (r, s1), E, S, h1, ?_⟩
    cases r with
    | er c fs => cases h; exact er_to E S q
    | ok x =>
      cases h
      exact fun v H1 ρ1 G1 S1 R1 => q _ H1 ρ1 G1 S1 ((E.grow S G1).set R1 i)
theorem s_retX (he : PE X e (tIX X.K W ix)) : PS X (.Return (some e) pos) (tIS X.K W (iRetX ix)) := PS.imp (ps_ret he) fun D σ H ⟨env, s, ρ, f, E, S, h, q⟩ => by
  obtain ⟨r, s1, h1, h⟩ := ob_some h
  refine ⟨env, s, ρ, (r, s1), E, S, h1, ?_⟩
  cases r with
  | er c fs => cases h; exact er_to E S q
  | ok x =>
    cases h
    exact fun v H1 ρ1 G1 S1 R1 => q v H1 ρ1 G1 S1 R1
theorem s_exprX (he : PE X e (tIX X.K W ix)) (hs : swapsWith e none pos.line X.env = pure false := by rfl) : PS X (.Expr e pos) (tIS X.K W (iDropX ix)) := PS.imp (ps_expr he hs) fun D σ H ⟨env, s, ρ, f, E, S, h, q⟩ => by
  obtain ⟨r, s1, h1, h⟩ := ob_some h
  refine ⟨env, s, ρ, (r, s1), E, S, h1, ?_⟩
  cases r with
  | er c fs => cases h; exact er_to E S q
  | ok x =>
    cases h
    exact fun v H1 ρ1 G1 S1 R1 => q σ H1 ρ1 G1 S1 (E.grow S G1)
end
/-! ### a def that may raise -/
noncomputable def iDefX (n nN : Nat) (b : IS) : FX := fun xs st => if xs.length = n then (match b (xs.map some ++ List.replicate (nN - n) none) st with
  | some (.nx _ s) => some (.ok .non, gcS st s .non)
  | some (.rt v s) => some (.ok v, gcS st s v)
  | some (.er _ c fs s) => some (.er c fs, s)
  | _ => none) else none
theorem ar_defX {n nN : Nat} {b : IS} : ArX n (iDefX n nN b) := fun xs st r h => by
  unfold iDefX at h
  split at h
  · assumption
  · cases h
theorem body_toX {K : PySem.W.Frag} {N ps : List Str} {ib : IS} {vs : List V} {H : Hp} {Q : VK} {E : XK} (h : spX K ps.length (iDefX ps.length N.length ib) vs H Q E) : tIS K (WC E) ib { nx := fun _ H' => Q .non H', rt := Q } (L2.start N vs) H := by
  obtain ⟨hl, s1, ρ, xs, r, S1, R1, h, q⟩ := h
  unfold iDefX at h
  split at h
  · have E1 := repE_start R1 N
    rw [hl] at E1
    split at h
    · rename_i e1 s2 e
      cases h
      refine ⟨_, s1, ρ, _, E1, S1, e, fun σ' H' ρ' G S' E' => ?_⟩
      obtain ⟨ρ2, G2, S2, R2⟩ := gc_to (v := .non) (u := .non) S1 G S' (by unfold Rep; rfl)
      exact q .non H' ρ2 G2 S2 R2
    · rename_i v s2 e
      cases h
      refine ⟨_, s1, ρ, _, E1, S1, e, fun v H' ρ' G S' R' => ?_⟩
      obtain ⟨ρ2, G2, S2, R2⟩ := gc_to S1 G S' R'
      exact q v H' ρ2 G2 S2 R2
    · rename_i e1 c fs s2 e
      cases h
      exact ⟨_, s1, ρ, _, E1, S1, e, fun C d σ' H' ρ' ws hc G S' E' R' hd => q C d H' ρ' ws hc G S' R' hd⟩
    · cases h
  · cases h
theorem cal_X {P : Program} {w : World} {K : PySem.W.Frag} {mg : Str → Option Value} {base : Heap} {x : Str} {st : Stmt} {f : Addr} {fd : FuncData} {N ps : List Str} {k : Nat} {ib : IS} (F : C8.Def K mg x st f fd) (b : Binds K fd ps []) (S : FnScope N ps (C8.fnScope st))
    (hb : ∀ (cdv : Value) (A : Around) (outer : List PySem.Env) (s : Shared) (H : Hp) (E : XK), Room k (A.deeper (envOfC x (C8.fnScope st) s.heap.objs.size f cdv)) →
      L2N.Takes (cxOf (L2N.CX P w) P w K mg base N x (C8.fnScope st) f cdv A outer s H E) (WC E) →
      PSs (cxOf (L2N.CX P w) P w K mg base N x (C8.fnScope st) f cdv A outer s H E) (C8.fnBody st) (tIS K (WC E) ib)) : CalX P w K mg base (k + 1) x ps.length (iDefX ps.length N.length ib) := by
  obtain ⟨oc, od, dV, kV, doc, pm, an, cdv, ct, osl, rfl, lk, hcd⟩ := F.fn.ex
  refine ⟨f, _, ps, fn_of lk hcd S (fun vs H Q E h => h.1) fun A outer s H vs Q E hr hsp => ?_, F.mgf, F.kp, b⟩
  exact ⟨_, hb cdv A outer s H E hr (L2N.takes_of rfl rfl rfl rfl), body_toX hsp⟩
end IL

/-! a program's exception that is made where nothing is handled: its context is None (what layer JX raises with, said with L2N's promise) -/
namespace IL
open PySem PySem.Spec PyProof.Rows L2
/-- what stands in the heap as the exception is new: the tuple of its values, and it itself -/
def hNew (h : Heap) (us : List Value) (C : Addr) : Heap := (h.push (W.kdv_tup us)).push (HandSPX.excO C h.objs.size)
theorem hNew_keeps {h : Heap} {us : List Value} {C b : Addr} {o : Obj} (q : h.get? b = some o) : (hNew h us C).get? b = some o := by
  unfold hNew
  exact Heap.get?_push_of_some _ (Heap.get?_push_of_some _ q)
theorem hNew_at {h : Heap} {us : List Value} {C : Addr} : (hNew h us C).get? (h.objs.size + 1) = some (HandSPX.excO C h.objs.size) := by
  unfold hNew
  heap_get
/-- with it there is one more in hand -/
theorem inv_hNew {X : Cx} {pins : List (Addr × Obj)} {σ : L2.St} {H : Hp} {h : Heap} {g : Array GenState} {d : Drawn} {t : Nat} {os : OsState} {C : Addr} (us : List Value) (I : Inv X pins σ H ⟨h, g, d, t, os⟩) :
    Inv X pins σ (upd H (h.objs.size + 1) (exo (h.objs.size + 1) C none)) ⟨hNew h us C, g, d, t, os⟩ :=
  I.laid (t' := t) (h' := hNew h us C) (fun _ _ => hNew_keeps) (Nat.le_succ _) (exo_ok hNew_at)
variable {X : Cx} {e : Expr} {es : List Expr} {ta : TA} {p pos : Pos}
theorem pmk_oexN {CX : CXT} {x : Str} {C fI : Addr} {k : Nat} {fd : FuncData} {ps : List Str} {sp : Sp} {ds : List Value} {dvs : List V} (T : OexC X.K C)
    (iC : W.findIn X.K (.ref C) "__init__" = some (some (.ref fI)))
    (tI : W.typeIn X.K (.ref fI) = some (.type "function"))
    (F1 : FnOk X.prog X.w X.K X.mg X.base CX k fI fd ps sp) (hr : Room (k + 1) X.A)
    (hb : Binds X.K fd ps ds) (hd : Vals dvs ds) (hx : Passes CX X (fun _ _ _ => False))
    (hg : Gl X x) (hm : X.mg x = some (.ref C)) (ha : PA X (e :: es) ta)
    (hdb : (x == ("__debug__" : Str)) = false := by decide)
    (he : starEach (e :: es) X.env = (false, eval e X.env) :: starEach es X.env := by rfl)
    (hpl : (backTo pos (starEach es X.env)).any (·.1) = false := by rfl) :
    L2N.PMk X (.Call (.Name x p) (e :: es) [] pos) (tMkO C sp dvs ta) := by
  intro pins s σ H Q I h
  obtain ⟨nm, qn, N, bs, bm, sn, sub, ab, col, dd, k0, k1, k2, k3, k5, hC, hbm⟩ := T.cls
  refine wpAny_Call_Name_kw (ld_glob I hg hm ?_ hdb)
  have args := ha.run pos pins s σ H _ I h
  refine W.callWith_K (h₀ := X.base) I.ok.mod.kin T.kC (thn args ?_) he hpl
  rintro us ⟨hp, g, dr, tk, os⟩ ⟨vs, H1, I1, r1, hz, q1⟩
  refine ⟨I1.kIn, ?_⟩
  show wpAny _ _ (call (.ref C) us) _ _ _
  have free : H1 (hp.objs.size + 1) = none := I1.hok.fresh (Nat.le_succ _)
  have start := q1 _ free
  have I2 := inv_hNew (C := C) us I1
  have rv2 : Vals (V.ref (hp.objs.size + 1) :: (vs ++ dvs)) (Value.ref (hp.objs.size + 1) :: (us ++ ds)) := .cons rfl (r1.append hd)
  have long : (Value.ref (hp.objs.size + 1) :: us ++ ds).length = ps.length := (rv2.length.symm.trans (F1.len _ _ _ _ start) |> fun z => by first | exact z | exact z.symm)
  have few : us.length ≤ sizeLine := by
    have z := Paired.length r1
    rw [sizeLine_eq]
    omega
  have body := F1.run _ X.stack _ _ ⟨Value.ref (hp.objs.size + 1) :: us, []⟩ (Value.ref (hp.objs.size + 1) :: (us ++ ds)) _ _ (fun _ _ _ => False)
    (hr.make C us []) (I2.env0.make C us [])
    (hb _ (Value.ref (hp.objs.size + 1) :: us) I2.kIn long) rv2 start
  refine wpAny_call (HandSPX.call_own F.excBase_ValueError (fun Y => HandSPX.refsVE_contains Y bm hbm) (I1.kIn _ _ hC)
    (W.looks_findIn I1.kIn iC) (fun self => W.bind_fn I1.kIn self tI) few (codeAny_mono body ?_))
  intro r s2 done
  cases r with
  | error er => exact hx pins σ _ _ er s2 I2 done
  | ok fl =>
    cases fl with
    | next => exact done.elim
    | brk => exact done.elim
    | cont => exact done.elim
    | ret u =>
      obtain ⟨v, H2, os2, bare2, un2, hok2, rv, ev, d, fs, ea, ed, hd1, q2⟩ := done
      subst ev
      obtain ⟨h2, g2, d2, t2, o2⟩ := s2
      obtain ⟨t0, G, J, kG, ge, hoe, na⟩ := mk_end0 (d2 := d2) (t2 := t2) I1 (Nat.le_succ _) (fun _ _ => hNew_keeps) un2 hok2 os2 bare2 ea ed hd1
      have zn : L2N.Zn (.ref C) (some d) ({ cls := .ref C, dict := some d, data := .fields #[.ref t0, .none, .none, .none, .bool false, .none] } : Obj) := ⟨rfl, rfl, fun vs e => by cases e; rfl⟩
      exact ⟨rv, hp.objs.size + 1, _, _, ⟨G, g2, d2, t2, o2⟩, _, .ref C, some d, rfl, J, kG, ge, hoe, zn, rfl, rfl, na, rfl, bare2, raises_own T.exC T.tyC, q2⟩
end IL

/-! the program's exceptions: made, raised -/
namespace IL
open PySem PySem.Spec PyProof.Rows L2
section
variable {X : Cx} {e : Expr} {es : List Expr} {ta : TA} {p1 p2 pos : Pos}
/-- B.__init__(self, ..), B the own base class -/
theorem pe_basei {B : Str} {CF : Addr} {mc : Value} {pl : Sem Bool} (hg : Gl X B) (hm : X.mg B = some (.ref CF)) (sp : PySem.W.specialIn X.K (.ref CF) "__getattribute__" = some (some (.builtin "type.__getattribute__"))) (rd : PySem.W.readsIn X.K CF mc = true)
    (vV : PySem.W.findCls X.K (.ref CF) mc "__init__" = some (.val (.builtin "ValueError.__init__"))) (ha : PA X (e :: es) ta) (hdb : (B == ("__debug__" : Str)) = false := by decide)
    (hc : eval (.Call (.Attribute (.Name B p1) "__init__" p2) (e :: es) [] pos) X.env = (do
      let ov ← eval (.Name B p1) X.env
      standAt p2.atName
      let (f, first) ← holding [ov] (getMethod ov "__init__" pl)
      callWith pos f first (backTo pos (starEach (e :: es) X.env)) (backToKw pos (keywordEach [] X.env))) := by rfl)
    (he : starEach (e :: es) X.env = (false, eval e X.env) :: starEach es X.env := by rfl) (hpl : (backTo pos (starEach es X.env)).any (·.1) = false := by rfl) :
    PE X (.Call (.Attribute (.Name B p1) "__init__" p2) (e :: es) [] pos) (tVeI X.K ta) := by
  refine ⟨fun pins s σ H Q I h => PySem.W.methodCall_KW (ld_glob I hg hm ?_ hdb) hc⟩
  refine PySem.W.method_cls (Inv.tok I _).kIn sp (PySem.W.cls_value (Inv.tok I _).kIn rd vV (by decide +kernel) ?_)
  refine PyProof.Rows.callWith_method1 (thn (ha.run pos pins _ σ H _ ((I.tok _).tok _) h) ?_) he hpl
  rintro us s1 ⟨vs, H1, I1, r1, a, C, ws, rfl, hl, T, ea, q⟩
  cases r1 with
  | @cons _ u0 _ ur ra rw' =>
    obtain rfl : u0 = Value.ref a := ra
    exact oinit_ok T I1 ea (by rw [← Paired.length rw', sizeLine_eq]; omega) fun s' J => ⟨.non, H1, J, rfl, q⟩
end
/-- what an __init__ of one field does -/
def spInit (K : PySem.W.Frag) (C : Addr) (n : Str) (ok : V → Prop) : Sp := fun vs H Q _ => ∃ (a : Addr) (v : V), vs = [.ref a, v] ∧ H a = some (exo a C none) ∧ ok v ∧ ∀ d, H d = none → d ≠ a → Q .non (upd (upd H d (exd d [(n, v)])) a (exo a C (some d)))
/-- a small int -/
def okInt (v : V) : Prop := ∃ i : Int, v = .int i ∧ i.natAbs.log2 < 1920
section
variable {X : Cx} {n B : Str} {ej : Expr} {tj : TE} {p1 p2 p3 p4 p5 p6 p7 p8 p9 : Pos} {C : Addr} {ok : V → Prop}
/-- the text of an __init__ of one field -/
theorem init_b {mc : Value} {CF : Addr} {pl : Sem Bool} (hN0 : X.N[0]? = some ("self" : Str)) (hN1 : X.N[1]? = some n) (v0 : Vis X.env.scope "self") (v1 : Vis X.env.scope n) (hd : (n == ("__debug__" : Str)) = false) (hcd : (n == ("__classdict__" : Str)) = false)
    (hg : Gl X B) (hm : X.mg B = some (.ref CF)) (sp : PySem.W.specialIn X.K (.ref CF) "__getattribute__" = some (some (.builtin "type.__getattribute__"))) (rd : PySem.W.readsIn X.K CF mc = true)
    (vV : PySem.W.findCls X.K (.ref CF) mc "__init__" = some (.val (.builtin "ValueError.__init__"))) (T : OexC X.K C) (hno : PySem.W.findIn X.K (.ref C) n = some none)
    (hj : PE X ej tj) (hjt : ∀ (σ : L2.St) (H : Hp) (Q : VK) (v : V), σ[1]? = some (some v) → ok v → (∀ s : Str, Q (.str s) H) → tj σ H Q) (hdb : (B == ("__debug__" : Str)) = false := by decide)
    (hs1 : swapsWith (.Call (.Attribute (.Name B p1) "__init__" p2) [.Name "self" p3, ej] [] p4) none p5.line X.env = pure false := by rfl)
    (hs2 : swapsWith (.Name n p8) (some (.Attribute (.Name "self" p6) n p7)) p9.line X.env = pure false := by rfl)
    (hc : eval (.Call (.Attribute (.Name B p1) "__init__" p2) [.Name "self" p3, ej] [] p4) X.env = (do
      let ov ← eval (.Name B p1) X.env
      standAt p2.atName
      let (f, first) ← holding [ov] (getMethod ov "__init__" pl)
      callWith p4 f first (backTo p4 (starEach [.Name "self" p3, ej] X.env)) (backToKw p4 (keywordEach [] X.env))) := by rfl)
    (he : starEach [.Name "self" p3, ej] X.env = (false, eval (.Name "self" p3) X.env) :: starEach [ej] X.env := by rfl) (he2 : starEach [ej] X.env = (false, eval ej X.env) :: starEach [] X.env := by rfl) (hpl : (backTo p4 (starEach [ej] X.env)).any (·.1) = false := by rfl) :
    PSs X [.Expr (.Call (.Attribute (.Name B p1) "__init__" p2) [.Name "self" p3, ej] [] p4) p5, .Assign [.Attribute (.Name "self" p6) n p7] (.Name n p8) p9]
      (fun D σ H => ∃ (a : Addr) (v : V), σ[0]? = some (some (.ref a)) ∧ σ[1]? = some (some v) ∧ H a = some (exo a C none) ∧ ok v ∧ ∀ d, H d = none → d ≠ a → D.nx σ (upd (upd H d (exd d [(n, v)])) a (exo a C (some d)))) := by
  have h1 := ps_expr (pe_basei (pl := pl) hg hm sp rd vV (pa_cons (pe_var (pos := p3) hN0 v0) (pa_cons hj pa_nil he2) he) hdb hc he hpl) hs1
  have h2 := ps_ost (f := n) (p' := p7) (pe_var (pos := p6) hN0 v0) (pe_var (pos := p8) hN1 v1 hd hcd) hs2
  refine PSs.imp (pss_cons h1 (pss_one h2)) fun D σ H ⟨a, v, s0, s1, ea, hv, q⟩ => ?_
  refine ⟨.ref a, s0, hjt σ H _ v s1 hv fun s => ⟨a, C, [.str s], rfl, by simp, T, ea, ?_⟩⟩
  exact ⟨v, s1, .ref a, s0, a, C, rfl, T, hno, .inl ⟨ea, fun dx h1 h2 => q dx h1 h2⟩⟩
end
/-- a class that may be raised by its name, with one field -/
structure RaiJ (P : Program) (w : World) (K : PySem.W.Frag) (mg : Str → Option Value) (base : Heap) (k : Nat) (c n : Str) (ok : V → Prop) : Prop where
  ex : ∃ (C fI : Addr) (fd : FuncData), ClsAt K c C ∧ mg c = some (.ref C) ∧ OexC K C ∧ PySem.W.findIn K (.ref C) "__init__" = some (some (.ref fI)) ∧ PySem.W.typeIn K (.ref fI) = some (.type "function") ∧
    FnOk P w K mg base C8.CX0 k fI fd ["self", n] (spInit K C n ok) ∧ Binds K fd ["self", n] []
/-- raise c(x) -/
def iRaise (c n : Str) (okP : PV → Bool) (ie : IE) : IS := fun env st => ob (ie env st) fun x s => if okP x then some (.er env c [(n, x)] s) else none
def okPI : PV → Bool
  | .int i => decide (i.natAbs < 10 ^ 30)
  | _ => false
theorem okPI_ok {K : PySem.W.Frag} {H : Hp} {ρ : Rho} {x : PV} {v : V} (h : okPI x = true) (r : Rep K H ρ x v) : okInt v := by
  unfold okPI at h
  split at h
  · rename_i i
    unfold Rep at r
    rw [decide_eq_true_eq] at h
    refine ⟨i, r, ?_⟩
    by_cases h0 : i.natAbs = 0
    · rw [h0]; decide
    · have h2 : i.natAbs < 2 ^ 1920 := Nat.lt_of_lt_of_le h (Nat.le_trans (by decide : (10 : Nat) ^ 30 ≤ 2 ^ 100) (Nat.pow_le_pow_right (by decide) (by decide)))
      exact (Nat.log2_lt h0).mpr h2
  · cases h
theorem s_raise {X : Cx} {W : WX} {c n : Str} {ok : V → Prop} {okP : PV → Bool} {ie : IE} {e : Expr} {p pos pos2 : Pos} {k j : Nat} (r : RaiJ X.prog X.w X.K X.mg X.base k c n ok) (hok : ∀ (H : Hp) (ρ : Rho) (x : PV) (v : V), okP x = true → Rep X.K H ρ x v → ok v) (hr : Room j X.A) (hk : k + 1 ≤ j) (hg : Gl X c) (hc : X.calm = true) (tk : L2N.Takes X W)
    (ha : PE X e (tI X.K ie)) (hdb : (c == ("__debug__" : Str)) = false := by decide) (he : starEach [e] X.env = (false, eval e X.env) :: starEach [] X.env := by rfl) (hpl : (backTo pos (starEach [] X.env)).any (·.1) = false := by rfl) :
    PS X (.Raise (some (.Call (.Name c p) [e] [] pos)) none pos2) (tIS X.K W (iRaise c n okP ie)) := by
  obtain ⟨C, fI, fd, hC, hm, T, iC, tI, F, b⟩ := r.ex
  refine PS.imp (L2N.ps_raise hc tk (pmk_oexN (dvs := []) T iC tI F (hr.mono hk) b .nil C8.pass0 hg hm (pa_cons ha pa_nil he) hdb he hpl)) fun D σ H ⟨env, st, ρ, f, E, S, h, q⟩ => ?_
  obtain ⟨x, s1, h1, h⟩ := ob_some h
  split at h
  · rename_i hx
    cases h
    refine ⟨env, st, ρ, x, s1, E, S, h1, fun v H1 ρ1 G1 S1 R1 => ⟨by simp, fun a ha => ?_⟩⟩
    refine ⟨a, v, by simp, upd_same, hok H1 ρ1 x v hx R1, fun d hd hda => ⟨rfl, d, [(n, v)], upd_same, by rw [upd_ne hda]; exact upd_same, by rw [← upd_ne (H := H1) (o := exo a C none) hda]; exact hd, ?_⟩⟩
    have hd1 : H1 d = none := by rw [← upd_ne (H := H1) (o := exo a C none) hda]; exact hd
    have eH : upd (del (upd (upd (upd H1 a (exo a C none)) d (exd d [(n, v)])) a (exo a C (some d))) a) d (.xd [(n, v)]) = upd H1 d (.xd [(n, v)]) := by
      funext b
      by_cases hb : b = d
      · subst hb; rw [upd_same, upd_same]
      · rw [upd_ne hb, upd_ne hb]
        by_cases hba : b = a
        · subst hba; rw [del_same, ha]
        · rw [del_ne hba, upd_ne hba, upd_ne hb, upd_ne hba]
    rw [eH]
    have G2 : Grow H1 ρ1 (upd H1 d (.xd [(n, v)])) ρ1 := grow_new hd1
    exact q C d σ _ ρ1 [(n, v)] hC (G1.trans G2) (S1.new hd1) ((E.grow S G1).grow S1 G2) ⟨v, [], rfl, Rep.grow S1 G2 _ _ R1, rfl⟩ upd_same
  · cases h
end IL

/-! try .. except C as n .. else: an exception that is caught -/
namespace IL
open PySem PySem.Spec PyProof.Rows L2
/-- the wish of a clause 'except c as n' that catches: slot i is n's -/
def wCatch (K : PySem.W.Frag) (c : Value) (i : Nat) (ts : Addr → Value → Option Addr → TS) (D : L2.Ends) : WX := fun cls d sl G =>
  PySem.W.exmOne K cls c = some true ∧ ∀ x, G x = none → ts x cls d ⟨fun τ G' => D.nx (τ.set i none) G', D.rt, fun τ G' => D.bk (τ.set i none) G', fun τ G' => D.ct (τ.set i none) G'⟩ (sl.set i (some (.ref x))) G
section
variable {X : Cx} {x n : Str} {c : Value} {i : Nat} {body suite orelse : List Stmt} {b₀ : Stmt} {np pos pos' : Pos} {tb : WX → TS} {ts : Addr → Value → Option Addr → TS} {u : TS}
theorem ps_catch (stk : X.stack = X.env :: X.outer) (frm : X.env.frame = some X.env.locals) (ndN : X.N.Nodup) (slot : X.N[i]? = some n) (loc : X.env.kindOf n = some .local) (nms : Names X x c)
    (inner : ∀ (V : WX) (pl : List (Addr × Obj)) (out : Value → Shared → Prop), L2N.Takes (X.tr pl out) V → PassesOwn (model X.prog X.w) X.A X.env out → PSs (X.tr pl out) body (tb V))
    (hand : ∀ (x : Addr) (ox : Obj) (cls : Value) (d : Option Addr) (pl : List (Addr × Obj)), L2N.Zn cls d ox → (∃ us, ox.data = .fields us) → PSs (X.suite x ((x, ox) :: pl)) (b₀ :: suite) (ts x cls d)) (last : PSs X orelse u) :
    PS X (.Try body [.ExceptHandler (some (.Name x np)) (some n) (b₀ :: suite) pos'] orelse [] pos) (fun D sl G => tb (wCatch X.K c i ts D) { D with nx := u D } sl G) := by
  constructor
  intro pl s0 sl G D Iv hyp
  have good := Iv.ok
  have frames : X.A.frames = some (X.env :: X.outer) := by rw [good.frames, stk]
  apply wpAny_Try_except
  have main := (inner (wCatch X.K c i ts D) (X.pn ++ pl) (fun ev t1 => wpAny (model X.prog X.w) X.A (noteFrame ev X.env) (fun _ t2 => wpAny (model X.prog X.w) X.A (setFlight ev none)
    (fun _ t3 => wpAny (model X.prog X.w) X.A (handleBy ev X.env [.ExceptHandler (some (.Name x np)) (some n) (b₀ :: suite) pos']) (SP X pl D) X.xe t3) X.xe t2) X.xe t1) ?caught PassesOwn.looking).run [] s0 sl G { D with nx := u D } (Iv.toTry _) hyp
  case caught =>
    intro ev t ⟨ad, Bs, sB, pl', sl', G', cls, d, eqv, Jt, nBs, upT, skT, nAd, osT, agT, yes, act⟩
    subst eqv
    have J := Jt.ofTry good
    rw [show (X.tr (X.pn ++ pl) _).stack = X.env :: X.outer from stk] at skT
    show wpAny (model X.prog X.w) X.A (noteFrame (.ref ad) X.env) _ _ _
    refine L2N.Sky.land L2N.Zn.steady frames frm skT ?_
    intro g3 fly3 up3
    have J3 := J.landed (s' := { t with heap := g3 }) nBs fly3.1 (upT.trans up3) osT agT
    obtain ⟨ob3, us3, at3, z3, dat3⟩ := fly3.there
    have noFrame : ad ∉ frs (X.env :: X.outer) := fun mm => by
      obtain ⟨_, ob, at0, nf⟩ := fly3.2.2.1.mem mm
      rw [at3] at at0
      cases at0
      exact nf _ dat3
    have noLoc : ad ≠ X.env.locals := fun q => noFrame (List.mem_filterMap.mpr ⟨X.env, by simp, by rw [frm, q]⟩)
    have noFs : ad ∉ X.fs := fun mm => by
      obtain ⟨en, hen, q⟩ := List.mem_filterMap.mp mm
      exact noFrame (List.mem_filterMap.mpr ⟨en, List.mem_cons_of_mem _ hen, q⟩)
    have Su := J3.suite at3 dat3 nAd noLoc noFs
    refine wpAny_handleBy_cons (codeAny_handlers_test ?_) (fun q => by cases q)
    have lk : PySem.W.Looks (model X.prog X.w) g3 (typeOf (.ref ad)) cls := fun A' Q' E' s' kk q => wpAny_typeOf_ref (kk _ _ at3) (by rw [z3.1]; exact q)
    have matches_ := PySem.W.exm_one (M := model X.prog X.w) J3.kIn lk yes
    suffices goal : ∀ {Q' : Value → Shared → Prop} {E' : Value → Shared → Prop}, Q' c { t with heap := g3 } → wpAny (model X.prog X.w) (X.A.mark (some (.ref ad))) (eval (.Name x np) X.env) Q' E' { t with heap := g3 } by
      refine goal (matches_.here (codeAny_handlers_suite_as (HandSPX.lands_againZ fly3 ?_)))
      intro g4 fly4 up4
      have J4 := J.landed (s' := { t with heap := g4 }) nBs fly4.1 ((upT.trans up3).trans up4) osT agT
      obtain ⟨ob4, us4, at4, z4, dat4⟩ := fly4.there
      have Su4 := J4.suite at4 dat4 nAd noLoc noFs
      refine store_ok (X := X.suite ad ((ad, ob4) :: (X.pn ++ pl))) (v := .ref ad) Su4 ndN slot (.inl loc) rfl ?_ (.inr loc)
      intro t5 Su5
      refine wpAny_mono ((hand ad ob4 cls d (X.pn ++ pl) z4 ⟨_, dat4⟩).run [] t5 _ G' _ Su5 (act ad nAd)) ?_ (fun _ _ q => q.elim)
      intro fl t6 done
      have away : ∀ {τ : L2.St} {G6 : Hp} {R : Shared → Prop}, Inv (X.suite ad ((ad, ob4) :: (X.pn ++ pl))) [] τ G6 t6 → (∀ t7, Inv X pl (τ.set i none) G6 t7 → R t7) →
          wpAny (model X.prog X.w) X.A (do bindName X.env n .none; unbindBehindTheSuite X.env n pos') (fun _ t7 => R t7) X.xe t6 := fun {τ G6 R} J6 hR => gone_ok (J6.unsuite good) ndN slot loc hR
      cases fl with
      | ret val =>
        obtain ⟨v6, τ, G6, J6, rel, w6⟩ := done
        exact away J6 fun t7 J7 => ⟨_, _, _, J7, rel, w6⟩
      | next | brk | cont =>
        obtain ⟨τ, G6, J6, w6⟩ := done
        exact away J6 fun t7 J7 => ⟨_, _, J7, w6⟩
    intro Q' E' q
    obtain ⟨gl, dbg, mine | ⟨noG, blt, nn⟩⟩ := nms
    · exact ld_glob (X := X.suite ad ((ad, ob3) :: (X.pn ++ pl))) Su gl mine q dbg
    · exact ld_blt (X := X.suite ad ((ad, ob3) :: (X.pn ++ pl))) Su gl noG blt q nn dbg
  refine wpAny_mono main ?_ (fun _ _ q => q)
  intro fl t1 done
  cases fl with
  | next =>
    obtain ⟨τ, G1, J1, w1⟩ := done
    exact last.run pl t1 τ G1 D (J1.ofTry good) w1
  | brk | cont =>
    obtain ⟨τ, G1, J1, w1⟩ := done
    exact ⟨τ, G1, J1.ofTry good, w1⟩
  | ret val =>
    obtain ⟨v1, τ, G1, J1, rel, w1⟩ := done
    exact ⟨v1, τ, G1, J1.ofTry good, rel, w1⟩
end
end IL

/-! in an except suite: the exception that is in hand -/
namespace IL
open PySem PySem.Spec PyProof.Rows L2
abbrev JP := L2.St → Hp → Rho → Prop
/-- kept as heaps grow -/
def Keeps (K : PySem.W.Frag) (J : JP) : Prop := ∀ {σ : L2.St} {H H' : Hp} {ρ ρ' : Rho} {st : Sto}, RepS K H ρ st → Grow H ρ H' ρ' → J σ H ρ → J σ H' ρ'
section
variable (K : PySem.W.Frag) (J : JP)
def tJ (i : IE) : TE := fun σ H Q => ∃ env st ρ x st', RepE K H ρ env σ ∧ RepS K H ρ st ∧ J σ H ρ ∧ i env st = some (x, st') ∧ ∀ v H' ρ', Grow H ρ H' ρ' → RepS K H' ρ' st' → Rep K H' ρ' x v → Q v H'
def tJA (i : IA) : TA := fun σ H Q => ∃ env st ρ x st', RepE K H ρ env σ ∧ RepS K H ρ st ∧ J σ H ρ ∧ i env st = some (x, st') ∧ ∀ v H' ρ', Grow H ρ H' ρ' → RepS K H' ρ' st' → Reps K H' ρ' x v → Q v H'
def tJT (i : IT) : TT := fun σ H Q => ∃ env st ρ x st', RepE K H ρ env σ ∧ RepS K H ρ st ∧ J σ H ρ ∧ i env st = some (x, st') ∧ ∀ H' ρ', Grow H ρ H' ρ' → RepS K H' ρ' st' → Q x H'
def tJS (W : WX) (i : IS) : TS := fun D σ H => ∃ env st ρ f, RepE K H ρ env σ ∧ RepS K H ρ st ∧ J σ H ρ ∧ i env st = some f ∧ PostF K W D H ρ f
end
section
variable {X : Cx} {J : JP} {W : WX} {a b c e : Expr} {es rest : List Expr} {p q : List Stmt} {pos : Pos} {ia ib ic : IE} {ir : IA} {ta tb : IT} {sa sb : IS}
theorem j_e (h : PE X e (tI X.K ia)) : PE X e (tJ X.K J ia) := PE.imp h fun σ H Q ⟨env, st, ρ, x, st', E, S, _, h, q⟩ => ⟨env, st, ρ, x, st', E, S, h, q⟩
theorem j_a (h : PA X es (tIA X.K ir)) : PA X es (tJA X.K J ir) := PA.imp h fun σ H Q ⟨env, st, ρ, x, st', E, S, _, h, q⟩ => ⟨env, st, ρ, x, st', E, S, h, q⟩
theorem j_t (h : PT X e (tIT X.K ta)) : PT X e (tJT X.K J ta) := PT.imp h fun σ H Q ⟨env, st, ρ, x, st', E, S, _, h, q⟩ => ⟨env, st, ρ, x, st', E, S, h, q⟩
theorem j_cons (hJ : Keeps X.K J) (ha : PE X e (tJ X.K J ia)) (hr : PA X es (tJA X.K J ir)) (hs : starEach (e :: es) X.env = (false, eval e X.env) :: starEach es X.env := by rfl) : PA X (e :: es) (tJA X.K J (iCons ia ir)) :=
  PA.imp (pa_cons ha hr hs) fun σ H Q ⟨env, st, ρ, z, st', E, S, hj, h, q⟩ => by
    obtain ⟨x, s1, h1, h⟩ := ob_some h
    obtain ⟨xs, s2, h2, h⟩ := ob_some h
    cases h
    refine ⟨env, st, ρ, x, s1, E, S, hj, h1, fun v H1 ρ1 G1 S1 R1 => ⟨env, s1, ρ1, xs, _, E.grow S G1, S1, hJ S G1 hj, h2, fun vs H2 ρ2 G2 S2 R2 => ?_⟩⟩
    exact q (v :: vs) H2 ρ2 (G1.trans G2) S2 (by unfold Reps; exact ⟨v, vs, rfl, Rep.grow S1 G2 _ _ R1, R2⟩)
theorem j_tup {x1} (h : PA X es (tJA X.K J ir)) : PE X (.Tuple es x1 pos) (tJ X.K J (iTup ir)) :=
  PE.imp (pe_tup h) fun σ H Q ⟨env, st, ρ, z, st', E, S, hj, h, q⟩ => by
    obtain ⟨xs, s1, h1, h⟩ := ob_some h
    split at h
    · rename_i hl
      cases h
      exact ⟨env, st, ρ, xs, _, E, S, hj, h1, fun vs H1 ρ1 G1 S1 R1 => ⟨line5 (by rw [← R1.length]; exact hl), fun p hp => q _ _ ρ1 (G1.trans (grow_new hp)) (S1.new hp) (new_tup S1 R1 hp)⟩⟩
    · cases h
theorem j_truth (ha : PE X a (tJ X.K J ia)) (he : ∀ whole, isTrue a X.env whole = (do let v ← whole; standAt a.pos; holding [v] (truthy v))) : PT X a (tJT X.K J (iTest ia)) :=
  PT.imp (pt_truth ha he) fun σ H Q ⟨env, st, ρ, z, st', E, S, hj, h, q⟩ => by
    obtain ⟨x, s1, h1, h⟩ := ob_some h
    obtain ⟨h2, h3⟩ := map_pair h
    simp only at h2 h3
    subst h3
    exact ⟨env, st, ρ, x, _, E, S, hj, h1, fun v H1 ρ1 G1 S1 R1 => ⟨z, tru_rep S1 R1 h2, q H1 ρ1 G1 S1⟩⟩
theorem j_not (ha : PT X a (tJT X.K J ta)) : PT X (.UnaryOp .Not a pos) (tJT X.K J (iNot ta)) :=
  PT.imp (pt_not ha) fun σ H Q ⟨env, st, ρ, z, st', E, S, hj, h, q⟩ => by
    obtain ⟨k, s1, h1, h⟩ := ob_some h
    cases h
    exact ⟨env, st, ρ, k, _, E, S, hj, h1, fun H1 ρ1 G1 S1 => q H1 ρ1 G1 S1⟩
theorem j_or1 (ha : PT X a (tJT X.K J ta)) : PW X (.BoolOp .Or [a] pos) (tJT X.K J ta) := pw_or1 ha
theorem j_or (hJ : Keeps X.K J) (ha : PT X a (tJT X.K J ta)) (hb : PW X (.BoolOp .Or (b :: rest) pos) (tJT X.K J tb)) : PW X (.BoolOp .Or (a :: b :: rest) pos) (tJT X.K J (iOr ta tb)) :=
  PW.imp (pw_or ha hb) fun σ H Q ⟨env, st, ρ, z, st', E, S, hj, h, q⟩ => by
    obtain ⟨k, s1, h1, h⟩ := ob_some h
    refine ⟨env, st, ρ, k, s1, E, S, hj, h1, fun H1 ρ1 G1 S1 => ?_⟩
    cases k with
    | true =>
      rw [if_pos rfl]
      cases h
      exact q H1 ρ1 G1 S1
    | false =>
      rw [if_neg Bool.false_ne_true]
      exact ⟨env, s1, ρ1, z, st', E.grow S G1, S1, hJ S G1 hj, h, fun H2 ρ2 G2 S2 => q H2 ρ2 (G1.trans G2) S2⟩
theorem j_chainT (hJ : Keeps X.K J) {op op' : CmpOp} {r r' : R2} {f g : F2} (ho : OpR X (compareOp op) r) (hf : OpI X.K r f) (ho' : OpR X (compareOp op') r') (hg : OpI X.K r' g) (ha : PE X a (tJ X.K J ia)) (hb : PE X b (tJ X.K J ib)) (hc : PE X c (tJ X.K J ic))
    (hm : lastMarks [op, op'] [b, c] = false := by with_unfolding_all rfl) : PT X (.Compare a [op, op'] [b, c] pos) (tJT X.K J (iTestB (iChain f g ia ib ic))) :=
  PT.imp (pt_chain ho ho' ha hb hc hm) fun σ H Q ⟨env, st, ρ, z, st', E, S, hj, h, q⟩ => by
    obtain ⟨x0, s0, h0, h⟩ := ob_some h
    obtain ⟨h2, h3⟩ := map_pair h
    simp only at h2 h3
    subst h3
    obtain ⟨x, s1, h1, h⟩ := ob_some h0
    obtain ⟨y, s2, hy, h⟩ := ob_some h
    obtain ⟨w, s3, hw, h⟩ := ob_some h
    refine ⟨env, st, ρ, x, s1, E, S, hj, h1, fun vx H1 ρ1 G1 S1 R1 => ⟨env, s1, ρ1, y, s2, E.grow S G1, S1, hJ S G1 hj, hy, fun vy H2 ρ2 G2 S2 R2 => ?_⟩⟩
    refine hf H2 ρ2 s2 x y vx vy w s3 _ S2 (Rep.grow S1 G2 _ _ R1) R2 hw fun v H3 ρ3 G3 S3 R3 => ?_
    have fin : ∀ {v : V} {H5 : Hp} {ρ5 : Rho}, Grow H ρ H5 ρ5 → RepS X.K H5 ρ5 st' → Rep X.K H5 ρ5 x0 v → ∃ k, v = .bl k ∧ Q k H5 := fun {v H5 ρ5} G5 S5 R5 => by
      cases x0 <;> simp only [isBl, Option.some.injEq, reduceCtorEq] at h2
      subst h2
      unfold Rep at R5
      exact ⟨_, R5, q H5 ρ5 G5 S5⟩
    split at h
    · unfold Rep at R3
      subst R3
      obtain ⟨w, s4, h4, h⟩ := ob_some h
      refine ⟨true, rfl, ?_⟩
      rw [if_pos rfl]
      refine ⟨env, s3, ρ3, w, s4, ((E.grow S G1).grow S1 G2).grow S2 G3, S3, hJ S2 G3 (hJ S1 G2 (hJ S G1 hj)), h4, fun vw H4 ρ4 G4 S4 R4 => ?_⟩
      exact hg H4 ρ4 s4 y w vy vw x0 st' _ S4 (Rep.grow S3 G4 _ _ (Rep.grow S2 G3 _ _ R2)) R4 h fun v H5 ρ5 G5 S5 R5 => fin ((((G1.trans G2).trans G3).trans G4).trans G5) S5 R5
    · unfold Rep at R3
      subst R3
      cases h
      refine ⟨false, rfl, ?_⟩
      rw [if_neg Bool.false_ne_true]
      exact fin ((G1.trans G2).trans G3) S3 (by unfold Rep; rfl)
    · cases h
theorem j_if (hc : PT X c (tJT X.K J ta)) (ha : PSs X p (tIS X.K W sa)) (hb : PSs X q (tIS X.K W sb)) : PS X (.If c p q pos) (tJS X.K J W (iIfS ta sa sb)) :=
  PS.imp (ps_if hc ha hb) fun D σ H ⟨env, s, ρ, f, E, S, hj, h, q⟩ => by
    obtain ⟨k, s1, h1, h⟩ := ob_some h
    refine ⟨env, s, ρ, k, s1, E, S, hj, h1, fun H1 ρ1 G1 S1 => ?_⟩
    cases k with
    | true =>
      rw [if_pos rfl]
      exact ⟨env, s1, ρ1, f, E.grow S G1, S1, h, q.grow G1⟩
    | false =>
      rw [if_neg Bool.false_ne_true]
      exact ⟨env, s1, ρ1, f, E.grow S G1, S1, h, q.grow G1⟩
theorem j_ret (he : PE X e (tJ X.K J ia)) : PS X (.Return (some e) pos) (tJS X.K J W (iRet ia)) := PS.imp (ps_ret he) fun D σ H ⟨env, s, ρ, f, E, S, hj, h, q⟩ => by
  obtain ⟨x, s1, h1, h⟩ := ob_some h
  cases h
  exact ⟨env, s, ρ, x, _, E, S, hj, h1, fun v H1 ρ1 G1 S1 R1 => q v H1 ρ1 G1 S1 R1⟩
theorem j_one {st : Stmt} (h1 : PS X st (tJS X.K J W sa)) : PSs X [st] (tJS X.K J W sa) := pss_one h1
end
/-! ### the exception -/
/-- slot i holds the exception at a, whose dict d has these fields -/
def XJ (K : PySem.W.Frag) (a : Addr) (d : Option Addr) (i : Nat) (fs : List (Str × PV)) : JP := fun σ H ρ => σ[i]? = some (some (.ref a)) ∧ ∃ dd vs, d = some dd ∧ Rd H dd (.xd vs) ∧ ρ.Safe dd ∧ RepF K H ρ fs vs
theorem xj_keeps {K : PySem.W.Frag} {a : Addr} {d : Option Addr} {i : Nat} {fs : List (Str × PV)} : Keeps K (XJ K a d i fs) := fun S g ⟨h, dd, vs, e, r, s, f⟩ => ⟨h, dd, vs, e, g.rd s r, g.safe (Rd.ne_none r) s, RepF.grow S g _ _ f⟩
def iExF (fs : List (Str × PV)) (n : Str) : IE := fun _ st => (fs.lookup n).map fun x => (x, st)
theorem repF_lookup {K : PySem.W.Frag} {H : Hp} {ρ : Rho} {n : Str} {x : PV} : ∀ {fs : List (Str × PV)} {vs : List (Str × V)}, RepF K H ρ fs vs → fs.lookup n = some x → ∃ v, vs.lookup n = some v ∧ Rep K H ρ x v
  | [], _, _, h => by cases h
  | (m, y) :: fs, vs, r, h => by
    obtain ⟨v, rr, rfl, r1, r2⟩ := r
    rw [List.lookup_cons] at h ⊢
    cases hb : (n == m) with
    | true =>
      rw [hb] at h
      cases h
      exact ⟨v, rfl, r1⟩
    | false =>
      rw [hb] at h
      exact repF_lookup r2 h
theorem j_exf {X : Cx} {a C : Addr} {oe : Obj} {d : Option Addr} {pn : List (Addr × Obj)} {i : Nat} {m n : Str} {p pos : Pos} {fs : List (Str × PV)} (T : XfC X.K C) (hno : PySem.W.findIn X.K (.ref C) n = some none) (hz : Zc (.ref C) d oe) (hf : ∃ vs, oe.data = .fields vs)
    (hN : X.N[i]? = some m) (hv : Vis X.env.scope m) (hd : (m == ("__debug__" : Str)) = false := by decide) (hcd : (m == ("__classdict__" : Str)) = false := by decide) (hb : attributeBase (.Name m p) n X.env (eval (.Name m p) X.env) = eval (.Name m p) X.env := by rfl) :
    PE (X.suite a ((a, oe) :: pn)) (.Attribute (.Name m p) n pos) (tJ X.K (XJ X.K a d i fs) (iExF fs n)) := by
  constructor
  rintro pins s σ H Q I ⟨env, st, ρ, x, st', E, S, ⟨hi, dd, vs, rfl, r, sf, rf⟩, h, q⟩
  obtain ⟨h2, rfl⟩ := map_pair h
  simp only at h2
  obtain ⟨v, hl, rv⟩ := repF_lookup rf h2
  have he : PE (X.suite a ((a, oe) :: pn)) (.Name m p) (tVar i) := pe_var hN hv hd hcd
  refine attr_of hb (thn (he.run pins s σ H (fun y G => y = .ref a ∧ G = H) I ⟨.ref a, hi, rfl, rfl⟩) ?_)
  rintro u s1 ⟨y, G, I1, ry, rfl, rfl⟩
  obtain rfl : u = Value.ref a := ry
  obtain ⟨hget, _⟩ := I1.pin (a, oe) (List.mem_append_left _ List.mem_cons_self)
  obtain ⟨us, hdat⟩ := hf
  obtain ⟨mA, hns, hr⟩ := (r.ok I1.hok : ObjOk X.prog X.w _ s1.heap dd (.xd vs))
  obtain ⟨od, ho, hlk⟩ := lookIn_ns hns
  obtain ⟨u2, hu, ru⟩ := RelO.some_of (v := v) (o := mA n) (by rw [← hl]; exact hr n)
  have at_ : PySem.W.InstAt s1.heap a oe C (some od) := ⟨hget, hz.1, by unfold PySem.W.notCls; rw [hdat] <;> rfl, by rw [hz.2]; exact ho⟩
  exact HandSPX.exc_get I1.kIn at_ T.ga T.gg T.exC (PySem.W.findObj_own T.hdC hno rfl (by rw [hlk, hu])) (handed_of ru) ⟨v, _, I1.tok _, ru, q v _ ρ Grow.refl S rv⟩
/-- isinstance(e, D2) -/
theorem call_isX {X : Cx} {a D : Addr} {oe : Obj} {d : Option Addr} {pn : List (Addr × Obj)} (C : ExcC X.K D) (hz : Zc (.ref D) d oe) (hf : ∃ vs, oe.data = .fields vs) :
    CallR (X.suite a ((a, oe) :: pn)) (.builtin "isinstance") (fun xs H Q => ∃ (D2 : Addr) (b : Bool) (dd : Addr) (vs : List (Str × V)), xs = [.ref a, .ref D2] ∧ d = some dd ∧ Rd H dd (.xd vs) ∧ PySem.W.kitOne X.K (.ref D) (.ref D2) = some b ∧ Q (.bl b) H) := by
  rintro pins s σ H xs us Q I r ⟨D2, b, dd, vs, rfl, rfl, rd, e, q⟩
  cases r with
  | cons rx rr =>
    cases rr with
    | cons rt rr =>
      cases rr
      cases rx
      cases rt
      obtain ⟨hget, _⟩ := I.pin (a, oe) (List.mem_append.mpr (.inl List.mem_cons_self))
      obtain ⟨us, hv⟩ := hf
      obtain ⟨mA, hns, hr⟩ := (rd.ok I.hok : ObjOk X.prog X.w _ s.heap dd (.xd vs))
      obtain ⟨od, ho, hlk⟩ := lookIn_ns hns
      have at_ : PySem.W.InstAt s.heap a oe D (some od) := ⟨hget, hz.1, by unfold PySem.W.notCls; rw [hv] <;> rfl, by rw [hz.2]; exact ho⟩
      have hcl : (PySem.W.clsIn X.K D).isSome = true := by
        obtain ⟨cd, hc, _⟩ := PySem.W.any_some C.hd
        rw [hc]; rfl
      exact PySem.W.kia_one (PySem.W.kitx_exc hcl C.hg C.hk C.hs C.ha C.hn C.ht C.hm) I.kIn at_ e (fun z => nomatch z) fun tk => ⟨.bl b, H, I.kept (t' := tk) fun _ _ z => z, rfl, q⟩
theorem j_isx {X : Cx} {a D D2 : Addr} {oe : Obj} {d : Option Addr} {pn : List (Addr × Obj)} {i : Nat} {m y : Str} {p p2 p3 pos : Pos} {fs : List (Str × PV)} {b : Bool} (C : ExcC X.K D) (hz : Zc (.ref D) d oe) (hf : ∃ vs, oe.data = .fields vs) (hk : PySem.W.kitOne X.K (.ref D) (.ref D2) = some b)
    (hN : X.N[i]? = some m) (hv : Vis X.env.scope m) (hg : Gl X "isinstance") (hm : X.mg "isinstance" = none) (hv2 : bootBuiltins "isinstance" = some (.builtin "isinstance")) (hgy : Gl X y) (hmy : X.mg y = some (.ref D2))
    (hd : (m == ("__debug__" : Str)) = false := by decide) (hcd : (m == ("__classdict__" : Str)) = false := by decide) (hdy : (y == ("__debug__" : Str)) = false := by decide)
    (h1 : starEach [.Name m p2, .Name y p3] X.env = (false, eval (.Name m p2) X.env) :: starEach [.Name y p3] X.env := by rfl) (h2 : starEach [.Name y p3] X.env = (false, eval (.Name y p3) X.env) :: starEach [] X.env := by rfl)
    (hpl : (backTo pos (starEach [.Name y p3] X.env)).any (·.1) = false := by rfl) :
    PE (X.suite a ((a, oe) :: pn)) (.Call (.Name "isinstance" p) [.Name m p2, .Name y p3] [] pos) (tJ X.K (XJ X.K a d i fs) (iC (.bl b))) := by
  have he : PE (X.suite a ((a, oe) :: pn)) (.Name m p2) (tVar i) := pe_var hN hv hd hcd
  have hy : PE (X.suite a ((a, oe) :: pn)) (.Name y p3) (tC (.ref D2)) := pe_glob hgy hmy rfl hdy
  refine PE.imp (pe_callB (X := X.suite a ((a, oe) :: pn)) (call_isX C hz hf) hg hm hv2 (pa_cons he (pa_cons hy pa_nil h2) h1) (by decide) (by decide) h1 hpl) ?_
  rintro σ H Q ⟨env, st, ρ, x, st', E, S, ⟨hi, dd, vs, rfl, r, sf, rf⟩, h, q⟩
  cases h
  exact ⟨.ref a, hi, D2, b, dd, vs, rfl, rfl, r, hk, q (.bl b) H ρ Grow.refl S (by unfold Rep; rfl)⟩
end IL

/-! try .. except C as n .. else, as a plain function -/
namespace IL
open PySem PySem.Spec PyProof.Rows L2
/-- a class that is caught by its name -/
structure CatJ (K : PySem.W.Frag) (mg : Str → Option Value) (c : Str) : Prop where
  ex : ∃ C : Addr, ClsAt K c C ∧ mg c = some (.ref C) ∧ PySem.W.exmOne K (.ref C) (.ref C) = some true
def iCatch (cn : Str) (b : IS) (i : Nat) (h : List (Str × PV) → IS) (els : IS) : IS := fun env st => match b env st with
  | some (.nx e s) => els e s
  | some (.er e c fs s) => if c = cn ∧ i < e.length then (match h fs (e.set i none) s with
    | some (.nx e2 s2) => some (.nx (e2.set i none) s2)
    | some (.bk e2 s2) => some (.bk (e2.set i none) s2)
    | some (.ct e2 s2) => some (.ct (e2.set i none) s2)
    | some (.rt v s2) => some (.rt v s2)
    | _ => none) else none
  | o => o
theorem RepE.drop {K : PySem.W.Frag} {H : Hp} {ρ : Rho} {env : PEnv} {σ : L2.St} (E : RepE K H ρ env σ) (i : Nat) (v : Option V) : RepE K H ρ (env.set i none) (σ.set i v) := by
  refine ⟨by simpa using E.len, fun j y hj => ?_⟩
  by_cases e : i = j
  · subst e
    rw [List.getElem?_set] at hj
    simp only [if_true] at hj
    split at hj <;> cases hj
  · rw [List.getElem?_set_ne e] at hj
    obtain ⟨w, a, b⟩ := E.at_ j y hj
    exact ⟨w, by rw [List.getElem?_set_ne e]; exact a, b⟩
theorem RepS.safeX {K : PySem.W.Frag} {H : Hp} {ρ : Rho} {st : Sto} (S : RepS K H ρ st) {d : Addr} {vs : List (Str × V)} (h : H d = some (.xd vs)) : ρ.Safe d := .inl fun hm => by
  obtain ⟨n, so, _, _, r⟩ := S.mem hm
  rcases r.some with ⟨w, e⟩ | ⟨w, e⟩ | ⟨C, dx, w, e⟩ <;> rcases e with e | ⟨o', e⟩ <;> (rw [h] at e; cases e)
section
variable {X : Cx} {W : WX} {n cn : Str} {i : Nat} {body suite orelse : List Stmt} {b₀ : Stmt} {np pos pos' : Pos} {ib els : IS} {ih : List (Str × PV) → IS}
theorem s_catch (stk : X.stack = X.env :: X.outer) (frm : X.env.frame = some X.env.locals) (ndN : X.N.Nodup) (slot : X.N[i]? = some n) (loc : X.env.kindOf n = some .local) (cj : CatJ X.K X.mg cn) (hg : Gl X cn)
    (inner : ∀ (V : WX) (pl : List (Addr × Obj)) (out : Value → Shared → Prop), L2N.Takes (X.tr pl out) V → PSs (X.tr pl out) body (tIS X.K V ib))
    (hand : ∀ (C x : Addr) (ox : Obj) (d : Option Addr) (pl : List (Addr × Obj)) (fs : List (Str × PV)), ClsAt X.K cn C → L2N.Zn (.ref C) d ox → (∃ us, ox.data = .fields us) → PSs (X.suite x ((x, ox) :: pl)) (b₀ :: suite) (tJS X.K (XJ X.K x d i fs) W0 (ih fs)))
    (last : PSs X orelse (tIS X.K W els)) (hdb : (cn == ("__debug__" : Str)) = false := by decide) :
    PS X (.Try body [.ExceptHandler (some (.Name cn np)) (some n) (b₀ :: suite) pos'] orelse [] pos) (tIS X.K W (iCatch cn ib i ih els)) := by
  obtain ⟨C, hC, hm, hx⟩ := cj.ex
  have base := ps_catch (X := X) (x := cn) (n := n) (c := .ref C) (i := i) (np := np) (pos := pos) (pos' := pos') (tb := fun V => tIS X.K V ib) (ts := fun x cls d D σ H => ∃ C fs, cls = .ref C ∧ ClsAt X.K cn C ∧ tJS X.K (XJ X.K x d i fs) W0 (ih fs) D σ H) stk frm ndN slot loc ⟨hg, hdb, .inl hm⟩ (fun V pl out tk _ => inner V pl out tk)
    (fun x ox cls d pl hz hd => ⟨fun pins s σ H D I h => by
      obtain ⟨C, fs, rfl, hC, h⟩ := h
      exact (hand C x ox d pl fs hC hz hd).run pins s σ H D I h⟩) last
  refine PS.imp base fun D σ H ⟨env, st, ρ, f, E, S, h, q⟩ => ?_
  unfold iCatch at h
  split at h
  · rename_i e s hb
    exact ⟨env, st, ρ, _, E, S, hb, fun σ' H' ρ' G S' E' => ⟨e, s, ρ', f, E', S', h, q.grow G⟩⟩
  · rename_i e c fs s hb
    split at h
    · rename_i hc
      obtain ⟨rfl, hi⟩ := hc
      refine ⟨env, st, ρ, _, E, S, hb, fun C' d σ' H' ρ' vs hC' G S' E' R' hd => ?_⟩
      have eC : C' = C := by
        have h1 := hC'
        unfold ClsAt at h1 hC
        rw [hC] at h1
        cases h1; rfl
      subst eC
      refine ⟨hx, fun x hxn => ⟨C', fs, rfl, hC', ?_⟩⟩
      have li : i < σ'.length := by rw [← E'.len]; exact hi
      have XJ' : XJ X.K x (some d) i fs (σ'.set i (some (.ref x))) H' ρ' := ⟨by rw [List.getElem?_set_self li], d, vs, rfl, .of hd, S'.safeX hd, R'⟩
      split at h
      · rename_i e2 s2 hh
        cases h
        exact ⟨e.set i none, s, ρ', _, E'.drop i _, S', XJ', hh, fun τ H2 ρ2 G2 S2 E2 => q _ H2 ρ2 (G.trans G2) S2 (E2.drop i none)⟩
      · rename_i e2 s2 hh
        cases h
        exact ⟨e.set i none, s, ρ', _, E'.drop i _, S', XJ', hh, fun τ H2 ρ2 G2 S2 E2 => q _ H2 ρ2 (G.trans G2) S2 (E2.drop i none)⟩
      · rename_i e2 s2 hh
        cases h
        exact ⟨e.set i none, s, ρ', _, E'.drop i _, S', XJ', hh, fun τ H2 ρ2 G2 S2 E2 => q _ H2 ρ2 (G.trans G2) S2 (E2.drop i none)⟩
      · rename_i v s2 hh
        cases h
        exact ⟨e.set i none, s, ρ', _, E'.drop i _, S', XJ', hh, fun v H2 ρ2 G2 S2 R2 => q v H2 ρ2 (G.trans G2) S2 R2⟩
      · cases h
    · cases h
  · rename_i h1 h2
    refine ⟨env, st, ρ, f, E, S, h, ?_⟩
    cases f with
    | nx e s => exact (h1 e s h).elim
    | er e c fs s => exact (h2 e c fs s h).elim
    | rt v s => exact q
    | bk e s => exact q
    | ct e s => exact q
end
end IL

/-! enumerate(text) -/
namespace IL
open PySem PySem.Spec PyProof.Rows L2
def Itn (x : Str) : It := ⟨fun k _ => k < x.cps.size, fun k G v G' => ∃ T c, v = .ref T ∧ G T = none ∧ x.cps[k]? = some c ∧ G' = upd G T (.tup [.int (k : Nat), .str ⟨#[c]⟩]), fun k _ => x.cps.size ≤ k⟩
theorem draws_text {prog : Program} {w : World} {A : Around} (hh : A.handled = none) (it : Addr) (x : Str) (t : Tok) {ty : String} (hty : ty = "str_ascii_iterator" ∨ ty = "str_iterator") :
    Draws prog w A it [it] x.cps.size (fun k v => ∃ c u, x.cps[k]? = some c ∧ v = .str ⟨#[c]⟩ u) (fun k h => h.IsStrIter it ty x t k) := by
  rcases hty with e | e <;> rw [e]
  · exact Draws.strAscii hh it x t
  · exact Draws.strWide hh it x t
theorem turn_enumT {P : Program} {w : World} {K : PySem.W.Frag} {elts : List Expr} {kk : Nat} {tpos : Pos} (en it : Addr) (x : Str) (t : Tok) {ty : String} (hty : ty = "str_ascii_iterator" ∨ ty = "str_iterator") :
    Turn P w K (.Tuple elts kk tpos) (Itn x) [en, it] en (fun k h => k ≤ x.cps.size ∧ (∃ old, IsEnum h en it ((k : Nat) : Int) old) ∧ h.IsStrIter it ty x t k ∧ en ≠ it) where
  mem := List.mem_cons_self ..
  obj := fun k h st b hb => by
    obtain ⟨_, ⟨old, ie⟩, ⟨ob, at0, _, dat⟩, _⟩ := st
    rcases List.mem_cons.mp hb with rfl | hb
    · exact ⟨_, ie, fun v z => nomatch z⟩
    · rw [List.mem_singleton] at hb
      subst hb
      exact ⟨ob, at0, fun v z => by rw [dat] at z; cases z⟩
  keep := fun k h h' st kp => by
    obtain ⟨le, ⟨old, ie⟩, ⟨ob, at0, r⟩, ne⟩ := st
    exact ⟨le, ⟨old, kp en (by simp) _ ie⟩, ⟨ob, kp it (by simp) ob at0, r⟩, ne⟩
  item := by
    intro X hP hw hK hc k pins s sl G E Iv hf st lt
    subst hP hw hK
    obtain ⟨_, ⟨old, ie⟩, si, ne⟩ := st
    have ltk : k < x.cps.size := lt
    have l1 : en < s.heap.objs.size := Heap.lt_size ie
    have l2 : it < s.heap.objs.size := by obtain ⟨_, q, _⟩ := si; exact Heap.lt_size q
    refine wpAny_pyNext_enum_itemD (draws_text (A := X.A.in1) (Iv.ok.hd hc) it x t hty) ie si ltk ne (by simpa using ne) fun y h' tk py out si' tup sz kp => ?_
    obtain ⟨c, u, hcx, rfl⟩ := py
    refine ⟨_, rfl, wpAny_letOwnedTupleGo_enum (s := { s with heap := h', toks := tk + 1 }) out fun h'' ie' sb => ?_⟩
    have tup2 : h''.get? s.heap.objs.size = some { cls := .type "tuple", data := .seq #[.int k tk, .str ⟨#[c]⟩ u] } := (sb.2 _ (Nat.ne_of_gt l1)).trans tup
    have fresh : ObjOk X.prog X.w (upd G s.heap.objs.size (.tup [.int (k : Nat), .str ⟨#[c]⟩])) h'' s.heap.objs.size (.tup [.int (k : Nat), .str ⟨#[c]⟩]) :=
      ⟨show 2 ≤ sizeLine by decide, [.int k tk, .str ⟨#[c]⟩ u], .cons ⟨_, rfl⟩ (.cons ⟨_, rfl⟩ .nil), ⟨_, tup2, rfl, _, rfl⟩⟩
    have Iv2 : Inv X pins sl (upd G s.heap.objs.size (.tup [.int (k : Nat), .str ⟨#[c]⟩])) { s with heap := h'', toks := tk + 1 } :=
      Iv.turnedNew (ch := [en, it]) (fun b ob hb q => (sb.2 b (fun z => hb (by simp [z]))).trans (kp b ob (fun z => hb (by simp [z])) (fun z => hb (by simp [z])) q)) hf (Nat.le_refl _) fresh
    refine ⟨.ref s.heap.objs.size, _, Iv2, rfl, ⟨_, c, rfl, Iv.hok.fresh (Nat.le_refl _), hcx, rfl⟩, ⟨ltk, ⟨.str ⟨#[c]⟩ u, ?_⟩, ?_, ne⟩, fun b hb => ?_⟩
    · rw [show ((k + 1 : Nat) : Int) = (k : Int) + 1 by omega]
      exact ie'
    · obtain ⟨ob, at0, r⟩ := si'
      exact ⟨ob, (sb.2 it (Ne.symm ne)).trans at0, r⟩
    · have lb : b < s.heap.objs.size := by
        rcases List.mem_cons.mp hb with rfl | hb
        · exact l1
        · rw [List.mem_singleton] at hb; subst hb; exact l2
      rw [upd_ne (Nat.ne_of_lt lb)]
      exact (hf b hb).1
  done := by
    intro X hP hw hK hc k pins s sl G E Iv hf st ge
    subst hP hw hK
    obtain ⟨le, ⟨old, ie⟩, si, ne⟩ := st
    have ek : k = x.cps.size := Nat.le_antisymm le ge
    subst ek
    obtain ⟨f0, f1, f2, f3, f4, f5⟩ := hf it (by simp)
    exact wpAny_pyNext_enum_endD (draws_text (A := X.A.in1) (Iv.ok.hd hc) it x t hty) ie si fun h' eb => ⟨rfl, Iv.turned (t' := s.toks) (fun b o hb q => eb b o hb q) f0 f1 f3 f4 f5⟩
  self := fun A i s Q E st h => by
    obtain ⟨_, ⟨old, ie⟩, _⟩ := st
    exact wpAny_pyIter_enum ie h
def iEnT (ta : TA) : TI := fun σ H R => ta σ H fun vs H1 => ∃ x : Str, vs = [.str x] ∧ R (Itn x) H1
theorem pi_enumT {X : Cx} {e : Expr} {ta : TA} {p pos tpos : Pos} {elts : List Expr} {kk : Nat} (hg : Gl X "enumerate") (hm : X.mg "enumerate" = none) (ha : PA X [e] ta) (hs : starEach [e] X.env = [(false, eval e X.env)] := by rfl) :
    PI X (.Tuple elts kk tpos) (.Call (.Name "enumerate" p) [e] [] pos) (iEnT ta) := by
  constructor
  intro pins s sl G R Iv h
  refine Call_ (ld_blt Iv hg hm boot_enumerate (PyProof.Rows.callWith_type1 (thn (ha.run pos pins s sl G _ Iv h) ?_) hs rfl))
  rintro us s1 ⟨vs, G1, I1, r1, x, rfl, q⟩
  cases r1 with
  | cons r rr =>
    cases rr
    obtain ⟨t, rfl⟩ := r
    refine call_enumerate_str fun h' ie si sz kp => wpAny_pyIter_enum ie ?_
    have I2 : Inv X pins sl G1 { s1 with heap := h' } := I1.kept (t' := s1.toks) kp
    have hty : strIterType x = "str_ascii_iterator" ∨ strIterType x = "str_iterator" := by
      unfold strIterType
      split
      · exact .inl rfl
      · exact .inr rfl
    refine ⟨s1.heap.objs.size + 1, [s1.heap.objs.size + 1, s1.heap.objs.size], _, _, G1, rfl, I2, turn_enumT (s1.heap.objs.size + 1) s1.heap.objs.size x t hty, ⟨Nat.zero_le _, ⟨.none, ie⟩, si, Nat.succ_ne_self _⟩, fun b hb => ?_, q⟩
    have ge : s1.heap.objs.size ≤ b := by
      rcases List.mem_cons.mp hb with rfl | hb
      · exact Nat.le_succ _
      · rw [List.mem_singleton] at hb; subst hb; exact Nat.le_refl _
    exact I1.fpOk ge (I1.hok.fresh ge)
end IL

/-! enumerate over texts, while True, int(text), a replaced text behind a written one; an exception's making; facts of an exception that is caught -/
namespace IL
open PySem PySem.Spec PyProof.Rows L2 CwR
/-! ### enumerate(text) -/
def srcEnT (x : Str) : Src := ⟨x.cps.size, fun _ i => some ((x.cps[i]?).map fun c => .tup [.int (i : Nat), .str ⟨#[c]⟩])⟩
theorem srcEnT_ok {K : PySem.W.Frag} {H0 : Hp} {ρ0 : Rho} {x : Str} : SrcOk K (srcEnT x) (Itn x) H0 ρ0 := fun H ρ st G S i => by
  refine ⟨fun hs => ?_, fun y hs => ?_⟩
  · simp only [srcEnT, Option.some.injEq, Option.map_eq_none_iff] at hs
    exact Array.getElem?_eq_none_iff.mp hs
  · simp only [srcEnT, Option.some.injEq] at hs
    cases e : x.cps[i]? with
    | none => rw [e] at hs; cases hs
    | some c =>
      rw [e] at hs
      cases hs
      refine ⟨(Array.getElem?_eq_some_iff.mp e).1, fun w H' y => ?_⟩
      obtain ⟨T, c', rfl, hT, e', rfl⟩ := y
      rw [e] at e'; cases e'
      obtain ⟨g1, g2, g3⟩ := pair_new (i := i) (x := .str ⟨#[c]⟩) S (by unfold Rep; rfl) hT
      exact ⟨ρ, g1, g2, g3⟩
def iEnumT (ir : IA) : II := fun env st => ob (ir env st) fun xs s => match xs with
  | [.str x] => some (srcEnT x, s)
  | _ => none
theorem i_enumT {X : Cx} {e : Expr} {ir : IA} {p tpos pos : Pos} {elts : List Expr} {kk : Nat} (hg : Gl X "enumerate") (hm : X.mg "enumerate" = none) (ha : PA X [e] (tIA X.K ir)) (hs : starEach [e] X.env = [(false, eval e X.env)] := by rfl) :
    PI X (.Tuple elts kk tpos) (.Call (.Name "enumerate" p) [e] [] pos) (tII X.K (iEnumT ir)) := PI.imp (pi_enumT hg hm ha hs) fun σ H R ⟨env, s, ρ, src, st', E, S, h, q⟩ => by
  obtain ⟨xs, s1, h1, h⟩ := ob_some h
  split at h
  · rename_i x
    cases h
    refine ⟨env, s, ρ, _, _, E, S, h1, fun v H1 ρ1 G1 S1 R1 => ?_⟩
    obtain ⟨w, rfl, R9⟩ := one_arg R1
    unfold Rep at R9
    subst R9
    exact ⟨x, rfl, q _ H1 ρ1 G1 S1 srcEnT_ok⟩
  · cases h
/-! ### while True -/
theorem t_true {X : Cx} {b : Bool} {j : Nat} {pos : Pos} : PT X (.Constant (.bool b) j pos) (tIT X.K (iTest (iC (.bl b)))) := r_truth r_bl (by intro _; rfl)
/-! ### int(text) -/
def fIntS : F1 := fun x st => match x with
  | .int i => some (.int i, st)
  | .bl b => some (.int (if b then 1 else 0), st)
  | .str a => if a.length ≤ 640 then (PySem.intText? a).map fun n => (.int n, st) else none
  | _ => none
def rIntS : List V → Hp → VK → Prop := fun xs H Q => ((∃ i, xs = [.int i] ∧ Q (.int i) H) ∨ ∃ k : Bool, xs = [.bl k] ∧ Q (.int (if k then 1 else 0)) H) ∨ ∃ a n, xs = [.str a] ∧ PySem.intText? a = some n ∧ a.length ≤ 640 ∧ Q (.int n) H
theorem call_intS {X : Cx} : CallR X (.type "int") rIntS := CallR.or call_int1 call_int_str
theorem f_intS {K : PySem.W.Frag} : CallI K rIntS (a1 fIntS) := call1 fun H ρ st x vx z st' Q S R h q => by
  unfold fIntS at h
  split at h
  · unfold Rep at R
    subst R
    cases h
    exact .inl (.inl ⟨_, rfl, q _ H ρ Grow.refl S (by unfold Rep; rfl)⟩)
  · unfold Rep at R
    subst R
    cases h
    exact .inl (.inr ⟨_, rfl, q _ H ρ Grow.refl S (by unfold Rep; rfl)⟩)
  · unfold Rep at R
    subst R
    split at h
    · rename_i hl
      obtain ⟨n, e, hz⟩ := map_some h
      cases hz
      exact .inr ⟨_, n, rfl, e, hl, q _ H ρ Grow.refl S (by unfold Rep; rfl)⟩
    · cases h
  · cases h
/-! ### "a" + x.replace("b", "c") -/
def iRep (ia : IE) (y z : Str) : IE := fun env st => ob (ia env st) fun x s => match x with
  | .str a => if a.length + (a.length + 1) * z.length ≤ 9000000 then some (.str (Txt.replace a y z), s) else none
  | _ => none
theorem pe_behind {X : Cx} {a : Str} {e : Expr} {te : TE} {op : Operator} {r : R2} {j : Nat} {c pos : Pos} (ho : OpR X (binaryOp op) r) (hb : PET X e te) : PE X (.BinOp (.Constant (.str a) j c) op e pos) (tOp r (tC (.str a)) te) := by
  refine ⟨fun pins s σ H Q I h => wpAny_BinOp (Calls.Constant_str ?_)⟩
  exact thn (hb pins { s with toks := s.toks + 1 } σ H _ (Nat.le_add_left 1 s.toks) (I.tok (s.toks + 1)) h) fun u s2 ⟨y, H2, I2, r2, q2⟩ => ho pins s2 σ H2 (.str a) y (.str a s.toks) u Q I2 ⟨s.toks, rfl⟩ r2 q2
theorem r_behindRep {X : Cx} {a y z : Str} {o : Expr} {io : IE} {op : Operator} {r : R2} {f : F2} {j k l : Nat} {c c0 c1 apos cpos pos : Pos} (ho : OpR X (binaryOp op) r) (hf : OpI X.K r f) (he : PE X o (tI X.K io)) (hyz : (y == z) = false := by decide)
    (hst : starEach [.Constant (.str y) k c0, .Constant (.str z) l c1] X.env = [(false, eval (.Constant (.str y) k c0) X.env), (false, eval (.Constant (.str z) l c1) X.env)] := by rfl)
    (hbase : attributeBase o "replace" X.env (eval o X.env) = eval o X.env := by rfl) (hline : (apos.endLine == cpos.line) = true := by rfl) :
    PE X (.BinOp (.Constant (.str a) j c) op (.Call (.Attribute o "replace" apos) [.Constant (.str y) k c0, .Constant (.str z) l c1] [] cpos) pos) (tI X.K (iBin f (iC (.str a)) (iRep io y z))) :=
  PE.imp (pe_behind ho (pet_replC he hyz hst hbase hline)) fun σ H Q ⟨env, st, ρ, w, st', E, S, h, q⟩ => by
    obtain ⟨x0, s0, h0, h⟩ := ob_some h
    cases h0
    obtain ⟨x1, s1, h1, h⟩ := ob_some h
    obtain ⟨x2, s2, h2, h3⟩ := ob_some h1
    refine ⟨env, st, ρ, x2, s2, E, S, h2, fun v H1 ρ1 G1 S1 R1 => ?_⟩
    split at h3
    · rename_i b
      split at h3
      · rename_i hl
        cases h3
        unfold Rep at R1
        subst R1
        refine ⟨b, rfl, by omega, ?_⟩
        exact hf H1 ρ1 _ (.str a) (.str (Txt.replace b y z)) (.str a) (.str (Txt.replace b y z)) w st' Q S1 (by unfold Rep; rfl) (by unfold Rep; rfl) h fun v2 H2 ρ2 G2 S2 R2 => q v2 H2 ρ2 (G1.trans G2) S2 R2
      · cases h3
    · cases h3
/-! ### the facts of a caught exception -/
structure AtJ (K : PySem.W.Frag) (c n : Str) : Prop where
  ex : ∃ C : Addr, ClsAt K c C ∧ XfC K C ∧ PySem.W.findIn K (.ref C) n = some none
structure IsJ (K : PySem.W.Frag) (mg : Str → Option Value) (c y : Str) (b : Bool) : Prop where
  ex : ∃ C D : Addr, ClsAt K c C ∧ mg y = some (.ref D) ∧ PySem.W.kitOne K (.ref C) (.ref D) = some b ∧ ExcC K C
theorem clsAt_one {K : PySem.W.Frag} {c : Str} {C D : Addr} (h : ClsAt K c C) (h' : ClsAt K c D) : C = D := by
  unfold ClsAt at h h'
  rw [h] at h'
  cases h'; rfl
section
variable {X : Cx} {a C : Addr} {oe : Obj} {d : Option Addr} {pn : List (Addr × Obj)} {i : Nat} {m n y cn : Str} {p p2 p3 pos : Pos} {fs : List (Str × PV)}
theorem j_at (T : AtJ X.K cn n) (hC : ClsAt X.K cn C) (hz : Zc (.ref C) d oe) (hf : ∃ vs, oe.data = .fields vs)
    (hN : X.N[i]? = some m) (hv : Vis X.env.scope m) (hd : (m == ("__debug__" : Str)) = false := by decide) (hcd : (m == ("__classdict__" : Str)) = false := by decide) (hb : attributeBase (.Name m p) n X.env (eval (.Name m p) X.env) = eval (.Name m p) X.env := by rfl) :
    PE (X.suite a ((a, oe) :: pn)) (.Attribute (.Name m p) n pos) (tJ X.K (XJ X.K a d i fs) (iExF fs n)) := by
  obtain ⟨D, hD, T, hno⟩ := T.ex
  cases clsAt_one hC hD
  exact j_exf T hno hz hf hN hv hd hcd hb
theorem j_is {b : Bool} (T : IsJ X.K X.mg cn y b) (hC : ClsAt X.K cn C) (hz : Zc (.ref C) d oe) (hf : ∃ vs, oe.data = .fields vs)
    (hN : X.N[i]? = some m) (hv : Vis X.env.scope m) (hg : Gl X "isinstance") (hm : X.mg "isinstance" = none) (hgy : Gl X y) (hv2 : bootBuiltins "isinstance" = some (.builtin "isinstance") := by decide +kernel)
    (hd : (m == ("__debug__" : Str)) = false := by decide) (hcd : (m == ("__classdict__" : Str)) = false := by decide) (hdy : (y == ("__debug__" : Str)) = false := by decide)
    (h1 : starEach [.Name m p2, .Name y p3] X.env = (false, eval (.Name m p2) X.env) :: starEach [.Name y p3] X.env := by rfl) (h2 : starEach [.Name y p3] X.env = (false, eval (.Name y p3) X.env) :: starEach [] X.env := by rfl)
    (hpl : (backTo pos (starEach [.Name y p3] X.env)).any (·.1) = false := by rfl) :
    PE (X.suite a ((a, oe) :: pn)) (.Call (.Name "isinstance" p) [.Name m p2, .Name y p3] [] pos) (tJ X.K (XJ X.K a d i fs) (iC (.bl b))) := by
  obtain ⟨D, D2, hD, hmy, hk, T⟩ := T.ex
  cases clsAt_one hC hD
  exact j_isx T hz hf hk hN hv hg hm hv2 hgy hmy hd hcd hdy h1 h2 hpl
end
end IL

/-! the message of an exception of one field that is an int; IfExp whose parts may raise -/
namespace IL
open PySem PySem.Spec PyProof.Rows L2
theorem fmt2_int {c : Str} (hc : c.length ≤ 1000) : ∀ (σ : L2.St) (H : Hp) (Q : VK) (v : V), σ[1]? = some (some v) → okInt v → (∀ s : Str, Q (.str s) H) → (fun (σ : L2.St) (H : Hp) (Q : VK) => tJs [tC (.str c), tFmt (tVar 1)] Str.empty σ H fun out H1 => Q (.str out) H1) σ H Q := by
  intro σ H Q v hv ⟨i, e, hi⟩ q
  subst e
  have l1 : (Str.empty ++ c).length ≤ 1000 := by rw [PySem.Str.length_append]; show 0 + c.length ≤ 1000; omega
  have l2 := int_text_len_1921 hi
  refine ⟨c, rfl, Nat.le_trans l1 (by decide), .int i, hv, .inr ⟨i, rfl, hi, Str.ofString (toString i), rfl, ?_, q _⟩⟩
  rw [PySem.Str.length_append]
  exact Nat.le_trans (Nat.add_le_add l1 l2) (by decide)
def iIfX (it : IT) (ia ib : IX) : IX := fun env st => ob (it env st) fun b s => if b then ia env s else ib env s
theorem x_if {X : Cx} {W : WX} {c a b : Expr} {pos : Pos} {it : IT} {ia ib : IX} (hc : PT X c (tIT X.K it)) (ha : PE X a (tIX X.K W ia)) (hb : PE X b (tIX X.K W ib)) : PE X (.IfExp c a b pos) (tIX X.K W (iIfX it ia ib)) :=
  PE.imp (pe_ifExp hc ha hb) fun σ H Q ⟨env, st, ρ, r, E, S, h, q⟩ => by
    obtain ⟨k, s1, h1, h⟩ := ob_some h
    refine ⟨env, st, ρ, k, s1, E, S, h1, fun H1 ρ1 G1 S1 => ?_⟩
    cases k with
    | true =>
      rw [if_pos rfl] at h ⊢
      exact ⟨env, s1, ρ1, r, E.grow S G1, S1, h, q.grow G1⟩
    | false =>
      rw [if_neg Bool.false_ne_true] at h ⊢
      exact ⟨env, s1, ρ1, r, E.grow S G1, S1, h, q.grow G1⟩
end IL
namespace IL
open PySem PySem.Spec PyProof.Rows L2
section
variable {X : Cx} {J : JP} {a b c : Expr} {pos : Pos} {ia ib : IE} {it : IT}
theorem j_ifExp (hJ : Keeps X.K J) (hc : PT X c (tJT X.K J it)) (ha : PE X a (tJ X.K J ia)) (hb : PE X b (tJ X.K J ib)) : PE X (.IfExp c a b pos) (tJ X.K J (iIf it ia ib)) :=
  PE.imp (pe_ifExp hc ha hb) fun σ H Q ⟨env, st, ρ, z, st', E, S, hj, h, q⟩ => by
    obtain ⟨k, s1, h1, h⟩ := ob_some h
    refine ⟨env, st, ρ, k, s1, E, S, hj, h1, fun H1 ρ1 G1 S1 => ?_⟩
    cases k with
    | true =>
      rw [if_pos rfl]
      exact ⟨env, s1, ρ1, z, st', E.grow S G1, S1, hJ S G1 hj, h, fun v H2 ρ2 G2 S2 R2 => q v H2 ρ2 (G1.trans G2) S2 R2⟩
    | false =>
      rw [if_neg Bool.false_ne_true]
      exact ⟨env, s1, ρ1, z, st', E.grow S G1, S1, hJ S G1 hj, h, fun v H2 ρ2 G2 S2 R2 => q v H2 ρ2 (G1.trans G2) S2 R2⟩
end
end IL

/-! rules for simp, of what may raise; texts of signs -/
namespace IL
open PySem PySem.Spec PyProof.Rows L2 SX
section
variable {st s s1 s2 : Sto} {env : PEnv} {x y z v : PV} {xs ys : List PV} {ia ib ic ie io : IE} {ix iy : IX} {ir : IA} {iq : IXA} {m k n : Nat} {c f : Str} {t : IT}
@[simp] theorem iOk_e : iOk ie env st = ob (ie env st) fun x s => some (.ok x, s) := rfl
@[simp] theorem iOks_e : iOks ir env st = ob (ir env st) fun x s => some (.ok x, s) := rfl
@[simp] theorem iCallX_e {F : FX} : iCallX F ir env st = ob (ir env st) fun xs s => F xs s := rfl
@[simp] theorem iConsX_e : iConsX ix iq env st = ob (ix env st) fun r s => match r with
  | .ok x => ob (iq env s) fun r2 s2 => match r2 with
    | .ok xs => some (.ok (x :: xs), s2)
    | .er c fs => some (.er c fs, s2)
  | .er c fs => some (.er c fs, s) := rfl
@[simp] theorem iTupX_e : iTupX iq env st = ob (iq env st) fun r s => match r with
  | .ok xs => if xs.length ≤ 9000000 then some (.ok (.tup xs), s) else none
  | .er c fs => some (.er c fs, s) := rfl
@[simp] theorem iAsgX_e {g : IG} : iAsgX g ix env st = ob (ix env st) fun r s => match r with
  | .ok x => (match g x env s with
    | some env' => some (.nx env' s)
    | none => none)
  | .er c fs => some (.er env c fs s) := rfl
@[simp] theorem iRetX_e : iRetX ix env st = ob (ix env st) fun r s => match r with
  | .ok x => some (.rt x s)
  | .er c fs => some (.er env c fs s) := rfl
@[simp] theorem iRaise_e {okP : PV → Bool} : iRaise c f okP ie env st = ob (ie env st) fun x s => if okP x then some (.er env c [(f, x)] s) else none := rfl
@[simp] theorem iIfX_e : iIfX t ix iy env st = ob (t env st) fun b s => if b then ix env s else iy env s := rfl
@[simp] theorem okPI_i {i : Int} : okPI (.int i) = decide (i.natAbs < 10 ^ 30) := rfl
@[simp] theorem iExF_e {fs : List (Str × PV)} : iExF fs f env st = (fs.lookup f).map fun x => (x, st) := rfl
@[simp] theorem fIntS_s {a : Str} : fIntS (.str a) st = if a.length ≤ 640 then (PySem.intText? a).map fun n => (.int n, st) else none := rfl
@[simp] theorem fIntS_i {i : Int} : fIntS (.int i) st = some (.int i, st) := rfl
@[simp] theorem iEnumT_e : iEnumT ir env st = ob (ir env st) fun xs s => match xs with
  | [.str x] => some (srcEnT x, s)
  | _ => none := rfl
theorem defX_rt {nN : Nat} {b : IS} (hl : xs.length = n) (h : b (xs.map some ++ List.replicate (nN - n) none) st = some (.rt v s)) : iDefX n nN b xs st = some (.ok v, gcS st s v) := by
  unfold iDefX
  rw [if_pos hl, h]
theorem defX_er {nN : Nat} {b : IS} {e : PEnv} {fs : List (Str × PV)} (hl : xs.length = n) (h : b (xs.map some ++ List.replicate (nN - n) none) st = some (.er e c fs s)) : iDefX n nN b xs st = some (.er c fs, s) := by
  unfold iDefX
  rw [if_pos hl, h]
/-- the value has no number: the store is as it was -/
theorem defX_pure {nN : Nat} {b : IS} {l : Sto} (hl : xs.length = n) (h : b (xs.map some ++ List.replicate (nN - n) none) st = some (.rt v (st ++ l))) (hv : nr v = true) : iDefX n nN b xs st = some (.ok v, st) := by
  rw [defX_rt hl h, gc_app (rlt_nr _ hv)]
theorem defX_pure0 {nN : Nat} {b : IS} (hl : xs.length = n) (h : b (xs.map some ++ List.replicate (nN - n) none) st = some (.rt v st)) (hv : nr v = true) : iDefX n nN b xs st = some (.ok v, st) := by
  rw [defX_rt hl h, gc_id (rlt_nr _ hv)]
theorem set_last {a b : SO} : (st ++ [a]).set st.length b = st ++ [b] := by
  have := List.set_append_right (s := st) (t := [a]) st.length b (Nat.le_refl _)
  rw [this]
  simp
end
/-! ### texts -/
section
variable {st : Sto} {l : List Nat}
theorem cut_SX (lo hi : Nat) : cutS (S l) (some (lo : Int)) (some (hi : Int)) = S ((l.drop lo).take (hi - lo)) := by
  unfold cutS
  rw [HT.sIx_nat, HT.sIx_nat, S_len]
  refine congrArg S ?_
  show (l.drop (min lo l.length)).take (min hi l.length - min lo l.length) = _
  by_cases h : lo ≤ l.length
  · rw [Nat.min_eq_left h]
    by_cases h2 : hi ≤ l.length
    · rw [Nat.min_eq_left h2]
    · rw [show min hi l.length = l.length by omega]
      rw [List.take_of_length_le (by rw [List.length_drop]; omega), List.take_of_length_le (by rw [List.length_drop]; omega)]
  · rw [show min lo l.length = l.length by omega]
    rw [List.drop_eq_nil_of_le (Nat.le_refl _), List.drop_eq_nil_of_le (by omega)]
    simp
theorem fSl_SX {lo hi : Nat} (hl : l.length ≤ 9000000) : fSl (.str (S l)) (some (lo : Int)) (some (hi : Int)) st = some (.str (S ((l.drop lo).take (hi - lo))), st) := by
  show (if (S l).length ≤ 9000000 then some (PV.str (cutS (S l) (some (lo : Int)) (some (hi : Int))), st) else none) = _
  rw [S_len, if_pos hl, cut_SX]
/-- one sign -/
theorem fSl_1 {p q : Int} {i : Nat} (hl : l.length ≤ 9000000) (hp : p = (i : Int)) (hq : q = ((i + 1 : Nat) : Int)) : fSl (.str (S l)) (some p) (some q) st = some (.str (S ((l.drop i).take 1)), st) := by
  rw [hp, hq, fSl_SX hl, show i + 1 - i = 1 by omega]
theorem fSl_to {p : Int} {i : Nat} (hl : l.length ≤ 9000000) (hp : p = (i : Int)) : fSl (.str (S l)) none (some p) st = some (.str (S (l.take i)), st) := by
  show (if (S l).length ≤ 9000000 then some (PV.str (cutS (S l) none (some p)), st) else none) = _
  rw [S_len, if_pos hl, hp]
  unfold cutS
  rw [HT.sIx_nat, HT.sIx_none, S_len]
  have e : (l.drop 0).take (min i l.length - 0) = l.take i := by
    rw [List.drop_zero, Nat.sub_zero]
    by_cases h : i ≤ l.length
    · rw [Nat.min_eq_left h]
    · rw [show min i l.length = l.length by omega, List.take_of_length_le (Nat.le_refl _), List.take_of_length_le (by omega)]
  show some (PV.str (S ((l.drop 0).take (min i l.length - 0))), st) = _
  rw [e]
theorem fSl_from {p : Int} {i : Nat} (hl : l.length ≤ 9000000) (hp : p = (i : Int)) : fSl (.str (S l)) (some p) none st = some (.str (S (l.drop i)), st) := by
  show (if (S l).length ≤ 9000000 then some (PV.str (cutS (S l) (some p) none), st) else none) = _
  rw [S_len, if_pos hl, hp]
  unfold cutS
  rw [HT.sIx_nat, HT.sIx_none, S_len]
  have e : (l.drop (min i l.length)).take (l.length - min i l.length) = l.drop i := by
    by_cases h : i ≤ l.length
    · rw [Nat.min_eq_left h, List.take_of_length_le (by rw [List.length_drop]; omega)]
    · rw [show min i l.length = l.length by omega, List.drop_eq_nil_of_le (Nat.le_refl _), List.drop_eq_nil_of_le (by omega)]
      simp
  show some (PV.str (S ((l.drop (min i l.length)).take (l.length - min i l.length))), st) = _
  rw [e]
/-- good for == -/
def okL (l : List Nat) : Prop := ∀ c ∈ l, c < 1114112
theorem okL_iff : PyData.strOk (S l) = true ↔ okL l := ok_iff
theorem okL.drop (h : okL l) (i : Nat) : okL (l.drop i) := fun c hc => h c (List.mem_of_mem_drop hc)
theorem okL.take (h : okL l) (i : Nat) : okL (l.take i) := fun c hc => h c (List.mem_of_mem_take hc)
theorem okL.app {m : List Nat} (h : okL l) (h2 : okL m) : okL (l ++ m) := fun c hc => (List.mem_append.mp hc).elim (h c) (h2 c)
theorem eqP_SX {a b : List Nat} (ha : okL a) (hb : okL b) : eqP st (.str (S a)) (.str (S b)) = some (decide (a = b)) := by
  rw [eqP_s, okL_iff.mpr ha, okL_iff.mpr hb]
  simp only [Bool.and_self, if_true]
  rw [S_beq_eq]
/-- the first sign is c -/
theorem eqP_hd {c : Nat} {b : Str} (hb : b = S [c]) (hc : c < 1114112) (h : okL l) : eqP st (.str (S (l.take 1))) (.str b) = some (decide (l.head? = some c)) := by
  rw [hb, eqP_SX (h.take 1) (fun d hd => by rw [List.mem_singleton] at hd; rw [hd]; exact hc)]
  cases l with
  | nil => simp
  | cons d r => simp
/-- lo <= the first sign <= hi -/
theorem ltS_hd_lo {c : Nat} {b : Str} (hb : b = S [c]) : ltS (S (l.take 1)) b = (match l.head? with
  | some d => decide (d < c)
  | none => true) := by
  subst hb
  cases l with
  | nil => rfl
  | cons d r => exact ltS_lo d c
theorem ltS_hd_hi {c : Nat} {b : Str} (hb : b = S [c]) : ltS b (S (l.take 1)) = (match l.head? with
  | some d => decide (c < d)
  | none => false) := by
  subst hb
  cases l with
  | nil => rfl
  | cons d r => exact ltS_lo c d
end
end IL

/-! x in a tuple of data of any depth -/
namespace IL
open PySem PySem.Spec PyProof.Rows L2 SX
def rInDT (K : PySem.W.Frag) : R2 := fun x y H Q => ∃ d ds, Dp K H x d ∧ Dp K H y (.tuple ds) ∧ SeqAt.shaped d = true ∧ SeqAt.shaped (.tuple ds) = true ∧ Q (.bl (ds.any fun z => PyData.eqv z d)) H
theorem op_inDT {X : Cx} (hu : X.A.units + 65 < cLine) : OpR X (compareOp .In) (rInDT X.K) := by
  intro pins s σ H x y v u Q I rx ry h
  obtain ⟨d, ds, hd, he, sd, se, q⟩ := h
  obtain ⟨as, r1⟩ := Dp.reads I d x v hd rx
  obtain ⟨bs, r2⟩ := Dp.reads I (.tuple ds) y u he ry
  exact SeqAt.in_tuple_reads r2 r1 (SeqAt.canLay_of_shaped se) (SeqAt.canLay_of_shaped sd) (room_in_shaped sd hu) ⟨.bl _, H, I, rfl, q⟩
def inT (st : Sto) (x y : PV) : Option Bool := match toD st 70 x, toD st 70 y with
  | some d, some (.tuple ds) => if SeqAt.shaped d && SeqAt.shaped (.tuple ds) then some (ds.any fun z => PyData.eqv z d) else none
  | _, _ => none
def inC (st : Sto) (x y : PV) : Option Bool := match inB st x y with
  | some b => some b
  | none => inT st x y
def fInC : F2 := fun x y st => (inC st x y).map fun b => (.bl b, st)
def rInC (K : PySem.W.Frag) : R2 := fun x y H Q => rInAll K x y H Q ∨ rInDT K x y H Q
theorem op_inC {X : Cx} (hu : X.A.units + 65 < cLine) : OpR X (compareOp .In) (rInC X.K) := OpR.or (op_inAll (by omega)) (op_inDT hu)
theorem f_inC {K : PySem.W.Frag} : OpI K (rInC K) fInC := by
  intro H ρ st x y vx vy z st' Q S Rx Ry h q
  obtain ⟨b, e, hz⟩ := map_some h
  unfold inC at e
  split at e
  · rename_i b' e1
    cases e
    refine .inl (f_inB H ρ st x y vx vy z st' Q S Rx Ry ?_ q)
    unfold fInB
    rw [e1]
    exact congrArg some hz
  · cases hz
    unfold inT at e
    split at e
    · rename_i d ds e1 e2
      split at e
      · rename_i hs
        rw [Bool.and_eq_true] at hs
        cases e
        exact .inr ⟨d, ds, toD_dp S _ _ _ _ Rx e1, toD_dp S _ _ _ _ Ry e2, hs.1, hs.2, q (.bl _) H ρ Grow.refl S (by unfold Rep; rfl)⟩
      · cases e
    · cases e
@[simp] theorem fInC_e {st : Sto} {x y : PV} : fInC x y st = (inC st x y).map fun b => (.bl b, st) := rfl
@[simp] theorem inC_s {st : Sto} {a : Str} {ys : List PV} {ws : List V} (h : mapO flatP ys = some ws) : inC st (.str a) (.tup ys) = some (inV (.str a) ws) := by
  unfold inC
  rw [inB_st, h]
  rfl
theorem inC_B {st : Sto} {x y : PV} {b : Bool} (h : inB st x y = some b) : inC st x y = some b := by
  unfold inC
  rw [h]
end IL
namespace IL
open PySem PySem.Spec PyProof.Rows L2 SX
/-! ### "a" * k, k up to 1, too -/
def fMulA : F2 := fun x y st => match fMul x y st with
  | some r => some r
  | none => match x, y with
    | .str a, .int k => if -1000 ≤ k ∧ k ≤ 1 then some (.str (Txt.mul a k), st) else none
    | _, _ => none
def rMulS1 : R2 := fun x y H Q => ∃ a k, x = .str a ∧ y = .int k ∧ (-1000 ≤ k ∧ k ≤ 1) ∧ Q (.str (Txt.mul a k)) H
theorem op_mulS1 {X : Cx} : OpR X (binaryOp .Mult) rMulS1 := by
  intro pins s σ H x y v u Q I rx ry h
  obtain ⟨a, k, rfl, rfl, ⟨h0, h1⟩, q⟩ := h
  obtain ⟨t, rfl⟩ := rx
  obtain ⟨t', rfl⟩ := ry
  have hk : ¬ k < 1 → (k == 1 || a.length == 0) = false → False := fun h2 h3 => by
    have : k = 1 := by omega
    subst this
    simp at h3
  refine PySem.SB.mul ⟨?_, fun h2 h3 => (hk h2 h3).elim, fun h2 h3 => (hk h2 h3).elim⟩ fun tk k' => ⟨.str _, H, I.tok _, ⟨_, rfl⟩, q⟩
  rw [decide_eq_false (by omega), decide_eq_false (by omega)]; rfl
def rMulA (K : PySem.W.Frag) : R2 := fun x y H Q => rMul K x y H Q ∨ rMulS1 x y H Q
theorem op_mulA {X : Cx} : OpR X (binaryOp .Mult) (rMulA X.K) := OpR.or op_mulI op_mulS1
theorem f_mulA {K : PySem.W.Frag} : OpI K (rMulA K) fMulA := by
  intro H ρ st x y vx vy z st' Q S Rx Ry h q
  unfold fMulA at h
  split at h
  · rename_i r e
    exact .inl (f_mul H ρ st x y vx vy z st' Q S Rx Ry (e.trans h) q)
  · cases x with
    | str a =>
      cases y with
      | int k =>
        simp only at h
        split at h
        · rename_i hk
          cases h
          unfold Rep at Rx Ry
          exact .inr ⟨a, k, Rx, Ry, hk, q _ H ρ Grow.refl S (by unfold Rep; rfl)⟩
        · cases h
      | _ => cases h
    | _ => cases h
@[simp] theorem fMulA_i {m n : Int} {st : Sto} : fMulA (.int m) (.int n) st = if cMul m n then some (.int (m * n), st) else none := by
  unfold fMulA
  rw [fMul_i]
  cases cMul m n <;> rfl
theorem fMulA_s {a : Str} {k : Int} {st : Sto} (h : cRep a.length k = true) : fMulA (.str a) (.int k) st = some (.str (repStr a k.toNat), st) := by
  have : fMul (.str a) (.int k) st = some (.str (repStr a k.toNat), st) := by
    show (if cRep a.length k then some (PV.str (repStr a k.toNat), st) else none) = _
    rw [h]
    rfl
  unfold fMulA
  rw [this]
theorem fMulA_s1 {a : Str} {k : Int} {st : Sto} (h0 : -1000 ≤ k) (h1 : k ≤ 1) : fMulA (.str a) (.int k) st = some (.str (Txt.mul a k), st) := by
  have hc : cRep a.length k = false := by
    rw [Bool.eq_false_iff]
    intro h
    have := cRep_of h
    omega
  have : fMul (.str a) (.int k) st = none := by
    show (if cRep a.length k then some (PV.str (repStr a k.toNat), st) else none) = _
    rw [hc]
    rfl
  unfold fMulA
  rw [this]
  show (if -1000 ≤ k ∧ k ≤ 1 then some (PV.str (Txt.mul a k), st) else none) = _
  rw [if_pos ⟨h0, h1⟩]
end IL

set_option maxHeartbeats 2000000
/-! iterators of tuples at their end, where an exception is handled -/
namespace IL
open PySem PySem.Spec PyProof.Rows L2 HotX
section
variable {prog : Program} {w : World} {A : Around} {E : Value → Shared → Prop} {s : Shared}
theorem tuple_over_hot {it t x1 : Addr} {k : Nat} {row : Array Value} {R : Option Value → Shared → Prop} (hot : HotAt A x1 s.heap) (walk : s.heap.IsTupleIter it t k) (seq : s.heap.IsTuple t row) (over : row[k]? = none) (apart : x1 ≠ it)
    (fin : ∀ h', Heap.ExtBut it s.heap h' → R none { s with heap := h' }) : wpAny (model prog w) A (pyNext (.ref it)) R E s := by
  obtain ⟨oi, gi, ci, di⟩ := id walk
  obtain ⟨ot, gt, _, nt, dt⟩ := seq
  obtain ⟨hand, ox, vx, gx, dx, cx⟩ := hot
  have slot := F.slot_tuple_iterator_next
  unfold pyNext
  refine wpAny_bind (wpAny_attempt (wpAny_callSpecial?_slot (name := Str.ofString "__next__") walk.typeIs slot (wpAny_call_entry slot walk.typeIs F.entry_tuple_iterator_next ?_ (F.args_tuple_iterator_next_1 _))))
  show wpAny _ _ (field (Value.ref it) 0 >>= _) _ _ s
  refine wpAny_bind (wpAny_field gi di (x := Value.ref t) rfl ?_)
  show wpAny _ _ (if (Value.ref t == Value.none) = true then _ else _) _ _ _
  rw [if_neg (by exact Bool.false_ne_true)]
  show wpAny _ _ (field (Value.ref it) 1 >>= _) _ _ s
  refine wpAny_bind (wpAny_field gi di (x := Value.int k 0) rfl ?_)
  show wpAny _ _ (seqItems? (Value.ref t) >>= _) _ _ s
  refine wpAny_bind (wpAny_seqItems gt dt ?_)
  simp only [over, Int.toNat_natCast]
  refine wpAny_bind (wpAny_rule (wpAny_bind (wpAny_setField gi di (by simp) (?_ : wpAny _ _ (newExc (.type "StopIteration") [] >>= _) _ _ _))))
  refine wpAny_bind ?_
  simp only [newTuple, newExc]
  refine wpAny_bind (wpAny_newObj_type (wpAny_bind (m := firstArgMember _ _) (wpAny_of_eq (a := Value.none) (by first | rfl | (simp only [firstArgMember]; rfl)) (wpAny_newObj_type ?_ (by size_fits)))) (by size_fits))
  have gx2 := (Heap.get?_update_other s.heap (Obj.mapFields (·.setIfInBounds 0 Value.none)) (Ne.symm apart)).trans gx
  have gx3 := Heap.get?_push_of_some { cls := .type "tuple", data := .seq #[] } gx2
  refine raiseNew_hot ⟨hand, ox, vx, Heap.get?_push_of_some _ gx3, dx, cx⟩ (Nat.ne_of_lt (Heap.lt_size gx3)) (Heap.get?_push_size _ rfl) rfl (by simp; omega) ?_
  refine wpAny_bind (wpAny_isInstance (T := "StopIteration") (b := true) ⟨_, Heap.get?_update_self _ (Heap.get?_push_size _ rfl) rfl, rfl⟩ isSubtype_stop (wpAny_pure (fin _ fun b o hb e => ?_)))
  have e3 := Heap.get?_push_of_some { cls := .type "tuple", data := .seq #[] } ((Heap.get?_update_other s.heap (Obj.mapFields (·.setIfInBounds 0 Value.none)) (Ne.symm hb)).trans e)
  exact (Heap.get?_update_other _ _ (Nat.ne_of_gt (Heap.lt_size e3))).trans (Heap.get?_push_of_some _ e3)
end
open L2H
/-- a walk over a tuple there -/
theorem turn_tupH {P : Program} {w : World} {K : PySem.W.Frag} {tg : Expr} (a it : Addr) : TurnH P w K tg (Itt K a) [it] it (fun i h => h.IsTupleIter it a i) := by
  refine ⟨by simp, fun i h st b hb => ?_, fun i h h' st k => st.at fun o e => k it (by simp) o e, ?_, ?_, fun _ _ _ _ _ st h => wpAny_pyIter_tupleiter st h⟩
  · rw [List.mem_singleton] at hb
    subst hb
    obtain ⟨o, e, _, d⟩ := st
    exact ⟨o, e, fun v z => by rw [d] at z; cases z⟩
  · intro X eP ew eK hc i pins s σ H E I hf st hg
    subst eP ew eK
    obtain ⟨xs, x, hq, hx⟩ := hg
    obtain ⟨its, rv, tup, _⟩ := I.tuple hq
    obtain ⟨u, hu, ru⟩ := rv.get hx
    obtain ⟨n0, n1, _, n3, n4, n5⟩ := hf it (by simp)
    refine wpAny_pyNext_tuple_item st (show s.heap.IsTuple a its.toArray from tup) (x := u) (by simpa using hu) fun h2 st2 same => ?_
    have J : Inv X pins σ H { s with heap := h2 } := I.turned (t' := s.toks) (fun b o hb e => (same.2 b hb).trans e) n0 n1 n3 n4 n5
    obtain ⟨o, e, c, d⟩ := id st2
    refine ⟨u, rfl, go_of (s := { s with heap := h2 }) e c d (by decide) ⟨x, H, J, ru, ⟨rfl, fun ys hy => ?_⟩, st2, fun b hb => (hf b hb).1⟩⟩
    rw [I.tuple_inj hy hq]
    exact hx
  · intro X eP ew eK hc i pins s σ H E I hf st hg
    subst eP ew eK
    obtain ⟨xs, hq, hx⟩ := hg
    obtain ⟨its, rv, tup, _⟩ := I.tuple hq
    obtain ⟨n0, n1, _, n3, n4, n5⟩ := hf it (by simp)
    obtain ⟨p, ⟨hand, vs, ep, cp⟩, hp⟩ := hc
    have hl := rv.length
    have gp := (I.pin p (List.mem_append_left _ hp)).1
    have apart : p.1 ≠ it := n5 p (List.mem_append_left _ hp)
    exact tuple_over_hot ⟨hand, p.2, vs, gp, ep, cp⟩ st (show s.heap.IsTuple a its.toArray from tup) (by simp; omega) apart fun h2 eb => ⟨rfl, I.turned (t' := s.toks) (fun b o hb e => eb b o hb e) n0 n1 n3 n4 n5⟩
theorem pi_tupH {X : Cx} {tg l : Expr} {tl : TE} (hl : PE X l tl) : PIH X tg l (L2.iTup X.K tl) := by
  constructor
  intro pins s σ H R I h
  refine thn (hl.run pins s σ H _ I h) fun v s1 ⟨x, H1, I1, r1, a, e, ⟨xs, hq⟩, q⟩ => ?_
  subst e
  cases r1
  obtain ⟨its, _, tup, _⟩ := I1.tuple hq
  refine wpAny_pyIter_tuple (show s1.heap.IsTuple a its.toArray from tup) ⟨s1.heap.objs.size, [s1.heap.objs.size], _, _, H1, rfl, I1.kept (t' := s1.toks) fun b o e => Heap.get?_push_of_some _ e, turn_tupH a _, ⟨_, Heap.get?_push_size _ rfl, rfl, rfl⟩, fun b hb => ?_, q⟩
  rw [List.mem_singleton] at hb
  subst hb
  exact I1.fpOk (Nat.le_refl _) (I1.hok.fresh (Nat.le_refl _))
end IL

set_option maxHeartbeats 2000000
/-! a comprehension's block that keeps the pins of what is around it -/
namespace IL
open PySem PySem.Spec PyProof.Rows L2 HotX L2H
/-- the block of a comprehension, with the pins around it -/
abbrev blkP (X : Cx) (s : Shared) (H : Hp) (scope : Scope) (cenv : PySem.Env) (fp : List Addr) : Cx := { X.blk s H scope cenv fp with pn := X.pn }
theorem blk_pins {X : Cx} {pins : List (Addr × Obj)} {σ σ' : L2.St} {H : Hp} {s s' : Shared} {scope : Scope} {cenv : PySem.Env} {fp : List Addr} (I : Inv X pins σ H s) (J : Inv (X.blk s H scope cenv fp) [] σ' H s') (kp : ∀ b o, s.heap.get? b = some o → s'.heap.get? b = some o) (hL : cenv.locals = s.heap.objs.size) :
    Inv (blkP X s H scope cenv fp) [] σ' H s' := by
  have k := J.ok
  refine ⟨⟨k.mod, k.kind, k.glob, k.blt, k.above, k.inj, k.has, k.cab, k.hd, k.frames, k.stk, k.exf, k.bs, k.bsz, k.noex, k.exfs, k.funs, k.frf⟩, J.os, J.bare, J.base, J.loc, J.cell, J.free, J.freeC, fun p hp => ?_, J.hok, J.len⟩
  have hp' : p ∈ X.pn := by simpa using hp
  have q := I.pin p (List.mem_append_left _ hp')
  refine ⟨kp _ _ q.1, q.2.1, ?_, ?_, q.2.2.2.2⟩
  · show p.1 ≠ cenv.locals
    rw [hL]
    exact Nat.ne_of_lt (Heap.lt_size q.1)
  · exact fun hm => (List.mem_cons.mp (I.stkSub p.1 hm)).elim q.2.2.1 q.2.2.2.1
theorem hot_blk {X : Cx} {s : Shared} {H : Hp} {scope : Scope} {cenv : PySem.Env} {fp : List Addr} (h : HotC X) : HotC (blkP X s H scope cenv fp) := h
end IL

set_option maxHeartbeats 2000000
/-! a comprehension where an exception is handled -/
namespace IL
open PySem PySem.Spec PyProof.Rows L2 HotX L2H
section
variable {X : Cx}
theorem lc_hot {pins : List (Addr × Obj)} {s : Shared} {σ : L2.St} {H : Hp} {Q : VK} {elt tg iter : Expr} {ifs : List Expr} {scope : Scope} {own : List (Str × Nat)} {pos pos' : Pos} {wi : TI} {g : TG} {tt : TT} {te : TE} {use : Option (Value → Sem Unit)} {Qf : Value → Shared → Prop}
    (hot : HotC X) (nd : X.N.Nodup) (Iv : Inv X pins σ H s) (walk : PIH X tg iter wi) (ok : BlkOk X.N X.env.scope scope own)
    (gg : ∀ (s : Shared) (H : Hp) (C : Addr) (cl : List (Str × Addr)) (fp : List Addr), PG (blkP X s H scope (compEnvC scope cl C X.env) fp) tg g) (gt : ∀ (s : Shared) (H : Hp) (C : Addr) (cl : List (Str × Addr)) (fp : List Addr), PTs (blkP X s H scope (compEnvC scope cl C X.env) fp) ifs tt)
    (ge : ∀ (s : Shared) (H : Hp) (C : Addr) (cl : List (Str × Addr)) (fp : List Addr), PE (blkP X s H scope (compEnvC scope cl C X.env) fp) elt te) (fold : ∀ x, foldedSetIterable iter X.env x = pure x)
    (wish : tLc wi g tt te (own.map (·.2)) σ H Q)
    (after : ∀ D C s' m H', Inv X pins σ H' s' → Q (.ref D) H' → s'.heap.Ns C m → FpOk X pins H' C → compPost (model X.prog X.w) X.A X.xe use Qf (.ref D) C (.ok .next) s') :
    wpAny (model X.prog X.w) X.A (comprehension (.ListComp elt [⟨tg, iter, ifs, 0⟩] scope pos) scope X.env pos' (newList []) false (eval iter X.env) use) Qf X.xe s := by
  have free : ∀ y ∈ scope.names, y.2 = .free → ∃ c, X.env.cells.lookup y.1 = some c := fun y hy e =>
    (ok.free y hy e).elim (fun k => Iv.ok.has _ (.inl k)) fun k => Iv.ok.has _ (.inr k)
  refine wpAny_comprehension_free (use := use) rfl fold (closure_ok free) ok.kind (fun y hy e => by rw [ok.uniq y hy, e]) (thn (walk.run pins s σ H _ Iv wish) fun xv t1 at1 => thn at1 fun itv t2 at2 => ?_)
  obtain ⟨it, fp, tn, J, Ha, e, Ia, T, sta, fra, q⟩ := at2
  subst e
  refine wpAny_newObj_type (newEnv_comp ?_) (by show 0 ≤ sizeLine; decide)
  generalize eD : t2.heap.objs.size = D
  have nD : Ha D = none := Ia.hok.fresh (Nat.le_of_eq eD)
  obtain ⟨W, ⟨m0, w0⟩, turn⟩ := q D nD
  generalize e3 : ({ t2 with heap := t2.heap.push { cls := .type "list", data := .seq ([] : List Value).toArray } } : Shared) = t3
  have Ib : Inv X pins σ (upd Ha D (.lst [])) t3 := by
    subst e3
    refine Ia.laid (t' := t2.toks) (fun b o e => Heap.get?_push_of_some _ e) (Nat.le_of_eq eD) ⟨Nat.zero_le _, [], 0, .nil, ?_⟩
    subst eD
    exact Heap.get?_push_size _ rfl
  have hp3 : t3.heap = t2.heap.push { cls := .type "list", data := .seq ([] : List Value).toArray } := by subst e3; rfl
  have low : ∀ b ∈ fp, b < t2.heap.objs.size := fun b hb => by
    obtain ⟨o, e, _⟩ := T.obj _ _ sta b hb
    exact Heap.lt_size e
  have frb : ∀ b ∈ fp, FpOk X pins (upd Ha D (.lst [])) b ∧ b < t3.heap.objs.size := fun b hb => by
    have lt := low b hb
    constructor
    · refine ⟨?_, (fra b hb).2⟩
      rw [upd_ne (by subst eD; exact Nat.ne_of_lt lt)]
      exact (fra b hb).1
    · rw [hp3, Heap.size_push]
      exact Nat.lt_succ_of_lt lt
  have stb : tn 0 t3.heap := T.keep _ _ _ sta fun b _ o e => by rw [hp3]; exact Heap.get?_push_of_some _ e
  have Ic0 := block_start Ib ok nd frb
  have Ic := blk_pins Ib Ic0 (fun b o e => pushCells_keeps _ _ _ _ (Heap.get?_push_of_some _ e)) rfl
  have pg := gg t3 (upd Ha D (.lst [])) t3.heap.objs.size (cellsFrom (t3.heap.objs.size + 1) scope.names (cloFrom X.env.cells scope.names [])) fp
  have pt := gt t3 (upd Ha D (.lst [])) t3.heap.objs.size (cellsFrom (t3.heap.objs.size + 1) scope.names (cloFrom X.env.cells scope.names [])) fp
  have pe := ge t3 (upd Ha D (.lst [])) t3.heap.objs.size (cellsFrom (t3.heap.objs.size + 1) scope.names (cloFrom X.env.cells scope.names [])) fp
  show codeAny _ _ (.compStart (.ListComp elt [⟨tg, iter, ifs, 0⟩] scope pos) 0 (.ref it) (.ref D) (compEnvC scope (cellsFrom (t3.heap.objs.size + 1) scope.names (cloFrom X.env.cells scope.names [])) t3.heap.objs.size X.env)) (compPost (model X.prog X.w) X.A X.xe use Qf (.ref D) t3.heap.objs.size) { t3 with heap := pushCells (t3.heap.push { cls := .type "dict", data := .dict #[] }) scope.names }
  have nfp : ∀ b ∈ fp, (upd Ha D (.lst [])) b = none := fun b hb => (frb b hb).1.1
  generalize ece : compEnvC scope (cellsFrom (t3.heap.objs.size + 1) scope.names (cloFrom X.env.cells scope.names [])) t3.heap.objs.size X.env = ce at Ic pg pt pe ⊢
  have cL : ce.locals = t3.heap.objs.size := by subst ece; rfl
  generalize eH : upd Ha D (.lst []) = Hb at Ib Ic pg pt pe w0 nfp frb
  generalize e4 : ({ t3 with heap := pushCells (t3.heap.push { cls := .type "dict", data := .dict #[] }) scope.names } : Shared) = t4 at Ic ⊢
  have stc : tn 0 t4.heap := T.keep _ _ _ stb fun b _ o e => by subst e4; exact pushCells_keeps _ _ _ _ (Heap.get?_push_of_some _ e)
  have stat : ∀ {σ' : L2.St} {H' : Hp} {s' : Shared}, Inv (blkP X t3 Hb scope ce fp) [] σ' H' s' → (∀ b ∈ fp, H' b = none) → ∀ b ∈ fp, FpOk (blkP X t3 Hb scope ce fp) [] H' b := fun {σ' H' s'} I' hn b hb =>
    ⟨hn b hb, (I'.ok.exf b hb).1, I'.ok.exfs b hb, .inl hb, fun x c e => (I'.ok.exf b hb).2 x c e, fun p hp => (frb b hb).1.2.2.2.2.2 p (List.mem_append_left _ (by simpa using hp))⟩
  have hotB : HotC (blkP X t3 Hb scope ce fp) := hot_blk hot
  have loop : codeAny (model X.prog X.w) X.A (.compLoop (.ListComp elt [⟨tg, iter, ifs, 0⟩] scope pos) 0 (.ref it) (.ref D) ce) (compPost (model X.prog X.w) X.A X.xe use Qf (.ref D) t3.heap.objs.size) t4 := by
    refine compLoop_any (fun n s' => ∃ i H', Inv (blkP X t3 Hb scope ce fp) [] (wipe σ (own.map (·.2))) H' s' ∧ tn i s'.heap ∧ (∀ b ∈ fp, H' b = none) ∧ W i n H') ?_ m0 ⟨0, Hb, Ic, stc, nfp, w0⟩
    rintro n t5 ⟨i, Hc, Id, std, nd5, w5⟩
    rcases turn i n Hc w5 with ⟨stop, qq⟩ | ⟨go, Nx, hNx, step⟩
    · refine thnF (T.done (blkP X t3 Hb scope ce fp) rfl rfl rfl hotB i [] t5 _ Hc (fun _ _ => False) Id (stat Id nd5) std stop) fun r t6 ⟨hr, If⟩ => ?_
      subst hr
      have Ig : Inv X pins σ Hc t6 := Ib.call' (ch := fp) If.os If.base If.hok If.bare fun b hb => ⟨(frb b hb).1.2.2.2.1, (frb b hb).1.2.1, (frb b hb).1.2.2.2.2.1, (frb b hb).1.2.2.2.2.2⟩
      have nC : Hc t3.heap.objs.size = none := cL ▸ (If.free : Hc ce.locals = none)
      obtain ⟨m, ns, _⟩ := If.loc
      have ns' : t6.heap.Ns t3.heap.objs.size m := cL ▸ (ns : t6.heap.Ns ce.locals m)
      exact after D _ t6 m Hc Ig qq ns' (Ib.fpOk (Nat.le_refl _) nC)
    · refine thnF (T.item (blkP X t3 Hb scope ce fp) rfl rfl rfl hotB i [] t5 _ Hc (fun _ _ => False) Id (stat Id nd5) std go) fun r t6 ⟨u, hr, at6⟩ => ?_
      subst hr
      refine thnF at6 fun _ t7 ⟨x, He, If, rx, yx, stf, nf⟩ => ?_
      have If' := If.pinned (stat If nf) (T.obj _ _ stf)
      refine thnF (pg.run _ t7 _ He x u _ If' rx (step x He yx)) fun _ t8 ⟨σ8, Hg, Ig, wp8, q8⟩ => ?_
      refine thnF (pt.run _ t8 σ8 Hg _ Ig q8) fun b t9 ⟨Hh, Ih, q9⟩ => ?_
      have over : ∀ {s' : Shared} {H' : Hp}, Inv (blkP X t3 Hb scope ce fp) ([] ++ pinsAt fp t7.heap) σ8 H' s' → Nx H' → ∃ m, m < n ∧ ∃ i H', Inv (blkP X t3 Hb scope ce fp) [] (wipe σ (own.map (·.2))) H' s' ∧ tn i s'.heap ∧ (∀ b ∈ fp, H' b = none) ∧ W i m H' := fun {s' H'} I' nx => by
        obtain ⟨m', lt, w'⟩ := hNx H' nx
        have stays : ∀ b ∈ fp, ∀ o, t7.heap.get? b = some o → s'.heap.get? b = some o ∧ H' b = none := fun b hb o e =>
          have z := I'.pin (b, o) (List.mem_append_right _ (List.mem_append_right _ (mem_pinsAt hb e)))
          ⟨z.1, z.2.1⟩
        refine ⟨m', lt, i + 1, H', (I'.unpinned (pins := [])).weak (by rw [← wp8, wipe_length]) (fun j v e => ?_), T.keep _ _ _ stf fun b hb o e => (stays b hb o e).1, fun b hb => ?_, w'⟩
        · rw [← wp8] at e
          exact (wipe_some e).1
        · obtain ⟨o, e, _⟩ := T.obj _ _ stf b hb
          exact (stays b hb o e).2
      cases b with
      | false =>
        simp only [if_false, Bool.false_eq_true] at q9 ⊢
        exact over Ih q9
      | true =>
        simp only [if_true] at q9 ⊢
        refine thnF (pe.run _ t9 σ8 Hh _ Ih q9) fun z t10 ⟨yv, Hi, Ii, ry, acc, hD, hz, nx⟩ => ?_
        exact app_ok (X := blkP X t3 Hb scope ce fp) Ii hD hz ry fun t11 Ij => over Ij nx
  exact codeAny_compStart_list loop (T.self X.A 0 _ _ _ stc loop)
/-- as a value -/
theorem pe_lcH {elt tg iter : Expr} {ifs : List Expr} {scope : Scope} {own : List (Str × Nat)} {pos : Pos} {wi : TI} {g : TG} {tt : TT} {te : TE} (hot : HotC X) (nd : X.N.Nodup) (walk : PIH X tg iter wi) (ok : BlkOk X.N X.env.scope scope own)
    (gg : ∀ (s : Shared) (H : Hp) (C : Addr) (cl : List (Str × Addr)) (fp : List Addr), PG (blkP X s H scope (compEnvC scope cl C X.env) fp) tg g) (gt : ∀ (s : Shared) (H : Hp) (C : Addr) (cl : List (Str × Addr)) (fp : List Addr), PTs (blkP X s H scope (compEnvC scope cl C X.env) fp) ifs tt)
    (ge : ∀ (s : Shared) (H : Hp) (C : Addr) (cl : List (Str × Addr)) (fp : List Addr), PE (blkP X s H scope (compEnvC scope cl C X.env) fp) elt te) (fold : ∀ x, foldedSetIterable iter X.env x = pure x := by intro _; rfl) :
    PE X (.ListComp elt [⟨tg, iter, ifs, 0⟩] scope pos) (tLc wi g tt te (own.map (·.2))) := by
  constructor
  intro pins s σ H Q I h
  rw [eval_ListComp]
  refine lc_hot hot nd I walk ok gg gt ge fold h fun D C s' m H' I' q hn ⟨f0, f1, _, f3, f4, f5⟩ => ⟨m, hn, fun h2 same => ?_⟩
  exact ⟨.ref D, H', I'.turned (t' := s'.toks) (fun b o hb e => (same.2 b hb).trans e) f0 f1 f3 f4 f5, rfl, q⟩
end
end IL

set_option maxHeartbeats 2000000
/-! all(xs) of a list where an exception is handled -/
namespace IL
open PySem PySem.Spec PyProof.Rows L2 HotX L2H
section
variable {prog : Program} {w : World} {A : Around} {E : Value → Shared → Prop} {s : Shared}
theorem list_over_hot {it t x1 : Addr} {k : Nat} {row : Array Value} {R : Option Value → Shared → Prop} (hot : HotAt A x1 s.heap) (walk : s.heap.IsListIter it t k) (seq : s.heap.IsList t row) (over : row[k]? = none) (apart : x1 ≠ it)
    (fin : ∀ h', Heap.ExtBut it s.heap h' → R none { s with heap := h' }) : wpAny (model prog w) A (pyNext (.ref it)) R E s := by
  obtain ⟨oi, gi, ci, di⟩ := id walk
  obtain ⟨ot, gt, _, nt, dt⟩ := seq
  obtain ⟨hand, ox, vx, gx, dx, cx⟩ := hot
  have slot := slot_listiter_next
  unfold pyNext
  refine wpAny_bind (wpAny_attempt (wpAny_callSpecial?_slot (name := Str.ofString "__next__") walk.typeIs slot (wpAny_call_entry slot walk.typeIs entry_listiter_next ?_ (args_listiter_next _))))
  show wpAny _ _ (field (Value.ref it) 0 >>= _) _ _ s
  refine wpAny_bind (wpAny_field gi di (x := Value.ref t) rfl ?_)
  show wpAny _ _ (if (Value.ref t == Value.none) = true then _ else _) _ _ _
  rw [if_neg (by exact Bool.false_ne_true)]
  show wpAny _ _ (field (Value.ref it) 1 >>= _) _ _ s
  refine wpAny_bind (wpAny_field gi di (x := Value.int k 0) rfl ?_)
  show wpAny _ _ (seqItems? (Value.ref t) >>= _) _ _ s
  refine wpAny_bind (wpAny_seqItems gt dt ?_)
  simp only [over, Int.toNat_natCast]
  refine wpAny_bind (wpAny_rule (wpAny_bind (wpAny_setField gi di (by simp) (?_ : wpAny _ _ (newExc (.type "StopIteration") [] >>= _) _ _ _))))
  refine wpAny_bind ?_
  simp only [newTuple, newExc]
  refine wpAny_bind (wpAny_newObj_type (wpAny_bind (m := firstArgMember _ _) (wpAny_of_eq (a := Value.none) (by first | rfl | (simp only [firstArgMember]; rfl)) (wpAny_newObj_type ?_ (by size_fits)))) (by size_fits))
  have gx2 := (Heap.get?_update_other s.heap (Obj.mapFields (·.setIfInBounds 0 Value.none)) (Ne.symm apart)).trans gx
  have gx3 := Heap.get?_push_of_some { cls := .type "tuple", data := .seq #[] } gx2
  refine raiseNew_hot ⟨hand, ox, vx, Heap.get?_push_of_some _ gx3, dx, cx⟩ (Nat.ne_of_lt (Heap.lt_size gx3)) (Heap.get?_push_size _ rfl) rfl (by simp; omega) ?_
  refine wpAny_bind (wpAny_isInstance (T := "StopIteration") (b := true) ⟨_, Heap.get?_update_self _ (Heap.get?_push_size _ rfl) rfl, rfl⟩ isSubtype_stop (wpAny_pure (fin _ fun b o hb e => ?_)))
  have e3 := Heap.get?_push_of_some { cls := .type "tuple", data := .seq #[] } ((Heap.get?_update_other s.heap (Obj.mapFields (·.setIfInBounds 0 Value.none)) (Ne.symm hb)).trans e)
  exact (Heap.get?_update_other _ _ (Nat.ne_of_gt (Heap.lt_size e3))).trans (Heap.get?_push_of_some _ e3)
theorem HotAt.stays {x1 : Addr} {h h2 : Heap} (hot : HotAt A x1 h) (k : ∀ o, h.get? x1 = some o → h2.get? x1 = some o) : HotAt A x1 h2 := by
  obtain ⟨hand, ox, vx, gx, r⟩ := hot
  exact ⟨hand, ox, vx, k _ gx, r⟩
/-- a walk over a list there -/
theorem walks_hot (it t x1 : Addr) (ne : t ≠ it) (apart : x1 ≠ it) (row : Array Value) :
    Walks prog w A it [it, t, x1] [it] row.size (fun i v => row[i]? = some v) (fun i h => h.IsListIter it t i ∧ h.IsList t row ∧ HotAt A x1 h) := by
  refine ⟨fun b hb => by rw [List.mem_singleton] at hb; simp [hb], fun _ _ _ st k => ⟨st.1.at fun o e => k it (by simp) o e, st.2.1.at fun o e => k t (by simp) o e, HotAt.stays st.2.2 fun o e => k x1 (by simp) o e⟩, fun i s Q E lt st q => ?_, fun s Q E st q => ?_, fun _ _ _ _ st q => wpAny_pyIter_listiter st.1 q⟩
  · refine wpAny_pyNext_list_item st.1 st.2.1 (x := row[i]) (by simp [lt]) fun h2 it2 same => ?_
    exact q _ h2 s.toks (by simp [lt]) ⟨it2, st.2.1.extBut same.extBut ne, HotAt.stays st.2.2 fun o e => same.extBut x1 o apart e⟩ fun b o hb e => same.extBut b o (fun z => hb (by simp [z])) e
  · exact list_over_hot st.2.2 st.1 st.2.1 (by simp) apart fun h2 ext => q h2 s.toks fun b o hb e => ext b o (fun z => hb (by simp [z])) e
end
theorem cr_allH {X : Cx} (hot : HotC X) : CallR X (.builtin "all") (rAll X.K) := by
  intro pins s σ H vs us Q I r h
  obtain ⟨a, bs, rfl, hs, q⟩ := h
  obtain ⟨its, rv, hl, _⟩ := I.list hs
  rw [Vals.ref1 r]
  have bools := rv.bls
  obtain ⟨p, ⟨hand, vx, dp, cp⟩, hp⟩ := hot
  have gp := (I.pin p (List.mem_append_left _ hp)).1
  refine call_all_walk (iter_any hl.isList fun s2 e2 st ne => ?_)
  subst e2
  have apart : p.1 ≠ s.heap.objs.size := Nat.ne_of_lt (Heap.lt_size gp)
  refine ⟨_, _, _, _, _, _, _, rfl, walks_hot (A := X.A.in1) _ a p.1 ne apart its.toArray, ⟨st.1, st.2, hand, p.2, vx, Heap.get?_push_of_some _ gp, dp, cp⟩, truth_bools bools, fun h2 tk keep => ⟨.bl _, H, I.kept fun b o eo => keep b o (fun hm => ?_) (Heap.get?_push_of_some _ eo), ?_, q⟩⟩
  · rw [List.mem_singleton] at hm
    exact absurd (hm ▸ Heap.lt_size eo) (Nat.lt_irrefl _)
  · show Value.bool _ = Value.bool _
    rw [bools, ← L2.all_range, List.size_toArray, List.length_map]
end IL

/-! in an except suite something is handled whose context is None: defs can be called there -/
namespace IL
open PySem PySem.Spec PyProof.Rows L2 HotX L2H
theorem hot_suite {X : Cx} {x : Addr} {ox : Obj} {cls : Value} {d : Option Addr} {pl : List (Addr × Obj)} (z : L2N.Zn cls d ox) (hd : ∃ us, ox.data = .fields us) : HotC (X.suite x ((x, ox) :: pl)) :=
  ⟨(x, ox), ⟨rfl, hd.choose, hd.choose_spec, z.2.2 _ hd.choose_spec⟩, List.mem_cons_self⟩
end IL

/-! defs that are called where an exception is handled -/
namespace IL
open PySem PySem.Spec PyProof.Rows L2 HotX L2H
structure CalH (P : Program) (w : World) (K : PySem.W.Frag) (mg : Str → Option PySem.Value) (base : Heap) (k : Nat) (x : Str) (n : Nat) (f : FA) : Prop where
  ex : ∃ (fa : Addr) (fd : FuncData) (ps : List Str), FnH P w K mg base C8.CX0 k fa fd ps (spI K n f) ∧ mg x = some (.ref fa) ∧ PySem.W.keepIn K (.ref fa) = true ∧ Binds K fd ps []
section
variable {X : Cx} {x : Str} {p pos : Pos} {e : Expr} {es : List Expr} {ir : IA} {k j n : Nat} {F : FA}
theorem h_call (c : CalH X.prog X.w X.K X.mg X.base k x n F) (hn : Ar n F) (hr : RoomH j X.A) (hc : HotC X) (hk : k ≤ j) (hg : Gl X x) (ha : PA X (e :: es) (tIA X.K ir))
    (hdb : (x == ("__debug__" : Str)) = false := by decide) (he : starEach (e :: es) X.env = (false, eval e X.env) :: starEach es X.env := by rfl) (hpl : (backTo pos (starEach es X.env)).any (·.1) = false := by rfl) :
    PE X (.Call (.Name x p) (e :: es) [] pos) (tI X.K (iCall F ir)) := by
  obtain ⟨fa, fd, ps, Fn, hm, kp, b⟩ := c.ex
  refine PE.imp (pe_callH (E := fun _ _ _ _ => False) Fn (hr.mono hk) hc hg hm kp b (fun σ => fun _ _ _ _ _ _ h => h.elim) ha hdb he hpl) fun σ H Q ⟨env, st, ρ, z, st', E, S, h, q⟩ => ?_
  obtain ⟨xs, s1, h1, h⟩ := ob_some h
  exact ⟨env, st, ρ, xs, s1, E, S, h1, fun vs H1 ρ1 G1 S1 R1 => ⟨by rw [← R1.length]; exact hn _ _ _ h, s1, ρ1, xs, z, st', S1, R1, h, fun v H' ρ' G S' R' => q v H' ρ' (G1.trans G) S' R'⟩⟩
theorem roomH_suite {a : Addr} {pn : List (Addr × Obj)} (hr : Room j X.A) : RoomH j (X.suite a pn).A := ⟨hr.dp, hr.un⟩
theorem roomH_suite' {a : Addr} {pn : List (Addr × Obj)} (hr : RoomH j X.A) : RoomH j (X.suite a pn).A := ⟨hr.dp, hr.un⟩
end
theorem cal_H {P : Program} {w : World} {K : PySem.W.Frag} {mg : Str → Option PySem.Value} {base : Heap} {x : Str} {st : Stmt} {f : Addr} {fd : FuncData} {N ps : List Str} {k : Nat} {ib : IS} (F : C8.Def K mg x st f fd) (b : Binds K fd ps []) (S : FnScope N ps (C8.fnScope st))
    (hb : ∀ (cdv : PySem.Value) (A : Around) (outer : List PySem.Env) (s : Shared) (H : Hp) (E : XK) (p : Addr × Obj), Hot1 A p → RoomH k (A.deeper (envOfC x (C8.fnScope st) s.heap.objs.size f cdv)) →
      PSs (cxH C8.CX0 P w K mg base N x (C8.fnScope st) f cdv A outer s H E p) (C8.fnBody st) (tIS K W0 ib)) : CalH P w K mg base (k + 1) x ps.length (iDef ps.length N.length ib) := by
  obtain ⟨oc, od, dV, kV, doc, pm, an, cdv, ct, osl, rfl, lk, hcd⟩ := F.fn.ex
  exact ⟨f, _, ps, fn_ofH lk hcd S (fun vs H Q E h => h.1) fun A outer s H vs Q E p hp hr hsp => ⟨_, hb cdv A outer s H E p hp hr, body_to hsp⟩, F.mgf, F.kp, b⟩
end IL

/-! comprehensions over tuples, as plain functions, where an exception is handled -/
namespace IL
open PySem PySem.Spec PyProof.Rows L2 HotX L2H
theorem PIH.impH {X : Cx} {tg iter : Expr} {t t' : TI} (h : PIH X tg iter t) (i : ∀ σ H R, t' σ H R → t σ H R) : PIH X tg iter t' := ⟨fun pins s σ H R I q => h.run pins s σ H R I (i _ _ _ q)⟩
def iWalkT (ie : IE) : II := fun env st => ob (ie env st) fun x s => match x with
  | .tup xs => some (srcT xs, s)
  | _ => none
section
variable {X : Cx} {e : Expr} {ie : IE} {it : IT}
theorem i_walkH {tg : Expr} (he : PE X e (tI X.K ie)) : PIH X tg e (tII X.K (iWalkT ie)) := PIH.impH (pi_tupH he) fun σ H R ⟨env, s, ρ, src, st', E, S, h, q⟩ => by
  obtain ⟨x, s1, h1, h⟩ := ob_some h
  cases x with
  | tup xs =>
    cases h
    refine ⟨env, s, ρ, _, _, E, S, h1, fun v H1 ρ1 G1 S1 R1 => ?_⟩
    unfold Rep at R1
    obtain ⟨a, vs, rfl, t1, t2⟩ := R1
    exact ⟨a, rfl, ⟨vs, t1⟩, q _ H1 ρ1 G1 S1 (srcT_ok S1 t1 t2)⟩
  | _ => cases h
theorem r_lcH {elt tg iter : Expr} {ifs : List Expr} {scope : Scope} {own : List (Str × Nat)} {pos : Pos} {ii : II} {T : List Nat} {ig : IG} (hot : HotC X) (hN : X.N.Nodup) (hi : PIH X tg iter (tII X.K ii)) (ok : BlkOk X.N X.env.scope scope own)
    (hT : ∀ i ∈ T, i ∈ own.map (·.2))
    (hg : ∀ (s : Shared) (H : Hp) (C : Addr) (cl : List (Str × Addr)) (fp : List Addr), PG (blkP X s H scope (compEnvC scope cl C X.env) fp) tg (tIG X.K T ig)) (ht : ∀ (s : Shared) (H : Hp) (C : Addr) (cl : List (Str × Addr)) (fp : List Addr), PTs (blkP X s H scope (compEnvC scope cl C X.env) fp) ifs (tIT X.K it))
    (he : ∀ (s : Shared) (H : Hp) (C : Addr) (cl : List (Str × Addr)) (fp : List Addr), PE (blkP X s H scope (compEnvC scope cl C X.env) fp) elt (tI X.K ie)) (hs : ∀ x, foldedSetIterable iter X.env x = pure x := by intro _; rfl) :
    PE X (.ListComp elt [⟨tg, iter, ifs, 0⟩] scope pos) (tI X.K (iLc ii ig it ie (own.map (·.2)))) :=
  PE.imp (pe_lcH hot hN hi ok hg ht he hs) fun _ _ _ h => lc_to hT h
end
end IL

namespace J11
open PySem PySem.Spec PyProof.Rows L2 IL CwR HotX L2H
/-! ## the program's defs as plain functions -/
def top (i : Nat) : Stmt := PySem.Challenge.pw_flowreprise_k11_written_values.main.body.getD i (.Pass ⟨0, 0, 0, 0⟩)
abbrev s_is_type : Stmt := top 10
theorem sc_is_type : FnScope ["kind", "inner", "depth"] ["kind"] (C8.fnScope s_is_type) := ⟨rfl, rfl, rfl, by decide +kernel, rfl, by decide +kernel, by decide +kernel⟩
abbrev s_is_letter : Stmt := top 11
theorem sc_is_letter : FnScope ["letter"] ["letter"] (C8.fnScope s_is_letter) := ⟨rfl, rfl, rfl, by decide +kernel, rfl, by decide +kernel, by decide +kernel⟩
abbrev s_fits : Stmt := top 12
theorem sc_fits : FnScope ["value", "kind", "item"] ["value", "kind"] (C8.fnScope s_fits) := ⟨rfl, rfl, rfl, by decide +kernel, rfl, by decide +kernel, by decide +kernel⟩
abbrev s_show_type : Stmt := top 13
theorem sc_show_type : FnScope ["kind"] ["kind"] (C8.fnScope s_show_type) := ⟨rfl, rfl, rfl, by decide +kernel, rfl, by decide +kernel, by decide +kernel⟩
abbrev s_show_value : Stmt := top 14
theorem sc_show_value : FnScope ["value", "item"] ["value"] (C8.fnScope s_show_value) := ⟨rfl, rfl, rfl, by decide +kernel, rfl, by decide +kernel, by decide +kernel⟩
abbrev s_read_value : Stmt := top 15
theorem sc_read_value : FnScope ["text"] ["text"] (C8.fnScope s_read_value) := ⟨rfl, rfl, rfl, by decide +kernel, rfl, by decide +kernel, by decide +kernel⟩
abbrev s_read_typed : Stmt := top 16
theorem sc_read_typed : FnScope ["text", "kind"] ["text", "kind"] (C8.fnScope s_read_typed) := ⟨rfl, rfl, rfl, by decide +kernel, rfl, by decide +kernel, by decide +kernel⟩
abbrev s__read_whole : Stmt := top 17
theorem sc__read_whole : FnScope ["text", "wanted", "value", "behind", "_"] ["text", "wanted"] (C8.fnScope s__read_whole) := ⟨rfl, rfl, rfl, by decide +kernel, rfl, by decide +kernel, by decide +kernel⟩
abbrev s__read_at : Stmt := top 18
theorem sc__read_at : FnScope ["text", "at", "wanted", "depth", "first", "letters", "behind", "number", "word", "value"] ["text", "at", "wanted", "depth"] (C8.fnScope s__read_at) := ⟨rfl, rfl, rfl, by decide +kernel, rfl, by decide +kernel, by decide +kernel⟩
abbrev s__read_list : Stmt := top 19
theorem sc__read_list : FnScope ["text", "at", "wanted", "depth", "known", "items", "here", "item", "sign"] ["text", "at", "wanted", "depth"] (C8.fnScope s__read_list) := ⟨rfl, rfl, rfl, by decide +kernel, rfl, by decide +kernel, by decide +kernel⟩
abbrev s__read_text : Stmt := top 20
theorem sc__read_text : FnScope ["text", "at", "letters", "here", "letter"] ["text", "at"] (C8.fnScope s__read_text) := ⟨rfl, rfl, rfl, by decide +kernel, rfl, by decide +kernel, by decide +kernel⟩
abbrev s__read_number : Stmt := top 21
theorem sc__read_number : FnScope ["text", "at", "is_negative", "here", "digit", "number"] ["text", "at"] (C8.fnScope s__read_number) := ⟨rfl, rfl, rfl, by decide +kernel, rfl, by decide +kernel, by decide +kernel⟩
abbrev s__read_word : Stmt := top 22
theorem sc__read_word : FnScope ["text", "at", "word", "k", "letter"] ["text", "at", "word"] (C8.fnScope s__read_word) := ⟨rfl, rfl, rfl, by decide +kernel, rfl, by decide +kernel, by decide +kernel⟩
abbrev s__is_digit : Stmt := top 23
theorem sc__is_digit : FnScope ["letter"] ["letter"] (C8.fnScope s__is_digit) := ⟨rfl, rfl, rfl, by decide +kernel, rfl, by decide +kernel, by decide +kernel⟩
abbrev s__law_state : Stmt := top 25
theorem sc__law_state : FnScope ["script", "seed", "cell"] ["script"] (C8.fnScope s__law_state) := ⟨rfl, rfl, rfl, by decide +kernel, rfl, by decide +kernel, by decide +kernel⟩
abbrev s__law_draw : Stmt := top 26
theorem sc__law_draw : FnScope ["state", "many", "cells", "mixed", "value"] ["state", "many"] (C8.fnScope s__law_draw) := ⟨rfl, rfl, rfl, by decide +kernel, rfl, by decide +kernel, by decide +kernel⟩
abbrev s__law_pick : Stmt := top 27
theorem sc__law_pick : FnScope ["state", "row"] ["state", "row"] (C8.fnScope s__law_pick) := ⟨rfl, rfl, rfl, by decide +kernel, rfl, by decide +kernel, by decide +kernel⟩
abbrev s__law_type : Stmt := top 28
theorem sc__law_type : FnScope ["state", "deep"] ["state", "deep"] (C8.fnScope s__law_type) := ⟨rfl, rfl, rfl, by decide +kernel, rfl, by decide +kernel, by decide +kernel⟩
abbrev s__law_value : Stmt := top 29
theorem sc__law_value : FnScope ["state", "kind", "many", "k"] ["state", "kind"] (C8.fnScope s__law_value) := ⟨rfl, rfl, rfl, by decide +kernel, rfl, by decide +kernel, by decide +kernel⟩
abbrev s__law_shown : Stmt := top 30
theorem sc__law_shown : FnScope ["value", "item", "char"] ["value"] (C8.fnScope s__law_shown) := ⟨rfl, rfl, rfl, by decide +kernel, rfl, by decide +kernel, by decide +kernel⟩
abbrev s__law_shown_type : Stmt := top 31
theorem sc__law_shown_type : FnScope ["kind", "inner", "depth"] ["kind"] (C8.fnScope s__law_shown_type) := ⟨rfl, rfl, rfl, by decide +kernel, rfl, by decide +kernel, by decide +kernel⟩
abbrev s_law : Stmt := top 32
theorem sc_law : FnScope ["script", "state", "values", "k", "one", "kind", "value", "text", "other", "told", "e"] ["script"] (C8.fnScope s_law) := ⟨rfl, rfl, rfl, by decide +kernel, rfl, by decide +kernel, by decide +kernel⟩
abbrev s_WrittenError___init__ : Stmt := inClass (top 2) 0
theorem sc_WrittenError___init__ : FnScope ["self", "at"] ["self", "at"] (C8.fnScope s_WrittenError___init__) := ⟨rfl, rfl, rfl, by decide +kernel, rfl, by decide +kernel, by decide +kernel⟩
abbrev I_is_type : Nat := 0
abbrev I_is_letter : Nat := 1
abbrev I_fits : Nat := 2
abbrev I_show_type : Nat := 3
abbrev I_show_value : Nat := 4
abbrev I_read_value : Nat := 5
abbrev I_read_typed : Nat := 6
abbrev I__read_whole : Nat := 7
abbrev I__read_at : Nat := 8
abbrev I__read_list : Nat := 9
abbrev I__read_text : Nat := 10
abbrev I__read_number : Nat := 11
abbrev I__read_word : Nat := 12
abbrev I__is_digit : Nat := 13
abbrev I__law_state : Nat := 14
abbrev I__law_draw : Nat := 15
abbrev I__law_pick : Nat := 16
abbrev I__law_type : Nat := 17
abbrev I__law_value : Nat := 18
abbrev I__law_shown : Nat := 19
abbrev I__law_shown_type : Nat := 20
abbrev I_law : Nat := 21
abbrev I_fitsH : Nat := 22
abbrev N_law : List Str := ["script", "state", "values", "k", "one", "kind", "value", "text", "other", "told", "e"]
def allStrs : List Str := ([" ", "~", "list", "[", "]", "int", "bool", "true", "false", "text", "\"", "\"\"", ", ", "nothing", "WrittenError", "at"] : List Str) ++ (["-", ",", "", "0", "9", "a", "a b, c]", "t", "f", "n"] : List Str)
def Sx (i : Nat) : Str := allStrs.getD i ""
abbrev S_x20 : Str := Sx 0
abbrev S_x7e : Str := Sx 1
abbrev S_list : Str := Sx 2
abbrev S_x5b : Str := Sx 3
abbrev S_x5d : Str := Sx 4
abbrev S_int : Str := Sx 5
abbrev S_bool : Str := Sx 6
abbrev S_true : Str := Sx 7
abbrev S_false : Str := Sx 8
abbrev S_text : Str := Sx 9
abbrev S_x22 : Str := Sx 10
abbrev S_x22x22 : Str := Sx 11
abbrev S_x2cx20 : Str := Sx 12
abbrev S_nothing : Str := Sx 13
abbrev S_WrittenError : Str := Sx 14
abbrev S_at : Str := Sx 15
abbrev S_x2d : Str := Sx 16
abbrev S_x2c : Str := Sx 17
abbrev S_ : Str := Sx 18
abbrev S_0 : Str := Sx 19
abbrev S_9 : Str := Sx 20
abbrev S_a : Str := Sx 21
abbrev S_ax20bx2cx20cx5d : Str := Sx 22
abbrev S_t : Str := Sx 23
abbrev S_f : Str := Sx 24
abbrev S_n : Str := Sx 25
@[simp] theorem Sx_eq {i j : Nat} (hi : i < 26) (hj : j < 26) : (Sx i == Sx j) = decide (i = j) := (by decide +kernel : ∀ i : Fin 26, ∀ j : Fin 26, (Sx i == Sx j) = decide (i.val = j.val)) ⟨i, hi⟩ ⟨j, hj⟩
@[simp] theorem Sx_inj {i j : Nat} (hi : i < 26) (hj : j < 26) : (Sx i = Sx j) = (i = j) := propext ⟨fun e => by have h := Sx_eq hi hj; rw [e] at h; exact of_decide_eq_true (h.symm.trans (beq_self_eq_true _)), fun e => by rw [e]⟩
@[simp] theorem Sx_ok {i : Nat} (hi : i < 26) : PyData.strOk (Sx i) = true := (by decide +kernel : ∀ i : Fin 26, PyData.strOk (Sx i) = true) ⟨i, hi⟩
def lens : List Nat := [1, 1, 4, 1, 1, 3, 4, 4, 5, 4, 1, 2, 2, 7, 12, 2, 1, 1, 0, 1, 1, 1, 7, 1, 1, 1]
@[simp] theorem Sx_len {i : Nat} (hi : i < 26) : (Sx i).length = lens.getD i 0 := (by decide +kernel : ∀ i : Fin 26, (Sx i).length = lens.getD i 0) ⟨i, hi⟩
@[simp] theorem eqP_S {st : Sto} {i j : Nat} (hi : i < 26) (hj : j < 26) : eqP st (.str (Sx i)) (.str (Sx j)) = some (decide (i = j)) := by rw [eqP_s, Sx_ok hi, Sx_ok hj, Sx_eq hi hj]; rfl
abbrev c_SIMPLE_KINDS : PV := (.tup [(.str S_int), (.str S_bool), (.str S_text), (.str S_nothing)])
abbrev c_MOST_NUMBER : PV := (.int 1000000000000)
abbrev c_MOST_LETTERS : PV := (.int 60)
abbrev c_MOST_ITEMS : PV := (.int 20)
abbrev c_MOST_DEPTH : PV := (.int 6)
abbrev tab_WORDS : List (Str × PV) := [(S_t, (.tup [(.str S_true), (.tup [(.str S_bool), (.bl true)])])), (S_f, (.tup [(.str S_false), (.tup [(.str S_bool), (.bl false)])])), (S_n, (.tup [(.str S_nothing), (.tup [(.str S_nothing)])]))]
noncomputable def b_is_type (F : Nat → FA) (G : Nat → FX) : IS := (iSeq (iAsg (gN 1) (iVar 0)) (iSeq (iAsg (gN 2) (iC (.int 0))) (iSeq (iWhile (iTest (iCall (a2 fIsi) (iCons (iVar 1) (iCons (iC (.ty "tuple")) iNil)))) (iSeq (iAsg (gN 1) (iBin fSubB (iVar 1) (iC (.int 1)))) (iAugAdd 2 (iC (.int 1))))) (iRet (iAndV (iBin fInC (iVar 1) (iC c_SIMPLE_KINDS)) (iBin fLe (iVar 2) (iC c_MOST_DEPTH)))))))
noncomputable def b_is_letter (F : Nat → FA) (G : Nat → FX) : IS := (iRet (iChain fLe fLe (iC (.str S_x20)) (iVar 0) (iC (.str S_x7e))))
noncomputable def b_fits (F : Nat → FA) (G : Nat → FX) : IS := (iSeq (iIfS (iTestB (iBin fEqB (iBin fSubB (iVar 0) (iC (.int 0))) (iC (.str S_list)))) (iRet (iAndV (iCall (a2 fIsi) (iCons (iVar 1) (iCons (iC (.ty "tuple")) iNil))) (iCall (a1 fAll) (iCons (iNew (iLc (iWalk (iBin fSubB (iVar 0) (iC (.int 1)))) (gN 2) iYes (iCall (F I_fits) (iCons (iVar 2) (iCons (iBin fSubB (iVar 1) (iC (.int 1))) iNil))) [2])) iNil)))) iSkip) (iRet (iBin fEqB (iBin fSubB (iVar 0) (iC (.int 0))) (iVar 1))))
noncomputable def b_show_type (F : Nat → FA) (G : Nat → FX) : IS := (iSeq (iIfS (iTest (iCall (a2 fIsi) (iCons (iVar 0) (iCons (iC (.ty "tuple")) iNil)))) (iRet (iBin fAdd (iBin fAdd (iC (.str S_x5b)) (iCall (F I_show_type) (iCons (iBin fSubB (iVar 0) (iC (.int 1))) iNil))) (iC (.str S_x5d)))) iSkip) (iRet (iVar 0)))
noncomputable def b_show_value (F : Nat → FA) (G : Nat → FX) : IS := (iSeq (iIfS (iTestB (iBin fEqB (iBin fSubB (iVar 0) (iC (.int 0))) (iC (.str S_int)))) (iRet (iCall (a1 fStr) (iCons (iBin fSubB (iVar 0) (iC (.int 1))) iNil))) iSkip) (iSeq (iIfS (iTestB (iBin fEqB (iBin fSubB (iVar 0) (iC (.int 0))) (iC (.str S_bool)))) (iRet (iIf (iTest (iBin fSubB (iVar 0) (iC (.int 1)))) (iC (.str S_true)) (iC (.str S_false)))) iSkip) (iSeq (iIfS (iTestB (iBin fEqB (iBin fSubB (iVar 0) (iC (.int 0))) (iC (.str S_text)))) (iRet (iBin fAdd (iBin fAdd (iC (.str S_x22)) (iRep (iBin fSubB (iVar 0) (iC (.int 1))) S_x22 S_x22x22)) (iC (.str S_x22)))) iSkip) (iSeq (iIfS (iTestB (iBin fEqB (iBin fSubB (iVar 0) (iC (.int 0))) (iC (.str S_list)))) (iRet (iBin fAdd (iBin fAdd (iC (.str S_x5b)) (iJoin (iC (.str S_x2cx20)) (iNew (iLc (iWalk (iBin fSubB (iVar 0) (iC (.int 1)))) (gN 1) iYes (iCall (F I_show_value) (iCons (iVar 1) iNil)) [1])))) (iC (.str S_x5d)))) iSkip) (iRet (iC (.str S_nothing)))))))
noncomputable def b_read_value (F : Nat → FA) (G : Nat → FX) : IS := (iRetX (iCallX (G I__read_whole) (iCons (iVar 0) (iCons (iC .non) iNil))))
noncomputable def b_read_typed (F : Nat → FA) (G : Nat → FX) : IS := (iSeq (iIfS (iNot (iTest (iCall (F I_is_type) (iCons (iVar 1) iNil)))) (iRaise S_WrittenError S_at okPI (iC (.int 0))) iSkip) (iRetX (iCallX (G I__read_whole) (iCons (iVar 0) (iCons (iVar 1) iNil)))))
noncomputable def b__read_whole (F : Nat → FA) (G : Nat → FX) : IS := (iSeq (iAsgX (gT 3 (gCs (gN 2) (gCs (gN 3) (gCs (gN 4) gNs)))) (iCallX (G I__read_at) (iCons (iVar 0) (iCons (iC (.int 0)) (iCons (iVar 1) (iCons (iC (.int 0)) iNil)))))) (iSeq (iIfS (iTestB (iBin fLt (iVar 3) (iCall (a1 fLenB) (iCons (iVar 0) iNil)))) (iRaise S_WrittenError S_at okPI (iVar 3)) iSkip) (iRet (iVar 2))))
noncomputable def b__read_at (F : Nat → FA) (G : Nat → FX) : IS := (iSeq (iAsg (gN 4) (iSl fSl (iVar 0) (iPart (iVar 1)) (iPart (iBin fAdd (iVar 1) (iC (.int 1)))))) (iSeq (iIfS (iAnd (iTestB (iBin fEqB (iVar 4) (iC (.str S_x5b)))) (iAnd (iTestB (iBin fLt (iVar 3) (iC c_MOST_DEPTH))) (iOr (iTestB (iBin fIs (iVar 2) (iC .non))) (iTest (iCall (a2 fIsi) (iCons (iVar 2) (iCons (iC (.ty "tuple")) iNil))))))) (iRetX (iCallX (G I__read_list) (iCons (iVar 0) (iCons (iVar 1) (iCons (iVar 2) (iCons (iVar 3) iNil)))))) iSkip) (iSeq (iIfS (iAnd (iTestB (iBin fEqB (iVar 4) (iC (.str S_x22)))) (iTestB (iBin fInC (iVar 2) (iTup (iCons (iC .non) (iCons (iC (.str S_text)) iNil)))))) (iSeq (iAsgX (gT 2 (gCs (gN 5) (gCs (gN 6) gNs))) (iCallX (G I__read_text) (iCons (iVar 0) (iCons (iVar 1) iNil)))) (iRet (iTup (iCons (iTup (iCons (iC (.str S_text)) (iCons (iVar 5) iNil))) (iCons (iVar 6) (iCons (iC (.str S_text)) iNil)))))) iSkip) (iSeq (iIfS (iAnd (iOr (iTestB (iBin fEqB (iVar 4) (iC (.str S_x2d)))) (iTest (iCall (F I__is_digit) (iCons (iVar 4) iNil)))) (iTestB (iBin fInC (iVar 2) (iTup (iCons (iC .non) (iCons (iC (.str S_int)) iNil)))))) (iSeq (iAsgX (gT 2 (gCs (gN 7) (gCs (gN 6) gNs))) (iCallX (G I__read_number) (iCons (iVar 0) (iCons (iVar 1) iNil)))) (iRet (iTup (iCons (iTup (iCons (iC (.str S_int)) (iCons (iVar 7) iNil))) (iCons (iVar 6) (iCons (iC (.str S_int)) iNil)))))) iSkip) (iSeq (iIfS (iAnd (iTestB (iUn (fInTab tab_WORDS false) (iVar 4))) (iTestB (iBin fInC (iVar 2) (iTup (iCons (iC .non) (iCons (iBin fSubB (iBin fSubB (iUn (fTab tab_WORDS) (iVar 4)) (iC (.int 1))) (iC (.int 0))) iNil)))))) (iSeq (iAsg (gT 2 (gCs (gN 8) (gCs (gN 9) gNs))) (iUn (fTab tab_WORDS) (iVar 4))) (iRetX (iTupX (iConsX (iOk (iVar 9)) (iConsX (iCallX (G I__read_word) (iCons (iVar 0) (iCons (iVar 1) (iCons (iVar 8) iNil)))) (iOks (iCons (iBin fSubB (iVar 9) (iC (.int 0))) iNil))))))) iSkip) (iRaise S_WrittenError S_at okPI (iVar 1)))))))
noncomputable def b__read_list (F : Nat → FA) (G : Nat → FX) : IS := (iSeq (iAsg (gN 4) (iIf (iTestB (iBin fIs (iVar 2) (iC .non))) (iC .non) (iBin fSubB (iVar 2) (iC (.int 1))))) (iSeq (iAsg (gN 5) (iLst iNil)) (iSeq (iAsg (gN 6) (iBin fAdd (iVar 1) (iC (.int 1)))) (iSeq (iIfS (iTestB (iBin fEqB (iSl fSl (iVar 0) (iPart (iVar 6)) (iPart (iBin fAdd (iVar 6) (iC (.int 1))))) (iC (.str S_x5d)))) (iRet (iTup (iCons (iTup (iCons (iC (.str S_list)) (iCons (iTup iNil) iNil))) (iCons (iBin fAdd (iVar 6) (iC (.int 1))) (iCons (iTup (iCons (iC (.str S_list)) (iCons (iVar 4) iNil))) iNil))))) iSkip) (iWhile (iTest (iC (.bl true))) (iSeq (iAsgX (gT 3 (gCs (gN 7) (gCs (gN 6) (gCs (gN 4) gNs)))) (iCallX (G I__read_at) (iCons (iVar 0) (iCons (iVar 6) (iCons (iVar 4) (iCons (iBin fAdd (iVar 3) (iC (.int 1))) iNil)))))) (iSeq (iDrop (iAppend (iVar 5) (iVar 7))) (iSeq (iAsg (gN 8) (iSl fSl (iVar 0) (iPart (iVar 6)) (iPart (iBin fAdd (iVar 6) (iC (.int 1)))))) (iSeq (iIfS (iTestB (iBin fEqB (iVar 8) (iC (.str S_x5d)))) (iRet (iTup (iCons (iTup (iCons (iC (.str S_list)) (iCons (iCall (a1 fTuple) (iCons (iVar 5) iNil)) iNil))) (iCons (iBin fAdd (iVar 6) (iC (.int 1))) (iCons (iTup (iCons (iC (.str S_list)) (iCons (iVar 4) iNil))) iNil))))) iSkip) (iSeq (iIfS (iOr (iTestB (iBin fNeB (iVar 8) (iC (.str S_x2c)))) (iTestB (iBin fEqB (iCall (a1 fLenB) (iCons (iVar 5) iNil)) (iC c_MOST_ITEMS)))) (iRaise S_WrittenError S_at okPI (iVar 6)) iSkip) (iSeq (iIfS (iTestB (iBin fNeB (iSl fSl (iVar 0) (iPart (iBin fAdd (iVar 6) (iC (.int 1)))) (iPart (iBin fAdd (iVar 6) (iC (.int 2))))) (iC (.str S_x20)))) (iRaise S_WrittenError S_at okPI (iBin fAdd (iVar 6) (iC (.int 1)))) iSkip) (iAugAdd 6 (iC (.int 2))))))))))))))
noncomputable def b__read_text (F : Nat → FA) (G : Nat → FX) : IS := (iSeq (iAsg (gN 2) (iLst iNil)) (iSeq (iAsg (gN 3) (iBin fAdd (iVar 1) (iC (.int 1)))) (iWhile (iTest (iC (.bl true))) (iSeq (iAsg (gN 4) (iSl fSl (iVar 0) (iPart (iVar 3)) (iPart (iBin fAdd (iVar 3) (iC (.int 1)))))) (iSeq (iIfS (iTestB (iBin fEqB (iVar 4) (iC (.str S_x22)))) (iSeq (iIfS (iOr (iTestB (iBin fNeB (iSl fSl (iVar 0) (iPart (iBin fAdd (iVar 3) (iC (.int 1)))) (iPart (iBin fAdd (iVar 3) (iC (.int 2))))) (iC (.str S_x22)))) (iTestB (iBin fEqB (iCall (a1 fLenB) (iCons (iVar 2) iNil)) (iC c_MOST_LETTERS)))) (iRet (iTup (iCons (iJoin (iC (.str S_)) (iVar 2)) (iCons (iBin fAdd (iVar 3) (iC (.int 1))) iNil)))) iSkip) (iAugAdd 3 (iC (.int 1)))) (iIfS (iOr (iNot (iTest (iCall (F I_is_letter) (iCons (iVar 4) iNil)))) (iTestB (iBin fEqB (iCall (a1 fLenB) (iCons (iVar 2) iNil)) (iC c_MOST_LETTERS)))) (iRaise S_WrittenError S_at okPI (iVar 3)) iSkip)) (iSeq (iDrop (iAppend (iVar 2) (iVar 4))) (iAugAdd 3 (iC (.int 1)))))))))
noncomputable def b__read_number (F : Nat → FA) (G : Nat → FX) : IS := (iSeq (iAsg (gN 2) (iBin fEqB (iBin fSubB (iVar 0) (iVar 1)) (iC (.str S_x2d)))) (iSeq (iAsg (gN 3) (iIf (iTest (iVar 2)) (iBin fAdd (iVar 1) (iC (.int 1))) (iVar 1))) (iSeq (iAsg (gN 4) (iSl fSl (iVar 0) (iPart (iVar 3)) (iPart (iBin fAdd (iVar 3) (iC (.int 1)))))) (iSeq (iIfS (iOr (iNot (iTest (iCall (F I__is_digit) (iCons (iVar 4) iNil)))) (iAnd (iTest (iVar 2)) (iTestB (iBin fEqB (iVar 4) (iC (.str S_0)))))) (iRaise S_WrittenError S_at okPI (iVar 3)) iSkip) (iSeq (iAsg (gN 5) (iC (.int 0))) (iSeq (iWhile (iAnd (iTest (iCall (F I__is_digit) (iCons (iVar 4) iNil))) (iTestB (iBin fLe (iBin fAdd (iBin fMulA (iVar 5) (iC (.int 10))) (iCall (a1 fIntS) (iCons (iVar 4) iNil))) (iC c_MOST_NUMBER)))) (iSeq (iAsg (gN 5) (iBin fAdd (iBin fMulA (iVar 5) (iC (.int 10))) (iCall (a1 fIntS) (iCons (iVar 4) iNil)))) (iSeq (iAugAdd 3 (iC (.int 1))) (iAsg (gN 4) (iIf (iTestB (iBin fGt (iVar 5) (iC (.int 0)))) (iSl fSl (iVar 0) (iPart (iVar 3)) (iPart (iBin fAdd (iVar 3) (iC (.int 1))))) (iC (.str S_))))))) (iRet (iTup (iCons (iIf (iTest (iVar 2)) (iUn fNeg (iVar 5)) (iVar 5)) (iCons (iVar 3) iNil))))))))))
noncomputable def b__read_word (F : Nat → FA) (G : Nat → FX) : IS := (iSeq (iFor (iEnumT (iCons (iVar 2) iNil)) (gT 2 (gCs (gN 3) (gCs (gN 4) gNs))) (iIfS (iTestB (iBin fNeB (iSl fSl (iVar 0) (iPart (iBin fAdd (iVar 1) (iVar 3))) (iPart (iBin fAdd (iBin fAdd (iVar 1) (iVar 3)) (iC (.int 1))))) (iVar 4))) (iRaise S_WrittenError S_at okPI (iBin fAdd (iVar 1) (iVar 3))) iSkip)) (iRet (iBin fAdd (iVar 1) (iCall (a1 fLenB) (iCons (iVar 2) iNil)))))
noncomputable def b__is_digit (F : Nat → FA) (G : Nat → FX) : IS := (iRet (iChain fLe fLe (iC (.str S_0)) (iVar 0) (iC (.str S_9))))
noncomputable def b__law_state (F : Nat → FA) (G : Nat → FX) : IS := (iSeq (iAsg (gN 1) (iC (.int 7))) (iSeq (iFor (iWalk (iVar 0)) (gN 2) (iAsg (gN 1) (iBin fMod (iCall (a1 fIntS) (iCons (iBin fAdd (iBin fMulA (iVar 1) (iC (.int 31))) (iVar 2)) iNil)) (iC (.int 1000003))))) (iRet (iLst (iCons (iLc (iWalk (iVar 0)) (gN 2) iYes (iCall (a1 fAbs) (iCons (iVar 2) iNil)) [2]) (iCons (iBin fAdd (iVar 1) (iC (.int 1))) iNil))))))
noncomputable def b__law_draw (F : Nat → FA) (G : Nat → FX) : IS := (iSeq (iIfS (iTestB (iBin fLt (iVar 1) (iC (.int 1)))) (iRet (iC (.int 0))) iSkip) (iSeq (iAsg (gN 2) (iBin fSubB (iVar 0) (iC (.int 0)))) (iSeq (iWhile (iAnd (iTestB (iBin fGt (iCall (a1 fLenB) (iCons (iVar 2) iNil)) (iC (.int 0)))) (iTestB (iBin fEqB (iBin fSubB (iVar 2) (iC (.int 0))) (iC (.int 0))))) (iDrop (iPop0 (iVar 2) (iC (.int 0))))) (iSeq (iIfS (iTestB (iBin fGt (iCall (a1 fLenB) (iCons (iVar 2) iNil)) (iC (.int 0)))) (iSeq (iAsg (gN 4) (iBin fSubB (iVar 2) (iC (.int 0)))) (iSeq (iSetIx fSetA (iVar 2) (iC (.int 0)) (iBin fDiv (iVar 4) (iVar 1))) (iRet (iBin fMod (iCall (a1 fIntS) (iCons (iVar 4) iNil)) (iVar 1))))) iSkip) (iSeq (iAsg (gN 3) (iBin fMod (iCall (a1 fIntS) (iCons (iBin fAdd (iBin fMulA (iBin fSubB (iVar 0) (iC (.int 1))) (iC (.int 48271))) (iC (.int 12345))) iNil)) (iC (.int 2147483647)))) (iSeq (iSetIx fSetA (iVar 0) (iC (.int 1)) (iVar 3)) (iRet (iBin fMod (iCall (a1 fIntS) (iCons (iBin fDiv (iVar 3) (iC (.int 64))) iNil)) (iVar 1)))))))))
noncomputable def b__law_pick (F : Nat → FA) (G : Nat → FX) : IS := (iRet (iBin fSubB (iVar 1) (iCall (F I__law_draw) (iCons (iVar 0) (iCons (iCall (a1 fLenB) (iCons (iVar 1) iNil)) iNil)))))
noncomputable def b__law_type (F : Nat → FA) (G : Nat → FX) : IS := (iSeq (iIfS (iAnd (iTestB (iBin fGt (iVar 1) (iC (.int 0)))) (iTestB (iBin fEqB (iCall (F I__law_draw) (iCons (iVar 0) (iCons (iC (.int 3)) iNil))) (iC (.int 0))))) (iRet (iTup (iCons (iC (.str S_list)) (iCons (iCall (F I__law_type) (iCons (iVar 0) (iCons (iBin fSub (iVar 1) (iC (.int 1))) iNil))) iNil)))) iSkip) (iRet (iCall (F I__law_pick) (iCons (iVar 0) (iCons (iNew (iLst (iCons (iC (.str S_int)) (iCons (iC (.str S_bool)) (iCons (iC (.str S_text)) (iCons (iC (.str S_nothing)) iNil)))))) iNil)))))
noncomputable def b__law_value (F : Nat → FA) (G : Nat → FX) : IS := (iSeq (iIfS (iTestB (iBin fEqB (iVar 1) (iC (.str S_int)))) (iRet (iTup (iCons (iC (.str S_int)) (iCons (iCall (F I__law_pick) (iCons (iVar 0) (iCons (iNew (iLst (iCons (iC (.int 0)) (iCons (iC (.int 1)) (iCons (iUn fNeg (iC (.int 1))) (iCons (iC (.int 10)) (iCons (iUn fNeg (iBin fPow (iC (.int 10)) (iC (.int 12)))) (iCons (iBin fPow (iC (.int 10)) (iC (.int 12))) (iCons (iBin fSub (iCall (F I__law_draw) (iCons (iVar 0) (iCons (iC (.int 1000)) iNil))) (iC (.int 500))) iNil))))))))) iNil))) iNil)))) iSkip) (iSeq (iIfS (iTestB (iBin fEqB (iVar 1) (iC (.str S_bool)))) (iRet (iTup (iCons (iC (.str S_bool)) (iCons (iBin fEqB (iCall (F I__law_draw) (iCons (iVar 0) (iCons (iC (.int 2)) iNil))) (iC (.int 0))) iNil)))) iSkip) (iSeq (iIfS (iTestB (iBin fEqB (iVar 1) (iC (.str S_text)))) (iRet (iTup (iCons (iC (.str S_text)) (iCons (iCall (F I__law_pick) (iCons (iVar 0) (iCons (iNew (iLst (iCons (iC (.str S_)) (iCons (iC (.str S_a)) (iCons (iC (.str S_x22)) (iCons (iC (.str S_x22x22)) (iCons (iC (.str S_ax20bx2cx20cx5d)) (iCons (iBin fMulA (iC (.str S_x7e)) (iC (.int 60))) (iCons (iBin fMulA (iC (.str S_x22)) (iC (.int 60))) (iCons (iC (.str S_true)) iNil)))))))))) iNil))) iNil)))) iSkip) (iSeq (iIfS (iTestB (iBin fEqB (iVar 1) (iC (.str S_nothing)))) (iRet (iTup (iCons (iC (.str S_nothing)) iNil))) iSkip) (iSeq (iAsg (gN 2) (iIf (iAnd (iTestB (iBin fEqB (iCall (F I__law_draw) (iCons (iVar 0) (iCons (iC (.int 30)) iNil))) (iC (.int 0)))) (iNot (iTest (iCall (a2 fIsi) (iCons (iBin fSubB (iVar 1) (iC (.int 1))) (iCons (iC (.ty "tuple")) iNil)))))) (iC (.int 20)) (iCall (F I__law_draw) (iCons (iVar 0) (iCons (iC (.int 4)) iNil))))) (iRet (iTup (iCons (iC (.str S_list)) (iCons (iCall (a1 fTuple) (iCons (iNew (iLc (iRange1 (iCons (iVar 2) iNil)) (gN 3) iYes (iCall (F I__law_value) (iCons (iVar 0) (iCons (iBin fSubB (iVar 1) (iC (.int 1))) iNil))) [3])) iNil)) iNil)))))))))
noncomputable def b__law_shown (F : Nat → FA) (G : Nat → FX) : IS := (iSeq (iIfS (iTestB (iBin fEqB (iBin fSubB (iVar 0) (iC (.int 0))) (iC (.str S_int)))) (iRet (iCall (a1 fStr) (iCons (iBin fSubB (iVar 0) (iC (.int 1))) iNil))) iSkip) (iSeq (iIfS (iTestB (iBin fEqB (iBin fSubB (iVar 0) (iC (.int 0))) (iC (.str S_bool)))) (iRet (iIf (iTest (iBin fSubB (iVar 0) (iC (.int 1)))) (iC (.str S_true)) (iC (.str S_false)))) iSkip) (iSeq (iIfS (iTestB (iBin fEqB (iBin fSubB (iVar 0) (iC (.int 0))) (iC (.str S_text)))) (iRet (iBin fAdd (iBin fAdd (iC (.str S_x22)) (iJoin (iC (.str S_)) (iNew (iLc (iWalk (iBin fSubB (iVar 0) (iC (.int 1)))) (gN 2) iYes (iIf (iTestB (iBin fEqB (iVar 2) (iC (.str S_x22)))) (iC (.str S_x22x22)) (iVar 2)) [2])))) (iC (.str S_x22)))) iSkip) (iSeq (iIfS (iTestB (iBin fEqB (iBin fSubB (iVar 0) (iC (.int 0))) (iC (.str S_nothing)))) (iRet (iC (.str S_nothing))) iSkip) (iRet (iBin fAdd (iBin fAdd (iC (.str S_x5b)) (iJoin (iC (.str S_x2cx20)) (iNew (iLc (iWalk (iBin fSubB (iVar 0) (iC (.int 1)))) (gN 1) iYes (iCall (F I__law_shown) (iCons (iVar 1) iNil)) [1])))) (iC (.str S_x5d))))))))
noncomputable def b__law_shown_type (F : Nat → FA) (G : Nat → FX) : IS := (iSeq (iAsg (gN 1) (iVar 0)) (iSeq (iAsg (gN 2) (iC (.int 0))) (iSeq (iWhile (iTest (iCall (a2 fIsi) (iCons (iVar 1) (iCons (iC (.ty "tuple")) iNil)))) (iSeq (iAsg (gN 1) (iBin fSubB (iVar 1) (iC (.int 1)))) (iAsg (gN 2) (iBin fAdd (iVar 2) (iC (.int 1)))))) (iRet (iBin fAdd (iBin fAdd (iBin fMulA (iC (.str S_x5b)) (iVar 2)) (iVar 1)) (iBin fMulA (iC (.str S_x5d)) (iVar 2)))))))
noncomputable def b_law (F : Nat → FA) (G : Nat → FX) : IS := (iSeq (iAsg (gN 1) (iCall (F I__law_state) (iCons (iVar 0) iNil))) (iSeq (iAsg (gN 2) (iLst iNil)) (iSeq (iFor (iRange1 (iCons (iC (.int 3)) iNil)) (gN 3) (iSeq (iAsg (gN 5) (iCall (F I__law_type) (iCons (iVar 1) (iCons (iC (.int 6)) iNil)))) (iSeq (iAsg (gN 6) (iCall (F I__law_value) (iCons (iVar 1) (iCons (iVar 5) iNil)))) (iSeq (iDrop (iAppend (iVar 2) (iVar 6))) (iSeq (iAsg (gN 7) (iCall (F I__law_shown) (iCons (iVar 6) iNil))) (iSeq (iIfS (iOr (iTestB (iBin fNeB (iCall (F I_show_value) (iCons (iVar 6) iNil)) (iVar 7))) (iOr (iTestB (iBin fNeB (iCall (pureF (G I_read_value)) (iCons (iVar 7) iNil)) (iVar 6))) (iTestB (iBin fNeB (iCall (pureF (G I_read_typed)) (iCons (iVar 7) (iCons (iVar 5) iNil))) (iVar 6))))) (iRet (iC (.bl false))) iSkip) (iSeq (iIfS (iTestB (iBin fNeB (iCall (F I_show_type) (iCons (iVar 5) iNil)) (iCall (F I__law_shown_type) (iCons (iVar 5) iNil)))) (iRet (iC (.bl false))) iSkip) (iSeq (iAsg (gN 8) (iCall (F I__law_type) (iCons (iVar 1) (iCons (iC (.int 4)) iNil)))) (iCatch S_WrittenError (iAsgX (gN 9) (iCallX (G I_read_typed) (iCons (iVar 7) (iCons (iVar 8) iNil)))) 10 (fun fs => (iIfS (iOr (iNot (iTest (iC (.bl true)))) (iOr (iTest (iCall (F I_fitsH) (iCons (iVar 6) (iCons (iVar 8) iNil)))) (iNot (iTestB (iChain fLe fLe (iC (.int 0)) (iExF fs S_at) (iCall (a1 fLenB) (iCons (iVar 7) iNil))))))) (iRet (iC (.bl false))) iSkip)) (iIfS (iOr (iTestB (iBin fNeB (iVar 9) (iVar 6))) (iNot (iTest (iCall (F I_fits) (iCons (iVar 6) (iCons (iVar 8) iNil)))))) (iRet (iC (.bl false))) iSkip)))))))))) (iSeq (iFor (iWalk (iVar 2)) (gN 4) (iFor (iWalk (iVar 2)) (gN 8) (iIfS (iTestB (iBin fNeB (iBin fEqB (iCall (F I_show_value) (iCons (iVar 4) iNil)) (iCall (F I_show_value) (iCons (iVar 8) iNil))) (iBin fEqB (iVar 4) (iVar 8)))) (iRet (iC (.bl false))) iSkip))) (iRet (iC (.bl true)))))))
noncomputable def b_fitsH (F : Nat → FA) (G : Nat → FX) : IS := (iSeq (iIfS (iTestB (iBin fEqB (iBin fSubB (iVar 0) (iC (.int 0))) (iC (.str S_list)))) (iRet (iAndV (iCall (a2 fIsi) (iCons (iVar 1) (iCons (iC (.ty "tuple")) iNil))) (iCall (a1 fAll) (iCons (iNew (iLc (iWalkT (iBin fSubB (iVar 0) (iC (.int 1)))) (gN 2) iYes (iCall (F I_fitsH) (iCons (iVar 2) (iCons (iBin fSubB (iVar 1) (iC (.int 1))) iNil))) [2])) iNil)))) iSkip) (iRet (iBin fEqB (iBin fSubB (iVar 0) (iC (.int 0))) (iVar 1))))
noncomputable def FG : Nat → Nat → FA × FX
  | 0, _ => (fun _ _ => none, fun _ _ => none)
  | n + 1, 0 => (iDef 1 3 (b_is_type (fun i => (FG n i).1) (fun i => (FG n i).2)), fun _ _ => none)
  | n + 1, 1 => (iDef 1 1 (b_is_letter (fun i => (FG n i).1) (fun i => (FG n i).2)), fun _ _ => none)
  | n + 1, 2 => (iDef 2 3 (b_fits (fun i => (FG n i).1) (fun i => (FG n i).2)), fun _ _ => none)
  | n + 1, 3 => (iDef 1 1 (b_show_type (fun i => (FG n i).1) (fun i => (FG n i).2)), fun _ _ => none)
  | n + 1, 4 => (iDef 1 2 (b_show_value (fun i => (FG n i).1) (fun i => (FG n i).2)), fun _ _ => none)
  | n + 1, 5 => (fun _ _ => none, iDefX 1 1 (b_read_value (fun i => (FG n i).1) (fun i => (FG n i).2)))
  | n + 1, 6 => (fun _ _ => none, iDefX 2 2 (b_read_typed (fun i => (FG n i).1) (fun i => (FG n i).2)))
  | n + 1, 7 => (fun _ _ => none, iDefX 2 5 (b__read_whole (fun i => (FG n i).1) (fun i => (FG n i).2)))
  | n + 1, 8 => (fun _ _ => none, iDefX 4 10 (b__read_at (fun i => (FG n i).1) (fun i => (FG n i).2)))
  | n + 1, 9 => (fun _ _ => none, iDefX 4 9 (b__read_list (fun i => (FG n i).1) (fun i => (FG n i).2)))
  | n + 1, 10 => (fun _ _ => none, iDefX 2 5 (b__read_text (fun i => (FG n i).1) (fun i => (FG n i).2)))
  | n + 1, 11 => (fun _ _ => none, iDefX 2 6 (b__read_number (fun i => (FG n i).1) (fun i => (FG n i).2)))
  | n + 1, 12 => (fun _ _ => none, iDefX 3 5 (b__read_word (fun i => (FG n i).1) (fun i => (FG n i).2)))
  | n + 1, 13 => (iDef 1 1 (b__is_digit (fun i => (FG n i).1) (fun i => (FG n i).2)), fun _ _ => none)
  | n + 1, 14 => (iDef 1 3 (b__law_state (fun i => (FG n i).1) (fun i => (FG n i).2)), fun _ _ => none)
  | n + 1, 15 => (iDef 2 5 (b__law_draw (fun i => (FG n i).1) (fun i => (FG n i).2)), fun _ _ => none)
  | n + 1, 16 => (iDef 2 2 (b__law_pick (fun i => (FG n i).1) (fun i => (FG n i).2)), fun _ _ => none)
  | n + 1, 17 => (iDef 2 2 (b__law_type (fun i => (FG n i).1) (fun i => (FG n i).2)), fun _ _ => none)
  | n + 1, 18 => (iDef 2 4 (b__law_value (fun i => (FG n i).1) (fun i => (FG n i).2)), fun _ _ => none)
  | n + 1, 19 => (iDef 1 3 (b__law_shown (fun i => (FG n i).1) (fun i => (FG n i).2)), fun _ _ => none)
  | n + 1, 20 => (iDef 1 3 (b__law_shown_type (fun i => (FG n i).1) (fun i => (FG n i).2)), fun _ _ => none)
  | n + 1, 21 => (iDef 1 11 (b_law (fun i => (FG n i).1) (fun i => (FG n i).2)), fun _ _ => none)
  | n + 1, 22 => (iDef 2 3 (b_fitsH (fun i => (FG n i).1) (fun i => (FG n i).2)), fun _ _ => none)
  | _ + 1, _ => (fun _ _ => none, fun _ _ => none)
noncomputable def FF (n i : Nat) : FA := (FG n i).1
noncomputable def GG (n i : Nat) : FX := (FG n i).2
theorem e_is_type (n : Nat) : FF (n + 1) I_is_type = iDef 1 3 (b_is_type (FF n) (GG n)) := rfl
theorem ar_is_type : ∀ n : Nat, Ar 1 (FF n I_is_type)
  | 0 => fun _ _ _ h => nomatch h
  | n + 1 => by rw [e_is_type]; exact ar_def
theorem e_is_letter (n : Nat) : FF (n + 1) I_is_letter = iDef 1 1 (b_is_letter (FF n) (GG n)) := rfl
theorem ar_is_letter : ∀ n : Nat, Ar 1 (FF n I_is_letter)
  | 0 => fun _ _ _ h => nomatch h
  | n + 1 => by rw [e_is_letter]; exact ar_def
theorem e_fits (n : Nat) : FF (n + 1) I_fits = iDef 2 3 (b_fits (FF n) (GG n)) := rfl
theorem ar_fits : ∀ n : Nat, Ar 2 (FF n I_fits)
  | 0 => fun _ _ _ h => nomatch h
  | n + 1 => by rw [e_fits]; exact ar_def
theorem e_show_type (n : Nat) : FF (n + 1) I_show_type = iDef 1 1 (b_show_type (FF n) (GG n)) := rfl
theorem ar_show_type : ∀ n : Nat, Ar 1 (FF n I_show_type)
  | 0 => fun _ _ _ h => nomatch h
  | n + 1 => by rw [e_show_type]; exact ar_def
theorem e_show_value (n : Nat) : FF (n + 1) I_show_value = iDef 1 2 (b_show_value (FF n) (GG n)) := rfl
theorem ar_show_value : ∀ n : Nat, Ar 1 (FF n I_show_value)
  | 0 => fun _ _ _ h => nomatch h
  | n + 1 => by rw [e_show_value]; exact ar_def
theorem e_read_value (n : Nat) : GG (n + 1) I_read_value = iDefX 1 1 (b_read_value (FF n) (GG n)) := rfl
theorem ar_read_value : ∀ n : Nat, ArX 1 (GG n I_read_value)
  | 0 => fun _ _ _ h => nomatch h
  | n + 1 => by rw [e_read_value]; exact ar_defX
theorem e_read_typed (n : Nat) : GG (n + 1) I_read_typed = iDefX 2 2 (b_read_typed (FF n) (GG n)) := rfl
theorem ar_read_typed : ∀ n : Nat, ArX 2 (GG n I_read_typed)
  | 0 => fun _ _ _ h => nomatch h
  | n + 1 => by rw [e_read_typed]; exact ar_defX
theorem e__read_whole (n : Nat) : GG (n + 1) I__read_whole = iDefX 2 5 (b__read_whole (FF n) (GG n)) := rfl
theorem ar__read_whole : ∀ n : Nat, ArX 2 (GG n I__read_whole)
  | 0 => fun _ _ _ h => nomatch h
  | n + 1 => by rw [e__read_whole]; exact ar_defX
theorem e__read_at (n : Nat) : GG (n + 1) I__read_at = iDefX 4 10 (b__read_at (FF n) (GG n)) := rfl
theorem ar__read_at : ∀ n : Nat, ArX 4 (GG n I__read_at)
  | 0 => fun _ _ _ h => nomatch h
  | n + 1 => by rw [e__read_at]; exact ar_defX
theorem e__read_list (n : Nat) : GG (n + 1) I__read_list = iDefX 4 9 (b__read_list (FF n) (GG n)) := rfl
theorem ar__read_list : ∀ n : Nat, ArX 4 (GG n I__read_list)
  | 0 => fun _ _ _ h => nomatch h
  | n + 1 => by rw [e__read_list]; exact ar_defX
theorem e__read_text (n : Nat) : GG (n + 1) I__read_text = iDefX 2 5 (b__read_text (FF n) (GG n)) := rfl
theorem ar__read_text : ∀ n : Nat, ArX 2 (GG n I__read_text)
  | 0 => fun _ _ _ h => nomatch h
  | n + 1 => by rw [e__read_text]; exact ar_defX
theorem e__read_number (n : Nat) : GG (n + 1) I__read_number = iDefX 2 6 (b__read_number (FF n) (GG n)) := rfl
theorem ar__read_number : ∀ n : Nat, ArX 2 (GG n I__read_number)
  | 0 => fun _ _ _ h => nomatch h
  | n + 1 => by rw [e__read_number]; exact ar_defX
theorem e__read_word (n : Nat) : GG (n + 1) I__read_word = iDefX 3 5 (b__read_word (FF n) (GG n)) := rfl
theorem ar__read_word : ∀ n : Nat, ArX 3 (GG n I__read_word)
  | 0 => fun _ _ _ h => nomatch h
  | n + 1 => by rw [e__read_word]; exact ar_defX
theorem e__is_digit (n : Nat) : FF (n + 1) I__is_digit = iDef 1 1 (b__is_digit (FF n) (GG n)) := rfl
theorem ar__is_digit : ∀ n : Nat, Ar 1 (FF n I__is_digit)
  | 0 => fun _ _ _ h => nomatch h
  | n + 1 => by rw [e__is_digit]; exact ar_def
theorem e__law_state (n : Nat) : FF (n + 1) I__law_state = iDef 1 3 (b__law_state (FF n) (GG n)) := rfl
theorem ar__law_state : ∀ n : Nat, Ar 1 (FF n I__law_state)
  | 0 => fun _ _ _ h => nomatch h
  | n + 1 => by rw [e__law_state]; exact ar_def
theorem e__law_draw (n : Nat) : FF (n + 1) I__law_draw = iDef 2 5 (b__law_draw (FF n) (GG n)) := rfl
theorem ar__law_draw : ∀ n : Nat, Ar 2 (FF n I__law_draw)
  | 0 => fun _ _ _ h => nomatch h
  | n + 1 => by rw [e__law_draw]; exact ar_def
theorem e__law_pick (n : Nat) : FF (n + 1) I__law_pick = iDef 2 2 (b__law_pick (FF n) (GG n)) := rfl
theorem ar__law_pick : ∀ n : Nat, Ar 2 (FF n I__law_pick)
  | 0 => fun _ _ _ h => nomatch h
  | n + 1 => by rw [e__law_pick]; exact ar_def
theorem e__law_type (n : Nat) : FF (n + 1) I__law_type = iDef 2 2 (b__law_type (FF n) (GG n)) := rfl
theorem ar__law_type : ∀ n : Nat, Ar 2 (FF n I__law_type)
  | 0 => fun _ _ _ h => nomatch h
  | n + 1 => by rw [e__law_type]; exact ar_def
theorem e__law_value (n : Nat) : FF (n + 1) I__law_value = iDef 2 4 (b__law_value (FF n) (GG n)) := rfl
theorem ar__law_value : ∀ n : Nat, Ar 2 (FF n I__law_value)
  | 0 => fun _ _ _ h => nomatch h
  | n + 1 => by rw [e__law_value]; exact ar_def
theorem e__law_shown (n : Nat) : FF (n + 1) I__law_shown = iDef 1 3 (b__law_shown (FF n) (GG n)) := rfl
theorem ar__law_shown : ∀ n : Nat, Ar 1 (FF n I__law_shown)
  | 0 => fun _ _ _ h => nomatch h
  | n + 1 => by rw [e__law_shown]; exact ar_def
theorem e__law_shown_type (n : Nat) : FF (n + 1) I__law_shown_type = iDef 1 3 (b__law_shown_type (FF n) (GG n)) := rfl
theorem ar__law_shown_type : ∀ n : Nat, Ar 1 (FF n I__law_shown_type)
  | 0 => fun _ _ _ h => nomatch h
  | n + 1 => by rw [e__law_shown_type]; exact ar_def
theorem e_law (n : Nat) : FF (n + 1) I_law = iDef 1 11 (b_law (FF n) (GG n)) := rfl
theorem ar_law : ∀ n : Nat, Ar 1 (FF n I_law)
  | 0 => fun _ _ _ h => nomatch h
  | n + 1 => by rw [e_law]; exact ar_def
theorem e_fitsH (n : Nat) : FF (n + 1) I_fitsH = iDef 2 3 (b_fitsH (FF n) (GG n)) := rfl
theorem ar_fitsH : ∀ n : Nat, Ar 2 (FF n I_fitsH)
  | 0 => fun _ _ _ h => nomatch h
  | n + 1 => by rw [e_fitsH]; exact ar_def
/-- what the top has left: the built-ins' names, constants, classes; the defs, each at level n -/
structure Tb (P : Program) (w : World) (K : PySem.W.Frag) (mg : Str → Option Value) (base : Heap) (n : Nat) : Prop where
  z_abs : mg "abs" = none
  z_all : mg "all" = none
  z_enumerate : mg "enumerate" = none
  z_int : mg "int" = none
  z_isinstance : mg "isinstance" = none
  z_len : mg "len" = none
  z_range : mg "range" = none
  z_str : mg "str" = none
  z_tuple : mg "tuple" = none
  g_SIMPLE_KINDS : GC K mg "SIMPLE_KINDS" c_SIMPLE_KINDS
  g_MOST_NUMBER : GC K mg "MOST_NUMBER" c_MOST_NUMBER
  g_MOST_LETTERS : GC K mg "MOST_LETTERS" c_MOST_LETTERS
  g_MOST_ITEMS : GC K mg "MOST_ITEMS" c_MOST_ITEMS
  g_MOST_DEPTH : GC K mg "MOST_DEPTH" c_MOST_DEPTH
  t_WORDS : KTab K w mg "WORDS" tab_WORDS
  c_is_type : CalJ P w K mg base (2 * n + 2) "is_type" 1 (FF n I_is_type)
  c_is_letter : CalJ P w K mg base (2 * n + 2) "is_letter" 1 (FF n I_is_letter)
  c_fits : CalJ P w K mg base (2 * n + 2) "fits" 2 (FF n I_fits)
  c_show_type : CalJ P w K mg base (2 * n + 2) "show_type" 1 (FF n I_show_type)
  c_show_value : CalJ P w K mg base (2 * n + 2) "show_value" 1 (FF n I_show_value)
  c_read_value : CalX P w K mg base (2 * n + 2) "read_value" 1 (GG n I_read_value)
  c_read_typed : CalX P w K mg base (2 * n + 2) "read_typed" 2 (GG n I_read_typed)
  c__read_whole : CalX P w K mg base (2 * n + 2) "_read_whole" 2 (GG n I__read_whole)
  c__read_at : CalX P w K mg base (2 * n + 2) "_read_at" 4 (GG n I__read_at)
  c__read_list : CalX P w K mg base (2 * n + 2) "_read_list" 4 (GG n I__read_list)
  c__read_text : CalX P w K mg base (2 * n + 2) "_read_text" 2 (GG n I__read_text)
  c__read_number : CalX P w K mg base (2 * n + 2) "_read_number" 2 (GG n I__read_number)
  c__read_word : CalX P w K mg base (2 * n + 2) "_read_word" 3 (GG n I__read_word)
  c__is_digit : CalJ P w K mg base (2 * n + 2) "_is_digit" 1 (FF n I__is_digit)
  c__law_state : CalJ P w K mg base (2 * n + 2) "_law_state" 1 (FF n I__law_state)
  c__law_draw : CalJ P w K mg base (2 * n + 2) "_law_draw" 2 (FF n I__law_draw)
  c__law_pick : CalJ P w K mg base (2 * n + 2) "_law_pick" 2 (FF n I__law_pick)
  c__law_type : CalJ P w K mg base (2 * n + 2) "_law_type" 2 (FF n I__law_type)
  c__law_value : CalJ P w K mg base (2 * n + 2) "_law_value" 2 (FF n I__law_value)
  c__law_shown : CalJ P w K mg base (2 * n + 2) "_law_shown" 1 (FF n I__law_shown)
  c__law_shown_type : CalJ P w K mg base (2 * n + 2) "_law_shown_type" 1 (FF n I__law_shown_type)
  c_fitsH : CalH P w K mg base (2 * n + 2) "fits" 2 (FF n I_fitsH)
  r_WrittenError : RaiJ P w K mg base 1 "WrittenError" "at" okInt
  h_WrittenError : CatJ K mg "WrittenError"
  at_WrittenError_at : AtJ K "WrittenError" "at"
  is_WrittenError_FlowError : IsJ K mg "WrittenError" "FlowError" true
section
variable {P : Program} {w : World} {K : PySem.W.Frag} {mg : Str → Option Value} {base : Heap} {n : Nat}
theorem k_is_type (T : Tb P w K mg base n) {f : Addr} (cdv : Value) (A : Around) (outer : List PySem.Env) (s : Shared) (H : Hp) (E : XK) (hr : Room (2 * n + 3) (A.deeper (envOfC "is_type" (C8.fnScope s_is_type) s.heap.objs.size f cdv))) :
    PSs (cxOf CX0 P w K mg base ["kind", "inner", "depth"] "is_type" (C8.fnScope s_is_type) f cdv A outer s H E).nox (C8.fnBody s_is_type) (tIS K W0 (b_is_type (FF n) (GG n))) :=
  have nd := sc_is_type.nd
  have hu := hu_of hr
  have hv : (A.deeper (envOfC "is_type" (C8.fnScope s_is_type) s.heap.objs.size f cdv)).units + 65 < cLine := by have := hr.un; omega
  (s_cons (s_set (i := 1) nd rfl (by first | exact .inl rfl | exact .inr rfl) (r_var (i := 0) rfl (by first | exact .inl rfl | exact .inr (.inl rfl) | exact .inr (.inr rfl)))) (s_cons (s_set (i := 2) nd rfl (by first | exact .inl rfl | exact .inr rfl) r_int) (s_cons (s_while PassesOwn.never (r_truth (r_callB call_isi f_isi rfl T.z_isinstance (by decide +kernel) (a_cons (r_var (i := 1) rfl (by first | exact .inl rfl | exact .inr (.inl rfl) | exact .inr (.inr rfl))) (a_cons (r_ty rfl T.z_tuple (by decide +kernel)) a_nil))) (by intro _; rfl)) (s_cons (s_set (i := 1) nd rfl (by first | exact .inl rfl | exact .inr rfl) (r_subB hu (r_var (i := 1) rfl (by first | exact .inl rfl | exact .inr (.inl rfl) | exact .inr (.inr rfl))) r_int (fun _ _ => rfl))) (s_one (s_augAdd (i := 2) nd rfl (by first | exact .inl rfl | exact .inr rfl) r_int)))) (s_one (s_ret (r_andV (r_cmp (op_inC hv) f_inC (r_var (i := 1) rfl (by first | exact .inl rfl | exact .inr (.inl rfl) | exact .inr (.inr rfl))) (r_glob rfl T.g_SIMPLE_KINDS) (by with_unfolding_all rfl)) (r_one (r_cmp (op_leA hr.units0) f_le (r_var (i := 2) rfl (by first | exact .inl rfl | exact .inr (.inl rfl) | exact .inr (.inr rfl))) (r_glob rfl T.g_MOST_DEPTH) (nomark _)))))))))
theorem k_is_letter (T : Tb P w K mg base n) {f : Addr} (cdv : Value) (A : Around) (outer : List PySem.Env) (s : Shared) (H : Hp) (E : XK) (hr : Room (2 * n + 3) (A.deeper (envOfC "is_letter" (C8.fnScope s_is_letter) s.heap.objs.size f cdv))) :
    PSs (cxOf CX0 P w K mg base ["letter"] "is_letter" (C8.fnScope s_is_letter) f cdv A outer s H E).nox (C8.fnBody s_is_letter) (tIS K W0 (b_is_letter (FF n) (GG n))) :=
  have nd := sc_is_letter.nd
  have hu := hu_of hr
  have hv : (A.deeper (envOfC "is_letter" (C8.fnScope s_is_letter) s.heap.objs.size f cdv)).units + 65 < cLine := by have := hr.un; omega
  (s_one (s_ret (r_chain (op_leA hr.units0) f_le (op_leA hr.units0) f_le r_str (r_var (i := 0) rfl (by first | exact .inl rfl | exact .inr (.inl rfl) | exact .inr (.inr rfl))) r_str)))
theorem k_fits (T : Tb P w K mg base n) {f : Addr} (cdv : Value) (A : Around) (outer : List PySem.Env) (s : Shared) (H : Hp) (E : XK) (hr : Room (2 * n + 3) (A.deeper (envOfC "fits" (C8.fnScope s_fits) s.heap.objs.size f cdv))) :
    PSs (cxOf CX0 P w K mg base ["value", "kind", "item"] "fits" (C8.fnScope s_fits) f cdv A outer s H E).nox (C8.fnBody s_fits) (tIS K W0 (b_fits (FF n) (GG n))) :=
  have nd := sc_fits.nd
  have hu := hu_of hr
  have hv : (A.deeper (envOfC "fits" (C8.fnScope s_fits) s.heap.objs.size f cdv)).units + 65 < cLine := by have := hr.un; omega
  (s_cons (s_if (r_cmpT (op_eqB hv) f_eqB (r_subB hu (r_var (i := 0) rfl (by first | exact .inl rfl | exact .inr (.inl rfl) | exact .inr (.inr rfl))) r_int (fun _ _ => rfl)) r_str (nomark _)) (s_one (s_ret (r_andV (r_callB call_isi f_isi rfl T.z_isinstance (by decide +kernel) (a_cons (r_var (i := 1) rfl (by first | exact .inl rfl | exact .inr (.inl rfl) | exact .inr (.inr rfl))) (a_cons (r_ty rfl T.z_tuple (by decide +kernel)) a_nil))) (r_one (r_callB (cr_all rfl) f_all rfl T.z_all (by decide +kernel) (a_cons (r_new (r_lc (own := [("item", 2)]) rfl nd (i_walk (r_subB hu (r_var (i := 0) rfl (by first | exact .inl rfl | exact .inr (.inl rfl) | exact .inr (.inr rfl))) r_int (fun _ _ => rfl))) (by first | exact blkOk_by (N := ["value", "kind", "item"]) (sc := C8.fnScope s_fits) (by decide +kernel) | exact blkOk_by rfl | exact blkOk_by (by with_unfolding_all rfl)) (by decide) (fun _ _ _ _ _ => (g_name (i := 2) nd rfl (by first | exact .inl rfl | exact .inr rfl))) (fun _ _ _ _ _ => t_yes) (fun _ _ _ _ _ => (j_call T.c_fits (ar_fits _) hr (Nat.le_succ _) rfl (a_cons (r_var (i := 2) rfl (by first | exact .inl rfl | exact .inr (.inl rfl) | exact .inr (.inr rfl))) (a_cons (r_subB hu (r_var (i := 1) rfl (by first | exact .inl rfl | exact .inr (.inl rfl) | exact .inr (.inr rfl))) r_int (fun _ _ => rfl)) a_nil)))))) a_nil)))))) s_nil) (s_one (s_ret (r_cmp (op_eqB hv) f_eqB (r_subB hu (r_var (i := 0) rfl (by first | exact .inl rfl | exact .inr (.inl rfl) | exact .inr (.inr rfl))) r_int (fun _ _ => rfl)) (r_var (i := 1) rfl (by first | exact .inl rfl | exact .inr (.inl rfl) | exact .inr (.inr rfl))) (nomark _)))))
theorem k_show_type (T : Tb P w K mg base n) {f : Addr} (cdv : Value) (A : Around) (outer : List PySem.Env) (s : Shared) (H : Hp) (E : XK) (hr : Room (2 * n + 3) (A.deeper (envOfC "show_type" (C8.fnScope s_show_type) s.heap.objs.size f cdv))) :
    PSs (cxOf CX0 P w K mg base ["kind"] "show_type" (C8.fnScope s_show_type) f cdv A outer s H E).nox (C8.fnBody s_show_type) (tIS K W0 (b_show_type (FF n) (GG n))) :=
  have nd := sc_show_type.nd
  have hu := hu_of hr
  have hv : (A.deeper (envOfC "show_type" (C8.fnScope s_show_type) s.heap.objs.size f cdv)).units + 65 < cLine := by have := hr.un; omega
  (s_cons (s_if (r_truth (r_callB call_isi f_isi rfl T.z_isinstance (by decide +kernel) (a_cons (r_var (i := 0) rfl (by first | exact .inl rfl | exact .inr (.inl rfl) | exact .inr (.inr rfl))) (a_cons (r_ty rfl T.z_tuple (by decide +kernel)) a_nil))) (by intro _; rfl)) (s_one (s_ret (r_op op_addI f_add (r_op op_addI f_add r_str (j_call T.c_show_type (ar_show_type _) hr (Nat.le_succ _) rfl (a_cons (r_subB hu (r_var (i := 0) rfl (by first | exact .inl rfl | exact .inr (.inl rfl) | exact .inr (.inr rfl))) r_int (fun _ _ => rfl)) a_nil))) r_str))) s_nil) (s_one (s_ret (r_var (i := 0) rfl (by first | exact .inl rfl | exact .inr (.inl rfl) | exact .inr (.inr rfl))))))
theorem k_show_value (T : Tb P w K mg base n) {f : Addr} (cdv : Value) (A : Around) (outer : List PySem.Env) (s : Shared) (H : Hp) (E : XK) (hr : Room (2 * n + 3) (A.deeper (envOfC "show_value" (C8.fnScope s_show_value) s.heap.objs.size f cdv))) :
    PSs (cxOf CX0 P w K mg base ["value", "item"] "show_value" (C8.fnScope s_show_value) f cdv A outer s H E).nox (C8.fnBody s_show_value) (tIS K W0 (b_show_value (FF n) (GG n))) :=
  have nd := sc_show_value.nd
  have hu := hu_of hr
  have hv : (A.deeper (envOfC "show_value" (C8.fnScope s_show_value) s.heap.objs.size f cdv)).units + 65 < cLine := by have := hr.un; omega
  (s_cons (s_if (r_cmpT (op_eqB hv) f_eqB (r_subB hu (r_var (i := 0) rfl (by first | exact .inl rfl | exact .inr (.inl rfl) | exact .inr (.inr rfl))) r_int (fun _ _ => rfl)) r_str (nomark _)) (s_one (s_ret (r_callTy call_str_int f_str rfl T.z_str (by decide +kernel) (a_cons (r_subB hu (r_var (i := 0) rfl (by first | exact .inl rfl | exact .inr (.inl rfl) | exact .inr (.inr rfl))) r_int (fun _ _ => rfl)) a_nil)))) s_nil) (s_cons (s_if (r_cmpT (op_eqB hv) f_eqB (r_subB hu (r_var (i := 0) rfl (by first | exact .inl rfl | exact .inr (.inl rfl) | exact .inr (.inr rfl))) r_int (fun _ _ => rfl)) r_str (nomark _)) (s_one (s_ret (r_ifExp (r_truth (r_subB hu (r_var (i := 0) rfl (by first | exact .inl rfl | exact .inr (.inl rfl) | exact .inr (.inr rfl))) r_int (fun _ _ => rfl)) (by intro _; rfl)) r_str r_str))) s_nil) (s_cons (s_if (r_cmpT (op_eqB hv) f_eqB (r_subB hu (r_var (i := 0) rfl (by first | exact .inl rfl | exact .inr (.inl rfl) | exact .inr (.inr rfl))) r_int (fun _ _ => rfl)) r_str (nomark _)) (s_one (s_ret (r_op op_addI f_add (r_behindRep op_addI f_add (r_subB hu (r_var (i := 0) rfl (by first | exact .inl rfl | exact .inr (.inl rfl) | exact .inr (.inr rfl))) r_int (fun _ _ => rfl))) r_str))) s_nil) (s_cons (s_if (r_cmpT (op_eqB hv) f_eqB (r_subB hu (r_var (i := 0) rfl (by first | exact .inl rfl | exact .inr (.inl rfl) | exact .inr (.inr rfl))) r_int (fun _ _ => rfl)) r_str (nomark _)) (s_one (s_ret (r_op op_addI f_add (r_op op_addI f_add r_str (r_join r_str (r_new (r_lc (own := [("item", 1)]) rfl nd (i_walk (r_subB hu (r_var (i := 0) rfl (by first | exact .inl rfl | exact .inr (.inl rfl) | exact .inr (.inr rfl))) r_int (fun _ _ => rfl))) (by first | exact blkOk_by (N := ["value", "item"]) (sc := C8.fnScope s_show_value) (by decide +kernel) | exact blkOk_by rfl | exact blkOk_by (by with_unfolding_all rfl)) (by decide) (fun _ _ _ _ _ => (g_name (i := 1) nd rfl (by first | exact .inl rfl | exact .inr rfl))) (fun _ _ _ _ _ => t_yes) (fun _ _ _ _ _ => (j_call T.c_show_value (ar_show_value _) hr (Nat.le_succ _) rfl (a_cons (r_var (i := 1) rfl (by first | exact .inl rfl | exact .inr (.inl rfl) | exact .inr (.inr rfl))) a_nil))))))) r_str))) s_nil) (s_one (s_ret r_str))))))
theorem k_read_value (T : Tb P w K mg base n) {f : Addr} (cdv : Value) (A : Around) (outer : List PySem.Env) (s : Shared) (H : Hp) (E : XK) (hr : Room (2 * n + 3) (A.deeper (envOfC "read_value" (C8.fnScope s_read_value) s.heap.objs.size f cdv))) (tk : L2N.Takes (cxOf (L2N.CX P w) P w K mg base ["text"] "read_value" (C8.fnScope s_read_value) f cdv A outer s H E) (WC E)) :
    PSs (cxOf (L2N.CX P w) P w K mg base ["text"] "read_value" (C8.fnScope s_read_value) f cdv A outer s H E) (C8.fnBody s_read_value) (tIS K (WC E) (b_read_value (FF n) (GG n))) :=
  have nd := sc_read_value.nd
  have hu := hu_of hr
  have hv : (A.deeper (envOfC "read_value" (C8.fnScope s_read_value) s.heap.objs.size f cdv)).units + 65 < cLine := by have := hr.un; omega
  (s_one (s_retX (x_call T.c__read_whole (ar__read_whole _) hr (Nat.le_succ _) rfl tk (a_cons (r_var (i := 0) rfl (by first | exact .inl rfl | exact .inr (.inl rfl) | exact .inr (.inr rfl))) (a_cons r_non a_nil)))))
theorem k_read_typed (T : Tb P w K mg base n) {f : Addr} (cdv : Value) (A : Around) (outer : List PySem.Env) (s : Shared) (H : Hp) (E : XK) (hr : Room (2 * n + 3) (A.deeper (envOfC "read_typed" (C8.fnScope s_read_typed) s.heap.objs.size f cdv))) (tk : L2N.Takes (cxOf (L2N.CX P w) P w K mg base ["text", "kind"] "read_typed" (C8.fnScope s_read_typed) f cdv A outer s H E) (WC E)) :
    PSs (cxOf (L2N.CX P w) P w K mg base ["text", "kind"] "read_typed" (C8.fnScope s_read_typed) f cdv A outer s H E) (C8.fnBody s_read_typed) (tIS K (WC E) (b_read_typed (FF n) (GG n))) :=
  have nd := sc_read_typed.nd
  have hu := hu_of hr
  have hv : (A.deeper (envOfC "read_typed" (C8.fnScope s_read_typed) s.heap.objs.size f cdv)).units + 65 < cLine := by have := hr.un; omega
  (s_cons (s_if (r_not (r_truth (j_call T.c_is_type (ar_is_type _) hr (Nat.le_succ _) rfl (a_cons (r_var (i := 1) rfl (by first | exact .inl rfl | exact .inr (.inl rfl) | exact .inr (.inr rfl))) a_nil)) (by intro _; rfl))) (s_one (s_raise T.r_WrittenError (fun _ _ _ _ h r => okPI_ok h r) hr (by omega) rfl rfl tk r_int)) s_nil) (s_one (s_retX (x_call T.c__read_whole (ar__read_whole _) hr (Nat.le_succ _) rfl tk (a_cons (r_var (i := 0) rfl (by first | exact .inl rfl | exact .inr (.inl rfl) | exact .inr (.inr rfl))) (a_cons (r_var (i := 1) rfl (by first | exact .inl rfl | exact .inr (.inl rfl) | exact .inr (.inr rfl))) a_nil))))))
theorem k__read_whole (T : Tb P w K mg base n) {f : Addr} (cdv : Value) (A : Around) (outer : List PySem.Env) (s : Shared) (H : Hp) (E : XK) (hr : Room (2 * n + 3) (A.deeper (envOfC "_read_whole" (C8.fnScope s__read_whole) s.heap.objs.size f cdv))) (tk : L2N.Takes (cxOf (L2N.CX P w) P w K mg base ["text", "wanted", "value", "behind", "_"] "_read_whole" (C8.fnScope s__read_whole) f cdv A outer s H E) (WC E)) :
    PSs (cxOf (L2N.CX P w) P w K mg base ["text", "wanted", "value", "behind", "_"] "_read_whole" (C8.fnScope s__read_whole) f cdv A outer s H E) (C8.fnBody s__read_whole) (tIS K (WC E) (b__read_whole (FF n) (GG n))) :=
  have nd := sc__read_whole.nd
  have hu := hu_of hr
  have hv : (A.deeper (envOfC "_read_whole" (C8.fnScope s__read_whole) s.heap.objs.size f cdv)).units + 65 < cLine := by have := hr.un; omega
  (s_cons (s_asgX (x_call T.c__read_at (ar__read_at _) hr (Nat.le_succ _) rfl tk (a_cons (r_var (i := 0) rfl (by first | exact .inl rfl | exact .inr (.inl rfl) | exact .inr (.inr rfl))) (a_cons r_int (a_cons (r_var (i := 1) rfl (by first | exact .inl rfl | exact .inr (.inl rfl) | exact .inr (.inr rfl))) (a_cons r_int a_nil))))) (g_tup rfl (gs_cons (g_name (i := 2) nd rfl (by first | exact .inl rfl | exact .inr rfl)) (gs_cons (g_name (i := 3) nd rfl (by first | exact .inl rfl | exact .inr rfl)) (gs_cons (g_name (i := 4) nd rfl (by first | exact .inl rfl | exact .inr rfl)) gs_nil))))) (s_cons (s_if (r_cmpT (op_ltA hr.units0) f_lt (r_var (i := 3) rfl (by first | exact .inl rfl | exact .inr (.inl rfl) | exact .inr (.inr rfl))) (r_callB cr_len f_lenB rfl T.z_len (by decide +kernel) (a_cons (r_var (i := 0) rfl (by first | exact .inl rfl | exact .inr (.inl rfl) | exact .inr (.inr rfl))) a_nil)) (nomark _)) (s_one (s_raise T.r_WrittenError (fun _ _ _ _ h r => okPI_ok h r) hr (by omega) rfl rfl tk (r_var (i := 3) rfl (by first | exact .inl rfl | exact .inr (.inl rfl) | exact .inr (.inr rfl))))) s_nil) (s_one (s_ret (r_var (i := 2) rfl (by first | exact .inl rfl | exact .inr (.inl rfl) | exact .inr (.inr rfl)))))))
theorem k__read_at (T : Tb P w K mg base n) {f : Addr} (cdv : Value) (A : Around) (outer : List PySem.Env) (s : Shared) (H : Hp) (E : XK) (hr : Room (2 * n + 3) (A.deeper (envOfC "_read_at" (C8.fnScope s__read_at) s.heap.objs.size f cdv))) (tk : L2N.Takes (cxOf (L2N.CX P w) P w K mg base ["text", "at", "wanted", "depth", "first", "letters", "behind", "number", "word", "value"] "_read_at" (C8.fnScope s__read_at) f cdv A outer s H E) (WC E)) :
    PSs (cxOf (L2N.CX P w) P w K mg base ["text", "at", "wanted", "depth", "first", "letters", "behind", "number", "word", "value"] "_read_at" (C8.fnScope s__read_at) f cdv A outer s H E) (C8.fnBody s__read_at) (tIS K (WC E) (b__read_at (FF n) (GG n))) :=
  have nd := sc__read_at.nd
  have hu := hu_of hr
  have hv : (A.deeper (envOfC "_read_at" (C8.fnScope s__read_at) s.heap.objs.size f cdv)).units + 65 < cLine := by have := hr.un; omega
  (s_cons (s_set (i := 4) nd rfl (by first | exact .inl rfl | exact .inr rfl) (r_slice sl_any f_sl (r_var (i := 0) rfl (by first | exact .inl rfl | exact .inr (.inl rfl) | exact .inr (.inr rfl))) (o_some (r_var (i := 1) rfl (by first | exact .inl rfl | exact .inr (.inl rfl) | exact .inr (.inr rfl)))) (o_some (r_op op_addI f_add (r_var (i := 1) rfl (by first | exact .inl rfl | exact .inr (.inl rfl) | exact .inr (.inr rfl))) r_int)))) (s_cons (s_if (PW.pt (w_and (r_cmpT (op_eqB hv) f_eqB (r_var (i := 4) rfl (by first | exact .inl rfl | exact .inr (.inl rfl) | exact .inr (.inr rfl))) r_str (nomark _)) (w_and (r_cmpT (op_ltA hr.units0) f_lt (r_var (i := 3) rfl (by first | exact .inl rfl | exact .inr (.inl rfl) | exact .inr (.inr rfl))) (r_glob rfl T.g_MOST_DEPTH) (nomark _)) (w_and1 (PW.pt (w_or (r_cmpT op_isA f_is (r_var (i := 2) rfl (by first | exact .inl rfl | exact .inr (.inl rfl) | exact .inr (.inr rfl))) r_non (nomark _)) (w_or1 (r_truth (r_callB call_isi f_isi rfl T.z_isinstance (by decide +kernel) (a_cons (r_var (i := 2) rfl (by first | exact .inl rfl | exact .inr (.inl rfl) | exact .inr (.inr rfl))) (a_cons (r_ty rfl T.z_tuple (by decide +kernel)) a_nil))) (by intro _; rfl))))))))) (s_one (s_retX (x_call T.c__read_list (ar__read_list _) hr (Nat.le_succ _) rfl tk (a_cons (r_var (i := 0) rfl (by first | exact .inl rfl | exact .inr (.inl rfl) | exact .inr (.inr rfl))) (a_cons (r_var (i := 1) rfl (by first | exact .inl rfl | exact .inr (.inl rfl) | exact .inr (.inr rfl))) (a_cons (r_var (i := 2) rfl (by first | exact .inl rfl | exact .inr (.inl rfl) | exact .inr (.inr rfl))) (a_cons (r_var (i := 3) rfl (by first | exact .inl rfl | exact .inr (.inl rfl) | exact .inr (.inr rfl))) a_nil))))))) s_nil) (s_cons (s_if (PW.pt (w_and (r_cmpT (op_eqB hv) f_eqB (r_var (i := 4) rfl (by first | exact .inl rfl | exact .inr (.inl rfl) | exact .inr (.inr rfl))) r_str (nomark _)) (w_and1 (r_cmpT (op_inC hv) f_inC (r_var (i := 2) rfl (by first | exact .inl rfl | exact .inr (.inl rfl) | exact .inr (.inr rfl))) (r_tup (a_cons r_non (a_cons r_str a_nil))) (by with_unfolding_all rfl))))) (s_cons (s_asgX (x_call T.c__read_text (ar__read_text _) hr (Nat.le_succ _) rfl tk (a_cons (r_var (i := 0) rfl (by first | exact .inl rfl | exact .inr (.inl rfl) | exact .inr (.inr rfl))) (a_cons (r_var (i := 1) rfl (by first | exact .inl rfl | exact .inr (.inl rfl) | exact .inr (.inr rfl))) a_nil))) (g_tup rfl (gs_cons (g_name (i := 5) nd rfl (by first | exact .inl rfl | exact .inr rfl)) (gs_cons (g_name (i := 6) nd rfl (by first | exact .inl rfl | exact .inr rfl)) gs_nil)))) (s_one (s_ret (r_tup (a_cons (r_tup (a_cons r_str (a_cons (r_var (i := 5) rfl (by first | exact .inl rfl | exact .inr (.inl rfl) | exact .inr (.inr rfl))) a_nil))) (a_cons (r_var (i := 6) rfl (by first | exact .inl rfl | exact .inr (.inl rfl) | exact .inr (.inr rfl))) (a_cons r_str a_nil))))))) s_nil) (s_cons (s_if (PW.pt (w_and (PW.pt (w_or (r_cmpT (op_eqB hv) f_eqB (r_var (i := 4) rfl (by first | exact .inl rfl | exact .inr (.inl rfl) | exact .inr (.inr rfl))) r_str (nomark _)) (w_or1 (r_truth (j_call T.c__is_digit (ar__is_digit _) hr (Nat.le_succ _) rfl (a_cons (r_var (i := 4) rfl (by first | exact .inl rfl | exact .inr (.inl rfl) | exact .inr (.inr rfl))) a_nil)) (by intro _; rfl))))) (w_and1 (r_cmpT (op_inC hv) f_inC (r_var (i := 2) rfl (by first | exact .inl rfl | exact .inr (.inl rfl) | exact .inr (.inr rfl))) (r_tup (a_cons r_non (a_cons r_str a_nil))) (by with_unfolding_all rfl))))) (s_cons (s_asgX (x_call T.c__read_number (ar__read_number _) hr (Nat.le_succ _) rfl tk (a_cons (r_var (i := 0) rfl (by first | exact .inl rfl | exact .inr (.inl rfl) | exact .inr (.inr rfl))) (a_cons (r_var (i := 1) rfl (by first | exact .inl rfl | exact .inr (.inl rfl) | exact .inr (.inr rfl))) a_nil))) (g_tup rfl (gs_cons (g_name (i := 7) nd rfl (by first | exact .inl rfl | exact .inr rfl)) (gs_cons (g_name (i := 6) nd rfl (by first | exact .inl rfl | exact .inr rfl)) gs_nil)))) (s_one (s_ret (r_tup (a_cons (r_tup (a_cons r_str (a_cons (r_var (i := 7) rfl (by first | exact .inl rfl | exact .inr (.inl rfl) | exact .inr (.inr rfl))) a_nil))) (a_cons (r_var (i := 6) rfl (by first | exact .inl rfl | exact .inr (.inl rfl) | exact .inr (.inr rfl))) (a_cons r_str a_nil))))))) s_nil) (s_cons (s_if (PW.pt (w_and (j_inTabT T.t_WORDS rfl (r_var (i := 4) rfl (by first | exact .inl rfl | exact .inr (.inl rfl) | exact .inr (.inr rfl)))) (w_and1 (r_cmpT (op_inC hv) f_inC (r_var (i := 2) rfl (by first | exact .inl rfl | exact .inr (.inl rfl) | exact .inr (.inr rfl))) (r_tup (a_cons r_non (a_cons (r_subB hu (r_subB hu (j_tab T.t_WORDS rfl (r_var (i := 4) rfl (by first | exact .inl rfl | exact .inr (.inl rfl) | exact .inr (.inr rfl))) (fun _ _ => rfl)) r_int (fun _ _ => rfl)) r_int (fun _ _ => rfl)) a_nil))) (by with_unfolding_all rfl))))) (s_cons (s_asg (j_tab T.t_WORDS rfl (r_var (i := 4) rfl (by first | exact .inl rfl | exact .inr (.inl rfl) | exact .inr (.inr rfl))) (fun _ _ => rfl)) (g_tup rfl (gs_cons (g_name (i := 8) nd rfl (by first | exact .inl rfl | exact .inr rfl)) (gs_cons (g_name (i := 9) nd rfl (by first | exact .inl rfl | exact .inr rfl)) gs_nil)))) (s_one (s_retX (x_tup (x_cons (x_ok (r_var (i := 9) rfl (by first | exact .inl rfl | exact .inr (.inl rfl) | exact .inr (.inr rfl)))) (x_cons (x_call T.c__read_word (ar__read_word _) hr (Nat.le_succ _) rfl tk (a_cons (r_var (i := 0) rfl (by first | exact .inl rfl | exact .inr (.inl rfl) | exact .inr (.inr rfl))) (a_cons (r_var (i := 1) rfl (by first | exact .inl rfl | exact .inr (.inl rfl) | exact .inr (.inr rfl))) (a_cons (r_var (i := 8) rfl (by first | exact .inl rfl | exact .inr (.inl rfl) | exact .inr (.inr rfl))) a_nil)))) (x_oks (a_cons (r_subB hu (r_var (i := 9) rfl (by first | exact .inl rfl | exact .inr (.inl rfl) | exact .inr (.inr rfl))) r_int (fun _ _ => rfl)) a_nil)))))))) s_nil) (s_one (s_raise T.r_WrittenError (fun _ _ _ _ h r => okPI_ok h r) hr (by omega) rfl rfl tk (r_var (i := 1) rfl (by first | exact .inl rfl | exact .inr (.inl rfl) | exact .inr (.inr rfl))))))))))
theorem k__read_list (T : Tb P w K mg base n) {f : Addr} (cdv : Value) (A : Around) (outer : List PySem.Env) (s : Shared) (H : Hp) (E : XK) (hr : Room (2 * n + 3) (A.deeper (envOfC "_read_list" (C8.fnScope s__read_list) s.heap.objs.size f cdv))) (tk : L2N.Takes (cxOf (L2N.CX P w) P w K mg base ["text", "at", "wanted", "depth", "known", "items", "here", "item", "sign"] "_read_list" (C8.fnScope s__read_list) f cdv A outer s H E) (WC E)) :
    PSs (cxOf (L2N.CX P w) P w K mg base ["text", "at", "wanted", "depth", "known", "items", "here", "item", "sign"] "_read_list" (C8.fnScope s__read_list) f cdv A outer s H E) (C8.fnBody s__read_list) (tIS K (WC E) (b__read_list (FF n) (GG n))) :=
  have nd := sc__read_list.nd
  have hu := hu_of hr
  have hv : (A.deeper (envOfC "_read_list" (C8.fnScope s__read_list) s.heap.objs.size f cdv)).units + 65 < cLine := by have := hr.un; omega
  (s_cons (s_set (i := 4) nd rfl (by first | exact .inl rfl | exact .inr rfl) (r_ifExp (r_cmpT op_isA f_is (r_var (i := 2) rfl (by first | exact .inl rfl | exact .inr (.inl rfl) | exact .inr (.inr rfl))) r_non (nomark _)) r_non (r_subB hu (r_var (i := 2) rfl (by first | exact .inl rfl | exact .inr (.inl rfl) | exact .inr (.inr rfl))) r_int (fun _ _ => rfl)))) (s_cons (s_set (i := 5) nd rfl (by first | exact .inl rfl | exact .inr rfl) (r_lst a_nil)) (s_cons (s_set (i := 6) nd rfl (by first | exact .inl rfl | exact .inr rfl) (r_op op_addI f_add (r_var (i := 1) rfl (by first | exact .inl rfl | exact .inr (.inl rfl) | exact .inr (.inr rfl))) r_int)) (s_cons (s_if (r_cmpT (op_eqB hv) f_eqB (r_slice sl_any f_sl (r_var (i := 0) rfl (by first | exact .inl rfl | exact .inr (.inl rfl) | exact .inr (.inr rfl))) (o_some (r_var (i := 6) rfl (by first | exact .inl rfl | exact .inr (.inl rfl) | exact .inr (.inr rfl)))) (o_some (r_op op_addI f_add (r_var (i := 6) rfl (by first | exact .inl rfl | exact .inr (.inl rfl) | exact .inr (.inr rfl))) r_int))) r_str (nomark _)) (s_one (s_ret (r_tup (a_cons (r_tup (a_cons r_str (a_cons (r_tup a_nil) a_nil))) (a_cons (r_op op_addI f_add (r_var (i := 6) rfl (by first | exact .inl rfl | exact .inr (.inl rfl) | exact .inr (.inr rfl))) r_int) (a_cons (r_tup (a_cons r_str (a_cons (r_var (i := 4) rfl (by first | exact .inl rfl | exact .inr (.inl rfl) | exact .inr (.inr rfl))) a_nil))) a_nil)))))) s_nil) (s_one (s_while (passes_of rfl) t_true (s_cons (s_asgX (x_call T.c__read_at (ar__read_at _) hr (Nat.le_succ _) rfl tk (a_cons (r_var (i := 0) rfl (by first | exact .inl rfl | exact .inr (.inl rfl) | exact .inr (.inr rfl))) (a_cons (r_var (i := 6) rfl (by first | exact .inl rfl | exact .inr (.inl rfl) | exact .inr (.inr rfl))) (a_cons (r_var (i := 4) rfl (by first | exact .inl rfl | exact .inr (.inl rfl) | exact .inr (.inr rfl))) (a_cons (r_op op_addI f_add (r_var (i := 3) rfl (by first | exact .inl rfl | exact .inr (.inl rfl) | exact .inr (.inr rfl))) r_int) a_nil))))) (g_tup rfl (gs_cons (g_name (i := 7) nd rfl (by first | exact .inl rfl | exact .inr rfl)) (gs_cons (g_name (i := 6) nd rfl (by first | exact .inl rfl | exact .inr rfl)) (gs_cons (g_name (i := 4) nd rfl (by first | exact .inl rfl | exact .inr rfl)) gs_nil))))) (s_cons (s_expr (r_append (r_var (i := 5) rfl (by first | exact .inl rfl | exact .inr (.inl rfl) | exact .inr (.inr rfl))) (r_var (i := 7) rfl (by first | exact .inl rfl | exact .inr (.inl rfl) | exact .inr (.inr rfl))))) (s_cons (s_set (i := 8) nd rfl (by first | exact .inl rfl | exact .inr rfl) (r_slice sl_any f_sl (r_var (i := 0) rfl (by first | exact .inl rfl | exact .inr (.inl rfl) | exact .inr (.inr rfl))) (o_some (r_var (i := 6) rfl (by first | exact .inl rfl | exact .inr (.inl rfl) | exact .inr (.inr rfl)))) (o_some (r_op op_addI f_add (r_var (i := 6) rfl (by first | exact .inl rfl | exact .inr (.inl rfl) | exact .inr (.inr rfl))) r_int)))) (s_cons (s_if (r_cmpT (op_eqB hv) f_eqB (r_var (i := 8) rfl (by first | exact .inl rfl | exact .inr (.inl rfl) | exact .inr (.inr rfl))) r_str (nomark _)) (s_one (s_ret (r_tup (a_cons (r_tup (a_cons r_str (a_cons (r_callTy call_tuple_of f_tuple rfl T.z_tuple (by decide +kernel) (a_cons (r_var (i := 5) rfl (by first | exact .inl rfl | exact .inr (.inl rfl) | exact .inr (.inr rfl))) a_nil)) a_nil))) (a_cons (r_op op_addI f_add (r_var (i := 6) rfl (by first | exact .inl rfl | exact .inr (.inl rfl) | exact .inr (.inr rfl))) r_int) (a_cons (r_tup (a_cons r_str (a_cons (r_var (i := 4) rfl (by first | exact .inl rfl | exact .inr (.inl rfl) | exact .inr (.inr rfl))) a_nil))) a_nil)))))) s_nil) (s_cons (s_if (PW.pt (w_or (r_cmpT (op_neB hv) f_neB (r_var (i := 8) rfl (by first | exact .inl rfl | exact .inr (.inl rfl) | exact .inr (.inr rfl))) r_str (nomark _)) (w_or1 (r_cmpT (op_eqB hv) f_eqB (r_callB cr_len f_lenB rfl T.z_len (by decide +kernel) (a_cons (r_var (i := 5) rfl (by first | exact .inl rfl | exact .inr (.inl rfl) | exact .inr (.inr rfl))) a_nil)) (r_glob rfl T.g_MOST_ITEMS) (nomark _))))) (s_one (s_raise T.r_WrittenError (fun _ _ _ _ h r => okPI_ok h r) hr (by omega) rfl rfl tk (r_var (i := 6) rfl (by first | exact .inl rfl | exact .inr (.inl rfl) | exact .inr (.inr rfl))))) s_nil) (s_cons (s_if (r_cmpT (op_neB hv) f_neB (r_slice sl_any f_sl (r_var (i := 0) rfl (by first | exact .inl rfl | exact .inr (.inl rfl) | exact .inr (.inr rfl))) (o_some (r_op op_addI f_add (r_var (i := 6) rfl (by first | exact .inl rfl | exact .inr (.inl rfl) | exact .inr (.inr rfl))) r_int)) (o_some (r_op op_addI f_add (r_var (i := 6) rfl (by first | exact .inl rfl | exact .inr (.inl rfl) | exact .inr (.inr rfl))) r_int))) r_str (nomark _)) (s_one (s_raise T.r_WrittenError (fun _ _ _ _ h r => okPI_ok h r) hr (by omega) rfl rfl tk (r_op op_addI f_add (r_var (i := 6) rfl (by first | exact .inl rfl | exact .inr (.inl rfl) | exact .inr (.inr rfl))) r_int))) s_nil) (s_one (s_augAdd (i := 6) nd rfl (by first | exact .inl rfl | exact .inr rfl) r_int))))))))))))))
theorem k__read_text (T : Tb P w K mg base n) {f : Addr} (cdv : Value) (A : Around) (outer : List PySem.Env) (s : Shared) (H : Hp) (E : XK) (hr : Room (2 * n + 3) (A.deeper (envOfC "_read_text" (C8.fnScope s__read_text) s.heap.objs.size f cdv))) (tk : L2N.Takes (cxOf (L2N.CX P w) P w K mg base ["text", "at", "letters", "here", "letter"] "_read_text" (C8.fnScope s__read_text) f cdv A outer s H E) (WC E)) :
    PSs (cxOf (L2N.CX P w) P w K mg base ["text", "at", "letters", "here", "letter"] "_read_text" (C8.fnScope s__read_text) f cdv A outer s H E) (C8.fnBody s__read_text) (tIS K (WC E) (b__read_text (FF n) (GG n))) :=
  have nd := sc__read_text.nd
  have hu := hu_of hr
  have hv : (A.deeper (envOfC "_read_text" (C8.fnScope s__read_text) s.heap.objs.size f cdv)).units + 65 < cLine := by have := hr.un; omega
  (s_cons (s_set (i := 2) nd rfl (by first | exact .inl rfl | exact .inr rfl) (r_lst a_nil)) (s_cons (s_set (i := 3) nd rfl (by first | exact .inl rfl | exact .inr rfl) (r_op op_addI f_add (r_var (i := 1) rfl (by first | exact .inl rfl | exact .inr (.inl rfl) | exact .inr (.inr rfl))) r_int)) (s_one (s_while (passes_of rfl) t_true (s_cons (s_set (i := 4) nd rfl (by first | exact .inl rfl | exact .inr rfl) (r_slice sl_any f_sl (r_var (i := 0) rfl (by first | exact .inl rfl | exact .inr (.inl rfl) | exact .inr (.inr rfl))) (o_some (r_var (i := 3) rfl (by first | exact .inl rfl | exact .inr (.inl rfl) | exact .inr (.inr rfl)))) (o_some (r_op op_addI f_add (r_var (i := 3) rfl (by first | exact .inl rfl | exact .inr (.inl rfl) | exact .inr (.inr rfl))) r_int)))) (s_cons (s_if (r_cmpT (op_eqB hv) f_eqB (r_var (i := 4) rfl (by first | exact .inl rfl | exact .inr (.inl rfl) | exact .inr (.inr rfl))) r_str (nomark _)) (s_cons (s_if (PW.pt (w_or (r_cmpT (op_neB hv) f_neB (r_slice sl_any f_sl (r_var (i := 0) rfl (by first | exact .inl rfl | exact .inr (.inl rfl) | exact .inr (.inr rfl))) (o_some (r_op op_addI f_add (r_var (i := 3) rfl (by first | exact .inl rfl | exact .inr (.inl rfl) | exact .inr (.inr rfl))) r_int)) (o_some (r_op op_addI f_add (r_var (i := 3) rfl (by first | exact .inl rfl | exact .inr (.inl rfl) | exact .inr (.inr rfl))) r_int))) r_str (nomark _)) (w_or1 (r_cmpT (op_eqB hv) f_eqB (r_callB cr_len f_lenB rfl T.z_len (by decide +kernel) (a_cons (r_var (i := 2) rfl (by first | exact .inl rfl | exact .inr (.inl rfl) | exact .inr (.inr rfl))) a_nil)) (r_glob rfl T.g_MOST_LETTERS) (nomark _))))) (s_one (s_ret (r_tup (a_cons (r_join r_str (r_var (i := 2) rfl (by first | exact .inl rfl | exact .inr (.inl rfl) | exact .inr (.inr rfl)))) (a_cons (r_op op_addI f_add (r_var (i := 3) rfl (by first | exact .inl rfl | exact .inr (.inl rfl) | exact .inr (.inr rfl))) r_int) a_nil))))) s_nil) (s_one (s_augAdd (i := 3) nd rfl (by first | exact .inl rfl | exact .inr rfl) r_int))) (s_one (s_if (PW.pt (w_or (r_not (r_truth (j_call T.c_is_letter (ar_is_letter _) hr (Nat.le_succ _) rfl (a_cons (r_var (i := 4) rfl (by first | exact .inl rfl | exact .inr (.inl rfl) | exact .inr (.inr rfl))) a_nil)) (by intro _; rfl))) (w_or1 (r_cmpT (op_eqB hv) f_eqB (r_callB cr_len f_lenB rfl T.z_len (by decide +kernel) (a_cons (r_var (i := 2) rfl (by first | exact .inl rfl | exact .inr (.inl rfl) | exact .inr (.inr rfl))) a_nil)) (r_glob rfl T.g_MOST_LETTERS) (nomark _))))) (s_one (s_raise T.r_WrittenError (fun _ _ _ _ h r => okPI_ok h r) hr (by omega) rfl rfl tk (r_var (i := 3) rfl (by first | exact .inl rfl | exact .inr (.inl rfl) | exact .inr (.inr rfl))))) s_nil))) (s_cons (s_expr (r_append (r_var (i := 2) rfl (by first | exact .inl rfl | exact .inr (.inl rfl) | exact .inr (.inr rfl))) (r_var (i := 4) rfl (by first | exact .inl rfl | exact .inr (.inl rfl) | exact .inr (.inr rfl))))) (s_one (s_augAdd (i := 3) nd rfl (by first | exact .inl rfl | exact .inr rfl) r_int)))))))))
theorem k__read_number (T : Tb P w K mg base n) {f : Addr} (cdv : Value) (A : Around) (outer : List PySem.Env) (s : Shared) (H : Hp) (E : XK) (hr : Room (2 * n + 3) (A.deeper (envOfC "_read_number" (C8.fnScope s__read_number) s.heap.objs.size f cdv))) (tk : L2N.Takes (cxOf (L2N.CX P w) P w K mg base ["text", "at", "is_negative", "here", "digit", "number"] "_read_number" (C8.fnScope s__read_number) f cdv A outer s H E) (WC E)) :
    PSs (cxOf (L2N.CX P w) P w K mg base ["text", "at", "is_negative", "here", "digit", "number"] "_read_number" (C8.fnScope s__read_number) f cdv A outer s H E) (C8.fnBody s__read_number) (tIS K (WC E) (b__read_number (FF n) (GG n))) :=
  have nd := sc__read_number.nd
  have hu := hu_of hr
  have hv : (A.deeper (envOfC "_read_number" (C8.fnScope s__read_number) s.heap.objs.size f cdv)).units + 65 < cLine := by have := hr.un; omega
  (s_cons (s_set (i := 2) nd rfl (by first | exact .inl rfl | exact .inr rfl) (r_cmp (op_eqB hv) f_eqB (r_subB hu (r_var (i := 0) rfl (by first | exact .inl rfl | exact .inr (.inl rfl) | exact .inr (.inr rfl))) (r_var (i := 1) rfl (by first | exact .inl rfl | exact .inr (.inl rfl) | exact .inr (.inr rfl))) (fun _ _ => rfl)) r_str (nomark _))) (s_cons (s_set (i := 3) nd rfl (by first | exact .inl rfl | exact .inr rfl) (r_ifExp (r_truth (r_var (i := 2) rfl (by first | exact .inl rfl | exact .inr (.inl rfl) | exact .inr (.inr rfl))) (by intro _; rfl)) (r_op op_addI f_add (r_var (i := 1) rfl (by first | exact .inl rfl | exact .inr (.inl rfl) | exact .inr (.inr rfl))) r_int) (r_var (i := 1) rfl (by first | exact .inl rfl | exact .inr (.inl rfl) | exact .inr (.inr rfl))))) (s_cons (s_set (i := 4) nd rfl (by first | exact .inl rfl | exact .inr rfl) (r_slice sl_any f_sl (r_var (i := 0) rfl (by first | exact .inl rfl | exact .inr (.inl rfl) | exact .inr (.inr rfl))) (o_some (r_var (i := 3) rfl (by first | exact .inl rfl | exact .inr (.inl rfl) | exact .inr (.inr rfl)))) (o_some (r_op op_addI f_add (r_var (i := 3) rfl (by first | exact .inl rfl | exact .inr (.inl rfl) | exact .inr (.inr rfl))) r_int)))) (s_cons (s_if (PW.pt (w_or (r_not (r_truth (j_call T.c__is_digit (ar__is_digit _) hr (Nat.le_succ _) rfl (a_cons (r_var (i := 4) rfl (by first | exact .inl rfl | exact .inr (.inl rfl) | exact .inr (.inr rfl))) a_nil)) (by intro _; rfl))) (w_or1 (PW.pt (w_and (r_truth (r_var (i := 2) rfl (by first | exact .inl rfl | exact .inr (.inl rfl) | exact .inr (.inr rfl))) (by intro _; rfl)) (w_and1 (r_cmpT (op_eqB hv) f_eqB (r_var (i := 4) rfl (by first | exact .inl rfl | exact .inr (.inl rfl) | exact .inr (.inr rfl))) r_str (nomark _)))))))) (s_one (s_raise T.r_WrittenError (fun _ _ _ _ h r => okPI_ok h r) hr (by omega) rfl rfl tk (r_var (i := 3) rfl (by first | exact .inl rfl | exact .inr (.inl rfl) | exact .inr (.inr rfl))))) s_nil) (s_cons (s_set (i := 5) nd rfl (by first | exact .inl rfl | exact .inr rfl) r_int) (s_cons (s_while (passes_of rfl) (PW.pt (w_and (r_truth (j_call T.c__is_digit (ar__is_digit _) hr (Nat.le_succ _) rfl (a_cons (r_var (i := 4) rfl (by first | exact .inl rfl | exact .inr (.inl rfl) | exact .inr (.inr rfl))) a_nil)) (by intro _; rfl)) (w_and1 (r_cmpT (op_leA hr.units0) f_le (r_op op_addI f_add (r_op op_mulA f_mulA (r_var (i := 5) rfl (by first | exact .inl rfl | exact .inr (.inl rfl) | exact .inr (.inr rfl))) r_int) (r_callTy call_intS f_intS rfl T.z_int (by decide +kernel) (a_cons (r_var (i := 4) rfl (by first | exact .inl rfl | exact .inr (.inl rfl) | exact .inr (.inr rfl))) a_nil))) (r_glob rfl T.g_MOST_NUMBER) (nomark _))))) (s_cons (s_set (i := 5) nd rfl (by first | exact .inl rfl | exact .inr rfl) (r_op op_addI f_add (r_op op_mulA f_mulA (r_var (i := 5) rfl (by first | exact .inl rfl | exact .inr (.inl rfl) | exact .inr (.inr rfl))) r_int) (r_callTy call_intS f_intS rfl T.z_int (by decide +kernel) (a_cons (r_var (i := 4) rfl (by first | exact .inl rfl | exact .inr (.inl rfl) | exact .inr (.inr rfl))) a_nil)))) (s_cons (s_augAdd (i := 3) nd rfl (by first | exact .inl rfl | exact .inr rfl) r_int) (s_one (s_set (i := 4) nd rfl (by first | exact .inl rfl | exact .inr rfl) (r_ifExp (r_cmpT op_gtA f_gt (r_var (i := 5) rfl (by first | exact .inl rfl | exact .inr (.inl rfl) | exact .inr (.inr rfl))) r_int (nomark _)) (r_slice sl_any f_sl (r_var (i := 0) rfl (by first | exact .inl rfl | exact .inr (.inl rfl) | exact .inr (.inr rfl))) (o_some (r_var (i := 3) rfl (by first | exact .inl rfl | exact .inr (.inl rfl) | exact .inr (.inr rfl)))) (o_some (r_op op_addI f_add (r_var (i := 3) rfl (by first | exact .inl rfl | exact .inr (.inl rfl) | exact .inr (.inr rfl))) r_int))) r_str)))))) (s_one (s_ret (r_tup (a_cons (r_ifExp (r_truth (r_var (i := 2) rfl (by first | exact .inl rfl | exact .inr (.inl rfl) | exact .inr (.inr rfl))) (by intro _; rfl)) (r_un un_neg f_neg (r_var (i := 5) rfl (by first | exact .inl rfl | exact .inr (.inl rfl) | exact .inr (.inr rfl)))) (r_var (i := 5) rfl (by first | exact .inl rfl | exact .inr (.inl rfl) | exact .inr (.inr rfl)))) (a_cons (r_var (i := 3) rfl (by first | exact .inl rfl | exact .inr (.inl rfl) | exact .inr (.inr rfl))) a_nil)))))))))))
theorem k__read_word (T : Tb P w K mg base n) {f : Addr} (cdv : Value) (A : Around) (outer : List PySem.Env) (s : Shared) (H : Hp) (E : XK) (hr : Room (2 * n + 3) (A.deeper (envOfC "_read_word" (C8.fnScope s__read_word) s.heap.objs.size f cdv))) (tk : L2N.Takes (cxOf (L2N.CX P w) P w K mg base ["text", "at", "word", "k", "letter"] "_read_word" (C8.fnScope s__read_word) f cdv A outer s H E) (WC E)) :
    PSs (cxOf (L2N.CX P w) P w K mg base ["text", "at", "word", "k", "letter"] "_read_word" (C8.fnScope s__read_word) f cdv A outer s H E) (C8.fnBody s__read_word) (tIS K (WC E) (b__read_word (FF n) (GG n))) :=
  have nd := sc__read_word.nd
  have hu := hu_of hr
  have hv : (A.deeper (envOfC "_read_word" (C8.fnScope s__read_word) s.heap.objs.size f cdv)).units + 65 < cLine := by have := hr.un; omega
  (s_cons (s_for (passes_of rfl) rfl (i_enumT rfl T.z_enumerate (a_cons (r_var (i := 2) rfl (by first | exact .inl rfl | exact .inr (.inl rfl) | exact .inr (.inr rfl))) a_nil)) (g_tup rfl (gs_cons (g_name (i := 3) nd rfl (by first | exact .inl rfl | exact .inr rfl)) (gs_cons (g_name (i := 4) nd rfl (by first | exact .inl rfl | exact .inr rfl)) gs_nil))) (s_one (s_if (r_cmpT (op_neB hv) f_neB (r_slice sl_any f_sl (r_var (i := 0) rfl (by first | exact .inl rfl | exact .inr (.inl rfl) | exact .inr (.inr rfl))) (o_some (r_op op_addI f_add (r_var (i := 1) rfl (by first | exact .inl rfl | exact .inr (.inl rfl) | exact .inr (.inr rfl))) (r_var (i := 3) rfl (by first | exact .inl rfl | exact .inr (.inl rfl) | exact .inr (.inr rfl))))) (o_some (r_op op_addI f_add (r_op op_addI f_add (r_var (i := 1) rfl (by first | exact .inl rfl | exact .inr (.inl rfl) | exact .inr (.inr rfl))) (r_var (i := 3) rfl (by first | exact .inl rfl | exact .inr (.inl rfl) | exact .inr (.inr rfl)))) r_int))) (r_var (i := 4) rfl (by first | exact .inl rfl | exact .inr (.inl rfl) | exact .inr (.inr rfl))) (nomark _)) (s_one (s_raise T.r_WrittenError (fun _ _ _ _ h r => okPI_ok h r) hr (by omega) rfl rfl tk (r_op op_addI f_add (r_var (i := 1) rfl (by first | exact .inl rfl | exact .inr (.inl rfl) | exact .inr (.inr rfl))) (r_var (i := 3) rfl (by first | exact .inl rfl | exact .inr (.inl rfl) | exact .inr (.inr rfl)))))) s_nil))) (s_one (s_ret (r_op op_addI f_add (r_var (i := 1) rfl (by first | exact .inl rfl | exact .inr (.inl rfl) | exact .inr (.inr rfl))) (r_callB cr_len f_lenB rfl T.z_len (by decide +kernel) (a_cons (r_var (i := 2) rfl (by first | exact .inl rfl | exact .inr (.inl rfl) | exact .inr (.inr rfl))) a_nil))))))
theorem k__is_digit (T : Tb P w K mg base n) {f : Addr} (cdv : Value) (A : Around) (outer : List PySem.Env) (s : Shared) (H : Hp) (E : XK) (hr : Room (2 * n + 3) (A.deeper (envOfC "_is_digit" (C8.fnScope s__is_digit) s.heap.objs.size f cdv))) :
    PSs (cxOf CX0 P w K mg base ["letter"] "_is_digit" (C8.fnScope s__is_digit) f cdv A outer s H E).nox (C8.fnBody s__is_digit) (tIS K W0 (b__is_digit (FF n) (GG n))) :=
  have nd := sc__is_digit.nd
  have hu := hu_of hr
  have hv : (A.deeper (envOfC "_is_digit" (C8.fnScope s__is_digit) s.heap.objs.size f cdv)).units + 65 < cLine := by have := hr.un; omega
  (s_one (s_ret (r_chain (op_leA hr.units0) f_le (op_leA hr.units0) f_le r_str (r_var (i := 0) rfl (by first | exact .inl rfl | exact .inr (.inl rfl) | exact .inr (.inr rfl))) r_str)))
theorem k__law_state (T : Tb P w K mg base n) {f : Addr} (cdv : Value) (A : Around) (outer : List PySem.Env) (s : Shared) (H : Hp) (E : XK) (hr : Room (2 * n + 3) (A.deeper (envOfC "_law_state" (C8.fnScope s__law_state) s.heap.objs.size f cdv))) :
    PSs (cxOf CX0 P w K mg base ["script", "seed", "cell"] "_law_state" (C8.fnScope s__law_state) f cdv A outer s H E).nox (C8.fnBody s__law_state) (tIS K W0 (b__law_state (FF n) (GG n))) :=
  have nd := sc__law_state.nd
  have hu := hu_of hr
  have hv : (A.deeper (envOfC "_law_state" (C8.fnScope s__law_state) s.heap.objs.size f cdv)).units + 65 < cLine := by have := hr.un; omega
  (s_cons (s_set (i := 1) nd rfl (by first | exact .inl rfl | exact .inr rfl) r_int) (s_cons (s_for PassesOwn.never rfl (i_walk (r_var (i := 0) rfl (by first | exact .inl rfl | exact .inr (.inl rfl) | exact .inr (.inr rfl)))) (g_name (i := 2) nd rfl (by first | exact .inl rfl | exact .inr rfl)) (s_one (s_set (i := 1) nd rfl (by first | exact .inl rfl | exact .inr rfl) (r_op op_modN f_mod (r_callTy call_intS f_intS rfl T.z_int (by decide +kernel) (a_cons (r_op op_addI f_add (r_op op_mulA f_mulA (r_var (i := 1) rfl (by first | exact .inl rfl | exact .inr (.inl rfl) | exact .inr (.inr rfl))) r_int) (r_var (i := 2) rfl (by first | exact .inl rfl | exact .inr (.inl rfl) | exact .inr (.inr rfl)))) a_nil)) r_int)))) (s_one (s_ret (r_lst (a_cons (r_lc (own := [("cell", 2)]) rfl nd (i_walk (r_var (i := 0) rfl (by first | exact .inl rfl | exact .inr (.inl rfl) | exact .inr (.inr rfl)))) (by first | exact blkOk_by (N := ["script", "seed", "cell"]) (sc := C8.fnScope s__law_state) (by decide +kernel) | exact blkOk_by rfl | exact blkOk_by (by with_unfolding_all rfl)) (by decide) (fun _ _ _ _ _ => (g_name (i := 2) nd rfl (by first | exact .inl rfl | exact .inr rfl))) (fun _ _ _ _ _ => t_yes) (fun _ _ _ _ _ => (r_callB call_abs f_abs rfl T.z_abs (by decide +kernel) (a_cons (r_var (i := 2) rfl (by first | exact .inl rfl | exact .inr (.inl rfl) | exact .inr (.inr rfl))) a_nil)))) (a_cons (r_op op_addI f_add (r_var (i := 1) rfl (by first | exact .inl rfl | exact .inr (.inl rfl) | exact .inr (.inr rfl))) r_int) a_nil)))))))
theorem k__law_draw (T : Tb P w K mg base n) {f : Addr} (cdv : Value) (A : Around) (outer : List PySem.Env) (s : Shared) (H : Hp) (E : XK) (hr : Room (2 * n + 3) (A.deeper (envOfC "_law_draw" (C8.fnScope s__law_draw) s.heap.objs.size f cdv))) :
    PSs (cxOf CX0 P w K mg base ["state", "many", "cells", "mixed", "value"] "_law_draw" (C8.fnScope s__law_draw) f cdv A outer s H E).nox (C8.fnBody s__law_draw) (tIS K W0 (b__law_draw (FF n) (GG n))) :=
  have nd := sc__law_draw.nd
  have hu := hu_of hr
  have hv : (A.deeper (envOfC "_law_draw" (C8.fnScope s__law_draw) s.heap.objs.size f cdv)).units + 65 < cLine := by have := hr.un; omega
  (s_cons (s_if (r_cmpT (op_ltA hr.units0) f_lt (r_var (i := 1) rfl (by first | exact .inl rfl | exact .inr (.inl rfl) | exact .inr (.inr rfl))) r_int (nomark _)) (s_one (s_ret r_int)) s_nil) (s_cons (s_set (i := 2) nd rfl (by first | exact .inl rfl | exact .inr rfl) (r_subB hu (r_var (i := 0) rfl (by first | exact .inl rfl | exact .inr (.inl rfl) | exact .inr (.inr rfl))) r_int (fun _ _ => rfl))) (s_cons (s_while PassesOwn.never (PW.pt (w_and (r_cmpT op_gtA f_gt (r_callB cr_len f_lenB rfl T.z_len (by decide +kernel) (a_cons (r_var (i := 2) rfl (by first | exact .inl rfl | exact .inr (.inl rfl) | exact .inr (.inr rfl))) a_nil)) r_int (nomark _)) (w_and1 (r_cmpT (op_eqB hv) f_eqB (r_subB hu (r_var (i := 2) rfl (by first | exact .inl rfl | exact .inr (.inl rfl) | exact .inr (.inr rfl))) r_int (fun _ _ => rfl)) r_int (nomark _))))) (s_one (s_expr (r_pop0 (r_var (i := 2) rfl (by first | exact .inl rfl | exact .inr (.inl rfl) | exact .inr (.inr rfl))) r_int)))) (s_cons (s_if (r_cmpT op_gtA f_gt (r_callB cr_len f_lenB rfl T.z_len (by decide +kernel) (a_cons (r_var (i := 2) rfl (by first | exact .inl rfl | exact .inr (.inl rfl) | exact .inr (.inr rfl))) a_nil)) r_int (nomark _)) (s_cons (s_set (i := 4) nd rfl (by first | exact .inl rfl | exact .inr rfl) (r_subB hu (r_var (i := 2) rfl (by first | exact .inl rfl | exact .inr (.inl rfl) | exact .inr (.inr rfl))) r_int (fun _ _ => rfl))) (s_cons (s_setIx (set_any hu) f_setA (r_var (i := 2) rfl (by first | exact .inl rfl | exact .inr (.inl rfl) | exact .inr (.inr rfl))) r_int (r_op op_divI f_div (r_var (i := 4) rfl (by first | exact .inl rfl | exact .inr (.inl rfl) | exact .inr (.inr rfl))) (r_var (i := 1) rfl (by first | exact .inl rfl | exact .inr (.inl rfl) | exact .inr (.inr rfl))))) (s_one (s_ret (r_op op_modN f_mod (r_callTy call_intS f_intS rfl T.z_int (by decide +kernel) (a_cons (r_var (i := 4) rfl (by first | exact .inl rfl | exact .inr (.inl rfl) | exact .inr (.inr rfl))) a_nil)) (r_var (i := 1) rfl (by first | exact .inl rfl | exact .inr (.inl rfl) | exact .inr (.inr rfl)))))))) s_nil) (s_cons (s_set (i := 3) nd rfl (by first | exact .inl rfl | exact .inr rfl) (r_op op_modN f_mod (r_callTy call_intS f_intS rfl T.z_int (by decide +kernel) (a_cons (r_op op_addI f_add (r_op op_mulA f_mulA (r_subB hu (r_var (i := 0) rfl (by first | exact .inl rfl | exact .inr (.inl rfl) | exact .inr (.inr rfl))) r_int (fun _ _ => rfl)) r_int) r_int) a_nil)) r_int)) (s_cons (s_setIx (set_any hu) f_setA (r_var (i := 0) rfl (by first | exact .inl rfl | exact .inr (.inl rfl) | exact .inr (.inr rfl))) r_int (r_var (i := 3) rfl (by first | exact .inl rfl | exact .inr (.inl rfl) | exact .inr (.inr rfl)))) (s_one (s_ret (r_op op_modN f_mod (r_callTy call_intS f_intS rfl T.z_int (by decide +kernel) (a_cons (r_op op_divI f_div (r_var (i := 3) rfl (by first | exact .inl rfl | exact .inr (.inl rfl) | exact .inr (.inr rfl))) r_int) a_nil)) (r_var (i := 1) rfl (by first | exact .inl rfl | exact .inr (.inl rfl) | exact .inr (.inr rfl))))))))))))
theorem k__law_pick (T : Tb P w K mg base n) {f : Addr} (cdv : Value) (A : Around) (outer : List PySem.Env) (s : Shared) (H : Hp) (E : XK) (hr : Room (2 * n + 3) (A.deeper (envOfC "_law_pick" (C8.fnScope s__law_pick) s.heap.objs.size f cdv))) :
    PSs (cxOf CX0 P w K mg base ["state", "row"] "_law_pick" (C8.fnScope s__law_pick) f cdv A outer s H E).nox (C8.fnBody s__law_pick) (tIS K W0 (b__law_pick (FF n) (GG n))) :=
  have nd := sc__law_pick.nd
  have hu := hu_of hr
  have hv : (A.deeper (envOfC "_law_pick" (C8.fnScope s__law_pick) s.heap.objs.size f cdv)).units + 65 < cLine := by have := hr.un; omega
  (s_one (s_ret (r_subB hu (r_var (i := 1) rfl (by first | exact .inl rfl | exact .inr (.inl rfl) | exact .inr (.inr rfl))) (j_call T.c__law_draw (ar__law_draw _) hr (Nat.le_succ _) rfl (a_cons (r_var (i := 0) rfl (by first | exact .inl rfl | exact .inr (.inl rfl) | exact .inr (.inr rfl))) (a_cons (r_callB cr_len f_lenB rfl T.z_len (by decide +kernel) (a_cons (r_var (i := 1) rfl (by first | exact .inl rfl | exact .inr (.inl rfl) | exact .inr (.inr rfl))) a_nil)) a_nil))) (fun _ _ => rfl))))
theorem k__law_type (T : Tb P w K mg base n) {f : Addr} (cdv : Value) (A : Around) (outer : List PySem.Env) (s : Shared) (H : Hp) (E : XK) (hr : Room (2 * n + 3) (A.deeper (envOfC "_law_type" (C8.fnScope s__law_type) s.heap.objs.size f cdv))) :
    PSs (cxOf CX0 P w K mg base ["state", "deep"] "_law_type" (C8.fnScope s__law_type) f cdv A outer s H E).nox (C8.fnBody s__law_type) (tIS K W0 (b__law_type (FF n) (GG n))) :=
  have nd := sc__law_type.nd
  have hu := hu_of hr
  have hv : (A.deeper (envOfC "_law_type" (C8.fnScope s__law_type) s.heap.objs.size f cdv)).units + 65 < cLine := by have := hr.un; omega
  (s_cons (s_if (PW.pt (w_and (r_cmpT op_gtA f_gt (r_var (i := 1) rfl (by first | exact .inl rfl | exact .inr (.inl rfl) | exact .inr (.inr rfl))) r_int (nomark _)) (w_and1 (r_cmpT (op_eqB hv) f_eqB (j_call T.c__law_draw (ar__law_draw _) hr (Nat.le_succ _) rfl (a_cons (r_var (i := 0) rfl (by first | exact .inl rfl | exact .inr (.inl rfl) | exact .inr (.inr rfl))) (a_cons r_int a_nil))) r_int (nomark _))))) (s_one (s_ret (r_tup (a_cons r_str (a_cons (j_call T.c__law_type (ar__law_type _) hr (Nat.le_succ _) rfl (a_cons (r_var (i := 0) rfl (by first | exact .inl rfl | exact .inr (.inl rfl) | exact .inr (.inr rfl))) (a_cons (r_op op_subI f_sub (r_var (i := 1) rfl (by first | exact .inl rfl | exact .inr (.inl rfl) | exact .inr (.inr rfl))) r_int) a_nil))) a_nil))))) s_nil) (s_one (s_ret (j_call T.c__law_pick (ar__law_pick _) hr (Nat.le_succ _) rfl (a_cons (r_var (i := 0) rfl (by first | exact .inl rfl | exact .inr (.inl rfl) | exact .inr (.inr rfl))) (a_cons (r_new (r_lst (a_cons r_str (a_cons r_str (a_cons r_str (a_cons r_str a_nil)))))) a_nil))))))
theorem k__law_value (T : Tb P w K mg base n) {f : Addr} (cdv : Value) (A : Around) (outer : List PySem.Env) (s : Shared) (H : Hp) (E : XK) (hr : Room (2 * n + 3) (A.deeper (envOfC "_law_value" (C8.fnScope s__law_value) s.heap.objs.size f cdv))) :
    PSs (cxOf CX0 P w K mg base ["state", "kind", "many", "k"] "_law_value" (C8.fnScope s__law_value) f cdv A outer s H E).nox (C8.fnBody s__law_value) (tIS K W0 (b__law_value (FF n) (GG n))) :=
  have nd := sc__law_value.nd
  have hu := hu_of hr
  have hv : (A.deeper (envOfC "_law_value" (C8.fnScope s__law_value) s.heap.objs.size f cdv)).units + 65 < cLine := by have := hr.un; omega
  (s_cons (s_if (r_cmpT (op_eqB hv) f_eqB (r_var (i := 1) rfl (by first | exact .inl rfl | exact .inr (.inl rfl) | exact .inr (.inr rfl))) r_str (nomark _)) (s_one (s_ret (r_tup (a_cons r_str (a_cons (j_call T.c__law_pick (ar__law_pick _) hr (Nat.le_succ _) rfl (a_cons (r_var (i := 0) rfl (by first | exact .inl rfl | exact .inr (.inl rfl) | exact .inr (.inr rfl))) (a_cons (r_new (r_lst (a_cons r_int (a_cons r_int (a_cons (r_un un_neg f_neg r_int) (a_cons r_int (a_cons (r_un un_neg f_neg (r_op op_pow f_pow r_int r_int)) (a_cons (r_op op_pow f_pow r_int r_int) (a_cons (r_op op_subI f_sub (j_call T.c__law_draw (ar__law_draw _) hr (Nat.le_succ _) rfl (a_cons (r_var (i := 0) rfl (by first | exact .inl rfl | exact .inr (.inl rfl) | exact .inr (.inr rfl))) (a_cons r_int a_nil))) r_int) a_nil))))))))) a_nil))) a_nil))))) s_nil) (s_cons (s_if (r_cmpT (op_eqB hv) f_eqB (r_var (i := 1) rfl (by first | exact .inl rfl | exact .inr (.inl rfl) | exact .inr (.inr rfl))) r_str (nomark _)) (s_one (s_ret (r_tup (a_cons r_str (a_cons (r_cmp (op_eqB hv) f_eqB (j_call T.c__law_draw (ar__law_draw _) hr (Nat.le_succ _) rfl (a_cons (r_var (i := 0) rfl (by first | exact .inl rfl | exact .inr (.inl rfl) | exact .inr (.inr rfl))) (a_cons r_int a_nil))) r_int (nomark _)) a_nil))))) s_nil) (s_cons (s_if (r_cmpT (op_eqB hv) f_eqB (r_var (i := 1) rfl (by first | exact .inl rfl | exact .inr (.inl rfl) | exact .inr (.inr rfl))) r_str (nomark _)) (s_one (s_ret (r_tup (a_cons r_str (a_cons (j_call T.c__law_pick (ar__law_pick _) hr (Nat.le_succ _) rfl (a_cons (r_var (i := 0) rfl (by first | exact .inl rfl | exact .inr (.inl rfl) | exact .inr (.inr rfl))) (a_cons (r_new (r_lst (a_cons r_str (a_cons r_str (a_cons r_str (a_cons r_str (a_cons r_str (a_cons (r_op op_mulA f_mulA r_str r_int) (a_cons (r_op op_mulA f_mulA r_str r_int) (a_cons r_str a_nil)))))))))) a_nil))) a_nil))))) s_nil) (s_cons (s_if (r_cmpT (op_eqB hv) f_eqB (r_var (i := 1) rfl (by first | exact .inl rfl | exact .inr (.inl rfl) | exact .inr (.inr rfl))) r_str (nomark _)) (s_one (s_ret (r_tup (a_cons r_str a_nil)))) s_nil) (s_cons (s_set (i := 2) nd rfl (by first | exact .inl rfl | exact .inr rfl) (r_ifExp (PW.pt (w_and (r_cmpT (op_eqB hv) f_eqB (j_call T.c__law_draw (ar__law_draw _) hr (Nat.le_succ _) rfl (a_cons (r_var (i := 0) rfl (by first | exact .inl rfl | exact .inr (.inl rfl) | exact .inr (.inr rfl))) (a_cons r_int a_nil))) r_int (nomark _)) (w_and1 (r_not (r_truth (r_callB call_isi f_isi rfl T.z_isinstance (by decide +kernel) (a_cons (r_subB hu (r_var (i := 1) rfl (by first | exact .inl rfl | exact .inr (.inl rfl) | exact .inr (.inr rfl))) r_int (fun _ _ => rfl)) (a_cons (r_ty rfl T.z_tuple (by decide +kernel)) a_nil))) (by intro _; rfl)))))) r_int (j_call T.c__law_draw (ar__law_draw _) hr (Nat.le_succ _) rfl (a_cons (r_var (i := 0) rfl (by first | exact .inl rfl | exact .inr (.inl rfl) | exact .inr (.inr rfl))) (a_cons r_int a_nil))))) (s_one (s_ret (r_tup (a_cons r_str (a_cons (r_callTy call_tuple_of f_tuple rfl T.z_tuple (by decide +kernel) (a_cons (r_new (r_lc (own := [("k", 3)]) rfl nd (i_range1 rfl T.z_range (a_cons (r_var (i := 2) rfl (by first | exact .inl rfl | exact .inr (.inl rfl) | exact .inr (.inr rfl))) a_nil)) (by first | exact blkOk_by (N := ["state", "kind", "many", "k"]) (sc := C8.fnScope s__law_value) (by decide +kernel) | exact blkOk_by rfl | exact blkOk_by (by with_unfolding_all rfl)) (by decide) (fun _ _ _ _ _ => (g_name (i := 3) nd rfl (by first | exact .inl rfl | exact .inr rfl))) (fun _ _ _ _ _ => t_yes) (fun _ _ _ _ _ => (j_call T.c__law_value (ar__law_value _) hr (Nat.le_succ _) rfl (a_cons (r_var (i := 0) rfl (by first | exact .inl rfl | exact .inr (.inl rfl) | exact .inr (.inr rfl))) (a_cons (r_subB hu (r_var (i := 1) rfl (by first | exact .inl rfl | exact .inr (.inl rfl) | exact .inr (.inr rfl))) r_int (fun _ _ => rfl)) a_nil)))))) a_nil)) a_nil))))))))))
theorem k__law_shown (T : Tb P w K mg base n) {f : Addr} (cdv : Value) (A : Around) (outer : List PySem.Env) (s : Shared) (H : Hp) (E : XK) (hr : Room (2 * n + 3) (A.deeper (envOfC "_law_shown" (C8.fnScope s__law_shown) s.heap.objs.size f cdv))) :
    PSs (cxOf CX0 P w K mg base ["value", "item", "char"] "_law_shown" (C8.fnScope s__law_shown) f cdv A outer s H E).nox (C8.fnBody s__law_shown) (tIS K W0 (b__law_shown (FF n) (GG n))) :=
  have nd := sc__law_shown.nd
  have hu := hu_of hr
  have hv : (A.deeper (envOfC "_law_shown" (C8.fnScope s__law_shown) s.heap.objs.size f cdv)).units + 65 < cLine := by have := hr.un; omega
  (s_cons (s_if (r_cmpT (op_eqB hv) f_eqB (r_subB hu (r_var (i := 0) rfl (by first | exact .inl rfl | exact .inr (.inl rfl) | exact .inr (.inr rfl))) r_int (fun _ _ => rfl)) r_str (nomark _)) (s_one (s_ret (r_callTy call_str_int f_str rfl T.z_str (by decide +kernel) (a_cons (r_subB hu (r_var (i := 0) rfl (by first | exact .inl rfl | exact .inr (.inl rfl) | exact .inr (.inr rfl))) r_int (fun _ _ => rfl)) a_nil)))) s_nil) (s_cons (s_if (r_cmpT (op_eqB hv) f_eqB (r_subB hu (r_var (i := 0) rfl (by first | exact .inl rfl | exact .inr (.inl rfl) | exact .inr (.inr rfl))) r_int (fun _ _ => rfl)) r_str (nomark _)) (s_one (s_ret (r_ifExp (r_truth (r_subB hu (r_var (i := 0) rfl (by first | exact .inl rfl | exact .inr (.inl rfl) | exact .inr (.inr rfl))) r_int (fun _ _ => rfl)) (by intro _; rfl)) r_str r_str))) s_nil) (s_cons (s_if (r_cmpT (op_eqB hv) f_eqB (r_subB hu (r_var (i := 0) rfl (by first | exact .inl rfl | exact .inr (.inl rfl) | exact .inr (.inr rfl))) r_int (fun _ _ => rfl)) r_str (nomark _)) (s_one (s_ret (r_op op_addI f_add (r_op op_addI f_add r_str (r_join r_str (r_new (r_lc (own := [("char", 2)]) rfl nd (i_walk (r_subB hu (r_var (i := 0) rfl (by first | exact .inl rfl | exact .inr (.inl rfl) | exact .inr (.inr rfl))) r_int (fun _ _ => rfl))) (by first | exact blkOk_by (N := ["value", "item", "char"]) (sc := C8.fnScope s__law_shown) (by decide +kernel) | exact blkOk_by rfl | exact blkOk_by (by with_unfolding_all rfl)) (by decide) (fun _ _ _ _ _ => (g_name (i := 2) nd rfl (by first | exact .inl rfl | exact .inr rfl))) (fun _ _ _ _ _ => t_yes) (fun _ _ _ _ _ => (r_ifExp (r_cmpT (op_eqB hv) f_eqB (r_var (i := 2) rfl (by first | exact .inl rfl | exact .inr (.inl rfl) | exact .inr (.inr rfl))) r_str (nomark _)) r_str (r_var (i := 2) rfl (by first | exact .inl rfl | exact .inr (.inl rfl) | exact .inr (.inr rfl))))))))) r_str))) s_nil) (s_cons (s_if (r_cmpT (op_eqB hv) f_eqB (r_subB hu (r_var (i := 0) rfl (by first | exact .inl rfl | exact .inr (.inl rfl) | exact .inr (.inr rfl))) r_int (fun _ _ => rfl)) r_str (nomark _)) (s_one (s_ret r_str)) s_nil) (s_one (s_ret (r_op op_addI f_add (r_op op_addI f_add r_str (r_join r_str (r_new (r_lc (own := [("item", 1)]) rfl nd (i_walk (r_subB hu (r_var (i := 0) rfl (by first | exact .inl rfl | exact .inr (.inl rfl) | exact .inr (.inr rfl))) r_int (fun _ _ => rfl))) (by first | exact blkOk_by (N := ["value", "item", "char"]) (sc := C8.fnScope s__law_shown) (by decide +kernel) | exact blkOk_by rfl | exact blkOk_by (by with_unfolding_all rfl)) (by decide) (fun _ _ _ _ _ => (g_name (i := 1) nd rfl (by first | exact .inl rfl | exact .inr rfl))) (fun _ _ _ _ _ => t_yes) (fun _ _ _ _ _ => (j_call T.c__law_shown (ar__law_shown _) hr (Nat.le_succ _) rfl (a_cons (r_var (i := 1) rfl (by first | exact .inl rfl | exact .inr (.inl rfl) | exact .inr (.inr rfl))) a_nil))))))) r_str)))))))
theorem k__law_shown_type (T : Tb P w K mg base n) {f : Addr} (cdv : Value) (A : Around) (outer : List PySem.Env) (s : Shared) (H : Hp) (E : XK) (hr : Room (2 * n + 3) (A.deeper (envOfC "_law_shown_type" (C8.fnScope s__law_shown_type) s.heap.objs.size f cdv))) :
    PSs (cxOf CX0 P w K mg base ["kind", "inner", "depth"] "_law_shown_type" (C8.fnScope s__law_shown_type) f cdv A outer s H E).nox (C8.fnBody s__law_shown_type) (tIS K W0 (b__law_shown_type (FF n) (GG n))) :=
  have nd := sc__law_shown_type.nd
  have hu := hu_of hr
  have hv : (A.deeper (envOfC "_law_shown_type" (C8.fnScope s__law_shown_type) s.heap.objs.size f cdv)).units + 65 < cLine := by have := hr.un; omega
  (s_cons (s_set (i := 1) nd rfl (by first | exact .inl rfl | exact .inr rfl) (r_var (i := 0) rfl (by first | exact .inl rfl | exact .inr (.inl rfl) | exact .inr (.inr rfl)))) (s_cons (s_set (i := 2) nd rfl (by first | exact .inl rfl | exact .inr rfl) r_int) (s_cons (s_while PassesOwn.never (r_truth (r_callB call_isi f_isi rfl T.z_isinstance (by decide +kernel) (a_cons (r_var (i := 1) rfl (by first | exact .inl rfl | exact .inr (.inl rfl) | exact .inr (.inr rfl))) (a_cons (r_ty rfl T.z_tuple (by decide +kernel)) a_nil))) (by intro _; rfl)) (s_cons (s_set (i := 1) nd rfl (by first | exact .inl rfl | exact .inr rfl) (r_subB hu (r_var (i := 1) rfl (by first | exact .inl rfl | exact .inr (.inl rfl) | exact .inr (.inr rfl))) r_int (fun _ _ => rfl))) (s_one (s_set (i := 2) nd rfl (by first | exact .inl rfl | exact .inr rfl) (r_op op_addI f_add (r_var (i := 2) rfl (by first | exact .inl rfl | exact .inr (.inl rfl) | exact .inr (.inr rfl))) r_int))))) (s_one (s_ret (r_op op_addI f_add (r_op op_addI f_add (r_op op_mulA f_mulA r_str (r_var (i := 2) rfl (by first | exact .inl rfl | exact .inr (.inl rfl) | exact .inr (.inr rfl)))) (r_var (i := 1) rfl (by first | exact .inl rfl | exact .inr (.inl rfl) | exact .inr (.inr rfl)))) (r_op op_mulA f_mulA r_str (r_var (i := 2) rfl (by first | exact .inl rfl | exact .inr (.inl rfl) | exact .inr (.inr rfl))))))))))
theorem k_law (T : Tb P w K mg base n) {f : Addr} (cdv : Value) (A : Around) (outer : List PySem.Env) (s : Shared) (H : Hp) (E : XK) (hr : Room (2 * n + 3) (A.deeper (envOfC "law" (C8.fnScope s_law) s.heap.objs.size f cdv))) (hG : (A.deeper (envOfC "law" (C8.fnScope s_law) s.heap.objs.size f cdv)).guards = some []) :
    PSs (cxOf CX0 P w K mg base ["script", "state", "values", "k", "one", "kind", "value", "text", "other", "told", "e"] "law" (C8.fnScope s_law) f cdv A outer s H E).nox (C8.fnBody s_law) (tIS K W0 (b_law (FF n) (GG n))) :=
  have nd := sc_law.nd
  have hu := hu_of hr
  have hv : (A.deeper (envOfC "law" (C8.fnScope s_law) s.heap.objs.size f cdv)).units + 65 < cLine := by have := hr.un; omega
  (s_cons (s_set (i := 1) nd rfl (by first | exact .inl rfl | exact .inr rfl) (j_call T.c__law_state (ar__law_state _) hr (Nat.le_succ _) rfl (a_cons (r_var (i := 0) rfl (by first | exact .inl rfl | exact .inr (.inl rfl) | exact .inr (.inr rfl))) a_nil))) (s_cons (s_set (i := 2) nd rfl (by first | exact .inl rfl | exact .inr rfl) (r_lst a_nil)) (s_cons (s_for PassesOwn.never rfl (i_range1 rfl T.z_range (a_cons r_int a_nil)) (g_name (i := 3) nd rfl (by first | exact .inl rfl | exact .inr rfl)) (s_cons (s_set (i := 5) nd rfl (by first | exact .inl rfl | exact .inr rfl) (j_call T.c__law_type (ar__law_type _) hr (Nat.le_succ _) rfl (a_cons (r_var (i := 1) rfl (by first | exact .inl rfl | exact .inr (.inl rfl) | exact .inr (.inr rfl))) (a_cons r_int a_nil)))) (s_cons (s_set (i := 6) nd rfl (by first | exact .inl rfl | exact .inr rfl) (j_call T.c__law_value (ar__law_value _) hr (Nat.le_succ _) rfl (a_cons (r_var (i := 1) rfl (by first | exact .inl rfl | exact .inr (.inl rfl) | exact .inr (.inr rfl))) (a_cons (r_var (i := 5) rfl (by first | exact .inl rfl | exact .inr (.inl rfl) | exact .inr (.inr rfl))) a_nil)))) (s_cons (s_expr (r_append (r_var (i := 2) rfl (by first | exact .inl rfl | exact .inr (.inl rfl) | exact .inr (.inr rfl))) (r_var (i := 6) rfl (by first | exact .inl rfl | exact .inr (.inl rfl) | exact .inr (.inr rfl))))) (s_cons (s_set (i := 7) nd rfl (by first | exact .inl rfl | exact .inr rfl) (j_call T.c__law_shown (ar__law_shown _) hr (Nat.le_succ _) rfl (a_cons (r_var (i := 6) rfl (by first | exact .inl rfl | exact .inr (.inl rfl) | exact .inr (.inr rfl))) a_nil))) (s_cons (s_if (PW.pt (w_or (r_cmpT (op_neB hv) f_neB (j_call T.c_show_value (ar_show_value _) hr (Nat.le_succ _) rfl (a_cons (r_var (i := 6) rfl (by first | exact .inl rfl | exact .inr (.inl rfl) | exact .inr (.inr rfl))) a_nil)) (r_var (i := 7) rfl (by first | exact .inl rfl | exact .inr (.inl rfl) | exact .inr (.inr rfl))) (nomark _)) (w_or (r_cmpT (op_neB hv) f_neB (x_callP T.c_read_value (ar_read_value _) hr (Nat.le_succ _) rfl (a_cons (r_var (i := 7) rfl (by first | exact .inl rfl | exact .inr (.inl rfl) | exact .inr (.inr rfl))) a_nil)) (r_var (i := 6) rfl (by first | exact .inl rfl | exact .inr (.inl rfl) | exact .inr (.inr rfl))) (nomark _)) (w_or1 (r_cmpT (op_neB hv) f_neB (x_callP T.c_read_typed (ar_read_typed _) hr (Nat.le_succ _) rfl (a_cons (r_var (i := 7) rfl (by first | exact .inl rfl | exact .inr (.inl rfl) | exact .inr (.inr rfl))) (a_cons (r_var (i := 5) rfl (by first | exact .inl rfl | exact .inr (.inl rfl) | exact .inr (.inr rfl))) a_nil))) (r_var (i := 6) rfl (by first | exact .inl rfl | exact .inr (.inl rfl) | exact .inr (.inr rfl))) (nomark _)))))) (s_one (s_ret r_bl)) s_nil) (s_cons (s_if (r_cmpT (op_neB hv) f_neB (j_call T.c_show_type (ar_show_type _) hr (Nat.le_succ _) rfl (a_cons (r_var (i := 5) rfl (by first | exact .inl rfl | exact .inr (.inl rfl) | exact .inr (.inr rfl))) a_nil)) (j_call T.c__law_shown_type (ar__law_shown_type _) hr (Nat.le_succ _) rfl (a_cons (r_var (i := 5) rfl (by first | exact .inl rfl | exact .inr (.inl rfl) | exact .inr (.inr rfl))) a_nil)) (nomark _)) (s_one (s_ret r_bl)) s_nil) (s_cons (s_set (i := 8) nd rfl (by first | exact .inl rfl | exact .inr rfl) (j_call T.c__law_type (ar__law_type _) hr (Nat.le_succ _) rfl (a_cons (r_var (i := 1) rfl (by first | exact .inl rfl | exact .inr (.inl rfl) | exact .inr (.inr rfl))) (a_cons r_int a_nil)))) (s_one (s_catch (X := (cxOf CX0 P w K mg base ["script", "state", "values", "k", "one", "kind", "value", "text", "other", "told", "e"] "law" (C8.fnScope s_law) f cdv A outer s H E).nox) (i := 10) rfl rfl nd rfl rfl T.h_WrittenError rfl (fun V pl out tk => (s_one (s_setX (i := 9) nd rfl (by first | exact .inl rfl | exact .inr rfl) (x_call T.c_read_typed (ar_read_typed _) hr (Nat.le_succ _) rfl tk (a_cons (r_var (i := 7) rfl (by first | exact .inl rfl | exact .inr (.inl rfl) | exact .inr (.inr rfl))) (a_cons (r_var (i := 8) rfl (by first | exact .inl rfl | exact .inr (.inl rfl) | exact .inr (.inr rfl))) a_nil)))))) (fun C x ox d pl fs hC hz hf => j_one (j_if (PW.pt (j_or xj_keeps (j_not (j_truth (j_is T.is_WrittenError_FlowError hC hz.zc hf (i := 10) rfl (by first | exact .inl rfl | exact .inr (.inl rfl) | exact .inr (.inr rfl)) rfl T.z_isinstance rfl) (by intro _; rfl))) (j_or xj_keeps (j_t (r_truth (h_call T.c_fitsH (ar_fitsH _) (roomH_suite hr) (hot_suite hz hf) (Nat.le_succ _) rfl (a_cons (r_var (i := 6) rfl (by first | exact .inl rfl | exact .inr (.inl rfl) | exact .inr (.inr rfl))) (a_cons (r_var (i := 8) rfl (by first | exact .inl rfl | exact .inr (.inl rfl) | exact .inr (.inr rfl))) a_nil))) (by intro _; rfl))) (j_or1 (j_not (j_chainT (@xj_keeps _ _ _ _ _) (op_leA hr.units0) f_le (op_leA hr.units0) f_le (j_e r_int) (j_at T.at_WrittenError_at hC hz.zc hf (i := 10) rfl (by first | exact .inl rfl | exact .inr (.inl rfl) | exact .inr (.inr rfl))) (j_e (r_callB cr_len f_lenB rfl T.z_len (by decide +kernel) (a_cons (r_var (i := 7) rfl (by first | exact .inl rfl | exact .inr (.inl rfl) | exact .inr (.inr rfl))) a_nil))))))))) (s_one (s_ret r_bl)) s_nil)) (s_one (s_if (PW.pt (w_or (r_cmpT (op_neB hv) f_neB (r_var (i := 9) rfl (by first | exact .inl rfl | exact .inr (.inl rfl) | exact .inr (.inr rfl))) (r_var (i := 6) rfl (by first | exact .inl rfl | exact .inr (.inl rfl) | exact .inr (.inr rfl))) (nomark _)) (w_or1 (r_not (r_truth (j_call T.c_fits (ar_fits _) hr (Nat.le_succ _) rfl (a_cons (r_var (i := 6) rfl (by first | exact .inl rfl | exact .inr (.inl rfl) | exact .inr (.inr rfl))) (a_cons (r_var (i := 8) rfl (by first | exact .inl rfl | exact .inr (.inl rfl) | exact .inr (.inr rfl))) a_nil))) (by intro _; rfl)))))) (s_one (s_ret r_bl)) s_nil)))))))))))) (s_cons (s_for PassesOwn.never rfl (i_walk (r_var (i := 2) rfl (by first | exact .inl rfl | exact .inr (.inl rfl) | exact .inr (.inr rfl)))) (g_name (i := 4) nd rfl (by first | exact .inl rfl | exact .inr rfl)) (s_one (s_for PassesOwn.never rfl (i_walk (r_var (i := 2) rfl (by first | exact .inl rfl | exact .inr (.inl rfl) | exact .inr (.inr rfl)))) (g_name (i := 8) nd rfl (by first | exact .inl rfl | exact .inr rfl)) (s_one (s_if (r_cmpT (op_neB hv) f_neB (r_cmp (op_eqB hv) f_eqB (j_call T.c_show_value (ar_show_value _) hr (Nat.le_succ _) rfl (a_cons (r_var (i := 4) rfl (by first | exact .inl rfl | exact .inr (.inl rfl) | exact .inr (.inr rfl))) a_nil)) (j_call T.c_show_value (ar_show_value _) hr (Nat.le_succ _) rfl (a_cons (r_var (i := 8) rfl (by first | exact .inl rfl | exact .inr (.inl rfl) | exact .inr (.inr rfl))) a_nil)) (nomark _)) (r_cmp (op_eqB hv) f_eqB (r_var (i := 4) rfl (by first | exact .inl rfl | exact .inr (.inl rfl) | exact .inr (.inr rfl))) (r_var (i := 8) rfl (by first | exact .inl rfl | exact .inr (.inl rfl) | exact .inr (.inr rfl))) (nomark _)) (nomark _)) (s_one (s_ret r_bl)) s_nil))))) (s_one (s_ret r_bl))))))
theorem k_fitsH (T : Tb P w K mg base n) {f : Addr} (cdv : Value) (A : Around) (outer : List PySem.Env) (s : Shared) (H : Hp) (E : XK) (p : Addr × Obj) (h1 : Hot1 A p) (hr : RoomH (2 * n + 3) (A.deeper (envOfC "fits" (C8.fnScope s_fits) s.heap.objs.size f cdv))) :
    PSs (cxH C8.CX0 P w K mg base ["value", "kind", "item"] "fits" (C8.fnScope s_fits) f cdv A outer s H E p) (C8.fnBody s_fits) (tIS K W0 (b_fitsH (FF n) (GG n))) :=
  have nd := sc_fits.nd
  have hot : HotC (cxH C8.CX0 P w K mg base ["value", "kind", "item"] "fits" (C8.fnScope s_fits) f cdv A outer s H E p) := ⟨p, h1, List.mem_cons_self⟩
  have hu : (A.deeper (envOfC "fits" (C8.fnScope s_fits) s.heap.objs.size f cdv)).units + 1 < cLine := by have := hr.un; omega
  have hv : (A.deeper (envOfC "fits" (C8.fnScope s_fits) s.heap.objs.size f cdv)).units + 65 < cLine := by have := hr.un; omega
  (s_cons (s_if (r_cmpT (op_eqB hv) f_eqB (r_subB hu (r_var (i := 0) rfl (by first | exact .inl rfl | exact .inr (.inl rfl) | exact .inr (.inr rfl))) r_int (fun _ _ => rfl)) r_str (nomark _)) (s_one (s_ret (r_andV (r_callB call_isi f_isi rfl T.z_isinstance (by decide +kernel) (a_cons (r_var (i := 1) rfl (by first | exact .inl rfl | exact .inr (.inl rfl) | exact .inr (.inr rfl))) (a_cons (r_ty rfl T.z_tuple (by decide +kernel)) a_nil))) (r_one (r_callB (cr_allH hot) f_all rfl T.z_all (by decide +kernel) (a_cons (r_new (r_lcH (own := [("item", 2)]) hot nd (i_walkH (r_subB hu (r_var (i := 0) rfl (by first | exact .inl rfl | exact .inr (.inl rfl) | exact .inr (.inr rfl))) r_int (fun _ _ => rfl))) (by first | exact blkOk_by (N := ["value", "kind", "item"]) (sc := C8.fnScope s_fits) (by decide +kernel) | exact blkOk_by rfl | exact blkOk_by (by with_unfolding_all rfl)) (by decide) (fun _ _ _ _ _ => (g_name (i := 2) nd rfl (by first | exact .inl rfl | exact .inr rfl))) (fun _ _ _ _ _ => t_yes) (fun _ _ _ _ _ => (h_call T.c_fitsH (ar_fitsH _) hr (hot_blk hot) (Nat.le_succ _) rfl (a_cons (r_var (i := 2) rfl (by first | exact .inl rfl | exact .inr (.inl rfl) | exact .inr (.inr rfl))) (a_cons (r_subB hu (r_var (i := 1) rfl (by first | exact .inl rfl | exact .inr (.inl rfl) | exact .inr (.inr rfl))) r_int (fun _ _ => rfl)) a_nil)))))) a_nil)))))) s_nil) (s_one (s_ret (r_cmp (op_eqB hv) f_eqB (r_subB hu (r_var (i := 0) rfl (by first | exact .inl rfl | exact .inr (.inl rfl) | exact .inr (.inr rfl))) r_int (fun _ _ => rfl)) (r_var (i := 1) rfl (by first | exact .inl rfl | exact .inr (.inl rfl) | exact .inr (.inr rfl))) (nomark _)))))
theorem t_fitsH {f : Addr} {fd : FuncData} (F : C8.Def K mg "fits" s_fits f fd) (b : Binds K fd ["value", "kind"] []) (T : Tb P w K mg base n) : CalH P w K mg base (2 * (n + 1) + 2) "fits" 2 (FF (n + 1) I_fitsH) := cal_H F b sc_fits (k_fitsH T)
theorem t_is_type {f : Addr} {fd : FuncData} (F : C8.Def K mg "is_type" s_is_type f fd) (b : Binds K fd ["kind"] []) (T : Tb P w K mg base n) : CalJ P w K mg base (2 * (n + 1) + 2) "is_type" 1 (FF (n + 1) I_is_type) := cal_J F b sc_is_type (k_is_type T)
theorem t_is_letter {f : Addr} {fd : FuncData} (F : C8.Def K mg "is_letter" s_is_letter f fd) (b : Binds K fd ["letter"] []) (T : Tb P w K mg base n) : CalJ P w K mg base (2 * (n + 1) + 2) "is_letter" 1 (FF (n + 1) I_is_letter) := cal_J F b sc_is_letter (k_is_letter T)
theorem t_fits {f : Addr} {fd : FuncData} (F : C8.Def K mg "fits" s_fits f fd) (b : Binds K fd ["value", "kind"] []) (T : Tb P w K mg base n) : CalJ P w K mg base (2 * (n + 1) + 2) "fits" 2 (FF (n + 1) I_fits) := cal_J F b sc_fits (k_fits T)
theorem t_show_type {f : Addr} {fd : FuncData} (F : C8.Def K mg "show_type" s_show_type f fd) (b : Binds K fd ["kind"] []) (T : Tb P w K mg base n) : CalJ P w K mg base (2 * (n + 1) + 2) "show_type" 1 (FF (n + 1) I_show_type) := cal_J F b sc_show_type (k_show_type T)
theorem t_show_value {f : Addr} {fd : FuncData} (F : C8.Def K mg "show_value" s_show_value f fd) (b : Binds K fd ["value"] []) (T : Tb P w K mg base n) : CalJ P w K mg base (2 * (n + 1) + 2) "show_value" 1 (FF (n + 1) I_show_value) := cal_J F b sc_show_value (k_show_value T)
theorem t_read_value {f : Addr} {fd : FuncData} (F : C8.Def K mg "read_value" s_read_value f fd) (b : Binds K fd ["text"] []) (T : Tb P w K mg base n) : CalX P w K mg base (2 * (n + 1) + 2) "read_value" 1 (GG (n + 1) I_read_value) := cal_X F b sc_read_value (k_read_value T)
theorem t_read_typed {f : Addr} {fd : FuncData} (F : C8.Def K mg "read_typed" s_read_typed f fd) (b : Binds K fd ["text", "kind"] []) (T : Tb P w K mg base n) : CalX P w K mg base (2 * (n + 1) + 2) "read_typed" 2 (GG (n + 1) I_read_typed) := cal_X F b sc_read_typed (k_read_typed T)
theorem t__read_whole {f : Addr} {fd : FuncData} (F : C8.Def K mg "_read_whole" s__read_whole f fd) (b : Binds K fd ["text", "wanted"] []) (T : Tb P w K mg base n) : CalX P w K mg base (2 * (n + 1) + 2) "_read_whole" 2 (GG (n + 1) I__read_whole) := cal_X F b sc__read_whole (k__read_whole T)
theorem t__read_at {f : Addr} {fd : FuncData} (F : C8.Def K mg "_read_at" s__read_at f fd) (b : Binds K fd ["text", "at", "wanted", "depth"] []) (T : Tb P w K mg base n) : CalX P w K mg base (2 * (n + 1) + 2) "_read_at" 4 (GG (n + 1) I__read_at) := cal_X F b sc__read_at (k__read_at T)
theorem t__read_list {f : Addr} {fd : FuncData} (F : C8.Def K mg "_read_list" s__read_list f fd) (b : Binds K fd ["text", "at", "wanted", "depth"] []) (T : Tb P w K mg base n) : CalX P w K mg base (2 * (n + 1) + 2) "_read_list" 4 (GG (n + 1) I__read_list) := cal_X F b sc__read_list (k__read_list T)
theorem t__read_text {f : Addr} {fd : FuncData} (F : C8.Def K mg "_read_text" s__read_text f fd) (b : Binds K fd ["text", "at"] []) (T : Tb P w K mg base n) : CalX P w K mg base (2 * (n + 1) + 2) "_read_text" 2 (GG (n + 1) I__read_text) := cal_X F b sc__read_text (k__read_text T)
theorem t__read_number {f : Addr} {fd : FuncData} (F : C8.Def K mg "_read_number" s__read_number f fd) (b : Binds K fd ["text", "at"] []) (T : Tb P w K mg base n) : CalX P w K mg base (2 * (n + 1) + 2) "_read_number" 2 (GG (n + 1) I__read_number) := cal_X F b sc__read_number (k__read_number T)
theorem t__read_word {f : Addr} {fd : FuncData} (F : C8.Def K mg "_read_word" s__read_word f fd) (b : Binds K fd ["text", "at", "word"] []) (T : Tb P w K mg base n) : CalX P w K mg base (2 * (n + 1) + 2) "_read_word" 3 (GG (n + 1) I__read_word) := cal_X F b sc__read_word (k__read_word T)
theorem t__is_digit {f : Addr} {fd : FuncData} (F : C8.Def K mg "_is_digit" s__is_digit f fd) (b : Binds K fd ["letter"] []) (T : Tb P w K mg base n) : CalJ P w K mg base (2 * (n + 1) + 2) "_is_digit" 1 (FF (n + 1) I__is_digit) := cal_J F b sc__is_digit (k__is_digit T)
theorem t__law_state {f : Addr} {fd : FuncData} (F : C8.Def K mg "_law_state" s__law_state f fd) (b : Binds K fd ["script"] []) (T : Tb P w K mg base n) : CalJ P w K mg base (2 * (n + 1) + 2) "_law_state" 1 (FF (n + 1) I__law_state) := cal_J F b sc__law_state (k__law_state T)
theorem t__law_draw {f : Addr} {fd : FuncData} (F : C8.Def K mg "_law_draw" s__law_draw f fd) (b : Binds K fd ["state", "many"] []) (T : Tb P w K mg base n) : CalJ P w K mg base (2 * (n + 1) + 2) "_law_draw" 2 (FF (n + 1) I__law_draw) := cal_J F b sc__law_draw (k__law_draw T)
theorem t__law_pick {f : Addr} {fd : FuncData} (F : C8.Def K mg "_law_pick" s__law_pick f fd) (b : Binds K fd ["state", "row"] []) (T : Tb P w K mg base n) : CalJ P w K mg base (2 * (n + 1) + 2) "_law_pick" 2 (FF (n + 1) I__law_pick) := cal_J F b sc__law_pick (k__law_pick T)
theorem t__law_type {f : Addr} {fd : FuncData} (F : C8.Def K mg "_law_type" s__law_type f fd) (b : Binds K fd ["state", "deep"] []) (T : Tb P w K mg base n) : CalJ P w K mg base (2 * (n + 1) + 2) "_law_type" 2 (FF (n + 1) I__law_type) := cal_J F b sc__law_type (k__law_type T)
theorem t__law_value {f : Addr} {fd : FuncData} (F : C8.Def K mg "_law_value" s__law_value f fd) (b : Binds K fd ["state", "kind"] []) (T : Tb P w K mg base n) : CalJ P w K mg base (2 * (n + 1) + 2) "_law_value" 2 (FF (n + 1) I__law_value) := cal_J F b sc__law_value (k__law_value T)
theorem t__law_shown {f : Addr} {fd : FuncData} (F : C8.Def K mg "_law_shown" s__law_shown f fd) (b : Binds K fd ["value"] []) (T : Tb P w K mg base n) : CalJ P w K mg base (2 * (n + 1) + 2) "_law_shown" 1 (FF (n + 1) I__law_shown) := cal_J F b sc__law_shown (k__law_shown T)
theorem t__law_shown_type {f : Addr} {fd : FuncData} (F : C8.Def K mg "_law_shown_type" s__law_shown_type f fd) (b : Binds K fd ["kind"] []) (T : Tb P w K mg base n) : CalJ P w K mg base (2 * (n + 1) + 2) "_law_shown_type" 1 (FF (n + 1) I__law_shown_type) := cal_J F b sc__law_shown_type (k__law_shown_type T)
theorem i_WrittenError {C CF f : Addr} {fd : FuncData} {mc : Value} (F : C8.Fun K "__init__" "WrittenError.__init__" s_WrittenError___init__ f fd) (b : Binds K fd ["self", "at"] []) (hC : ClsAt K "WrittenError" C) (hm : mg "WrittenError" = some (.ref C)) (T : OexC K C) (iC : PySem.W.findIn K (.ref C) "__init__" = some (some (.ref f))) (tI : PySem.W.typeIn K (.ref f) = some (.type "function")) (hB : mg "FlowError" = some (.ref CF)) (sp : PySem.W.specialIn K (.ref CF) "__getattribute__" = some (some (.builtin "type.__getattribute__"))) (rd : PySem.W.readsIn K CF mc = true) (vV : PySem.W.findCls K (.ref CF) mc "__init__" = some (.val (.builtin "ValueError.__init__"))) (hno : PySem.W.findIn K (.ref C) "at" = some none) : RaiJ P w K mg base 1 "WrittenError" "at" okInt :=
  ⟨C, f, fd, hC, hm, T, iC, tI, C8.fn0 F sc_WrittenError___init__ (fun vs H Q E h => by obtain ⟨a, v, rfl, _⟩ := h; rfl) (fun cdv A outer s H vs Q E hr h => by
    obtain ⟨a, v, rfl, ea, ok, q⟩ := h
    exact ⟨_, init_b (n := "at") (B := "FlowError") rfl rfl (by first | exact .inl rfl | exact .inr (.inl rfl) | exact .inr (.inr rfl)) (by first | exact .inl rfl | exact .inr (.inl rfl) | exact .inr (.inr rfl)) rfl rfl rfl hB sp rd vV T hno (pe_joined (.cons pe_str (.cons (pe_fmt (pe_var (i := 1) rfl (by first | exact .inl rfl | exact .inr (.inl rfl) | exact .inr (.inr rfl)))) .nil))) (fmt2_int (by decide)), ⟨a, v, rfl, rfl, ea, ok, q⟩⟩), b⟩
end
end J11

/-! the reader of values: what it does with a text of signs; texts, numbers, words -/
namespace J11
open PySem PySem.Spec PyProof.Rows L2 IL SX
/-- what is known of a type -/
inductive Kn where | no | int | bool | text | nothing | list (k : Kn)
def pk : Kn → PV
  | .no => .non
  | .int => .str S_int
  | .bool => .str S_bool
  | .text => .str S_text
  | .nothing => .str S_nothing
  | .list k => .tup [.str S_list, pk k]
inductive Vl where | int (i : Int) | bool (b : Bool) | text (l : List Nat) | nothing | list (vs : List Vl)
mutual
def pv : Vl → PV
  | .int i => .tup [.str S_int, .int i]
  | .bool b => .tup [.str S_bool, .bl b]
  | .text l => .tup [.str S_text, .str (S l)]
  | .nothing => .tup [.str S_nothing]
  | .list vs => .tup [.str S_list, .tup (pvs vs)]
def pvs : List Vl → List PV
  | [] => []
  | v :: vs => pv v :: pvs vs
end
inductive Ro (α : Type) where | ok (a : α) (r : List Nat) | er (r : List Nat)
def isLet (c : Nat) : Bool := decide (32 ≤ c) && decide (c ≤ 126)
def isDig (c : Nat) : Bool := decide (48 ≤ c) && decide (c ≤ 57)
def headP (p : Nat → Bool) (s : List Nat) : Bool := match s.head? with
  | some d => p d
  | none => false
def rdText : Nat → List Nat → List Nat → Ro (List Nat)
  | 0, acc, s => if s.head? = some 34 then .ok acc s.tail else .er s
  | c + 1, acc, s => if s.head? = some 34 then (if s.tail.head? = some 34 then rdText c (acc ++ [34]) s.tail.tail else .ok acc s.tail)
    else if headP isLet s = true then rdText c (acc ++ s.take 1) s.tail else .er s
def rdDig : Nat → List Nat → Nat × List Nat
  | n, [] => (n, [])
  | n, d :: r => if isDig d = true ∧ n * 10 + (d - 48) ≤ 1000000000000 then (if n * 10 + (d - 48) > 0 then rdDig (n * 10 + (d - 48)) r else (0, r)) else (n, d :: r)
def numAt (neg : Bool) (s : List Nat) : Ro Int :=
  if headP isDig s = false ∨ (neg = true ∧ s.head? = some 48) then .er s else .ok (if neg then -((rdDig 0 s).1 : Int) else ((rdDig 0 s).1 : Int)) (rdDig 0 s).2
def rdNum (s : List Nat) : Ro Int := if s.head? = some 45 then numAt true s.tail else numAt false s
def rdWord : List Nat → List Nat → Ro Unit
  | [], s => .ok () s
  | c :: w, s => if s.head? = some c then rdWord w s.tail else .er s
def pos (l r : List Nat) : Int := (l.length : Int) - (r.length : Int)
/-- what a def that reads gives: value and place, or the place of the fault -/
def Rd {α : Type} (l : List Nat) (st : Sto) (f : α → List Nat → PV) (o : Ro α) (x : Option (RX × Sto)) : Prop := match o with
  | .ok a r => x = some (.ok (f a r), st)
  | .er r => ∃ g, x = some (.er S_WrittenError [(S_at, .int (pos l r))], st ++ g)
structure Tx (l : List Nat) : Prop where
  len : l.length ≤ 700000
  ok : okL l
section
variable {n : Nat} {st : Sto} {l : List Nat} {i : Nat} {p : Int}
theorem s0 : S_ = S [] := by decide +kernel
theorem s22 : S_x22 = S [34] := by decide +kernel
theorem s20 : S_x20 = S [32] := by decide +kernel
theorem s7e : S_x7e = S [126] := by decide +kernel
theorem s30 : S_0 = S [48] := by decide +kernel
theorem s39 : S_9 = S [57] := by decide +kernel
theorem s2d : S_x2d = S [45] := by decide +kernel
theorem s5b : S_x5b = S [91] := by decide +kernel
theorem s5d : S_x5d = S [93] := by decide +kernel
theorem s2c : S_x2c = S [44] := by decide +kernel
theorem pos_drop (hi : i ≤ l.length) : pos l (l.drop i) = (i : Int) := by
  unfold pos
  rw [List.length_drop]
  omega
theorem tail_of (l : List Nat) (i : Nat) : (l.drop i).tail = l.drop (i + 1) := by
  rw [List.tail_drop]
theorem lt_of_head {c : Nat} (h : (l.drop i).head? = some c) : i < l.length := by
  rcases Nat.lt_or_ge i l.length with h1 | h1
  · exact h1
  · rw [List.drop_eq_nil_of_le h1] at h
    cases h
theorem e_is_letter' (s : List Nat) : FF (n + 1) I_is_letter [.str (S (s.take 1))] st = some (.bl (headP isLet s), st) := by
  rw [e_is_letter]
  refine def_pure0 rfl ?_ rfl
  have h1 := ltS_hd_lo (l := s) s20
  have h2 := ltS_hd_hi (l := s) s7e
  cases s with
  | nil =>
    simp only [List.take_nil, List.head?_nil] at h1 h2
    simp [b_is_letter, h1, h2, headP]
  | cons d r =>
    simp only [List.take_succ_cons, List.take_zero, List.head?_cons] at h1 h2
    by_cases hd : d < 32
    · have : ¬ 32 ≤ d := by omega
      simp [b_is_letter, h1, h2, hd, headP, isLet, this]
    · have h32 : 32 ≤ d := by omega
      by_cases hd2 : 126 < d
      · have : ¬ d ≤ 126 := by omega
        simp [b_is_letter, h1, h2, hd, headP, isLet, h32, hd2, this]
      · have : d ≤ 126 := by omega
        simp [b_is_letter, h1, h2, hd, headP, isLet, h32, hd2, this]
theorem e_is_digit' (s : List Nat) : FF (n + 1) I__is_digit [.str (S (s.take 1))] st = some (.bl (headP isDig s), st) := by
  rw [e__is_digit]
  refine def_pure0 rfl ?_ rfl
  have h1 := ltS_hd_lo (l := s) s30
  have h2 := ltS_hd_hi (l := s) s39
  cases s with
  | nil =>
    simp only [List.take_nil, List.head?_nil] at h1 h2
    simp [b__is_digit, h1, h2, headP]
  | cons d r =>
    simp only [List.take_succ_cons, List.take_zero, List.head?_cons] at h1 h2
    by_cases hd : d < 48
    · have : ¬ 48 ≤ d := by omega
      simp [b__is_digit, h1, h2, hd, headP, isDig, this]
    · have h32 : 48 ≤ d := by omega
      by_cases hd2 : 57 < d
      · have : ¬ d ≤ 57 := by omega
        simp [b__is_digit, h1, h2, hd, headP, isDig, h32, hd2, this]
      · have : d ≤ 57 := by omega
        simp [b__is_digit, h1, h2, hd, headP, isDig, h32, hd2, this]
end
noncomputable def tB (F : Nat → FA) (G : Nat → FX) : IS := (iSeq (iAsg (gN 4) (iSl fSl (iVar 0) (iPart (iVar 3)) (iPart (iBin fAdd (iVar 3) (iC (.int 1)))))) (iSeq (iIfS (iTestB (iBin fEqB (iVar 4) (iC (.str S_x22)))) (iSeq (iIfS (iOr (iTestB (iBin fNeB (iSl fSl (iVar 0) (iPart (iBin fAdd (iVar 3) (iC (.int 1)))) (iPart (iBin fAdd (iVar 3) (iC (.int 2))))) (iC (.str S_x22)))) (iTestB (iBin fEqB (iCall (a1 fLenB) (iCons (iVar 2) iNil)) (iC c_MOST_LETTERS)))) (iRet (iTup (iCons (iJoin (iC (.str S_)) (iVar 2)) (iCons (iBin fAdd (iVar 3) (iC (.int 1))) iNil)))) iSkip) (iAugAdd 3 (iC (.int 1)))) (iIfS (iOr (iNot (iTest (iCall (F I_is_letter) (iCons (iVar 4) iNil)))) (iTestB (iBin fEqB (iCall (a1 fLenB) (iCons (iVar 2) iNil)) (iC c_MOST_LETTERS)))) (iRaise S_WrittenError S_at okPI (iVar 3)) iSkip)) (iSeq (iDrop (iAppend (iVar 2) (iVar 4))) (iAugAdd 3 (iC (.int 1))))))
noncomputable def nC (F : Nat → FA) : IT := (iAnd (iTest (iCall (F I__is_digit) (iCons (iVar 4) iNil))) (iTestB (iBin fLe (iBin fAdd (iBin fMulA (iVar 5) (iC (.int 10))) (iCall (a1 fIntS) (iCons (iVar 4) iNil))) (iC c_MOST_NUMBER))))
noncomputable def nB : IS := (iSeq (iAsg (gN 5) (iBin fAdd (iBin fMulA (iVar 5) (iC (.int 10))) (iCall (a1 fIntS) (iCons (iVar 4) iNil)))) (iSeq (iAugAdd 3 (iC (.int 1))) (iAsg (gN 4) (iIf (iTestB (iBin fGt (iVar 5) (iC (.int 0)))) (iSl fSl (iVar 0) (iPart (iVar 3)) (iPart (iBin fAdd (iVar 3) (iC (.int 1))))) (iC (.str S_))))))
noncomputable def wB : IS := (iIfS (iTestB (iBin fNeB (iSl fSl (iVar 0) (iPart (iBin fAdd (iVar 1) (iVar 3))) (iPart (iBin fAdd (iBin fAdd (iVar 1) (iVar 3)) (iC (.int 1))))) (iVar 4))) (iRaise S_WrittenError S_at okPI (iBin fAdd (iVar 1) (iVar 3))) iSkip)
end J11

/-! a text is read -/
namespace J11
open PySem PySem.Spec PyProof.Rows L2 IL SX
abbrev chP (c : Nat) : PV := .str (S [c])
/-- what a loop that reads ends as -/
def WR {α : Type} (l : List Nat) (st : Sto) (f : α → List Nat → PV) (o : Ro α) (x : Option Fl) : Prop := match o with
  | .ok a r => ∃ g, x = some (.rt (f a r) (st ++ g))
  | .er r => ∃ e g, x = some (.er e S_WrittenError [(S_at, .int (pos l r))] (st ++ g))
theorem WR.to {α : Type} {l : List Nat} {st : Sto} {f : α → List Nat → PV} {o : Ro α} {nN k : Nat} {b : IS} {xs : List PV} (hl : xs.length = k) (h : WR l st f o (b (xs.map some ++ List.replicate (nN - k) none) st)) (hf : ∀ a r, nr (f a r) = true) : Rd l st f o (iDefX k nN b xs st) := by
  unfold WR at h
  unfold Rd
  cases o with
  | ok a r =>
    obtain ⟨g, h⟩ := h
    exact defX_pure hl h (hf a r)
  | er r =>
    obtain ⟨e, g, h⟩ := h
    exact ⟨g, defX_er hl h⟩
theorem okP_pos {l r : List Nat} (h : l.length ≤ 700000) (h2 : r.length ≤ 900000) : decide ((pos l r).natAbs < 10 ^ 30) = true := by
  unfold pos
  rw [decide_eq_true_eq]
  have : ((l.length : Int) - (r.length : Int)).natAbs < 9000000 := by omega
  exact Nat.lt_of_lt_of_le this (by decide)
theorem small_ok {p : Int} {i : Nat} (hp : p = (i : Int)) (h : i ≤ 700000) : p.natAbs < 10 ^ 30 := by
  subst hp
  rw [Int.natAbs_natCast]
  exact Nat.lt_of_le_of_lt h (by decide)
section
variable {n : Nat} {G : Nat → FX} {st : Sto} {l : List Nat} {i : Nat} {p : Int} {q0 : PV}
theorem joinL_one : ∀ acc : List Nat, TL.joinL [] (acc.map fun c => [c]) = acc := by
  intro acc
  induction acc with
  | nil => rfl
  | cons c r ih =>
    cases r with
    | nil => rfl
    | cons d r => 
      simp only [List.map_cons, TL.joinL] at ih ⊢
      simpa using ih
theorem mapO_ch : ∀ acc : List Nat, mapO isStr (acc.map chP) = some (acc.map fun c => S [c])
  | [] => rfl
  | c :: r => by
    show mapO isStr (chP c :: r.map chP) = _
    unfold mapO
    rw [mapO_ch r]
    rfl
theorem join_ch {env : PEnv} {k : Nat} {s : Sto} {acc : List Nat} {ie : IE} (h : ie env s = some (.ref k, s)) (hk : s[k]? = some (.lst (acc.map chP))) (hl : acc.length ≤ 1000) : iJoin (iC (.str S_)) ie env s = some (.str (S acc), s) := by
  have e0 : Txt.join S_ (acc.map fun c => S [c]) = S acc := by
    have := join_S [] (acc.map fun c => [c])
    rw [List.map_map] at this
    rw [s0]
    refine Eq.trans ?_ (this.trans (congrArg S (joinL_one acc)))
    rfl
  have e1 : ((acc.map fun c => S [c]).map (·.length)).sum ≤ 1000 := by
    have : (acc.map fun c => S [c]).map (·.length) = acc.map fun _ => 1 := by
      rw [List.map_map]
      exact List.map_congr_left fun c _ => by simp [Str.length]
    rw [this]
    have e : (acc.map fun _ => 1).sum = acc.length := by
      clear this hl e0 h hk
      induction acc with
      | nil => rfl
      | cons c r ih => simp only [List.map_cons, List.sum_cons, List.length_cons, ih]; omega
    omega
  unfold iJoin
  simp only [iC_e, ob_s, h, strsOf, itemsOf_r, hk, mapO_ch]
  have hl0 : (S_).length = 0 := by rw [s0]; rfl
  rw [if_pos, e0]
  rw [hl0, Nat.mul_zero, Nat.add_zero]
  omega
theorem big_lt : 999999 < bigN := by
  unfold bigN
  omega
abbrev fText (l : List Nat) : List Nat → List Nat → PV := fun a r => .tup [.str (S a), .int (pos l r)]
theorem w_text (T : Tx l) : ∀ (c : Nat) (acc : List Nat) (i : Nat) (p : Int) (x4 : Option PV) (m : Nat), p = (i : Int) → i ≤ l.length → acc.length + c = 60 → l.length - i < m →
    WR l st (fText l) (rdText c acc (l.drop i)) (wloop (iTest (iC (.bl true))) (tB (FF (n + 1)) G) m [some (.str (S l)), some q0, some (.ref st.length), some (.int p), x4] (st ++ [.lst (acc.map chP)])) := by
  intro c
  induction c with
  | zero =>
    intro acc i p x4 m hp hi hc hm
    cases m with
    | zero => omega
    | succ m =>
      have hT := T.len
      have h1 := fSl_1 (st := st ++ [.lst (acc.map chP)]) (l := l) (p := p) (q := p + 1) (i := i) (by omega) hp (by omega)
      have h2 := fSl_1 (st := st ++ [.lst (acc.map chP)]) (l := l) (p := p + 1) (q := p + 2) (i := i + 1) (by omega) (by omega) (by omega)
      have e1 := eqP_hd (st := st ++ [.lst (acc.map chP)]) s22 (by decide) (T.ok.drop i)
      have e2 := eqP_hd (st := st ++ [.lst (acc.map chP)]) s22 (by decide) (T.ok.drop (i + 1))
      have e3 := e_is_letter' (n := n) (st := st ++ [.lst (acc.map chP)]) (l.drop i)
      have e4 := fLenB_l (st := st ++ [.lst (acc.map chP)]) new_at
      rw [List.length_map, show acc.length = 60 by omega] at e4
      have e5 := small_ok hp (by omega)
      unfold rdText
      by_cases hA : (l.drop i).head? = some 34
      · rw [if_pos hA]
        have hlt := lt_of_head hA
        rw [tail_of]
        have hpos : pos l (l.drop (i + 1)) = p + 1 := by rw [pos_drop (by omega)]; omega
        have ej := join_ch (env := [some (.str (S l)), some q0, some (.ref st.length), some (.int p), some (.str (S ((l.drop i).take 1)))]) (ie := iVar 2) (s := st ++ [.lst (acc.map chP)]) rfl new_at (by omega)
        refine ⟨[.lst (acc.map chP)], ?_⟩
        by_cases hB : (l.drop (i + 1)).head? = some 34
        · simp [-List.head?_drop, wloop, tB, h1, h2, e1, e2, hA, hB, e4, ej, hpos]
        · simp [-List.head?_drop, wloop, tB, h1, h2, e1, e2, hA, hB, e4, ej, hpos]
      · rw [if_neg hA]
        have hpos : pos l (l.drop i) = p := by rw [pos_drop (by omega)]; omega
        refine ⟨[some (.str (S l)), some q0, some (.ref st.length), some (.int p), some (.str (S ((l.drop i).take 1)))], [.lst (acc.map chP)], ?_⟩
        cases hB : headP isLet (l.drop i) with
        | true => simp [-List.head?_drop, wloop, tB, h1, h2, e1, e2, hA, hB, e3, e4, hpos, e5]
        | false => simp [-List.head?_drop, wloop, tB, h1, h2, e1, e2, hA, hB, e3, e4, hpos, e5]
  | succ c ih =>
    intro acc i p x4 m hp hi hc hm
    cases m with
    | zero => omega
    | succ m =>
      have hT := T.len
      have h1 := fSl_1 (st := st ++ [.lst (acc.map chP)]) (l := l) (p := p) (q := p + 1) (i := i) (by omega) hp (by omega)
      have h2 := fSl_1 (st := st ++ [.lst (acc.map chP)]) (l := l) (p := p + 1) (q := p + 2) (i := i + 1) (by omega) (by omega) (by omega)
      have e1 := eqP_hd (st := st ++ [.lst (acc.map chP)]) s22 (by decide) (T.ok.drop i)
      have e2 := eqP_hd (st := st ++ [.lst (acc.map chP)]) s22 (by decide) (T.ok.drop (i + 1))
      have e3 := e_is_letter' (n := n) (st := st ++ [.lst (acc.map chP)]) (l.drop i)
      have e4 := fLenB_l (st := st ++ [.lst (acc.map chP)]) new_at
      rw [List.length_map] at e4
      have hne : ((acc.length : Int) == 60) = false := by
        rw [beq_eq_false_iff_ne]
        omega
      have e5 := small_ok hp (by omega)
      unfold rdText
      by_cases hA : (l.drop i).head? = some 34
      · rw [if_pos hA]
        have hlt := lt_of_head hA
        rw [tail_of, tail_of]
        by_cases hB : (l.drop (i + 1)).head? = some 34
        · rw [if_pos hB]
          have hlt2 := lt_of_head hB
          have ih' := ih (acc ++ [34]) (i + 1 + 1) (p + 1 + 1) (some (.str (S ((l.drop i).take 1)))) m (by omega) (by omega) (by rw [List.length_append]; simp; omega) (by omega)
          have htk : (l.drop i).take 1 = [34] := by
            cases hd : l.drop i with
            | nil => rw [hd] at hA; cases hA
            | cons d r => rw [hd] at hA; cases hA; rfl
          have ea : iAppend (iVar 2) (iVar 4) [some (.str (S l)), some q0, some (.ref st.length), some (.int (p + 1)), some (.str (S ((l.drop i).take 1)))] (st ++ [.lst (acc.map chP)]) = some (.non, st ++ [.lst ((acc ++ [34]).map chP)]) := by
            rw [append_e (io := iVar 2) (ie := iVar 4) (n := st.length) (x := .str (S ((l.drop i).take 1))) (s1 := st ++ [.lst (acc.map chP)]) (s2 := st ++ [.lst (acc.map chP)]) rfl new_at rfl new_at (by rw [List.length_map]; omega), set_last, htk]
            simp
          have key : wloop (iTest (iC (.bl true))) (tB (FF (n + 1)) G) (m + 1) [some (.str (S l)), some q0, some (.ref st.length), some (.int p), x4] (st ++ [.lst (acc.map chP)]) = wloop (iTest (iC (.bl true))) (tB (FF (n + 1)) G) m [some (.str (S l)), some q0, some (.ref st.length), some (.int (p + 1 + 1)), some (.str (S ((l.drop i).take 1)))] (st ++ [.lst ((acc ++ [34]).map chP)]) := by
            rw [wloop]
            simp [-List.head?_drop, tB, h1, h2, e1, e2, hA, hB, e4, hne, ea]
          rw [key]
          exact ih'
        · rw [if_neg hB]
          have hpos : pos l (l.drop (i + 1)) = p + 1 := by rw [pos_drop (by omega)]; omega
          have ej := join_ch (env := [some (.str (S l)), some q0, some (.ref st.length), some (.int p), some (.str (S ((l.drop i).take 1)))]) (ie := iVar 2) (s := st ++ [.lst (acc.map chP)]) rfl new_at (by omega)
          refine ⟨[.lst (acc.map chP)], ?_⟩
          simp [-List.head?_drop, wloop, tB, h1, h2, e1, e2, hA, hB, e4, ej, hpos]
      · rw [if_neg hA]
        cases hB : headP isLet (l.drop i) with
        | true =>
          rw [if_pos rfl, tail_of]
          have hlt : i < l.length := by
            cases hd : (l.drop i).head? with
            | none => simp [headP, hd] at hB
            | some d => exact lt_of_head hd
          obtain ⟨d, hd⟩ : ∃ d, (l.drop i).take 1 = [d] := by
            cases hd : l.drop i with
            | nil => rw [hd] at hB; simp [headP] at hB
            | cons d r => exact ⟨d, rfl⟩
          have ih' := ih (acc ++ (l.drop i).take 1) (i + 1) (p + 1) (some (.str (S ((l.drop i).take 1)))) m (by omega) (by omega) (by rw [List.length_append, hd]; simp; omega) (by omega)
          have ea : iAppend (iVar 2) (iVar 4) [some (.str (S l)), some q0, some (.ref st.length), some (.int p), some (.str (S ((l.drop i).take 1)))] (st ++ [.lst (acc.map chP)]) = some (.non, st ++ [.lst ((acc ++ (l.drop i).take 1).map chP)]) := by
            rw [append_e (io := iVar 2) (ie := iVar 4) (n := st.length) (x := .str (S ((l.drop i).take 1))) (s1 := st ++ [.lst (acc.map chP)]) (s2 := st ++ [.lst (acc.map chP)]) rfl new_at rfl new_at (by rw [List.length_map]; omega), set_last, hd]
            simp
          have key : wloop (iTest (iC (.bl true))) (tB (FF (n + 1)) G) (m + 1) [some (.str (S l)), some q0, some (.ref st.length), some (.int p), x4] (st ++ [.lst (acc.map chP)]) = wloop (iTest (iC (.bl true))) (tB (FF (n + 1)) G) m [some (.str (S l)), some q0, some (.ref st.length), some (.int (p + 1)), some (.str (S ((l.drop i).take 1)))] (st ++ [.lst ((acc ++ (l.drop i).take 1).map chP)]) := by
            rw [wloop]
            simp [-List.head?_drop, tB, h1, h2, e1, e2, hA, hB, e3, e4, hne, ea]
          rw [key]
          exact ih'
        | false =>
          rw [if_neg Bool.false_ne_true]
          have hpos : pos l (l.drop i) = p := by rw [pos_drop (by omega)]; omega
          refine ⟨[some (.str (S l)), some q0, some (.ref st.length), some (.int p), some (.str (S ((l.drop i).take 1)))], [.lst (acc.map chP)], ?_⟩
          simp [-List.head?_drop, wloop, tB, h1, h2, e1, e2, hA, hB, e3, e4, hpos, e5]
theorem e_text (T : Tx l) (hp : p = (i : Int)) (hi : i < l.length) : Rd l st (fText l) (rdText 60 [] (l.drop (i + 1))) (GG (n + 2) I__read_text [.str (S l), .int p] st) := by
  rw [e__read_text]
  refine WR.to rfl ?_ fun _ _ => rfl
  obtain ⟨k, hk⟩ := iWhile_at 900000 (by omega)
  have hT := T.len
  have h := w_text (n := n) (G := GG (n + 1)) (st := st) (q0 := .int p) T 60 [] (i + 1) (p + 1) none (k + 900000) (by omega) (by omega) rfl (by omega)
  rw [← hk] at h
  have e : b__read_text (FF (n + 1)) (GG (n + 1)) ([PV.str (S l), PV.int p].map some ++ List.replicate (5 - 2) none) st = iWhile (iTest (iC (.bl true))) (tB (FF (n + 1)) (GG (n + 1))) [some (.str (S l)), some (.int p), some (.ref st.length), some (.int (p + 1)), none] (st ++ [.lst (([] : List Nat).map chP)]) := by
    simp [b__read_text, tB]
  rw [e]
  exact h
end
end J11

/-! a number, a word is read -/
namespace J11
open PySem PySem.Spec PyProof.Rows L2 IL SX
section
variable {n : Nat} {F : Nat → FA} {G : Nat → FX} {st : Sto} {l : List Nat} {i : Nat} {p : Int} {q0 q1 : Option PV}
theorem fSubB_S (hl : l.length ≤ 9000000) (hp : p = (i : Int)) (hi : i < l.length) : fSubB (.str (S l)) (.int p) st = some (.str (S ((l.drop i).take 1)), st) := by
  show (if (S l).length ≤ 9000000 then (atI (S l).cps.toList p).map fun c => (PV.str ⟨#[c]⟩, st) else none) = _
  rw [S_len, if_pos hl, hp]
  have e : (S l).cps.toList = l := rfl
  rw [e, at_nat (List.getElem?_eq_getElem hi)]
  have : (l.drop i).take 1 = [l[i]] := by
    rw [List.drop_eq_getElem_cons hi]
    rfl
  rw [this]
  rfl
theorem int_dig {d : Nat} (h : isDig d = true) : intText? (S [d]) = some ((d - 48 : Nat) : Int) := by
  have := int_S (a := [d]) (by simpa [isDig] using h) (by simp) (by simp)
  rw [this]
  simp [NumText.digitsVal]
theorem w_dig (T : Tx l) : ∀ (s : List Nat) (a i : Nat) (p ai : Int) (m : Nat), l.drop i = s → p = (i : Int) → ai = (a : Int) → i ≤ l.length → s.length + 1 < m → a ≤ 1000000000000 →
    ∃ dg, wloop (nC (FF (n + 1))) nB m [some (.str (S l)), q0, q1, some (.int p), some (.str (S (s.take 1))), some (.int ai)] st = some (.nx [some (.str (S l)), q0, q1, some (.int (pos l (rdDig a s).2)), some dg, some (.int ((rdDig a s).1 : Int))] st)
  | [], a, i, p, ai, m, hs, hp, ha, hi, hm, hb => by
    cases m with
    | zero => omega
    | succ m =>
      have e3 := e_is_digit' (n := n) (st := st) []
      have hpos : pos l [] = p := by rw [← hs, pos_drop hi]; exact hp.symm
      rw [show headP isDig [] = false from rfl] at e3
      refine ⟨.str (S (([] : List Nat).take 1)), ?_⟩
      rw [wloop]
      simp only [rdDig, hpos, ← ha]
      have : nC (FF (n + 1)) [some (.str (S l)), q0, q1, some (.int p), some (.str (S (([] : List Nat).take 1))), some (.int ai)] st = some (false, st) := by
        simp only [List.take_nil] at e3
        simp [nC, e3]
      rw [this]
  | d :: r, a, i, p, ai, m, hs, hp, ha, hi, hm, hb => by
    cases m with
    | zero => omega
    | succ m =>
      have hT := T.len
      have e3 := e_is_digit' (n := n) (st := st) (d :: r)
      simp only [List.take_succ_cons, List.take_zero] at e3
      have hlt : i < l.length := by
        apply lt_of_head (c := d)
        rw [hs]; rfl
      have hpos : pos l (d :: r) = p := by rw [← hs, pos_drop hi]; exact hp.symm
      have hs' : l.drop (i + 1) = r := by rw [← tail_of, hs]; rfl
      have hcm : cMul ai 10 = true := by
        unfold cMul
        subst ha
        simp
      cases hd : isDig d with
      | false =>
        rw [show headP isDig (d :: r) = isDig d from rfl, hd] at e3
        have er : rdDig a (d :: r) = (a, d :: r) := by
          unfold rdDig
          rw [if_neg (by rw [hd]; simp)]
        refine ⟨.str (S [d]), ?_⟩
        rw [wloop, er]
        simp only [hpos, ← ha]
        have : nC (FF (n + 1)) [some (.str (S l)), q0, q1, some (.int p), some (.str (S ((d :: r).take 1))), some (.int ai)] st = some (false, st) := by
          simp [nC, e3]
        rw [this]
        rfl
      | true =>
        rw [show headP isDig (d :: r) = isDig d from rfl, hd] at e3
        have ei := int_dig hd
        have hval : (ai * 10 + ((d - 48 : Nat) : Int)) = ((a * 10 + (d - 48) : Nat) : Int) := by omega
        have hcond : nC (FF (n + 1)) [some (.str (S l)), q0, q1, some (.int p), some (.str (S ((d :: r).take 1))), some (.int ai)] st = some (decide (a * 10 + (d - 48) ≤ 1000000000000), st) := by
          simp [nC, e3, ei, hcm, S_len]
          omega
        rw [wloop, hcond]
        by_cases hle : a * 10 + (d - 48) ≤ 1000000000000
        · by_cases hz : a * 10 + (d - 48) > 0
          · have er : rdDig a (d :: r) = rdDig (a * 10 + (d - 48)) r := by
              rw [rdDig, if_pos ⟨hd, hle⟩, if_pos hz]
            obtain ⟨dg, ih⟩ := w_dig T r (a * 10 + (d - 48)) (i + 1) (p + 1) (ai * 10 + ((d - 48 : Nat) : Int)) m hs' (by omega) hval (by omega) (by simp at hm; omega) hle
            have h1 := fSl_1 (st := st) (l := l) (p := p + 1) (q := p + 1 + 1) (i := i + 1) (by omega) (by omega) (by omega)
            rw [hs'] at h1
            have hgt : decide (0 < ai * 10 + ((d - 48 : Nat) : Int)) = true := by
              rw [decide_eq_true_eq, hval]
              omega
            have hbdy : nB [some (.str (S l)), q0, q1, some (.int p), some (.str (S ((d :: r).take 1))), some (.int ai)] st = some (.nx [some (.str (S l)), q0, q1, some (.int (p + 1)), some (.str (S (r.take 1))), some (.int (ai * 10 + ((d - 48 : Nat) : Int)))] st) := by
              simp only [List.take_succ_cons, List.take_zero]
              simp only [nB, iSeq_e, iAsg_e, iBin_e, iVar_e, iC_e, ob_s, iCall_e, iCons_e, iNil_e, a1_e, List.getElem?_cons_succ, List.getElem?_cons_zero, fMulA_i, hcm, if_true, fIntS_s, S_len, ei, Option.map_some, fAdd_i, gN_e, List.set_cons_succ, List.set_cons_zero, iAugAdd_e, iIf_e, iTestB_e, fGt_i, isBl_e, hgt, iSl_e, iPart_e, h1, List.length_singleton, show (1 : Nat) ≤ 640 from by omega]
            rw [er]
            refine ⟨dg, ?_⟩
            simp only [hle, decide_true, hbdy]
            exact ih
          · have hz0 : a * 10 + (d - 48) = 0 := by omega
            have er : rdDig a (d :: r) = (0, r) := by
              rw [rdDig, if_pos ⟨hd, hle⟩, if_neg hz]
            have hgt : decide (0 < ai * 10 + ((d - 48 : Nat) : Int)) = false := by
              rw [decide_eq_false_iff_not, hval]
              omega
            have hbdy : nB [some (.str (S l)), q0, q1, some (.int p), some (.str (S ((d :: r).take 1))), some (.int ai)] st = some (.nx [some (.str (S l)), q0, q1, some (.int (p + 1)), some (.str S_), some (.int (ai * 10 + ((d - 48 : Nat) : Int)))] st) := by
              simp only [List.take_succ_cons, List.take_zero]
              simp only [nB, iSeq_e, iAsg_e, iBin_e, iVar_e, iC_e, ob_s, iCall_e, iCons_e, iNil_e, a1_e, List.getElem?_cons_succ, List.getElem?_cons_zero, fMulA_i, hcm, if_true, fIntS_s, S_len, ei, Option.map_some, fAdd_i, gN_e, List.set_cons_succ, List.set_cons_zero, iAugAdd_e, iIf_e, iTestB_e, fGt_i, isBl_e, hgt, List.length_singleton, show (1 : Nat) ≤ 640 from by omega]
            cases m with
            | zero => simp at hm
            | succ m =>
              have e4 := e_is_digit' (n := n) (st := st) []
              rw [show headP isDig [] = false from rfl, List.take_nil, ← s0] at e4
              have hpos2 : pos l r = p + 1 := by rw [← hs', pos_drop (by omega)]; omega
              rw [er]
              refine ⟨.str S_, ?_⟩
              simp only [hle, decide_true, hbdy, hpos2]
              rw [wloop]
              have : nC (FF (n + 1)) [some (.str (S l)), q0, q1, some (.int (p + 1)), some (.str S_), some (.int (ai * 10 + ((d - 48 : Nat) : Int)))] st = some (false, st) := by
                simp [nC, e4]
              rw [this]
              simp only [hval, hz0]
        · have er : rdDig a (d :: r) = (a, d :: r) := by
            rw [rdDig, if_neg (by rw [hd]; simpa using hle)]
          rw [er]
          refine ⟨.str (S [d]), ?_⟩
          simp only [hle, decide_false, hpos, ← ha]
          rfl
theorem headP_some {q : Nat → Bool} {s : List Nat} (h : headP q s = true) : ∃ d r, s = d :: r ∧ q d = true := by
  cases s with
  | nil => cases h
  | cons d r => exact ⟨d, r, rfl, h⟩
abbrev fNum (l : List Nat) : Int → List Nat → PV := fun k r => .tup [.int k, .int (pos l r)]
/-- behind the sign -/
theorem w_num (T : Tx l) {neg : Bool} {p0 : PV} (hp : p = (i : Int)) (hi : i ≤ l.length) {b : IS} {x2 x3 x4 x5 : Option PV}
    (hb : b = iSeq (iAsg (gN 4) (iSl fSl (iVar 0) (iPart (iVar 3)) (iPart (iBin fAdd (iVar 3) (iC (.int 1)))))) (iSeq (iIfS (iOr (iNot (iTest (iCall (FF (n + 1) I__is_digit) (iCons (iVar 4) iNil)))) (iAnd (iTest (iVar 2)) (iTestB (iBin fEqB (iVar 4) (iC (.str S_0)))))) (iRaise S_WrittenError S_at okPI (iVar 3)) iSkip) (iSeq (iAsg (gN 5) (iC (.int 0))) (iSeq (iWhile (nC (FF (n + 1))) nB) (iRet (iTup (iCons (iIf (iTest (iVar 2)) (iUn fNeg (iVar 5)) (iVar 5)) (iCons (iVar 3) iNil)))))))) :
    WR l st (fNum l) (numAt neg (l.drop i)) (b [some (.str (S l)), some p0, some (.bl neg), some (.int p), x4, x5] st) := by
  subst hb
  have hT := T.len
  have h1 := fSl_1 (st := st) (l := l) (p := p) (q := p + 1) (i := i) (by omega) hp (by omega)
  have e3 := e_is_digit' (n := n) (st := st) (l.drop i)
  have e1 := eqP_hd (st := st) s30 (by decide) (T.ok.drop i)
  have e5 := small_ok hp (by omega)
  unfold numAt
  cases hA : headP isDig (l.drop i) with
  | false =>
    rw [if_pos (Or.inl rfl)]
    have hpos : pos l (l.drop i) = p := by rw [pos_drop hi]; exact hp.symm
    refine ⟨[some (.str (S l)), some p0, some (.bl neg), some (.int p), some (.str (S ((l.drop i).take 1))), x5], [], ?_⟩
    simp [-List.head?_drop, h1, e3, hA, e5, hpos]
  | true =>
    obtain ⟨d, r, hs, hd⟩ := headP_some hA
    by_cases hB : neg = true ∧ (l.drop i).head? = some 48
    · rw [if_pos (Or.inr hB)]
      have hpos : pos l (l.drop i) = p := by rw [pos_drop hi]; exact hp.symm
      refine ⟨[some (.str (S l)), some p0, some (.bl neg), some (.int p), some (.str (S ((l.drop i).take 1))), x5], [], ?_⟩
      simp [-List.head?_drop, h1, e3, hA, e1, hB.1, hB.2, e5, hpos]
    · rw [if_neg (by simp only [Bool.true_eq_false, false_or]; exact hB)]
      obtain ⟨k, hk⟩ := iWhile_at 900000 (by omega)
      obtain ⟨dg, hw⟩ := w_dig (n := n) (st := st) (q0 := some p0) (q1 := some (.bl neg)) T (l.drop i) 0 i p 0 (k + 900000) rfl hp rfl hi (by rw [List.length_drop]; omega) (by omega)
      rw [← hk] at hw
      refine ⟨[], ?_⟩
      cases neg with
      | true =>
        have hB' : ¬ (l.drop i).head? = some 48 := fun h => hB ⟨rfl, h⟩
        simp [-List.head?_drop, h1, e3, hA, e1, hB', hw]
      | false => simp [-List.head?_drop, h1, e3, hA, hw]
theorem e_number (T : Tx l) (hp : p = (i : Int)) (hi : i < l.length) : Rd l st (fNum l) (rdNum (l.drop i)) (GG (n + 2) I__read_number [.str (S l), .int p] st) := by
  rw [e__read_number]
  refine WR.to rfl ?_ fun _ _ => rfl
  have hT := T.len
  have h0 := fSubB_S (st := st) (by omega) hp hi
  have e1 := eqP_hd (st := st) s2d (by decide) (T.ok.drop i)
  unfold rdNum
  by_cases hA : (l.drop i).head? = some 45
  · rw [if_pos hA, tail_of]
    have h := w_num (n := n) (st := st) (p := p + 1) (i := i + 1) T (neg := true) (p0 := .int p) (x4 := none) (x5 := none) (x2 := none) (x3 := none) (by omega) (by omega) rfl
    have e : b__read_number (FF (n + 1)) (GG (n + 1)) ([PV.str (S l), PV.int p].map some ++ List.replicate (6 - 2) none) st = (iSeq (iAsg (gN 4) (iSl fSl (iVar 0) (iPart (iVar 3)) (iPart (iBin fAdd (iVar 3) (iC (.int 1)))))) (iSeq (iIfS (iOr (iNot (iTest (iCall (FF (n + 1) I__is_digit) (iCons (iVar 4) iNil)))) (iAnd (iTest (iVar 2)) (iTestB (iBin fEqB (iVar 4) (iC (.str S_0)))))) (iRaise S_WrittenError S_at okPI (iVar 3)) iSkip) (iSeq (iAsg (gN 5) (iC (.int 0))) (iSeq (iWhile (nC (FF (n + 1))) nB) (iRet (iTup (iCons (iIf (iTest (iVar 2)) (iUn fNeg (iVar 5)) (iVar 5)) (iCons (iVar 3) iNil)))))))) [some (.str (S l)), some (.int p), some (.bl true), some (.int (p + 1)), none, none] st := by
      unfold b__read_number
      rw [iSeq_e, iAsg_e]
      simp only [iBin_e, iVar_e, iC_e, ob_s, List.map_cons, List.map_nil, List.cons_append, List.nil_append, List.getElem?_cons_succ, List.getElem?_cons_zero, h0, fEqB_e, eqB_str, e1, hA, decide_true, Option.map_some, gN_e, List.set_cons_succ, List.set_cons_zero]
      rw [iSeq_e, iAsg_e]
      simp only [iIf_e, iTest_e, iBin_e, iVar_e, iC_e, ob_s, List.map_cons, List.map_nil, List.getElem?_cons_succ, List.getElem?_cons_zero, tru_bl, Option.map_some, fAdd_i, gN_e, List.set_cons_succ, List.set_cons_zero]
      rfl
    rw [e]
    exact h
  · rw [if_neg hA]
    have h := w_num (n := n) (st := st) (p := p) (i := i) T (neg := false) (p0 := .int p) (x4 := none) (x5 := none) (x2 := none) (x3 := none) hp (by omega) rfl
    have e : b__read_number (FF (n + 1)) (GG (n + 1)) ([PV.str (S l), PV.int p].map some ++ List.replicate (6 - 2) none) st = (iSeq (iAsg (gN 4) (iSl fSl (iVar 0) (iPart (iVar 3)) (iPart (iBin fAdd (iVar 3) (iC (.int 1)))))) (iSeq (iIfS (iOr (iNot (iTest (iCall (FF (n + 1) I__is_digit) (iCons (iVar 4) iNil)))) (iAnd (iTest (iVar 2)) (iTestB (iBin fEqB (iVar 4) (iC (.str S_0)))))) (iRaise S_WrittenError S_at okPI (iVar 3)) iSkip) (iSeq (iAsg (gN 5) (iC (.int 0))) (iSeq (iWhile (nC (FF (n + 1))) nB) (iRet (iTup (iCons (iIf (iTest (iVar 2)) (iUn fNeg (iVar 5)) (iVar 5)) (iCons (iVar 3) iNil)))))))) [some (.str (S l)), some (.int p), some (.bl false), some (.int p), none, none] st := by
      unfold b__read_number
      rw [iSeq_e, iAsg_e]
      simp only [iBin_e, iVar_e, iC_e, ob_s, List.map_cons, List.map_nil, List.cons_append, List.nil_append, List.getElem?_cons_succ, List.getElem?_cons_zero, h0, fEqB_e, eqB_str, e1, hA, decide_false, Option.map_some, gN_e, List.set_cons_succ, List.set_cons_zero]
      rw [iSeq_e, iAsg_e]
      simp only [iIf_e, iTest_e, iBin_e, iVar_e, iC_e, ob_s, List.map_cons, List.map_nil, List.getElem?_cons_succ, List.getElem?_cons_zero, tru_bl, Option.map_some, fAdd_i, gN_e, List.set_cons_succ, List.set_cons_zero]
      rfl
    rw [e]
    exact h
end
end J11

/-! a word is read -/
namespace J11
open PySem PySem.Spec PyProof.Rows L2 IL SX
section
variable {n : Nat} {F : Nat → FA} {G : Nat → FX} {st : Sto} {l : List Nat} {i : Nat} {p : Int}
theorem eqP_hd1 {c : Nat} (hc : c < 1114112) (h : okL l) : eqP st (.str (S (l.take 1))) (.str (S [c])) = some (decide (l.head? = some c)) := eqP_hd rfl hc h
theorem w_word (T : Tx l) {w : List Nat} (hw : okL w) (hp : p = (i : Int)) : ∀ (ws : List Nat) (j m : Nat) (x3 x4 : Option PV), w.drop j = ws → i + j ≤ l.length → ws.length < m →
    match rdWord ws (l.drop (i + j)) with
    | .ok _ r => r = l.drop (i + j + ws.length) ∧ i + j + ws.length ≤ l.length ∧ ∃ x3' x4', loop (srcEnT (S w)).at_ (gT 2 (gCs (gN 3) (gCs (gN 4) gNs))) wB m j [some (.str (S l)), some (.int p), some (.str (S w)), x3, x4] st = some (.nx [some (.str (S l)), some (.int p), some (.str (S w)), x3', x4'] st)
    | .er r => ∃ e, loop (srcEnT (S w)).at_ (gT 2 (gCs (gN 3) (gCs (gN 4) gNs))) wB m j [some (.str (S l)), some (.int p), some (.str (S w)), x3, x4] st = some (.er e S_WrittenError [(S_at, .int (pos l r))] st)
  | [], j, m, x3, x4, hj, hi, hm => by
    cases m with
    | zero => omega
    | succ m =>
      have hge : w.length ≤ j := by
        have := congrArg List.length hj
        rw [List.length_drop] at this
        simp at this
        omega
      refine ⟨by simp, by simpa using hi, x3, x4, ?_⟩
      unfold loop
      have : (srcEnT (S w)).at_ st j = some none := by
        simp only [srcEnT]
        rw [List.getElem?_toArray, List.getElem?_eq_none hge]
        rfl
      rw [this]
  | c :: ws, j, m, x3, x4, hj, hi, hm => by
    cases m with
    | zero => omega
    | succ m =>
      have hT := T.len
      have hlt : j < w.length := lt_of_head (c := c) (by rw [hj]; rfl)
      have hc : w[j]? = some c := by
        have : (w.drop j)[0]? = some c := by rw [hj]; rfl
        rwa [List.getElem?_drop, Nat.add_zero] at this
      have hat : (srcEnT (S w)).at_ st j = some (some (.tup [.int (j : Nat), .str (S [c])])) := by
        simp only [srcEnT]
        rw [List.getElem?_toArray, hc]
        rfl
      have hcm : c ∈ w := List.mem_of_getElem? hc
      have h1 := fSl_1 (st := st) (l := l) (p := p + (j : Int)) (q := p + (j : Int) + 1) (i := i + j) (by omega) (by omega) (by omega)
      have e1 := eqP_hd1 (st := st) (hw c hcm) (T.ok.drop (i + j))
      have e5 := small_ok (p := p + (j : Int)) (i := i + j) (by omega) (by omega)
      have hpos : pos l (l.drop (i + j)) = p + (j : Int) := by rw [pos_drop hi]; omega
      unfold rdWord
      by_cases hA : (l.drop (i + j)).head? = some c
      · rw [if_pos hA, tail_of]
        have hlt2 := lt_of_head hA
        have ih := w_word T hw hp ws (j + 1) m (some (.int (j : Nat))) (some (.str (S [c]))) (by rw [← tail_of, hj]; rfl) (by omega) (by simp at hm; omega)
        have key : loop (srcEnT (S w)).at_ (gT 2 (gCs (gN 3) (gCs (gN 4) gNs))) wB (m + 1) j [some (.str (S l)), some (.int p), some (.str (S w)), x3, x4] st = loop (srcEnT (S w)).at_ (gT 2 (gCs (gN 3) (gCs (gN 4) gNs))) wB m (j + 1) [some (.str (S l)), some (.int p), some (.str (S w)), some (.int (j : Nat)), some (.str (S [c]))] st := by
          rw [loop, hat]
          simp [-List.head?_drop, wB, h1, e1, hA]
        rw [key]
        have ej : i + (j + 1) = i + j + 1 := by omega
        rw [ej] at ih
        cases hr : rdWord ws (l.drop (i + j + 1)) with
        | ok u r =>
          rw [hr] at ih
          obtain ⟨ih1, ih2, ih3⟩ := ih
          exact ⟨by rw [ih1]; simp; congr 1; omega, by simp; omega, ih3⟩
        | er r =>
          rw [hr] at ih
          exact ih
      · rw [if_neg hA]
        refine ⟨[some (.str (S l)), some (.int p), some (.str (S w)), some (.int (j : Nat)), some (.str (S [c]))], ?_⟩
        rw [loop, hat]
        simp [-List.head?_drop, wB, h1, e1, hA, hpos, e5]
theorem e_word (T : Tx l) {w : List Nat} (hw : okL w) (hwl : w.length ≤ 100) (hp : p = (i : Int)) (hi : i ≤ l.length) : Rd l st (fun _ r => .int (pos l r)) (rdWord w (l.drop i)) (GG (n + 1) I__read_word [.str (S l), .int p, .str (S w)] st) := by
  rw [e__read_word]
  refine WR.to rfl ?_ fun _ _ => rfl
  have h := w_word (st := st) T hw hp w 0 ((srcEnT (S w)).n + 1) none none rfl (by omega) (by show w.length < w.toArray.size + 1; simp)
  rw [Nat.add_zero] at h
  have hlen : (S w).length = w.length := S_len w
  cases hr : rdWord w (l.drop i) with
  | ok u r =>
    rw [hr] at h
    obtain ⟨h1, h2, x3, x4, h3⟩ := h
    have hpos : pos l r = p + (w.length : Int) := by rw [h1, pos_drop h2]; omega
    refine ⟨[], ?_⟩
    unfold wB at h3
    simp [b__read_word, h3, hlen, hpos, show w.length ≤ 9000000 by omega]
  | er r =>
    rw [hr] at h
    obtain ⟨e, h3⟩ := h
    refine ⟨e, [], ?_⟩
    unfold wB at h3
    simp [b__read_word, h3]
end
end J11

/-! a value is read: lists, what is wanted -/
namespace J11
open PySem PySem.Spec PyProof.Rows L2 IL SX
def kd : Kn → Nat
  | .list k => kd k + 1
  | _ => 0
def sub : Kn → Kn
  | .list k => k
  | _ => .no
def wL : Kn → Bool
  | .no => true
  | .list _ => true
  | _ => false
def wT : Kn → Bool
  | .no => true
  | .text => true
  | _ => false
def wI : Kn → Bool
  | .no => true
  | .int => true
  | _ => false
def wBo : Kn → Bool
  | .no => true
  | .bool => true
  | _ => false
def wN : Kn → Bool
  | .no => true
  | .nothing => true
  | _ => false
abbrev wTrue : List Nat := [116, 114, 117, 101]
abbrev wFalse : List Nat := [102, 97, 108, 115, 101]
abbrev wNothing : List Nat := [110, 111, 116, 104, 105, 110, 103]
def Ro.map {α β : Type} (f : α → β) : Ro α → Ro β
  | .ok a r => .ok (f a) r
  | .er r => .er r
def rdFlat (w : Kn) (s : List Nat) : Ro (Vl × Kn) :=
  if s.head? = some 34 ∧ wT w = true then (rdText 60 [] s.tail).map fun a => (.text a, .text)
  else if (s.head? = some 45 ∨ headP isDig s = true) ∧ wI w = true then (rdNum s).map fun a => (.int a, .int)
  else if s.head? = some 116 ∧ wBo w = true then (rdWord wTrue s).map fun _ => (.bool true, .bool)
  else if s.head? = some 102 ∧ wBo w = true then (rdWord wFalse s).map fun _ => (.bool false, .bool)
  else if s.head? = some 110 ∧ wN w = true then (rdWord wNothing s).map fun _ => (.nothing, .nothing)
  else .er s
def rdItems (f : Kn → List Nat → Ro (Vl × Kn)) : Nat → List Vl → Kn → List Nat → Ro (Vl × Kn)
  | 0, acc, k, s => .er s
  | c + 1, acc, k, s => match f k s with
    | .er e => .er e
    | .ok (v, k') r =>
      if r.head? = some 93 then .ok (.list (acc ++ [v]), .list k') r.tail
      else if r.head? ≠ some 44 ∨ c = 0 then .er r
      else if r.tail.head? ≠ some 32 then .er r.tail
      else rdItems f c (acc ++ [v]) k' r.tail.tail
def rdList (f : Kn → List Nat → Ro (Vl × Kn)) (k : Kn) (s : List Nat) : Ro (Vl × Kn) :=
  if s.head? = some 93 then .ok (.list [], .list k) s.tail else rdItems f 20 [] k s
def rdAt : Nat → Kn → List Nat → Ro (Vl × Kn)
  | 0, w, s => rdFlat w s
  | m + 1, w, s => if s.head? = some 91 ∧ wL w = true then rdList (rdAt m) (sub w) s.tail else rdFlat w s
theorem rdFlat_kd {w : Kn} {s r : List Nat} {v : Vl} {k : Kn} (h : rdFlat w s = .ok (v, k) r) : kd k = 0 := by
  unfold rdFlat at h
  repeat' split at h
  · cases h1 : rdText 60 [] s.tail <;> rw [h1] at h <;> simp only [Ro.map, Ro.ok.injEq, Prod.mk.injEq, reduceCtorEq] at h
    rw [← h.1.2]; rfl
  · cases h1 : rdNum s <;> rw [h1] at h <;> simp only [Ro.map, Ro.ok.injEq, Prod.mk.injEq, reduceCtorEq] at h
    rw [← h.1.2]; rfl
  · cases h1 : rdWord wTrue s <;> rw [h1] at h <;> simp only [Ro.map, Ro.ok.injEq, Prod.mk.injEq, reduceCtorEq] at h
    rw [← h.1.2]; rfl
  · cases h1 : rdWord wFalse s <;> rw [h1] at h <;> simp only [Ro.map, Ro.ok.injEq, Prod.mk.injEq, reduceCtorEq] at h
    rw [← h.1.2]; rfl
  · cases h1 : rdWord wNothing s <;> rw [h1] at h <;> simp only [Ro.map, Ro.ok.injEq, Prod.mk.injEq, reduceCtorEq] at h
    rw [← h.1.2]; rfl
  · cases h
theorem rdItems_kd {f : Kn → List Nat → Ro (Vl × Kn)} {B : Nat} (hf : ∀ k s v k' r, kd k ≤ B → f k s = .ok (v, k') r → kd k' ≤ B) : ∀ (c : Nat) (acc : List Vl) (k : Kn) (s : List Nat) (v : Vl) (k' : Kn) (r : List Nat), kd k ≤ B → rdItems f c acc k s = .ok (v, k') r → kd k' ≤ B + 1
  | 0, acc, k, s, v, k', r, _, h => by cases h
  | c + 1, acc, k, s, v, k', r, hk, h => by
    unfold rdItems at h
    cases h1 : f k s with
    | er e => rw [h1] at h; cases h
    | ok p r1 =>
      obtain ⟨v1, k1⟩ := p
      rw [h1] at h
      have hk1 := hf k s v1 k1 r1 hk h1
      simp only at h
      split at h
      · simp only [Ro.ok.injEq, Prod.mk.injEq] at h
        rw [← h.1.2]
        show kd k1 + 1 ≤ _
        omega
      · split at h
        · cases h
        · split at h
          · cases h
          · exact rdItems_kd hf c _ _ _ _ _ _ hk1 h
theorem kd_sub (w : Kn) : kd (sub w) ≤ kd w - 1 ∨ kd (sub w) = 0 := by
  cases w <;> simp [sub, kd]
theorem rdAt_kd : ∀ (m : Nat) (w : Kn) (s : List Nat) (v : Vl) (k : Kn) (r : List Nat), rdAt m w s = .ok (v, k) r → kd k ≤ max (kd w) m
  | 0, w, s, v, k, r, h => by
    have := rdFlat_kd (w := w) h
    omega
  | m + 1, w, s, v, k, r, h => by
    unfold rdAt at h
    split at h
    · rename_i hw
      unfold rdList at h
      split at h
      · simp only [Ro.ok.injEq, Prod.mk.injEq] at h
        rw [← h.1.2]
        show kd (sub w) + 1 ≤ _
        cases w with
        | list k => simp [sub, kd]; omega
        | _ => simp [sub, kd]
      · have hs : kd (sub w) ≤ max (kd w - 1) m := by
          rcases kd_sub w with h1 | h1 <;> omega
        have := rdItems_kd (f := rdAt m) (B := max (kd w - 1) m) (fun k s v k' r hk h' => by have := rdAt_kd m k s v k' r h'; omega) 20 [] (sub w) s.tail v k r hs h
        have hw2 : wL w = true := hw.2
        cases w with
        | list k => simp only [kd] at this ⊢; omega
        | no => simp only [kd] at this ⊢; omega
        | _ => cases hw2
    · have := rdFlat_kd (w := w) h
      omega
section
variable {n : Nat} {st : Sto} {l : List Nat} {i : Nat} {p : Int} {w : Kn}
theorem gd_pk : ∀ (k : Kn) (m : Nat), kd k ≤ m → gd (pk k) m = true
  | .no, m, _ => by simp [pk, gd]
  | .int, m, _ => by simp [pk, gd]
  | .bool, m, _ => by simp [pk, gd]
  | .text, m, _ => by simp [pk, gd]
  | .nothing, m, _ => by simp [pk, gd]
  | .list k, m, h => by
    unfold kd at h
    have := gd_pk k (m - 1) (by omega)
    simp [pk, gd, gds, this]
    omega
theorem in_list {b : Str} {k : Kn} (hk : kd k ≤ 40) (hb : PyData.strOk b = true) : inC st (pk (.list k)) (.tup [.non, .str b]) = some false := by
  have g1 := gd_pk (.list k) 60 (by show kd k + 1 ≤ 60; omega)
  have g2 : gd (.tup [.non, .str b]) 60 = true := by simp [gd, gds, hb]
  have e0 : inB st (pk (.list k)) (.tup [.non, .str b]) = none := rfl
  unfold inC
  rw [e0]
  show inT st _ _ = _
  unfold inT
  rw [(gd_dat (st := st) _ 60 70 g1 (by omega)).1, (gd_dat (st := st) _ 60 70 g2 (by omega)).1]
  have s1 := gd_shaped g1
  have s2 := gd_shaped g2
  have e2 : datP (.tup [.non, .str b]) = .tuple [.none, .str b] := by simp [datP, datPs]
  rw [e2] at s2 ⊢
  show (if SeqAt.shaped (datP (pk (.list k))) && SeqAt.shaped (.tuple [.none, .str b]) then some ([PyData.none, PyData.str b].any fun z => PyData.eqv z (datP (pk (.list k)))) else none) = _
  rw [s1, s2]
  simp [pk, datP, PyData.eqv]
theorem in_wT (hk : kd w ≤ 40) : inC st (pk w) (.tup [.non, .str S_text]) = some (wT w) := by
  cases w with
  | list k => exact in_list (by unfold kd at hk; omega) (by simp)
  | no => rfl
  | _ => simp [pk, inC, mapO, flatP, inV, eqV, wT]
theorem in_wI (hk : kd w ≤ 40) : inC st (pk w) (.tup [.non, .str S_int]) = some (wI w) := by
  cases w with
  | list k => exact in_list (by unfold kd at hk; omega) (by simp)
  | no => rfl
  | _ => simp [pk, inC, mapO, flatP, inV, eqV, wI]
theorem in_wB (hk : kd w ≤ 40) : inC st (pk w) (.tup [.non, .str S_bool]) = some (wBo w) := by
  cases w with
  | list k => exact in_list (by unfold kd at hk; omega) (by simp)
  | no => rfl
  | _ => simp [pk, inC, mapO, flatP, inV, eqV, wBo]
theorem in_wN (hk : kd w ≤ 40) : inC st (pk w) (.tup [.non, .str S_nothing]) = some (wN w) := by
  cases w with
  | list k => exact in_list (by unfold kd at hk; omega) (by simp)
  | no => rfl
  | _ => simp [pk, inC, mapO, flatP, inV, eqV, wN]
theorem is_wL : (isNone (pk w) || (isP st (pk w) (.ty "tuple") == some true)) = wL w := by
  cases w <;> simp [pk, wL]
abbrev wordOf (a b : Str) (v : PV) : PV := .tup [.str a, .tup [.str b, v]]
theorem hd_beq {c : Nat} {b : Str} (hb : b = S [c]) {s : List Nat} : (S (s.take 1) == b) = decide (s.head? = some c) := by
  rw [hb, S_beq_eq]
  cases s with
  | nil => simp
  | cons d r => simp
theorem look_words (s : List Nat) : tab_WORDS.lookup (S (s.take 1)) = if s.head? = some 116 then some (wordOf S_true S_bool (.bl true)) else if s.head? = some 102 then some (wordOf S_false S_bool (.bl false)) else if s.head? = some 110 then some (.tup [.str S_nothing, .tup [.str S_nothing]]) else none := by
  have h1 := hd_beq (b := S_t) (c := 116) (by decide +kernel) (s := s)
  have h2 := hd_beq (b := S_f) (c := 102) (by decide +kernel) (s := s)
  have h3 := hd_beq (b := S_n) (c := 110) (by decide +kernel) (s := s)
  unfold tab_WORDS
  rw [List.lookup_cons, h1]
  by_cases a : s.head? = some 116
  · simp [a]
  · simp only [a, decide_false, if_false]
    rw [List.lookup_cons, h2]
    by_cases b : s.head? = some 102
    · simp [b]
    · simp only [b, decide_false, if_false]
      rw [List.lookup_cons, h3]
      by_cases c : s.head? = some 110
      · simp [c]
      · simp [c]
end
end J11

/-! a value is read, by its first sign -/
namespace J11
open PySem PySem.Spec PyProof.Rows L2 IL SX
noncomputable def aAsg : IS := (iAsg (gN 4) (iSl fSl (iVar 0) (iPart (iVar 1)) (iPart (iBin fAdd (iVar 1) (iC (.int 1))))))
noncomputable def aC1 (F : Nat → FA) : IT := (iAnd (iTestB (iBin fEqB (iVar 4) (iC (.str S_x5b)))) (iAnd (iTestB (iBin fLt (iVar 3) (iC c_MOST_DEPTH))) (iOr (iTestB (iBin fIs (iVar 2) (iC .non))) (iTest (iCall (a2 fIsi) (iCons (iVar 2) (iCons (iC (.ty "tuple")) iNil)))))))
noncomputable def aA1 (F : Nat → FA) (G : Nat → FX) : IS := (iRetX (iCallX (G I__read_list) (iCons (iVar 0) (iCons (iVar 1) (iCons (iVar 2) (iCons (iVar 3) iNil))))))
noncomputable def aC2 (F : Nat → FA) : IT := (iAnd (iTestB (iBin fEqB (iVar 4) (iC (.str S_x22)))) (iTestB (iBin fInC (iVar 2) (iTup (iCons (iC .non) (iCons (iC (.str S_text)) iNil))))))
noncomputable def aA2 (F : Nat → FA) (G : Nat → FX) : IS := (iSeq (iAsgX (gT 2 (gCs (gN 5) (gCs (gN 6) gNs))) (iCallX (G I__read_text) (iCons (iVar 0) (iCons (iVar 1) iNil)))) (iRet (iTup (iCons (iTup (iCons (iC (.str S_text)) (iCons (iVar 5) iNil))) (iCons (iVar 6) (iCons (iC (.str S_text)) iNil))))))
noncomputable def aC3 (F : Nat → FA) : IT := (iAnd (iOr (iTestB (iBin fEqB (iVar 4) (iC (.str S_x2d)))) (iTest (iCall (F I__is_digit) (iCons (iVar 4) iNil)))) (iTestB (iBin fInC (iVar 2) (iTup (iCons (iC .non) (iCons (iC (.str S_int)) iNil))))))
noncomputable def aA3 (F : Nat → FA) (G : Nat → FX) : IS := (iSeq (iAsgX (gT 2 (gCs (gN 7) (gCs (gN 6) gNs))) (iCallX (G I__read_number) (iCons (iVar 0) (iCons (iVar 1) iNil)))) (iRet (iTup (iCons (iTup (iCons (iC (.str S_int)) (iCons (iVar 7) iNil))) (iCons (iVar 6) (iCons (iC (.str S_int)) iNil))))))
noncomputable def aC4 (F : Nat → FA) : IT := (iAnd (iTestB (iUn (fInTab tab_WORDS false) (iVar 4))) (iTestB (iBin fInC (iVar 2) (iTup (iCons (iC .non) (iCons (iBin fSubB (iBin fSubB (iUn (fTab tab_WORDS) (iVar 4)) (iC (.int 1))) (iC (.int 0))) iNil))))))
noncomputable def aA4 (F : Nat → FA) (G : Nat → FX) : IS := (iSeq (iAsg (gT 2 (gCs (gN 8) (gCs (gN 9) gNs))) (iUn (fTab tab_WORDS) (iVar 4))) (iRetX (iTupX (iConsX (iOk (iVar 9)) (iConsX (iCallX (G I__read_word) (iCons (iVar 0) (iCons (iVar 1) (iCons (iVar 8) iNil)))) (iOks (iCons (iBin fSubB (iVar 9) (iC (.int 0))) iNil)))))))
noncomputable def aL : IS := (iRaise S_WrittenError S_at okPI (iVar 1))
theorem b_at (F : Nat → FA) (G : Nat → FX) : b__read_at F G = iSeq aAsg (iSeq (iIfS (aC1 F) (aA1 F G) iSkip) (iSeq (iIfS (aC2 F) (aA2 F G) iSkip) (iSeq (iIfS (aC3 F) (aA3 F G) iSkip) (iSeq (iIfS (aC4 F) (aA4 F G) iSkip) aL)))) := rfl
noncomputable def lB (F : Nat → FA) (G : Nat → FX) : IS := (iSeq (iAsgX (gT 3 (gCs (gN 7) (gCs (gN 6) (gCs (gN 4) gNs)))) (iCallX (G I__read_at) (iCons (iVar 0) (iCons (iVar 6) (iCons (iVar 4) (iCons (iBin fAdd (iVar 3) (iC (.int 1))) iNil)))))) (iSeq (iDrop (iAppend (iVar 5) (iVar 7))) (iSeq (iAsg (gN 8) (iSl fSl (iVar 0) (iPart (iVar 6)) (iPart (iBin fAdd (iVar 6) (iC (.int 1)))))) (iSeq (iIfS (iTestB (iBin fEqB (iVar 8) (iC (.str S_x5d)))) (iRet (iTup (iCons (iTup (iCons (iC (.str S_list)) (iCons (iCall (a1 fTuple) (iCons (iVar 5) iNil)) iNil))) (iCons (iBin fAdd (iVar 6) (iC (.int 1))) (iCons (iTup (iCons (iC (.str S_list)) (iCons (iVar 4) iNil))) iNil))))) iSkip) (iSeq (iIfS (iOr (iTestB (iBin fNeB (iVar 8) (iC (.str S_x2c)))) (iTestB (iBin fEqB (iCall (a1 fLenB) (iCons (iVar 5) iNil)) (iC c_MOST_ITEMS)))) (iRaise S_WrittenError S_at okPI (iVar 6)) iSkip) (iSeq (iIfS (iTestB (iBin fNeB (iSl fSl (iVar 0) (iPart (iBin fAdd (iVar 6) (iC (.int 1)))) (iPart (iBin fAdd (iVar 6) (iC (.int 2))))) (iC (.str S_x20)))) (iRaise S_WrittenError S_at okPI (iBin fAdd (iVar 6) (iC (.int 1)))) iSkip) (iAugAdd 6 (iC (.int 2)))))))))
noncomputable def lT (F : Nat → FA) (G : Nat → FX) : IS := (iSeq (iDrop (iAppend (iVar 5) (iVar 7))) (iSeq (iAsg (gN 8) (iSl fSl (iVar 0) (iPart (iVar 6)) (iPart (iBin fAdd (iVar 6) (iC (.int 1)))))) (iSeq (iIfS (iTestB (iBin fEqB (iVar 8) (iC (.str S_x5d)))) (iRet (iTup (iCons (iTup (iCons (iC (.str S_list)) (iCons (iCall (a1 fTuple) (iCons (iVar 5) iNil)) iNil))) (iCons (iBin fAdd (iVar 6) (iC (.int 1))) (iCons (iTup (iCons (iC (.str S_list)) (iCons (iVar 4) iNil))) iNil))))) iSkip) (iSeq (iIfS (iOr (iTestB (iBin fNeB (iVar 8) (iC (.str S_x2c)))) (iTestB (iBin fEqB (iCall (a1 fLenB) (iCons (iVar 5) iNil)) (iC c_MOST_ITEMS)))) (iRaise S_WrittenError S_at okPI (iVar 6)) iSkip) (iSeq (iIfS (iTestB (iBin fNeB (iSl fSl (iVar 0) (iPart (iBin fAdd (iVar 6) (iC (.int 1)))) (iPart (iBin fAdd (iVar 6) (iC (.int 2))))) (iC (.str S_x20)))) (iRaise S_WrittenError S_at okPI (iBin fAdd (iVar 6) (iC (.int 1)))) iSkip) (iAugAdd 6 (iC (.int 2))))))))
noncomputable def lA (G : Nat → FX) : IS := (iAsgX (gT 3 (gCs (gN 7) (gCs (gN 6) (gCs (gN 4) gNs)))) (iCallX (G I__read_at) (iCons (iVar 0) (iCons (iVar 6) (iCons (iVar 4) (iCons (iBin fAdd (iVar 3) (iC (.int 1))) iNil))))))
theorem lB_e (F : Nat → FA) (G : Nat → FX) : lB F G = iSeq (lA G) (lT F G) := rfl
noncomputable def lH : IS := (iSeq (iAsg (gN 4) (iIf (iTestB (iBin fIs (iVar 2) (iC .non))) (iC .non) (iBin fSubB (iVar 2) (iC (.int 1))))) (iSeq (iAsg (gN 5) (iLst iNil)) (iAsg (gN 6) (iBin fAdd (iVar 1) (iC (.int 1))))))
noncomputable def lE : IS := (iIfS (iTestB (iBin fEqB (iSl fSl (iVar 0) (iPart (iVar 6)) (iPart (iBin fAdd (iVar 6) (iC (.int 1))))) (iC (.str S_x5d)))) (iRet (iTup (iCons (iTup (iCons (iC (.str S_list)) (iCons (iTup iNil) iNil))) (iCons (iBin fAdd (iVar 6) (iC (.int 1))) (iCons (iTup (iCons (iC (.str S_list)) (iCons (iVar 4) iNil))) iNil))))) iSkip)
theorem b_list (F : Nat → FA) (G : Nat → FX) : b__read_list F G = iSeq (iAsg (gN 4) (iIf (iTestB (iBin fIs (iVar 2) (iC .non))) (iC .non) (iBin fSubB (iVar 2) (iC (.int 1))))) (iSeq (iAsg (gN 5) (iLst iNil)) (iSeq (iAsg (gN 6) (iBin fAdd (iVar 1) (iC (.int 1)))) (iSeq lE (iWhile (iTest (iC (.bl true))) (lB F G))))) := rfl
mutual
theorem nr_pv : ∀ v : Vl, nr (pv v) = true
  | .int i => by simp [pv, nr, nrs]
  | .bool b => by simp [pv, nr, nrs]
  | .text t => by simp [pv, nr, nrs]
  | .nothing => by simp [pv, nr, nrs]
  | .list vs => by
    have := nr_pvs vs
    simp [pv, nr, nrs, this]
theorem nr_pvs : ∀ vs : List Vl, nrs (pvs vs) = true
  | [] => by simp [pvs, nrs]
  | v :: vs => by
    have h1 := nr_pv v
    have h2 := nr_pvs vs
    simp [pvs, nrs, h1, h2]
end
theorem nr_pk : ∀ k : Kn, nr (pk k) = true
  | .no => by simp [pk, nr]
  | .int => by simp [pk, nr]
  | .bool => by simp [pk, nr]
  | .text => by simp [pk, nr]
  | .nothing => by simp [pk, nr]
  | .list k => by
    have := nr_pk k
    simp [pk, nr, nrs, this]
section
variable {n m : Nat} {st : Sto} {l : List Nat} {i : Nat} {p d : Int} {w : Kn} {G : Nat → FX}
abbrev fAt (l : List Nat) : Vl × Kn → List Nat → PV := fun a r => .tup [pv a.1, .int (pos l r), pk a.2]
abbrev aE (l : List Nat) (i : Nat) (p d : Int) (w : Kn) : PEnv := [some (.str (S l)), some (.int p), some (pk w), some (.int d), some (.str (S ((l.drop i).take 1))), none, none, none, none, none]
theorem c1_e (T : Tx l) : aC1 (FF (n + 1)) (aE l i p d w) st = some (decide ((l.drop i).head? = some 91) && (decide (d < 6) && wL w), st) := by
  have e1 := eqP_hd (st := st) s5b (by decide) (T.ok.drop i)
  by_cases h : (l.drop i).head? = some 91
  · by_cases h2 : d < 6
    · cases w <;> simp [-List.head?_drop, aC1, e1, h, h2, pk, wL]
    · simp [-List.head?_drop, aC1, e1, h, h2]
  · simp [-List.head?_drop, aC1, e1, h]
theorem c2_e (T : Tx l) (hk : kd w ≤ 40) : aC2 (FF (n + 1)) (aE l i p d w) st = some (decide ((l.drop i).head? = some 34) && wT w, st) := by
  have e1 := eqP_hd (st := st) s22 (by decide) (T.ok.drop i)
  have e2 := in_wT (st := st) hk
  by_cases h : (l.drop i).head? = some 34
  · simp [-List.head?_drop, aC2, e1, h, e2]
  · simp [-List.head?_drop, aC2, e1, h]
theorem c3_e (T : Tx l) (hk : kd w ≤ 40) : aC3 (FF (n + 1)) (aE l i p d w) st = some ((decide ((l.drop i).head? = some 45) || headP isDig (l.drop i)) && wI w, st) := by
  have e1 := eqP_hd (st := st) s2d (by decide) (T.ok.drop i)
  have e2 := in_wI (st := st) hk
  have e3 := e_is_digit' (n := n) (st := st) (l.drop i)
  by_cases h : (l.drop i).head? = some 45
  · simp [-List.head?_drop, aC3, e1, h, e2]
  · cases h2 : headP isDig (l.drop i) with
    | true => simp [-List.head?_drop, aC3, e1, h, e2, e3, h2]
    | false => simp [-List.head?_drop, aC3, e1, h, e3, h2]
theorem c4_e (hk : kd w ≤ 40) : aC4 (FF (n + 1)) (aE l i p d w) st = some ((decide ((l.drop i).head? = some 116) && wBo w) || (decide ((l.drop i).head? = some 102) && wBo w) || (decide ((l.drop i).head? = some 110) && wN w), st) := by
  have e1 := look_words (l.drop i)
  have e2 := in_wB (st := st) hk
  have e3 := in_wN (st := st) hk
  by_cases h1 : (l.drop i).head? = some 116
  · rw [if_pos h1] at e1
    simp [-List.head?_drop, aC4, e1, e2, h1]
  · rw [if_neg h1] at e1
    by_cases h2 : (l.drop i).head? = some 102
    · rw [if_pos h2] at e1
      simp [-List.head?_drop, aC4, e1, e2, h2]
    · rw [if_neg h2] at e1
      by_cases h3 : (l.drop i).head? = some 110
      · rw [if_pos h3] at e1
        simp [-List.head?_drop, aC4, e1, e3, h3]
      · rw [if_neg h3] at e1
        simp [-List.head?_drop, aC4, e1, h1, h2, h3]
def toFl (env : PEnv) : Option (RX × Sto) → Option Fl
  | some (.ok v, s) => some (.rt v s)
  | some (.er c fs, s) => some (.er env c fs s)
  | none => none
theorem Rd.wr {α : Type} {f : α → List Nat → PV} {o : Ro α} {x : Option (RX × Sto)} {env : PEnv} (h : Rd l st f o x) : WR l st f o (toFl env x) := by
  unfold Rd at h
  unfold WR
  cases o with
  | ok a r =>
    simp only at h
    subst h
    exact ⟨[], by simp [toFl]⟩
  | er r =>
    obtain ⟨g, h⟩ := h
    subst h
    exact ⟨env, g, rfl⟩
/-- a part is read, and a value made of it -/
theorem part_wr {α β : Type} {f : α → List Nat → PV} {g : β → List Nat → PV} {k : α → β} {o : Ro α} {x : Option (RX × Sto)} {env : PEnv} {y : Option Fl} (h : Rd l st f o x)
    (hy : ∀ v s, x = some (.ok v, s) → ∀ a r, v = f a r → s = st → y = some (.rt (g (k a) r) st)) (hy2 : ∀ c fs s, x = some (.er c fs, s) → y = some (.er env c fs s)) : WR l st g (o.map k) y := by
  unfold Rd at h
  unfold WR
  cases o with
  | ok a r =>
    simp only at h
    exact ⟨[], by rw [hy _ _ h a r rfl rfl]; simp⟩
  | er r =>
    obtain ⟨q, h⟩ := h
    exact ⟨env, q, hy2 _ _ _ h⟩
theorem a2_w (T : Tx l) (hp : p = (i : Int)) (hi : i < l.length) : WR l st (fAt l) ((rdText 60 [] (l.drop i).tail).map fun a => (.text a, .text)) (aA2 (FF (n + 2)) (GG (n + 2)) (aE l i p d w) st) := by
  have h := e_text (n := n) (st := st) T hp hi
  rw [tail_of]
  refine part_wr (env := aE l i p d w) h (fun v s e a r hv hs => ?_) (fun c fs s e => ?_)
  · subst hv hs
    simp [aA2, e, pv, pk]
  · simp [aA2, e]
theorem a3_w (T : Tx l) (hp : p = (i : Int)) (hi : i < l.length) : WR l st (fAt l) ((rdNum (l.drop i)).map fun a => (.int a, .int)) (aA3 (FF (n + 2)) (GG (n + 2)) (aE l i p d w) st) := by
  have h := e_number (n := n) (st := st) T hp hi
  refine part_wr (env := aE l i p d w) h (fun v s e a r hv hs => ?_) (fun c fs s e => ?_)
  · subst hv hs
    simp [aA3, e, pv, pk]
  · simp [aA3, e]
theorem a4_w (T : Tx l) (hp : p = (i : Int)) (hi : i ≤ l.length) {wd : List Nat} {b : Str} {sw : Str} {y : PV} {v : Vl} {k : Kn} (hw : sw = S wd) (hok : okL wd) (hwl : wd.length ≤ 100) (hv : pv v = y) (hy : ∃ ys, y = .tup (.str b :: ys)) (hkk : pk k = .str b)
    (hl : tab_WORDS.lookup (S ((l.drop i).take 1)) = some (.tup [.str sw, y])) : WR l st (fAt l) ((rdWord wd (l.drop i)).map fun _ => (v, k)) (aA4 (FF (n + 2)) (GG (n + 2)) (aE l i p d w) st) := by
  obtain ⟨ys, rfl⟩ := hy
  have h := e_word (n := n + 1) (st := st) T hok hwl hp hi
  rw [← hw] at h
  refine part_wr (env := ((aE l i p d w).set 8 (some (.str sw))).set 9 (some (.tup (.str b :: ys)))) h (fun z s e a r hz hs => ?_) (fun c fs s e => ?_)
  · subst hz hs
    simp [aA4, e, hl, hv, hkk]
  · simp [aA4, e, hl]
theorem s_true : S_true = S wTrue := by decide +kernel
theorem s_false : S_false = S wFalse := by decide +kernel
theorem s_nothing : S_nothing = S wNothing := by decide +kernel
theorem at_w (T : Tx l) (hp : p = (i : Int)) (hi : i ≤ l.length) (hk : kd w ≤ 40) (hd : d = 6 - (m : Int))
    (hlist : ∀ m', m = m' + 1 → (l.drop i).head? = some 91 → wL w = true → Rd l st (fAt l) (rdList (rdAt m') (sub w) (l.drop i).tail) (GG (n + 2) I__read_list [.str (S l), .int p, pk w, .int d] st)) :
    Rd l st (fAt l) (rdAt m w (l.drop i)) (GG (n + 3) I__read_at [.str (S l), .int p, pk w, .int d] st) := by
  rw [e__read_at]
  refine WR.to rfl ?_ fun _ _ => by
    simp only [nr, nrs, Bool.and_eq_true, Bool.and_true, Bool.true_and]
    exact ⟨nr_pv _, nr_pk _⟩
  have hT := T.len
  have h1 := fSl_1 (st := st) (l := l) (p := p) (q := p + 1) (i := i) (by omega) hp (by omega)
  rw [b_at]
  have e0 : aAsg ([PV.str (S l), PV.int p, pk w, PV.int d].map some ++ List.replicate (10 - 4) none) st = some (.nx (aE l i p d w) st) := by
    simp [aAsg, h1]
  rw [iSeq_e, e0]
  simp only
  have c1 := c1_e (n := n + 1) (st := st) (p := p) (d := d) (i := i) (w := w) T
  have c2 := c2_e (n := n + 1) (st := st) (p := p) (d := d) (i := i) T hk
  have c3 := c3_e (n := n + 1) (st := st) (p := p) (d := d) (i := i) T hk
  have c4 := c4_e (n := n + 1) (st := st) (l := l) (p := p) (d := d) (i := i) hk
  by_cases hL : (l.drop i).head? = some 91 ∧ d < 6 ∧ wL w = true
  · obtain ⟨m', rfl⟩ : ∃ m', m = m' + 1 := ⟨m - 1, by omega⟩
    have h := hlist m' rfl hL.1 hL.2.2
    unfold rdAt
    rw [if_pos ⟨hL.1, hL.2.2⟩]
    have hb := Rd.wr (env := aE l i p d w) h
    have ea : aA1 (FF (n + 2)) (GG (n + 2)) (aE l i p d w) st = toFl (aE l i p d w) (GG (n + 2) I__read_list [.str (S l), .int p, pk w, .int d] st) := by
      simp only [aA1, iRetX_e, iCallX_e, iCons_e, iNil_e, iVar_e, ob_s, List.getElem?_cons_succ, List.getElem?_cons_zero]
      generalize GG (n + 2) I__read_list [.str (S l), .int p, pk w, .int d] st = x
      cases x with
      | none => rfl
      | some y =>
        obtain ⟨y, s⟩ := y
        cases y <;> rfl
    rw [← ea] at hb
    have : (decide ((l.drop i).head? = some 91) && (decide (d < 6) && wL w)) = true := by
      rw [hL.1, hL.2.2]; simpa using hL.2.1
    rw [this] at c1
    rw [iSeq_e, iIfS_e, c1]
    simp only [ob_s]
    unfold WR at hb ⊢
    cases ho : rdList (rdAt m') (sub w) (l.drop i).tail with
    | ok a r =>
      rw [ho] at hb
      obtain ⟨g, hb⟩ := hb
      exact ⟨g, by rw [hb]⟩
    | er r =>
      rw [ho] at hb
      obtain ⟨e, g, hb⟩ := hb
      exact ⟨e, g, by rw [hb]⟩
  · have hfl : rdAt m w (l.drop i) = rdFlat w (l.drop i) := by
      cases m with
      | zero => rfl
      | succ m =>
        unfold rdAt
        rw [if_neg fun h => hL ⟨h.1, by omega, h.2⟩]
    rw [hfl]
    have c1f : (decide ((l.drop i).head? = some 91) && (decide (d < 6) && wL w)) = false := by
      rw [Bool.eq_false_iff]
      intro h
      simp only [Bool.and_eq_true, decide_eq_true_eq] at h
      exact hL ⟨h.1, h.2.1, h.2.2⟩
    rw [c1f] at c1
    have pass : ∀ {o : Ro (Vl × Kn)} {x : Option Fl} {k : Fl → Option Fl}, WR l st (fAt l) o x → (∀ v s, x = some (.rt v s) → k (.rt v s) = some (.rt v s)) → True := fun _ _ => trivial
    rw [iSeq_e, iIfS_e, c1]
    simp only [ob_s, iSkip_e]
    have out : ∀ {o : Ro (Vl × Kn)} {x : Option Fl} {q : IS}, WR l st (fAt l) o x → WR l st (fAt l) o (match x with
        | some (.nx e s) => q e s
        | z => z) := fun {o x q} h => by
      unfold WR at h ⊢
      cases o with
      | ok a r =>
        obtain ⟨g, h⟩ := h
        exact ⟨g, by rw [h]⟩
      | er r =>
        obtain ⟨e, g, h⟩ := h
        exact ⟨e, g, by rw [h]⟩
    unfold rdFlat
    by_cases h2 : (l.drop i).head? = some 34 ∧ wT w = true
    · rw [if_pos h2]
      rw [h2.1, h2.2] at c2
      rw [iSeq_e, iIfS_e, c2]
      simp only [ob_s, decide_true, Bool.and_self]
      exact out (a2_w T hp (lt_of_head h2.1))
    · rw [if_neg h2]
      have c2f : (decide ((l.drop i).head? = some 34) && wT w) = false := by
        rw [Bool.eq_false_iff]
        intro h
        simp only [Bool.and_eq_true, decide_eq_true_eq] at h
        exact h2 h
      rw [c2f] at c2
      rw [iSeq_e, iIfS_e, c2]
      simp only [ob_s, iSkip_e]
      by_cases h3 : ((l.drop i).head? = some 45 ∨ headP isDig (l.drop i) = true) ∧ wI w = true
      · rw [if_pos h3]
        have c3t : ((decide ((l.drop i).head? = some 45) || headP isDig (l.drop i)) && wI w) = true := by
          rw [h3.2, Bool.and_true, Bool.or_eq_true, decide_eq_true_eq]
          exact h3.1
        rw [c3t] at c3
        rw [iSeq_e, iIfS_e, c3]
        simp only [ob_s]
        have hlt : i < l.length := by
          rcases h3.1 with h | h
          · exact lt_of_head h
          · obtain ⟨c, r, hs, _⟩ := headP_some h
            exact lt_of_head (c := c) (by rw [hs]; rfl)
        exact out (a3_w T hp hlt)
      · rw [if_neg h3]
        have c3f : ((decide ((l.drop i).head? = some 45) || headP isDig (l.drop i)) && wI w) = false := by
          rw [Bool.eq_false_iff]
          intro h
          simp only [Bool.and_eq_true, Bool.or_eq_true, decide_eq_true_eq] at h
          exact h3 h
        rw [c3f] at c3
        rw [iSeq_e, iIfS_e, c3]
        simp only [ob_s, iSkip_e]
        have lk := look_words (l.drop i)
        by_cases h4 : (l.drop i).head? = some 116 ∧ wBo w = true
        · rw [if_pos h4]
          rw [if_pos h4.1] at lk
          rw [h4.1, h4.2] at c4
          rw [iSeq_e, iIfS_e, c4]
          simp only [ob_s, decide_true, Bool.and_self, Bool.true_or]
          exact out (a4_w T hp hi s_true (by unfold okL; decide) (by decide) rfl ⟨_, rfl⟩ rfl lk)
        · rw [if_neg h4]
          by_cases h5 : (l.drop i).head? = some 102 ∧ wBo w = true
          · rw [if_pos h5]
            have hn : ¬ (l.drop i).head? = some 116 := by rw [h5.1]; decide
            rw [if_neg hn, if_pos h5.1] at lk
            rw [h5.1, h5.2] at c4
            rw [iSeq_e, iIfS_e, c4]
            simp only [ob_s, decide_true, Bool.and_self, Bool.or_true, Bool.true_or]
            exact out (a4_w T hp hi s_false (by unfold okL; decide) (by decide) rfl ⟨_, rfl⟩ rfl lk)
          · rw [if_neg h5]
            by_cases h6 : (l.drop i).head? = some 110 ∧ wN w = true
            · rw [if_pos h6]
              have hn : ¬ (l.drop i).head? = some 116 := by rw [h6.1]; decide
              have hn2 : ¬ (l.drop i).head? = some 102 := by rw [h6.1]; decide
              rw [if_neg hn, if_neg hn2, if_pos h6.1] at lk
              rw [h6.1, h6.2] at c4
              rw [iSeq_e, iIfS_e, c4]
              simp only [ob_s, decide_true, Bool.and_self, Bool.or_true]
              exact out (a4_w T hp hi s_nothing (by unfold okL; decide) (by decide) rfl ⟨_, rfl⟩ rfl lk)
            · rw [if_neg h6]
              have c4f : ((decide ((l.drop i).head? = some 116) && wBo w) || (decide ((l.drop i).head? = some 102) && wBo w) || (decide ((l.drop i).head? = some 110) && wN w)) = false := by
                rw [Bool.eq_false_iff]
                intro h
                simp only [Bool.and_eq_true, Bool.or_eq_true, decide_eq_true_eq] at h
                rcases h with (h | h) | h
                · exact h4 h
                · exact h5 h
                · exact h6 h
              rw [c4f] at c4
              rw [iSeq_e, iIfS_e, c4]
              simp only [ob_s, iSkip_e]
              have hpos : pos l (l.drop i) = p := by rw [pos_drop hi]; exact hp.symm
              have e5 := small_ok hp (by omega)
              refine ⟨aE l i p d w, [], ?_⟩
              simp [aL, e5, hpos]
end
end J11

/-! lists are read; the reader as a whole -/
namespace J11
open PySem PySem.Spec PyProof.Rows L2 IL SX
/-- the rest is an end of what was there -/
def Sf {α : Type} (s : List Nat) : Ro α → Prop
  | .ok _ r => r <:+ s
  | .er r => r <:+ s
theorem Sf.trans {α : Type} {s t : List Nat} {o : Ro α} (h : Sf s o) (h2 : s <:+ t) : Sf t o := by
  cases o with
  | ok a r => exact List.IsSuffix.trans h h2
  | er r => exact List.IsSuffix.trans h h2
theorem Sf.map {α β : Type} {s : List Nat} {o : Ro α} {f : α → β} (h : Sf s o) : Sf s (o.map f) := by
  cases o with
  | ok a r => exact h
  | er r => exact h
theorem tl_sf (s : List Nat) : s.tail <:+ s := List.tail_suffix s
theorem rdText_sf : ∀ (c : Nat) (acc s : List Nat), Sf s (rdText c acc s)
  | 0, acc, s => by
    unfold rdText
    split
    · exact tl_sf s
    · exact List.suffix_refl s
  | c + 1, acc, s => by
    unfold rdText
    split
    · split
      · exact (rdText_sf c _ _).trans ((tl_sf _).trans (tl_sf _))
      · exact tl_sf s
    · split
      · exact (rdText_sf c _ _).trans (tl_sf _)
      · exact List.suffix_refl s
theorem rdDig_sf : ∀ (s : List Nat) (a : Nat), (rdDig a s).2 <:+ s
  | [], a => List.suffix_refl _
  | d :: r, a => by
    unfold rdDig
    split
    · split
      · exact (rdDig_sf r _).trans (List.suffix_cons d r)
      · exact List.suffix_cons d r
    · exact List.suffix_refl _
theorem numAt_sf {neg : Bool} {s : List Nat} : Sf s (numAt neg s) := by
  unfold numAt
  split
  · exact List.suffix_refl s
  · exact rdDig_sf s 0
theorem rdNum_sf {s : List Nat} : Sf s (rdNum s) := by
  unfold rdNum
  split
  · exact numAt_sf.trans (tl_sf s)
  · exact numAt_sf
theorem rdWord_sf : ∀ (w s : List Nat), Sf s (rdWord w s)
  | [], s => List.suffix_refl s
  | c :: w, s => by
    unfold rdWord
    split
    · exact (rdWord_sf w _).trans (tl_sf s)
    · exact List.suffix_refl s
theorem rdFlat_sf {w : Kn} {s : List Nat} : Sf s (rdFlat w s) := by
  unfold rdFlat
  split
  · exact ((rdText_sf _ _ _).trans (tl_sf s)).map
  · split
    · exact rdNum_sf.map
    · split
      · exact (rdWord_sf _ _).map
      · split
        · exact (rdWord_sf _ _).map
        · split
          · exact (rdWord_sf _ _).map
          · exact List.suffix_refl s
theorem rdItems_sf {f : Kn → List Nat → Ro (Vl × Kn)} (hf : ∀ k s, Sf s (f k s)) : ∀ (c : Nat) (acc : List Vl) (k : Kn) (s : List Nat), Sf s (rdItems f c acc k s)
  | 0, acc, k, s => List.suffix_refl s
  | c + 1, acc, k, s => by
    unfold rdItems
    have h := hf k s
    cases h1 : f k s with
    | er e => rw [h1] at h; exact h
    | ok p r =>
      obtain ⟨v, k'⟩ := p
      rw [h1] at h
      have h : r <:+ s := h
      simp only
      split
      · exact (tl_sf r).trans h
      · split
        · exact h
        · split
          · exact (tl_sf r).trans h
          · exact (rdItems_sf hf c _ _ _).trans (((tl_sf _).trans (tl_sf _)).trans h)
theorem rdAt_sf : ∀ (m : Nat) (w : Kn) (s : List Nat), Sf s (rdAt m w s)
  | 0, w, s => rdFlat_sf
  | m + 1, w, s => by
    unfold rdAt
    split
    · refine Sf.trans ?_ (tl_sf s)
      unfold rdList
      split
      · exact tl_sf _
      · exact rdItems_sf (fun k s => rdAt_sf m k s) _ _ _ _
    · exact rdFlat_sf
theorem sf_drop {l r : List Nat} {i : Nat} (h : r <:+ l.drop i) : ∃ j, r = l.drop j ∧ j ≤ l.length := by
  have h2 : r <:+ l := h.trans (List.drop_suffix i l)
  obtain ⟨t, ht⟩ := h2
  refine ⟨t.length, ?_, ?_⟩
  · rw [← ht, List.drop_left]
  · rw [← ht, List.length_append]; omega
theorem pvs_app (a b : List Vl) : pvs (a ++ b) = pvs a ++ pvs b := by
  induction a with
  | nil => rfl
  | cons x a ih => simp [pvs, ih]
theorem pvs_len (a : List Vl) : (pvs a).length = a.length := by
  induction a with
  | nil => rfl
  | cons x a ih => simp [pvs, ih]
section
variable {n m : Nat} {st : Sto} {l : List Nat} {i : Nat} {p d : Int} {w : Kn} {G : Nat → FX} {F : Nat → FA} {q0 q1 : Option PV}
abbrev lEnv (l : List Nat) (q0 q1 : Option PV) (d : Int) (k : Kn) (a : Nat) (p : Int) (x7 x8 : Option PV) : PEnv := [some (.str (S l)), q0, q1, some (.int d), some (pk k), some (.ref a), some (.int p), x7, x8]
/-- behind an item -/
theorem lT_w (T : Tx l) {c : Nat} {acc : List Vl} {v : Vl} {k' : Kn} {x8 : Option PV} (hp : p = (i : Int)) (hi : i ≤ l.length) (hc : acc.length + (c + 1) = 20) :
    if (l.drop i).head? = some 93 then lT F G (lEnv l q0 q1 d k' st.length p (some (pv v)) x8) (st ++ [.lst (pvs acc)]) = some (.rt (fAt l (.list (acc ++ [v]), .list k') (l.drop i).tail) (st ++ [.lst (pvs (acc ++ [v]))]))
    else if (l.drop i).head? ≠ some 44 ∨ c = 0 then ∃ e, lT F G (lEnv l q0 q1 d k' st.length p (some (pv v)) x8) (st ++ [.lst (pvs acc)]) = some (.er e S_WrittenError [(S_at, .int (pos l (l.drop i)))] (st ++ [.lst (pvs (acc ++ [v]))]))
    else if (l.drop i).tail.head? ≠ some 32 then ∃ e, lT F G (lEnv l q0 q1 d k' st.length p (some (pv v)) x8) (st ++ [.lst (pvs acc)]) = some (.er e S_WrittenError [(S_at, .int (pos l (l.drop i).tail))] (st ++ [.lst (pvs (acc ++ [v]))]))
    else i + 2 ≤ l.length ∧ ∃ x8', lT F G (lEnv l q0 q1 d k' st.length p (some (pv v)) x8) (st ++ [.lst (pvs acc)]) = some (.nx (lEnv l q0 q1 d k' st.length (p + 2) (some (pv v)) x8') (st ++ [.lst (pvs (acc ++ [v]))])) := by
  have hT := T.len
  obtain ⟨s2, hs2⟩ : ∃ s2, s2 = st ++ [SO.lst (pvs (acc ++ [v]))] := ⟨_, rfl⟩
  have h1 := fSl_1 (st := s2) (l := l) (p := p) (q := p + 1) (i := i) (by omega) hp (by omega)
  have h2 := fSl_1 (st := s2) (l := l) (p := p + 1) (q := p + 2) (i := i + 1) (by omega) (by omega) (by omega)
  have e1 := eqP_hd (st := s2) s5d (by decide) (T.ok.drop i)
  have e2 := eqP_hd (st := s2) s2c (by decide) (T.ok.drop i)
  have e3 := eqP_hd (st := s2) s20 (by decide) (T.ok.drop (i + 1))
  have hat : s2[st.length]? = some (.lst (pvs (acc ++ [v]))) := by rw [hs2]; exact new_at
  have e4 := fLenB_l (st := s2) hat
  rw [pvs_len, List.length_append, List.length_singleton] at e4
  have e5 := small_ok hp (by omega)
  have e6 : i < l.length → (p + 1).natAbs < 10 ^ 30 := fun h => small_ok (i := i + 1) (by omega) (by omega)
  have ea : iAppend (iVar 5) (iVar 7) (lEnv l q0 q1 d k' st.length p (some (pv v)) x8) (st ++ [.lst (pvs acc)]) = some (.non, s2) := by
    rw [append_e (io := iVar 5) (ie := iVar 7) (n := st.length) (x := pv v) (s1 := st ++ [.lst (pvs acc)]) (s2 := st ++ [.lst (pvs acc)]) rfl new_at rfl new_at (by rw [pvs_len]; omega), set_last, hs2, pvs_app]
    rfl
  rw [← hs2]
  have hlen : (pvs (acc ++ [v])).length ≤ 9000000 := by rw [pvs_len, List.length_append]; simp; omega
  unfold lT
  rw [iSeq_e, iDrop_e, ea]
  simp only [ob_s]
  rw [iSeq_e, iAsg_e]
  simp only [iSl_e, iPart_e, iVar_e, iBin_e, iC_e, ob_s, List.getElem?_cons_succ, List.getElem?_cons_zero, fAdd_i, h1, gN_e, List.set_cons_succ, List.set_cons_zero]
  by_cases hA : (l.drop i).head? = some 93
  · rw [if_pos hA]
    have hlt := lt_of_head hA
    have hpos : pos l (l.drop (i + 1)) = p + 1 := by rw [pos_drop (by omega)]; omega
    rw [tail_of]
    simp [-List.head?_drop, e1, hA, hat, hpos, pv, pk]
  · rw [if_neg hA]
    by_cases hB : (l.drop i).head? = some 44
    · have hlt := lt_of_head hB
      by_cases hc0 : c = 0
      · rw [if_pos (Or.inr hc0)]
        have hpos : pos l (l.drop i) = p := by rw [pos_drop hi]; exact hp.symm
        have hl20 : ((acc.length + 1 : Nat) : Int) = 20 := by omega
        rw [hl20] at e4
        refine ⟨lEnv l q0 q1 d k' st.length p (some (pv v)) (some (.str (S ((l.drop i).take 1)))), ?_⟩
        simp [-List.head?_drop, e1, e2, hA, hB, e4, e5, hpos]
      · rw [if_neg (by simp only [ne_eq, hB, not_true, false_or]; exact hc0)]
        have hl20 : (((acc.length + 1 : Nat) : Int) == 20) = false := by
          rw [beq_eq_false_iff_ne]
          omega
        rw [tail_of]
        by_cases hC : (l.drop (i + 1)).head? = some 32
        · rw [if_neg (by rw [hC]; simp)]
          have := lt_of_head hC
          refine ⟨by omega, some (.str (S ((l.drop i).take 1))), ?_⟩
          rw [iSeq_e]
          simp only [iIfS_e, iTestB_e, iBin_e, iVar_e, iC_e, ob_s, List.getElem?_cons_succ, List.getElem?_cons_zero, fEqB_e, eqB_str, e1, hA, decide_false, Option.map_some, isBl_e, iSkip_e]
          rw [iSeq_e]
          simp only [iIfS_e, iOr_e, iTestB_e, iBin_e, iVar_e, iC_e, ob_s, List.getElem?_cons_succ, List.getElem?_cons_zero, fNeB_e, fEqB_e, eqB_str, eqB_int, e2, hB, decide_true, Bool.not_true, Option.map_some, isBl_e, iSkip_e, iCall_e, iCons_e, iNil_e, a1_e, e4, eqP_i, hl20]
          rw [iSeq_e]
          simp only [iIfS_e, iTestB_e, iBin_e, iVar_e, iC_e, ob_s, iSl_e, iPart_e, List.getElem?_cons_succ, List.getElem?_cons_zero, fAdd_i, h2, fNeB_e, eqB_str, e3, hC, decide_true, Bool.not_true, Option.map_some, isBl_e, iSkip_e, iAugAdd_e, List.set_cons_succ, List.set_cons_zero]
        · rw [if_pos hC]
          have hpos : pos l (l.drop (i + 1)) = p + 1 := by rw [pos_drop (by omega)]; omega
          have e6' := e6 hlt
          refine ⟨lEnv l q0 q1 d k' st.length p (some (pv v)) (some (.str (S ((l.drop i).take 1)))), ?_⟩
          rw [iSeq_e]
          simp only [iIfS_e, iTestB_e, iBin_e, iVar_e, iC_e, ob_s, List.getElem?_cons_succ, List.getElem?_cons_zero, fEqB_e, eqB_str, e1, hA, decide_false, Option.map_some, isBl_e, iSkip_e]
          rw [iSeq_e]
          simp only [iIfS_e, iOr_e, iTestB_e, iBin_e, iVar_e, iC_e, ob_s, List.getElem?_cons_succ, List.getElem?_cons_zero, fNeB_e, fEqB_e, eqB_str, eqB_int, e2, hB, decide_true, Bool.not_true, Option.map_some, isBl_e, iSkip_e, iCall_e, iCons_e, iNil_e, a1_e, e4, eqP_i, hl20]
          rw [iSeq_e]
          simp only [iIfS_e, iTestB_e, iBin_e, iVar_e, iC_e, ob_s, iSl_e, iPart_e, List.getElem?_cons_succ, List.getElem?_cons_zero, fAdd_i, h2, fNeB_e, eqB_str, e3, hC, decide_false, Bool.not_false, Option.map_some, isBl_e, iRaise_e, okPI_i, decide_eq_true e6', if_true, hpos]
    · rw [if_pos (Or.inl hB)]
      have hpos : pos l (l.drop i) = p := by rw [pos_drop hi]; exact hp.symm
      refine ⟨lEnv l q0 q1 d k' st.length p (some (pv v)) (some (.str (S ((l.drop i).take 1)))), ?_⟩
      simp [-List.head?_drop, e1, e2, hA, hB, e5, hpos]
end
end J11

/-! the reader as a whole -/
namespace J11
open PySem PySem.Spec PyProof.Rows L2 IL SX
section
variable {n m : Nat} {st : Sto} {l : List Nat} {i : Nat} {p d : Int} {w : Kn} {G : Nat → FX} {F : Nat → FA} {q0 q1 : Option PV}
theorem w_items (T : Tx l) (hm40 : m ≤ 40) (hf : ∀ (k : Kn) (i : Nat) (p : Int) (st : Sto), kd k ≤ 40 → p = (i : Int) → i ≤ l.length → Rd l st (fAt l) (rdAt m k (l.drop i)) (G I__read_at [.str (S l), .int p, pk k, .int (d + 1)] st)) :
    ∀ (c : Nat) (acc : List Vl) (k : Kn) (i : Nat) (p : Int) (mm : Nat) (x7 x8 : Option PV), acc.length + (c + 1) = 20 → kd k ≤ 40 → p = (i : Int) → i ≤ l.length → c + 1 < mm →
    WR l st (fAt l) (rdItems (rdAt m) (c + 1) acc k (l.drop i)) (wloop (iTest (iC (.bl true))) (lB F G) mm (lEnv l q0 q1 d k st.length p x7 x8) (st ++ [.lst (pvs acc)])) := by
  intro c
  induction c with
  | zero =>
    intro acc k i p mm x7 x8 hc hk hp hi hmm
    cases mm with
    | zero => omega
    | succ mm =>
      have h := hf k i p (st ++ [.lst (pvs acc)]) hk hp hi
      have sf := rdAt_sf m k (l.drop i)
      unfold rdItems
      rw [wloop]
      simp only [iTest_e, iC_e, ob_s, tru_bl, Option.map_some]
      rw [lB_e, iSeq_e]
      cases ho : rdAt m k (l.drop i) with
      | er r =>
        rw [ho] at h
        obtain ⟨g, h⟩ := h
        have ea : lA G (lEnv l q0 q1 d k st.length p x7 x8) (st ++ [.lst (pvs acc)]) = some (.er (lEnv l q0 q1 d k st.length p x7 x8) S_WrittenError [(S_at, .int (pos l r))] (st ++ [.lst (pvs acc)] ++ g)) := by
          simp [lA, h]
        rw [ea]
        exact ⟨_, [.lst (pvs acc)] ++ g, by simp; rfl⟩
      | ok a r =>
        obtain ⟨v, k'⟩ := a
        rw [ho] at h sf
        obtain ⟨j, rfl, hj⟩ := sf_drop sf
        have h : _ = _ := h
        have ea : lA G (lEnv l q0 q1 d k st.length p x7 x8) (st ++ [.lst (pvs acc)]) = some (.nx (lEnv l q0 q1 d k' st.length (j : Int) (some (pv v)) x8) (st ++ [.lst (pvs acc)])) := by
          simp [lA, h, pos_drop hj]
        rw [ea]
        have ht := lT_w (F := F) (G := G) (st := st) (l := l) (i := j) (p := (j : Int)) (d := d) (q0 := q0) (q1 := q1) T (acc := acc) (v := v) (k' := k') (x8 := x8) rfl hj hc
        simp only
        by_cases h93 : (l.drop j).head? = some 93
        · rw [if_pos h93] at ht ⊢
          rw [ht]
          exact ⟨_, rfl⟩
        · rw [if_neg h93, if_pos (Or.inr rfl)] at ht
          rw [if_neg h93, if_pos (Or.inr trivial)]
          obtain ⟨e, ht⟩ := ht
          rw [ht]
          exact ⟨e, _, rfl⟩
  | succ c ih =>
    intro acc k i p mm x7 x8 hc hk hp hi hmm
    cases mm with
    | zero => omega
    | succ mm =>
      have h := hf k i p (st ++ [.lst (pvs acc)]) hk hp hi
      have sf := rdAt_sf m k (l.drop i)
      unfold rdItems
      rw [wloop]
      simp only [iTest_e, iC_e, ob_s, tru_bl, Option.map_some]
      rw [lB_e, iSeq_e]
      cases ho : rdAt m k (l.drop i) with
      | er r =>
        rw [ho] at h
        obtain ⟨g, h⟩ := h
        have ea : lA G (lEnv l q0 q1 d k st.length p x7 x8) (st ++ [.lst (pvs acc)]) = some (.er (lEnv l q0 q1 d k st.length p x7 x8) S_WrittenError [(S_at, .int (pos l r))] (st ++ [.lst (pvs acc)] ++ g)) := by
          simp [lA, h]
        rw [ea]
        exact ⟨_, [.lst (pvs acc)] ++ g, by simp; rfl⟩
      | ok a r =>
        obtain ⟨v, k'⟩ := a
        have hk' := rdAt_kd m k (l.drop i) v k' r ho
        rw [ho] at h sf
        obtain ⟨j, rfl, hj⟩ := sf_drop sf
        have h : _ = _ := h
        have ea : lA G (lEnv l q0 q1 d k st.length p x7 x8) (st ++ [.lst (pvs acc)]) = some (.nx (lEnv l q0 q1 d k' st.length (j : Int) (some (pv v)) x8) (st ++ [.lst (pvs acc)])) := by
          simp [lA, h, pos_drop hj]
        rw [ea]
        have ht := lT_w (F := F) (G := G) (st := st) (l := l) (i := j) (p := (j : Int)) (d := d) (q0 := q0) (q1 := q1) T (acc := acc) (v := v) (k' := k') (x8 := x8) rfl hj hc
        simp only
        by_cases h93 : (l.drop j).head? = some 93
        · rw [if_pos h93] at ht ⊢
          rw [ht]
          exact ⟨_, rfl⟩
        · rw [if_neg h93] at ht ⊢
          by_cases h44 : (l.drop j).head? ≠ some 44 ∨ c + 1 = 0
          · rw [if_pos h44] at ht ⊢
            obtain ⟨e, ht⟩ := ht
            rw [ht]
            exact ⟨e, _, rfl⟩
          · rw [if_neg h44] at ht ⊢
            by_cases h32 : (l.drop j).tail.head? ≠ some 32
            · rw [if_pos h32] at ht ⊢
              obtain ⟨e, ht⟩ := ht
              rw [ht]
              exact ⟨e, _, rfl⟩
            · rw [if_neg h32] at ht ⊢
              obtain ⟨h2, x8', ht⟩ := ht
              rw [ht]
              rw [tail_of, tail_of]
              exact ih (acc ++ [v]) k' (j + 1 + 1) ((j : Int) + 2) mm (some (pv v)) x8' (by rw [List.length_append]; simp; omega) (by omega) (by omega) (by omega) (by omega)
theorem list_w (T : Tx l) (hp : p = (i : Int)) (hi : i < l.length) (hk : kd w ≤ 40) (hw : wL w = true) (hm40 : m ≤ 40)
    (hf : ∀ (k : Kn) (i : Nat) (p : Int) (st : Sto), kd k ≤ 40 → p = (i : Int) → i ≤ l.length → Rd l st (fAt l) (rdAt m k (l.drop i)) (GG (n + 1) I__read_at [.str (S l), .int p, pk k, .int (d + 1)] st)) :
    Rd l st (fAt l) (rdList (rdAt m) (sub w) (l.drop i).tail) (GG (n + 2) I__read_list [.str (S l), .int p, pk w, .int d] st) := by
  rw [e__read_list]
  refine WR.to rfl ?_ fun _ _ => by
    simp only [nr, nrs, Bool.and_eq_true, Bool.and_true, Bool.true_and]
    exact ⟨nr_pv _, nr_pk _⟩
  have hT := T.len
  rw [b_list, tail_of]
  obtain ⟨s2, hs2⟩ : ∃ s2, s2 = st ++ [SO.lst (pvs [])] := ⟨_, rfl⟩
  have h1 := fSl_1 (st := s2) (l := l) (p := p + 1) (q := p + 1 + 1) (i := i + 1) (by omega) (by omega) (by omega)
  have e1 := eqP_hd (st := s2) s5d (by decide) (T.ok.drop (i + 1))
  have ks : kd (sub w) ≤ 40 := by rcases kd_sub w with h | h <;> omega
  have e0 : ∀ q : IS, iSeq (iAsg (gN 4) (iIf (iTestB (iBin fIs (iVar 2) (iC .non))) (iC .non) (iBin fSubB (iVar 2) (iC (.int 1))))) (iSeq (iAsg (gN 5) (iLst iNil)) (iSeq (iAsg (gN 6) (iBin fAdd (iVar 1) (iC (.int 1)))) q)) ([PV.str (S l), PV.int p, pk w, PV.int d].map some ++ List.replicate (9 - 4) none) st = q (lEnv l (some (.int p)) (some (pk w)) d (sub w) st.length (p + 1) none none) s2 := fun q => by
    rw [hs2]
    cases w with
    | no =>
      simp [pk, sub, pvs]
      rfl
    | list k => simp [pk, sub, pvs]
    | _ => cases hw
  rw [e0, iSeq_e]
  unfold rdList
  by_cases hA : (l.drop (i + 1)).head? = some 93
  · rw [if_pos hA, tail_of]
    have hlt := lt_of_head hA
    have hpos : pos l (l.drop (i + 1 + 1)) = p + 1 + 1 := by rw [pos_drop (by omega)]; omega
    refine ⟨[.lst (pvs [])], ?_⟩
    rw [← hs2]
    simp [-List.head?_drop, lE, h1, e1, hA, hpos, pv, pvs, pk]
  · rw [if_neg hA]
    have ee : lE (lEnv l (some (.int p)) (some (pk w)) d (sub w) st.length (p + 1) none none) s2 = some (.nx (lEnv l (some (.int p)) (some (pk w)) d (sub w) st.length (p + 1) none none) s2) := by
      simp [-List.head?_drop, lE, h1, e1, hA]
    rw [ee]
    obtain ⟨k, hkk⟩ := iWhile_at 900000 (by omega)
    simp only
    rw [hkk, hs2]
    exact w_items (F := FF (n + 1)) (G := GG (n + 1)) T hm40 hf 19 [] (sub w) (i + 1) (p + 1) (k + 900000) none none rfl ks (by omega) (by omega) (by omega)
/-- the reader is what rdAt tells -/
theorem e_at : ∀ (m n : Nat) (w : Kn) (i : Nat) (p d : Int) (st : Sto), Tx l → m ≤ 40 → kd w ≤ 40 → p = (i : Int) → i ≤ l.length → d = 6 - (m : Int) → Rd l st (fAt l) (rdAt m w (l.drop i)) (GG (n + 2 * m + 3) I__read_at [.str (S l), .int p, pk w, .int d] st)
  | 0, n, w, i, p, d, st, T, hm, hk, hp, hi, hd => at_w (n := n) (m := 0) T hp hi hk hd fun m' h => by omega
  | m + 1, n, w, i, p, d, st, T, hm, hk, hp, hi, hd => by
    have e : n + 2 * (m + 1) + 3 = (n + 2 * m + 2) + 3 := by omega
    rw [e]
    refine at_w (n := n + 2 * m + 2) (m := m + 1) T hp hi hk hd fun m' h hh hw => ?_
    have : m' = m := by omega
    subst this
    refine list_w (n := n + 2 * m' + 2) T hp (lt_of_head hh) hk hw (by omega) fun k i p st hk' hp' hi' => ?_
    exact e_at m' n k i p (d + 1) st T (by omega) hk' hp' hi' (by omega)
end
end J11

/-! what the reader looks at: nothing behind the first sign that it leaves -/
namespace J11
open PySem PySem.Spec PyProof.Rows L2 IL SX
def Ro.rest {α : Type} : Ro α → List Nat
  | .ok _ r => r
  | .er r => r
def Ro.put {α : Type} : Ro α → List Nat → Ro α
  | .ok a _, x => .ok a x
  | .er _, x => .er x
theorem Sf.rest {α : Type} {s : List Nat} {o : Ro α} (h : Sf s o) : o.rest <:+ s := by
  cases o <;> exact h
theorem Ro.map_rest {α β : Type} {o : Ro α} {f : α → β} : (o.map f).rest = o.rest := by cases o <;> rfl
theorem Ro.map_put {α β : Type} {o : Ro α} {f : α → β} {x : List Nat} : (o.map f).put x = (o.put x).map f := by cases o <;> rfl
/-- a shorter rest than that -/
theorem no_rest {α : Type} {o : Ro α} {c : Nat} {t u : List Nat} (h : Sf u o) (hu : u.length ≤ t.length) (e : o.rest = c :: t) : False := by
  have h1 := (Sf.rest h).length_le
  rw [e] at h1
  simp at h1
  omega
def Loc {α : Type} (f : List Nat → Ro α) : Prop := ∀ (pre : List Nat) (c : Nat) (t t' : List Nat), (f (pre ++ c :: t)).rest = c :: t → f (pre ++ c :: t') = (f (pre ++ c :: t)).put (c :: t')
theorem Loc.map {α β : Type} {f : List Nat → Ro α} {g : α → β} (h : Loc f) : Loc fun s => (f s).map g := fun pre c t t' e => by
  rw [Ro.map_rest] at e
  show (f (pre ++ c :: t')).map g = _
  rw [h pre c t t' e, Ro.map_put]
theorem head_app (pre : List Nat) (c : Nat) (t t' : List Nat) : (pre ++ c :: t').head? = (pre ++ c :: t).head? := by cases pre <;> rfl
theorem headP_app (q : Nat → Bool) (pre : List Nat) (c : Nat) (t t' : List Nat) : headP q (pre ++ c :: t') = headP q (pre ++ c :: t) := by
  unfold headP
  rw [head_app pre c t t']
theorem take_app1 (pre : List Nat) (c : Nat) (t t' : List Nat) : (pre ++ c :: t').take 1 = (pre ++ c :: t).take 1 := by cases pre <;> rfl
theorem rdText_loc : ∀ (n : Nat) (acc : List Nat), Loc (rdText n acc)
  | 0, acc => fun pre c t t' e => by
    unfold rdText at e ⊢
    rw [head_app pre c t t']
    by_cases h : (pre ++ c :: t).head? = some 34
    · rw [if_pos h] at e ⊢
      rw [if_pos h]
      cases pre with
      | nil => exact (no_rest (o := Ro.ok acc t) (List.suffix_refl t) (Nat.le_refl _) e).elim
      | cons d pre =>
        have e : pre ++ c :: t = c :: t := e
        have : pre = [] := by
          have := congrArg List.length e
          simp at this
          exact this
        subst this
        rfl
    · rw [if_neg h] at e ⊢
      rw [if_neg h]
      have e : pre ++ c :: t = c :: t := e
      have : pre = [] := by
        have := congrArg List.length e
        simp at this
        exact this
      subst this
      rfl
  | n + 1, acc => fun pre c t t' e => by
    unfold rdText at e ⊢
    rw [head_app pre c t t', headP_app isLet pre c t t', take_app1 pre c t t']
    by_cases h : (pre ++ c :: t).head? = some 34
    · rw [if_pos h] at e ⊢
      rw [if_pos h]
      cases pre with
      | nil =>
        exfalso
        by_cases h2 : ([] ++ c :: t).tail.head? = some 34
        · rw [if_pos h2] at e
          exact no_rest (u := t.tail) (rdText_sf n _ _) (by simp) e
        · rw [if_neg h2] at e
          exact no_rest (o := Ro.ok acc t) (List.suffix_refl t) (Nat.le_refl _) e
      | cons d pre =>
        have ht : (d :: pre ++ c :: t').tail.head? = (d :: pre ++ c :: t).tail.head? := head_app pre c t t'
        by_cases h2 : (d :: pre ++ c :: t).tail.head? = some 34
        · rw [if_pos h2] at e ⊢
          rw [if_pos (ht.trans h2)]
          cases pre with
          | nil => exact (no_rest (rdText_sf n _ _) (Nat.le_refl _) e).elim
          | cons d2 pre => exact rdText_loc n _ pre c t t' e
        · rw [if_neg h2] at e ⊢
          rw [if_neg (by rw [ht]; exact h2)]
          have e : pre ++ c :: t = c :: t := e
          have : pre = [] := by
            have := congrArg List.length e
            simp at this
            exact this
          subst this
          rfl
    · rw [if_neg h] at e ⊢
      rw [if_neg h]
      cases h3 : headP isLet (pre ++ c :: t) with
      | true =>
        rw [h3, if_pos rfl] at e
        rw [if_pos rfl]
        rw [if_pos rfl]
        cases pre with
        | nil => exact (no_rest (rdText_sf n _ _) (Nat.le_refl _) e).elim
        | cons d pre => exact rdText_loc n _ pre c t t' e
      | false =>
        rw [h3, if_neg Bool.false_ne_true] at e
        rw [if_neg Bool.false_ne_true]
        rw [if_neg Bool.false_ne_true]
        have e : pre ++ c :: t = c :: t := e
        have : pre = [] := by
          have := congrArg List.length e
          simp at this
          exact this
        subst this
        rfl
theorem rdDig_loc : ∀ (pre : List Nat) (a c : Nat) (t t' : List Nat), (rdDig a (pre ++ c :: t)).2 = c :: t → rdDig a (pre ++ c :: t') = ((rdDig a (pre ++ c :: t)).1, c :: t')
  | [], a, c, t, t', e => by
    simp only [List.nil_append] at e ⊢
    unfold rdDig at e ⊢
    by_cases h : isDig c = true ∧ a * 10 + (c - 48) ≤ 1000000000000
    · rw [if_pos h] at e
      exfalso
      by_cases h2 : a * 10 + (c - 48) > 0
      · rw [if_pos h2] at e
        have := (rdDig_sf t (a * 10 + (c - 48))).length_le
        rw [e] at this
        simp at this
        omega
      · rw [if_neg h2] at e
        have := congrArg List.length e
        simp at this
    · rw [if_neg h, if_neg h]
  | d :: pre, a, c, t, t', e => by
    simp only [List.cons_append] at e ⊢
    unfold rdDig at e ⊢
    by_cases h : isDig d = true ∧ a * 10 + (d - 48) ≤ 1000000000000
    · rw [if_pos h] at e ⊢
      rw [if_pos h]
      by_cases h2 : a * 10 + (d - 48) > 0
      · rw [if_pos h2] at e ⊢
        rw [if_pos h2]
        exact rdDig_loc pre _ c t t' e
      · rw [if_neg h2] at e ⊢
        rw [if_neg h2]
        have e : pre ++ c :: t = c :: t := e
        have : pre = [] := by
          have := congrArg List.length e
          simp at this
          exact this
        subst this
        rfl
    · rw [if_neg h] at e
      have e : d :: (pre ++ c :: t) = c :: t := e
      have := congrArg List.length e
      simp at this
      omega
theorem numAt_loc (neg : Bool) : Loc (numAt neg) := fun pre c t t' e => by
  unfold numAt at e ⊢
  rw [headP_app isDig pre c t t', head_app pre c t t']
  by_cases h : headP isDig (pre ++ c :: t) = false ∨ (neg = true ∧ (pre ++ c :: t).head? = some 48)
  · rw [if_pos h] at e ⊢
    rw [if_pos h]
    have e : pre ++ c :: t = c :: t := e
    have : pre = [] := by
      have := congrArg List.length e
      simp at this
      exact this
    subst this
    rfl
  · rw [if_neg h] at e ⊢
    rw [if_neg h]
    rw [rdDig_loc pre 0 c t t' e]
    rfl
theorem rdNum_loc : Loc rdNum := fun pre c t t' e => by
  unfold rdNum at e ⊢
  rw [head_app pre c t t']
  by_cases h : (pre ++ c :: t).head? = some 45
  · rw [if_pos h] at e ⊢
    rw [if_pos h]
    cases pre with
    | nil => exact (no_rest numAt_sf (Nat.le_refl _) e).elim
    | cons d pre => exact numAt_loc true pre c t t' e
  · rw [if_neg h] at e ⊢
    rw [if_neg h]
    exact numAt_loc false pre c t t' e
theorem rdWord_loc : ∀ w : List Nat, Loc (rdWord w)
  | [] => fun pre c t t' e => by
    have e : pre ++ c :: t = c :: t := e
    have : pre = [] := by
      have := congrArg List.length e
      simp at this
      exact this
    subst this
    rfl
  | d :: w => fun pre c t t' e => by
    unfold rdWord at e ⊢
    rw [head_app pre c t t']
    by_cases h : (pre ++ c :: t).head? = some d
    · rw [if_pos h] at e ⊢
      rw [if_pos h]
      cases pre with
      | nil => exact (no_rest (rdWord_sf w _) (Nat.le_refl _) e).elim
      | cons d pre => exact rdWord_loc w pre c t t' e
    · rw [if_neg h] at e ⊢
      rw [if_neg h]
      have e : pre ++ c :: t = c :: t := e
      have : pre = [] := by
        have := congrArg List.length e
        simp at this
        exact this
      subst this
      rfl
theorem loc_ite {α : Type} {f g : List Nat → Ro α} {q : List Nat → Prop} [∀ s, Decidable (q s)] (hq : ∀ (pre : List Nat) (c : Nat) (t t' : List Nat), q (pre ++ c :: t') = q (pre ++ c :: t)) (hf : Loc f) (hg : Loc g) : Loc fun s => if q s then f s else g s := fun pre c t t' e => by
  simp only [hq pre c t t']
  by_cases h : q (pre ++ c :: t)
  · simp only [h, if_true] at e ⊢
    exact hf pre c t t' e
  · simp only [h, if_false] at e ⊢
    exact hg pre c t t' e
theorem er_loc {α : Type} : Loc fun s => (Ro.er s : Ro α) := fun pre c t t' e => by
  have e : pre ++ c :: t = c :: t := e
  have : pre = [] := by
    have := congrArg List.length e
    simp at this
    exact this
  subst this
  rfl
theorem tail_loc {α : Type} {f : List Nat → Ro α} (hf : Loc f) (hs : ∀ s, Sf s (f s)) : Loc fun s => f s.tail := fun pre c t t' e => by
  cases pre with
  | nil => exact (no_rest (hs t) (Nat.le_refl _) e).elim
  | cons d pre => exact hf pre c t t' e
theorem rdFlat_loc (w : Kn) : Loc (rdFlat w) := by
  have h1 : Loc fun s : List Nat => ((rdText 60 [] s.tail).map fun a => (Vl.text a, Kn.text)) := Loc.map (tail_loc (rdText_loc 60 []) (rdText_sf 60 []))
  have h2 : Loc fun s : List Nat => ((rdNum s).map fun a => (Vl.int a, Kn.int)) := Loc.map rdNum_loc
  have h3 : Loc fun s : List Nat => ((rdWord wTrue s).map fun _ => (Vl.bool true, Kn.bool)) := Loc.map (rdWord_loc _)
  have h4 : Loc fun s : List Nat => ((rdWord wFalse s).map fun _ => (Vl.bool false, Kn.bool)) := Loc.map (rdWord_loc _)
  have h5 : Loc fun s : List Nat => ((rdWord wNothing s).map fun _ => (Vl.nothing, Kn.nothing)) := Loc.map (rdWord_loc _)
  have hh : ∀ (q : Option Nat → Prop) (pre : List Nat) (c : Nat) (t t' : List Nat), q (pre ++ c :: t').head? = q (pre ++ c :: t).head? := fun q pre c t t' => by rw [head_app pre c t t']
  unfold rdFlat
  refine loc_ite (fun pre c t t' => by rw [head_app pre c t t']) h1 ?_
  refine loc_ite (fun pre c t t' => by rw [head_app pre c t t', headP_app isDig pre c t t']) h2 ?_
  refine loc_ite (fun pre c t t' => by rw [head_app pre c t t']) h3 ?_
  refine loc_ite (fun pre c t t' => by rw [head_app pre c t t']) h4 ?_
  refine loc_ite (fun pre c t t' => by rw [head_app pre c t t']) h5 ?_
  exact er_loc
theorem rdItems_loc {f : Kn → List Nat → Ro (Vl × Kn)} (hf : ∀ k, Loc (f k)) (hs : ∀ k s, Sf s (f k s)) : ∀ (n : Nat) (acc : List Vl) (k : Kn), Loc (rdItems f n acc k)
  | 0, acc, k => er_loc
  | n + 1, acc, k => fun pre c t t' e => by
    unfold rdItems at e ⊢
    cases h1 : f k (pre ++ c :: t) with
    | er r =>
      rw [h1] at e
      have e : r = c :: t := e
      rw [hf k pre c t t' (by rw [h1]; exact e), h1]
      rfl
    | ok p r =>
      obtain ⟨v, k'⟩ := p
      rw [h1] at e
      simp only at e
      have sf := hs k (pre ++ c :: t)
      rw [h1] at sf
      obtain ⟨p1, hp1⟩ : r <:+ pre ++ c :: t := sf
      -- the rest r has c :: t at its end
      have hr : c :: t <:+ r := by
        revert e
        split
        · exact fun e => (show r.tail = c :: t from e) ▸ tl_sf r
        · split
          · exact fun e => (show r = c :: t from e) ▸ List.suffix_refl r
          · split
            · exact fun e => (show r.tail = c :: t from e) ▸ tl_sf r
            · exact fun e => e ▸ ((rdItems_sf hs n _ _ _).trans ((tl_sf _).trans (tl_sf _))).rest
      obtain ⟨u, hu⟩ := hr
      subst hu
      have hpre : p1 ++ u = pre := by
        have : p1 ++ u ++ c :: t = pre ++ c :: t := by rw [← hp1, List.append_assoc]
        exact List.append_cancel_right this
      subst hpre
      have h2 : f k (p1 ++ u ++ c :: t') = .ok (v, k') (u ++ c :: t') := by
        cases u with
        | nil =>
          have := hf k p1 c t t' (by rw [List.append_nil] at h1; rw [h1]; rfl)
          rw [List.append_nil] at h1 ⊢
          rw [this, h1]
          rfl
        | cons d u =>
          have e1 : p1 ++ d :: u ++ c :: t = p1 ++ d :: (u ++ c :: t) := by simp
          have e2 : p1 ++ d :: u ++ c :: t' = p1 ++ d :: (u ++ c :: t') := by simp
          rw [e1] at h1
          have := hf k p1 d (u ++ c :: t) (u ++ c :: t') (by rw [h1]; rfl)
          rw [e2, this, h1]
          rfl
      rw [h2]
      simp only
      rw [head_app u c t t']
      by_cases h93 : (u ++ c :: t).head? = some 93
      · rw [if_pos h93] at e ⊢
        rw [if_pos h93]
        cases u with
        | nil => exact (no_rest (o := Ro.ok (Vl.list (acc ++ [v]), Kn.list k') t) (List.suffix_refl t) (Nat.le_refl _) e).elim
        | cons d u =>
          have e : u ++ c :: t = c :: t := e
          have : u = [] := by
            have := congrArg List.length e
            simp at this
            exact this
          subst this
          rfl
      · rw [if_neg h93] at e ⊢
        rw [if_neg h93]
        by_cases h44 : (u ++ c :: t).head? ≠ some 44 ∨ n = 0
        · rw [if_pos h44] at e ⊢
          rw [if_pos h44]
          have e : u ++ c :: t = c :: t := e
          have : u = [] := by
            have := congrArg List.length e
            simp at this
            exact this
          subst this
          rfl
        · rw [if_neg h44] at e ⊢
          rw [if_neg h44]
          cases u with
          | nil =>
            exfalso
            by_cases h32 : ([] ++ c :: t).tail.head? ≠ some 32
            · rw [if_pos h32] at e
              exact no_rest (o := (Ro.er t : Ro (Vl × Kn))) (List.suffix_refl t) (Nat.le_refl _) e
            · rw [if_neg h32] at e
              exact no_rest (u := t) ((rdItems_sf hs n _ _ _).trans (tl_sf t)) (Nat.le_refl _) e
          | cons d u =>
            have ht : (d :: u ++ c :: t').tail.head? = (d :: u ++ c :: t).tail.head? := head_app u c t t'
            by_cases h32 : (d :: u ++ c :: t).tail.head? ≠ some 32
            · rw [if_pos h32] at e ⊢
              rw [if_pos (by rw [ht]; exact h32)]
              have e : u ++ c :: t = c :: t := e
              have : u = [] := by
                have := congrArg List.length e
                simp at this
                exact this
              subst this
              rfl
            · rw [if_neg h32] at e ⊢
              rw [if_neg (by rw [ht]; exact h32)]
              cases u with
              | nil => exact (no_rest (rdItems_sf hs n _ _ _) (Nat.le_refl _) e).elim
              | cons d2 u => exact rdItems_loc hf hs n _ _ u c t t' e
theorem rdList_loc {f : Kn → List Nat → Ro (Vl × Kn)} (hf : ∀ k, Loc (f k)) (hs : ∀ k s, Sf s (f k s)) (k : Kn) : Loc (rdList f k) := by
  unfold rdList
  refine loc_ite (fun pre c t t' => by rw [head_app pre c t t']) ?_ (rdItems_loc hf hs _ _ _)
  intro pre c t t' e
  cases pre with
  | nil => exact (no_rest (o := Ro.ok (Vl.list [], Kn.list k) t) (List.suffix_refl t) (Nat.le_refl _) e).elim
  | cons d u =>
    have e : u ++ c :: t = c :: t := e
    have : u = [] := by
      have := congrArg List.length e
      simp at this
      exact this
    subst this
    rfl
theorem rdList_sf {f : Kn → List Nat → Ro (Vl × Kn)} (hs : ∀ k s, Sf s (f k s)) (k : Kn) (s : List Nat) : Sf s (rdList f k s) := by
  unfold rdList
  split
  · exact tl_sf _
  · exact rdItems_sf hs _ _ _ _
theorem rdAt_loc : ∀ (m : Nat) (w : Kn), Loc (rdAt m w)
  | 0, w => rdFlat_loc w
  | m + 1, w => by
    show Loc fun s => if s.head? = some 91 ∧ wL w = true then rdList (rdAt m) (sub w) s.tail else rdFlat w s
    exact loc_ite (fun pre c t t' => by rw [head_app pre c t t']) (tail_loc (rdList_loc (rdAt_loc m) (rdAt_sf m) (sub w)) (fun s => rdList_sf (rdAt_sf m) _ s)) (rdFlat_loc w)
end J11

/-! what was read may be followed by what ends it -/
namespace J11
open PySem PySem.Spec PyProof.Rows L2 IL SX
/-- no digit, no quote: what may stand behind a value -/
def Stop (x : List Nat) : Prop := ∀ d, x.head? = some d → d = 93 ∨ d = 44
theorem Stop.nil : Stop [] := fun d h => by cases h
theorem Stop.close {x : List Nat} : Stop (93 :: x) := fun d h => by cases h; exact .inl rfl
theorem Stop.no34 {x : List Nat} (h : Stop x) : x.head? ≠ some 34 := fun e => by rcases h 34 e with h | h <;> cases h
def Trc {α : Type} (f : List Nat → Ro α) : Prop := ∀ (pre r x : List Nat) (a : α), f (pre ++ r) = .ok a r → Stop x → f (pre ++ x) = .ok a x
theorem Trc.map {α β : Type} {f : List Nat → Ro α} {g : α → β} (h : Trc f) : Trc fun s => (f s).map g := fun pre r x a e hx => by
  cases h1 : f (pre ++ r) with
  | er r1 => simp only [h1, Ro.map, reduceCtorEq] at e
  | ok b r1 =>
    simp only [h1, Ro.map, Ro.ok.injEq] at e
    obtain ⟨e1, e2⟩ := e
    subst e2
    show (f (pre ++ x)).map g = _
    rw [h pre r1 x b h1 hx, ← e1]
    rfl
theorem cancel_nil {p r : List Nat} (h : p ++ r = r) : p = [] := by
  have := congrArg List.length h
  simp at this
  exact this
theorem short {α : Type} {o : Ro α} {u r : List Nat} {a : α} (h : Sf u o) (hu : u.length < r.length) (e : o = .ok a r) : False := by
  subst e
  have : r <:+ u := h
  have := this.length_le
  omega
theorem rdText_trc : ∀ (n : Nat) (acc : List Nat), Trc (rdText n acc)
  | 0, acc => fun pre r x a e hx => by
    unfold rdText at e ⊢
    by_cases h : (pre ++ r).head? = some 34
    · rw [if_pos h] at e
      simp only [Ro.ok.injEq] at e
      obtain ⟨e1, e2⟩ := e
      subst e1
      cases pre with
      | nil =>
        exfalso
        cases r with
        | nil => cases h
        | cons d r =>
          have := congrArg List.length e2
          simp at this
      | cons d pre =>
        have := cancel_nil (p := pre) (r := r) e2
        subst this
        rw [if_pos (show (([d] : List Nat) ++ x).head? = some 34 from h)]
        rfl
    · rw [if_neg h] at e
      cases e
  | n + 1, acc => fun pre r x a e hx => by
    cases pre with
    | nil =>
      exfalso
      simp only [List.nil_append] at e
      unfold rdText at e
      by_cases h : r.head? = some 34
      · rw [if_pos h] at e
        have hl : r.tail.length < r.length := by
          cases r with
          | nil => cases h
          | cons d r => simp
        by_cases h2 : r.tail.head? = some 34
        · rw [if_pos h2] at e
          exact short ((rdText_sf n _ _).trans (tl_sf _)) hl e
        · rw [if_neg h2] at e
          simp only [Ro.ok.injEq] at e
          have := congrArg List.length e.2
          omega
      · rw [if_neg h] at e
        cases h3 : headP isLet r with
        | true =>
          rw [h3, if_pos rfl] at e
          have hl : r.tail.length < r.length := by
            obtain ⟨d, q, hr, _⟩ := headP_some h3
            rw [hr]; simp
          exact short (rdText_sf n _ _) hl e
        | false => rw [h3, if_neg Bool.false_ne_true] at e; cases e
    | cons d pre =>
      unfold rdText at e ⊢
      have hh : (d :: pre ++ x).head? = (d :: pre ++ r).head? := rfl
      by_cases h : (d :: pre ++ r).head? = some 34
      · rw [if_pos h] at e
        rw [if_pos (hh.trans h)]
        by_cases h2 : (d :: pre ++ r).tail.head? = some 34
        · rw [if_pos h2] at e
          cases pre with
          | nil =>
            exfalso
            have e : rdText n (acc ++ [34]) r.tail = .ok a r := e
            have hl : r.tail.length < r.length := by
              have h2 : r.head? = some 34 := h2
              cases r with
              | nil => cases h2
              | cons d r => simp
            exact short (rdText_sf n _ _) hl e
          | cons d2 pre =>
            rw [if_pos (show (d :: d2 :: pre ++ x).tail.head? = some 34 from h2)]
            exact rdText_trc n _ pre r x a e hx
        · rw [if_neg h2] at e
          simp only [Ro.ok.injEq] at e
          obtain ⟨e1, e2⟩ := e
          have := cancel_nil (p := pre) (r := r) e2
          subst this
          rw [if_neg (show ¬ ([d] ++ x).tail.head? = some 34 from hx.no34), ← e1]
          rfl
      · rw [if_neg h] at e
        rw [if_neg (show ¬ (d :: pre ++ x).head? = some 34 from h)]
        have hp : headP isLet (d :: pre ++ x) = headP isLet (d :: pre ++ r) := rfl
        cases h3 : headP isLet (d :: pre ++ r) with
        | true =>
          rw [h3, if_pos rfl] at e
          rw [hp, h3, if_pos rfl]
          exact rdText_trc n _ pre r x a e hx
        | false => rw [h3, if_neg Bool.false_ne_true] at e; cases e
theorem rdDig_stop {a : Nat} {x : List Nat} (h : Stop x) : rdDig a x = (a, x) := by
  cases x with
  | nil => rfl
  | cons d r =>
    unfold rdDig
    rw [if_neg]
    rcases h d rfl with rfl | rfl <;> simp [isDig]
theorem rdDig_trc : ∀ (pre : List Nat) (a b : Nat) (r x : List Nat), rdDig a (pre ++ r) = (b, r) → Stop x → rdDig a (pre ++ x) = (b, x)
  | [], a, b, r, x, e, hx => by
    simp only [List.nil_append] at e ⊢
    rw [rdDig_stop hx]
    cases r with
    | nil =>
      unfold rdDig at e
      rw [(Prod.mk.inj e).1]
    | cons d r =>
      unfold rdDig at e
      split at e
      · exfalso
        split at e
        · have := (rdDig_sf r (a * 10 + (d - 48))).length_le
          rw [e] at this
          simp at this
          omega
        · have := congrArg List.length (Prod.mk.inj e).2
          simp at this
      · rw [(Prod.mk.inj e).1]
  | d :: pre, a, b, r, x, e, hx => by
    simp only [List.cons_append] at e ⊢
    unfold rdDig at e ⊢
    split at e
    · rename_i h
      rw [if_pos h]
      split at e
      · rename_i h2
        rw [if_pos h2]
        exact rdDig_trc pre _ b r x e hx
      · rename_i h2
        rw [if_neg h2]
        obtain ⟨e1, e2⟩ := Prod.mk.inj e
        have := cancel_nil e2
        subst this
        rw [e1]
        rfl
    · exfalso
      have := congrArg List.length (Prod.mk.inj e).2
      simp at this
      omega
theorem rdDig_eats {d : Nat} {r : List Nat} (h : isDig d = true) : (rdDig 0 (d :: r)).2.length ≤ r.length := by
  unfold rdDig
  have hd : 0 * 10 + (d - 48) ≤ 1000000000000 := by
    simp only [isDig, Bool.and_eq_true, decide_eq_true_eq] at h
    omega
  rw [if_pos ⟨h, hd⟩]
  split
  · exact (rdDig_sf r _).length_le
  · exact Nat.le_refl _
theorem numAt_trc (neg : Bool) : Trc (numAt neg) := fun pre r x a e hx => by
  unfold numAt at e
  split at e
  · cases e
  · rename_i h
    simp only [Ro.ok.injEq] at e
    obtain ⟨e1, e2⟩ := e
    have hd : headP isDig (pre ++ r) = true := by
      cases h1 : headP isDig (pre ++ r) with
      | true => rfl
      | false => exact absurd (Or.inl h1) h
    cases pre with
    | nil =>
      exfalso
      obtain ⟨d, q, hr, hdd⟩ := headP_some hd
      simp only [List.nil_append] at hr e2
      rw [hr] at e2
      have := rdDig_eats (r := q) hdd
      rw [e2] at this
      simp at this
      omega
    | cons d pre =>
      have hh : headP isDig (d :: pre ++ x) = headP isDig (d :: pre ++ r) := rfl
      have h2 : (d :: pre ++ x).head? = (d :: pre ++ r).head? := rfl
      unfold numAt
      rw [hh, h2, if_neg h]
      have h3 := rdDig_trc (d :: pre) 0 (rdDig 0 (d :: pre ++ r)).1 r x (Prod.ext rfl e2) hx
      rw [h3]
      simp only
      rw [e1]
theorem rdNum_trc : Trc rdNum := fun pre r x a e hx => by
  cases pre with
  | nil =>
    exfalso
    simp only [List.nil_append] at e
    unfold rdNum at e
    split at e
    · rename_i h
      have hl : r.tail.length < r.length := by
        cases r with
        | nil => cases h
        | cons d r => simp
      exact short numAt_sf hl e
    · unfold numAt at e
      split at e
      · cases e
      · rename_i h
        simp only [Ro.ok.injEq] at e
        have hd : headP isDig r = true := by
          cases h1 : headP isDig r with
          | true => rfl
          | false => exact absurd (Or.inl h1) h
        obtain ⟨d, q, hr, hdd⟩ := headP_some hd
        rw [hr] at e
        have := rdDig_eats (r := q) hdd
        rw [e.2] at this
        simp at this
        omega
  | cons d pre =>
    unfold rdNum at e ⊢
    by_cases h : (d :: pre ++ r).head? = some 45
    · rw [if_pos h] at e
      rw [if_pos (show (d :: pre ++ x).head? = some 45 from h)]
      exact numAt_trc true pre r x a e hx
    · rw [if_neg h] at e
      rw [if_neg (show ¬ (d :: pre ++ x).head? = some 45 from h)]
      exact numAt_trc false (d :: pre) r x a e hx
theorem rdWord_trc : ∀ w : List Nat, Trc (rdWord w)
  | [] => fun pre r x a e hx => by
    unfold rdWord at e ⊢
    simp only [Ro.ok.injEq] at e
    have := cancel_nil e.2
    subst this
    rfl
  | c :: w => fun pre r x a e hx => by
    unfold rdWord at e ⊢
    split at e
    · rename_i h
      cases pre with
      | nil =>
        exfalso
        simp only [List.nil_append] at e h
        have hl : r.tail.length < r.length := by
          cases r with
          | nil => cases h
          | cons d r => simp
        exact short (rdWord_sf w _) hl e
      | cons d pre =>
        rw [if_pos (show (d :: pre ++ x).head? = some c from h)]
        exact rdWord_trc w pre r x a e hx
    · cases e
theorem map_ok {α β : Type} {o : Ro α} {f : α → β} {b : β} {r : List Nat} (h : o.map f = .ok b r) : ∃ a, o = .ok a r ∧ f a = b := by
  cases o with
  | ok a r1 =>
    simp only [Ro.map, Ro.ok.injEq] at h
    exact ⟨a, by rw [h.2], h.1⟩
  | er r1 => cases h
theorem rdFlat_nil (w : Kn) (r : List Nat) (a : Vl × Kn) (e : rdFlat w r = .ok a r) : False := by
  have tl : ∀ {c : Nat}, r.head? = some c → r.tail.length < r.length := fun h => by
    cases r with
    | nil => cases h
    | cons d r => simp
  have wd : ∀ {ws : List Nat} {c : Nat}, r.head? = some c → rdWord (c :: ws) r = .ok () r → False := fun {ws c} h e => by
    unfold rdWord at e
    rw [if_pos h] at e
    exact short (rdWord_sf ws _) (tl h) e
  unfold rdFlat at e
  split at e
  · rename_i h
    obtain ⟨b, e, _⟩ := map_ok e
    exact short (rdText_sf _ _ _) (tl h.1) e
  · split at e
    · obtain ⟨b, e, _⟩ := map_ok e
      have := rdNum_trc [] r [] b e Stop.nil
      simp [rdNum, numAt, headP] at this
    · split at e
      · rename_i h
        obtain ⟨b, e, _⟩ := map_ok e
        exact wd h.1 e
      · split at e
        · rename_i h
          obtain ⟨b, e, _⟩ := map_ok e
          exact wd h.1 e
        · split at e
          · rename_i h
            obtain ⟨b, e, _⟩ := map_ok e
            exact wd h.1 e
          · cases e
theorem rdFlat_trc (w : Kn) : Trc (rdFlat w) := fun pre r x a e hx => by
  cases pre with
  | nil => exact (rdFlat_nil w r a e).elim
  | cons d pre =>
    have hh : (d :: pre ++ x).head? = (d :: pre ++ r).head? := rfl
    have hp : headP isDig (d :: pre ++ x) = headP isDig (d :: pre ++ r) := rfl
    unfold rdFlat at e ⊢
    rw [hh, hp]
    split at e
    · rename_i h
      rw [if_pos h]
      exact Trc.map (rdText_trc 60 []) pre r x a e hx
    · rename_i h
      rw [if_neg h]
      split at e
      · rename_i h
        rw [if_pos h]
        exact Trc.map rdNum_trc (d :: pre) r x a e hx
      · rename_i h
        rw [if_neg h]
        split at e
        · rename_i h
          rw [if_pos h]
          exact Trc.map (rdWord_trc wTrue) (d :: pre) r x a e hx
        · rename_i h
          rw [if_neg h]
          split at e
          · rename_i h
            rw [if_pos h]
            exact Trc.map (rdWord_trc wFalse) (d :: pre) r x a e hx
          · rename_i h
            rw [if_neg h]
            split at e
            · rename_i h
              rw [if_pos h]
              exact Trc.map (rdWord_trc wNothing) (d :: pre) r x a e hx
            · cases e
/-- a sign, and what is behind it exchanged -/
theorem loc_ok {α : Type} {f : List Nat → Ro α} (hf : Loc f) {p : List Nat} {c : Nat} {t : List Nat} {a : α} (h : f (p ++ c :: t) = .ok a (c :: t)) (t' : List Nat) : f (p ++ c :: t') = .ok a (c :: t') := by
  rw [hf p c t t' (by rw [h]; rfl), h]
  rfl
theorem cons_of {r : List Nat} {c : Nat} (h : r.head? = some c) : r = c :: r.tail := by
  cases r with
  | nil => cases h
  | cons d r => cases h; rfl
theorem rdItems_trc {f : Kn → List Nat → Ro (Vl × Kn)} (hf : ∀ k, Loc (f k)) (hs : ∀ k s, Sf s (f k s)) : ∀ (n : Nat) (acc : List Vl) (k : Kn), Trc (rdItems f n acc k)
  | 0, acc, k => fun pre r x a e hx => by cases e
  | n + 1, acc, k => fun pre r x a e hx => by
    unfold rdItems at e ⊢
    cases h1 : f k (pre ++ r) with
    | er r1 => rw [h1] at e; cases e
    | ok p r1 =>
      obtain ⟨v, k'⟩ := p
      rw [h1] at e
      simp only at e
      have sf := hs k (pre ++ r)
      rw [h1] at sf
      obtain ⟨p1, hp1⟩ : r1 <:+ pre ++ r := sf
      by_cases h93 : r1.head? = some 93
      · rw [if_pos h93] at e
        simp only [Ro.ok.injEq] at e
        obtain ⟨e1, e2⟩ := e
        have hr := cons_of h93
        rw [e2] at hr
        rw [hr] at h1 hp1
        have hpre : pre = p1 ++ [93] := by
          have : p1 ++ [93] ++ r = pre ++ r := by rw [← hp1]; simp
          exact (List.append_cancel_right this).symm
        rw [hpre] at h1 ⊢
        have e3 : p1 ++ [93] ++ x = p1 ++ 93 :: x := by simp
        have e4 : p1 ++ [93] ++ r = p1 ++ 93 :: r := by simp
        rw [e4] at h1
        rw [e3, loc_ok (hf k) h1 x]
        simp only [List.head?_cons, if_true, List.tail_cons]
        rw [e1]
      · rw [if_neg h93] at e
        by_cases h44 : r1.head? ≠ some 44 ∨ n = 0
        · rw [if_pos h44] at e; cases e
        · rw [if_neg h44] at e
          by_cases h32 : r1.tail.head? ≠ some 32
          · rw [if_pos h32] at e; cases e
          · rw [if_neg h32] at e
            have h44' : r1.head? = some 44 := Classical.byContradiction fun h => h44 (Or.inl h)
            have hn0 : ¬ n = 0 := fun h => h44 (Or.inr h)
            have h32' : r1.tail.head? = some 32 := Classical.byContradiction fun h => h32 h
            have hr1 := cons_of h44'
            have hr2 := cons_of h32'
            rw [hr2] at hr1
            obtain ⟨s2, hs2⟩ : ∃ s2, s2 = r1.tail.tail := ⟨_, rfl⟩
            rw [← hs2] at hr1 e
            rw [hr1] at h1 hp1
            have sf2 := rdItems_sf hs n (acc ++ [v]) k' s2
            rw [e] at sf2
            obtain ⟨p2, hp2⟩ : r <:+ s2 := sf2
            subst hp2
            have hpre : pre = p1 ++ 44 :: 32 :: p2 := by
              have : (p1 ++ 44 :: 32 :: p2) ++ r = pre ++ r := by rw [← hp1]; simp
              exact (List.append_cancel_right this).symm
            have e4 : pre ++ r = p1 ++ 44 :: 32 :: (p2 ++ r) := by rw [hpre]; simp
            have e3 : pre ++ x = p1 ++ 44 :: 32 :: (p2 ++ x) := by rw [hpre]; simp
            rw [e4] at h1
            rw [e3, loc_ok (hf k) h1 (32 :: (p2 ++ x))]
            show (if (44 :: 32 :: (p2 ++ x)).head? = some 93 then Ro.ok (Vl.list (acc ++ [v]), Kn.list k') (44 :: 32 :: (p2 ++ x)).tail else if (44 :: 32 :: (p2 ++ x)).head? ≠ some 44 ∨ n = 0 then Ro.er (44 :: 32 :: (p2 ++ x)) else if (44 :: 32 :: (p2 ++ x)).tail.head? ≠ some 32 then Ro.er (44 :: 32 :: (p2 ++ x)).tail else rdItems f n (acc ++ [v]) k' (44 :: 32 :: (p2 ++ x)).tail.tail) = _
            rw [if_neg (by simp), if_neg (by simp [hn0]), if_neg (by simp)]
            exact rdItems_trc hf hs n _ _ p2 r x a e hx
theorem rdList_trc {f : Kn → List Nat → Ro (Vl × Kn)} (hf : ∀ k, Loc (f k)) (hs : ∀ k s, Sf s (f k s)) (hn : ∀ k r a, f k r = .ok a r → False) (k : Kn) : Trc (rdList f k) := fun pre r x a e hx => by
  unfold rdList at e ⊢
  cases pre with
  | nil =>
    exfalso
    simp only [List.nil_append] at e
    by_cases h : r.head? = some 93
    · rw [if_pos h] at e
      simp only [Ro.ok.injEq] at e
      have hl : r.tail.length < r.length := by
        cases r with
        | nil => cases h
        | cons d r => simp
      have := congrArg List.length e.2
      omega
    · rw [if_neg h] at e
      unfold rdItems at e
      cases h1 : f k r with
      | er r1 => rw [h1] at e; cases e
      | ok p r1 =>
        rw [h1] at e
        simp only at e
        have sf := hs k r
        rw [h1] at sf
        have sf : r1 <:+ r := sf
        have hne : r1 ≠ r := fun h => hn k r p (by rw [h1, h])
        have hlt : r1.length < r.length := by
          rcases Nat.lt_or_ge r1.length r.length with h | h
          · exact h
          · exact (hne (sf.eq_of_length_le h)).elim
        revert e
        split
        · intro e
          simp only [Ro.ok.injEq] at e
          have := (tl_sf r1).length_le
          rw [e.2] at this
          omega
        · split
          · intro e; cases e
          · split
            · intro e; cases e
            · intro e
              exact short ((rdItems_sf hs 19 _ _ _).trans ((tl_sf _).trans (tl_sf _))) hlt e
  | cons d pre =>
    have hh : (d :: pre ++ x).head? = (d :: pre ++ r).head? := rfl
    by_cases h : (d :: pre ++ r).head? = some 93
    · rw [if_pos h] at e
      rw [if_pos (hh.trans h)]
      simp only [Ro.ok.injEq] at e
      have := cancel_nil (p := pre) (r := r) e.2
      subst this
      rw [← e.1]
      rfl
    · rw [if_neg h] at e
      rw [if_neg (show ¬ (d :: pre ++ x).head? = some 93 from h)]
      exact rdItems_trc hf hs 20 [] k (d :: pre) r x a e hx
theorem rdAt_nil : ∀ (m : Nat) (w : Kn) (r : List Nat) (a : Vl × Kn), rdAt m w r = .ok a r → False
  | 0, w, r, a, e => rdFlat_nil w r a e
  | m + 1, w, r, a, e => by
    unfold rdAt at e
    split at e
    · rename_i h
      have hl : r.tail.length < r.length := by
        have h := h.1
        cases r with
        | nil => cases h
        | cons d r => simp
      exact short (rdList_sf (rdAt_sf m) _ _) hl e
    · exact rdFlat_nil w r a e
theorem rdAt_trc : ∀ (m : Nat) (w : Kn), Trc (rdAt m w)
  | 0, w => rdFlat_trc w
  | m + 1, w => fun pre r x a e hx => by
    cases pre with
    | nil => exact (rdAt_nil (m + 1) w r a e).elim
    | cons d pre =>
      unfold rdAt at e ⊢
      by_cases h : (d :: pre ++ r).head? = some 91 ∧ wL w = true
      · rw [if_pos h] at e
        rw [if_pos (show (d :: pre ++ x).head? = some 91 ∧ wL w = true from h)]
        exact rdList_trc (rdAt_loc m) (rdAt_sf m) (rdAt_nil m) (sub w) pre r x a e hx
      · rw [if_neg h] at e
        rw [if_neg (show ¬ ((d :: pre ++ x).head? = some 91 ∧ wL w = true) from h)]
        exact rdFlat_trc w (d :: pre) r x a e hx
end J11

/-! ahead of a fault stands the beginning of a value -/
namespace J11
open PySem PySem.Spec PyProof.Rows L2 IL SX
def endsL : List (List Nat) := [[], [34], [34, 34], [48], [49], [91, 93], [93], [32, 48], 32 :: wTrue, [32, 34, 34], 32 :: wNothing, [32, 91, 93]] ++ [wTrue.drop 0, wTrue.drop 1, wTrue.drop 2, wTrue.drop 3] ++ [wFalse.drop 1, wFalse.drop 2, wFalse.drop 3, wFalse.drop 4] ++ [wNothing.drop 0, wNothing.drop 1, wNothing.drop 2, wNothing.drop 3, wNothing.drop 4, wNothing.drop 5, wNothing.drop 6]
def itemOf : Kn → List Nat
  | .bool => wTrue
  | .text => [34, 34]
  | .nothing => wNothing
  | .list _ => [91, 93]
  | _ => [48]
theorem item_in : ∀ k : Kn, itemOf k ∈ endsL
  | .no => (by decide : ([48] : List Nat) ∈ endsL)
  | .int => (by decide : ([48] : List Nat) ∈ endsL)
  | .bool => (by decide : wTrue ∈ endsL)
  | .text => (by decide : ([34, 34] : List Nat) ∈ endsL)
  | .nothing => (by decide : wNothing ∈ endsL)
  | .list _ => (by decide : ([91, 93] : List Nat) ∈ endsL)
theorem item_in2 : ∀ k : Kn, 32 :: itemOf k ∈ endsL
  | .no => (by decide : ([32, 48] : List Nat) ∈ endsL)
  | .int => (by decide : ([32, 48] : List Nat) ∈ endsL)
  | .bool => (by decide : 32 :: wTrue ∈ endsL)
  | .text => (by decide : ([32, 34, 34] : List Nat) ∈ endsL)
  | .nothing => (by decide : 32 :: wNothing ∈ endsL)
  | .list _ => (by decide : ([32, 91, 93] : List Nat) ∈ endsL)
theorem item_ne (k : Kn) : ∃ d t, itemOf k = d :: t ∧ d ≠ 93 := by cases k <;> exact ⟨_, _, rfl, by decide⟩
theorem word_ok : ∀ (w x : List Nat), rdWord w (w ++ x) = .ok () x
  | [], x => rfl
  | c :: w, x => by
    show (if (c :: (w ++ x)).head? = some c then rdWord w (c :: (w ++ x)).tail else _) = _
    rw [if_pos (by rfl)]
    exact word_ok w x
theorem flat_at {m : Nat} {k : Kn} {s : List Nat} (h : ¬ (s.head? = some 91 ∧ wL k = true)) : rdAt m k s = rdFlat k s := by
  cases m with
  | zero => rfl
  | succ m =>
    unfold rdAt
    rw [if_neg h]
theorem item_ok {m : Nat} {k : Kn} {x : List Nat} (hk : kd k ≤ m) (hx : Stop x) : ∃ a, rdAt m k (itemOf k ++ x) = .ok a x := by
  have hnum : ∀ {k : Kn}, wI k = true → ∃ a, rdFlat k ([48] ++ x) = .ok a x := fun {k} hw => by
    refine ⟨(.int 0, .int), ?_⟩
    unfold rdFlat
    rw [if_neg (by simp), if_pos (by exact ⟨Or.inr rfl, hw⟩)]
    have : rdNum ([48] ++ x) = .ok 0 x := by
      unfold rdNum
      rw [if_neg (by simp)]
      unfold numAt
      rw [if_neg (by simp [headP, isDig])]
      have : rdDig 0 ([48] ++ x) = (0, x) := rfl
      rw [this]
      rfl
    rw [this]
    rfl
  cases k with
  | no =>
    rw [flat_at (show ¬ ((itemOf .no ++ x).head? = some 91 ∧ _) by simp [itemOf])]
    exact hnum rfl
  | int =>
    rw [flat_at (show ¬ ((itemOf .int ++ x).head? = some 91 ∧ _) by simp [itemOf])]
    exact hnum rfl
  | bool =>
    rw [flat_at (show ¬ ((itemOf .bool ++ x).head? = some 91 ∧ _) by simp [itemOf])]
    refine ⟨(.bool true, .bool), ?_⟩
    unfold rdFlat
    rw [if_neg (by simp [itemOf]), if_neg (by simp [wI]), if_pos (by exact ⟨rfl, rfl⟩)]
    show (rdWord wTrue (wTrue ++ x)).map _ = _
    rw [word_ok]
    rfl
  | text =>
    rw [flat_at (show ¬ ((itemOf .text ++ x).head? = some 91 ∧ _) by simp [itemOf])]
    refine ⟨(.text [], .text), ?_⟩
    unfold rdFlat
    rw [if_pos (by exact ⟨rfl, rfl⟩)]
    have : rdText 60 [] (itemOf .text ++ x).tail = .ok [] x := by
      show rdText 60 [] (34 :: x) = _
      unfold rdText
      rw [if_pos (by rfl), if_neg (by exact hx.no34)]
      rfl
    rw [this]
    rfl
  | nothing =>
    rw [flat_at (show ¬ ((itemOf .nothing ++ x).head? = some 91 ∧ _) by simp [itemOf])]
    refine ⟨(.nothing, .nothing), ?_⟩
    unfold rdFlat
    rw [if_neg (by simp [itemOf]), if_neg (by simp [wI]), if_neg (by simp [wBo]), if_neg (by simp [wBo]), if_pos (by exact ⟨rfl, rfl⟩)]
    show (rdWord wNothing (wNothing ++ x)).map _ = _
    rw [word_ok]
    rfl
  | list k =>
    cases m with
    | zero => simp [kd] at hk
    | succ m =>
      refine ⟨(.list [], .list k), ?_⟩
      unfold rdAt
      rw [if_pos (by exact ⟨rfl, rfl⟩)]
      unfold rdList
      rw [if_pos (by rfl)]
      rfl
theorem viaText : ∀ (n : Nat) (acc s r : List Nat), rdText n acc s = .er r → ∃ p, s = p ++ r ∧ ∀ x, Stop x → ∃ a, rdText n acc (p ++ 34 :: x) = .ok a x
  | 0, acc, s, r, e => by
    unfold rdText at e
    split at e
    · cases e
    · simp only [Ro.er.injEq] at e
      subst e
      refine ⟨[], rfl, fun x hx => ⟨acc, ?_⟩⟩
      unfold rdText
      rw [if_pos (by rfl)]
      rfl
  | n + 1, acc, s, r, e => by
    unfold rdText at e
    by_cases h : s.head? = some 34
    · rw [if_pos h] at e
      by_cases h2 : s.tail.head? = some 34
      · rw [if_pos h2] at e
        obtain ⟨p, hp, ih⟩ := viaText n _ _ r e
        have h3 := cons_of h
        have h4 := cons_of h2
        refine ⟨34 :: 34 :: p, by rw [h3, h4, hp]; rfl, fun x hx => ?_⟩
        obtain ⟨a, ih⟩ := ih x hx
        refine ⟨a, ?_⟩
        unfold rdText
        rw [if_pos (by rfl), if_pos (by rfl)]
        exact ih
      · rw [if_neg h2] at e; cases e
    · rw [if_neg h] at e
      cases h3 : headP isLet s with
      | true =>
        rw [h3, if_pos rfl] at e
        obtain ⟨p, hp, ih⟩ := viaText n _ _ r e
        obtain ⟨d, q, hs, hd⟩ := headP_some h3
        subst hs
        refine ⟨d :: p, by rw [show q = p ++ r from hp]; rfl, fun x hx => ?_⟩
        obtain ⟨a, ih⟩ := ih x hx
        refine ⟨a, ?_⟩
        unfold rdText
        rw [if_neg (show ¬ (d :: p ++ 34 :: x).head? = some 34 from h), if_pos (show headP isLet (d :: p ++ 34 :: x) = true from hd)]
        exact ih
      | false =>
        rw [h3, if_neg Bool.false_ne_true] at e
        simp only [Ro.er.injEq] at e
        subst e
        refine ⟨[], rfl, fun x hx => ⟨acc, ?_⟩⟩
        unfold rdText
        rw [if_pos (by rfl), if_neg (by exact hx.no34)]
        rfl
theorem viaWord : ∀ (w s r : List Nat), rdWord w s = .er r → ∃ k, k < w.length ∧ s = w.take k ++ r ∧ (s.head? = w.head? → 1 ≤ k)
  | [], s, r, e => by cases e
  | c :: w, s, r, e => by
    unfold rdWord at e
    by_cases h : s.head? = some c
    · rw [if_pos h] at e
      obtain ⟨k, h1, h2, _⟩ := viaWord w _ r e
      refine ⟨k + 1, by simp; omega, ?_, fun _ => by omega⟩
      rw [cons_of h, h2]
      rfl
    · rw [if_neg h] at e
      simp only [Ro.er.injEq] at e
      subst e
      exact ⟨0, by simp, rfl, fun hh => (h hh).elim⟩
theorem map_er {α β : Type} {o : Ro α} {f : α → β} {r : List Nat} (h : o.map f = .er r) : o = .er r := by
  cases o with
  | ok a r1 => cases h
  | er r1 => simp only [Ro.map, Ro.er.injEq] at h; rw [h]
abbrev Via (f : List Nat → Ro (Vl × Kn)) (m : Nat) (s r : List Nat) : Prop := ∃ pre, s = pre ++ r ∧ ∃ e, e ∈ endsL ∧ (pre ≠ [] ∨ ∃ d t, e = d :: t ∧ d ≠ 93) ∧ ∃ cnt, cnt ≤ m ∧ ∀ x, Stop x → ∃ a, f (pre ++ (e ++ (List.replicate cnt 93 ++ x))) = .ok a x
theorem w_ends : ∀ k, k < 4 → wTrue.drop k ∈ endsL := by decide
theorem w_ends2 : ∀ k, k < 5 → 1 ≤ k → wFalse.drop k ∈ endsL := by decide
theorem w_ends3 : ∀ k, k < 7 → wNothing.drop k ∈ endsL := by decide
/-- with a first sign that is no fault -/
theorem viaFlat {k : Kn} {m : Nat} {s r : List Nat} (e : rdFlat k s = .er r) (hr : r ≠ s) : Via (rdFlat k) m s r := by
  unfold rdFlat at e
  by_cases h2 : s.head? = some 34 ∧ wT k = true
  · rw [if_pos h2] at e
    obtain ⟨p, hp, hv⟩ := viaText 60 [] _ r (map_er e)
    refine ⟨34 :: p, by rw [cons_of h2.1, hp]; rfl, [34], by decide, Or.inl (by simp), 0, by omega, fun x hx => ?_⟩
    obtain ⟨a, hv⟩ := hv x hx
    refine ⟨(.text a, .text), ?_⟩
    unfold rdFlat
    rw [if_pos (by exact ⟨rfl, h2.2⟩)]
    show (rdText 60 [] (p ++ 34 :: x)).map _ = _
    rw [hv]
    rfl
  · rw [if_neg h2] at e
    by_cases h3 : (s.head? = some 45 ∨ headP isDig s = true) ∧ wI k = true
    · rw [if_pos h3] at e
      have e := map_er e
      unfold rdNum at e
      by_cases h45 : s.head? = some 45
      · rw [if_pos h45] at e
        have : r = s.tail := by
          unfold numAt at e
          split at e
          · simp only [Ro.er.injEq] at e
            exact e.symm
          · cases e
        refine ⟨[45], by rw [this]; exact cons_of h45, [49], by decide, Or.inl (by simp), 0, by omega, fun x hx => ⟨(.int (-1), .int), ?_⟩⟩
        unfold rdFlat
        rw [if_neg (by simp), if_pos (by exact ⟨Or.inl rfl, h3.2⟩)]
        have : rdNum ([45] ++ ([49] ++ (List.replicate 0 93 ++ x))) = .ok (-1) x := by
          show rdNum (45 :: 49 :: x) = _
          unfold rdNum
          rw [if_pos (by rfl)]
          unfold numAt
          rw [if_neg (by simp [headP, isDig])]
          have : rdDig 0 (45 :: 49 :: x).tail = (1, x) := by
            show rdDig 0 (49 :: x) = _
            unfold rdDig
            rw [if_pos (by simp [isDig]), if_pos (by omega), rdDig_stop hx]
          rw [this]
          rfl
        rw [this]
        rfl
      · rw [if_neg h45] at e
        have hd : headP isDig s = true := h3.1.resolve_left h45
        unfold numAt at e
        rw [if_neg (by simp [hd])] at e
        cases e
    · rw [if_neg h3] at e
      by_cases h4 : s.head? = some 116 ∧ wBo k = true
      · rw [if_pos h4] at e
        obtain ⟨j, hj, hs, hj1⟩ := viaWord _ _ r (map_er e)
        have hj1 := hj1 h4.1
        have hpre : wTrue.take j ≠ [] := by
          intro h
          have := congrArg List.length h
          simp at this
          omega
        refine ⟨wTrue.take j, hs, wTrue.drop j, w_ends j hj, Or.inl hpre, 0, by omega, fun x hx => ⟨(.bool true, .bool), ?_⟩⟩
        have e0 : wTrue.take j ++ (wTrue.drop j ++ (List.replicate 0 93 ++ x)) = wTrue ++ x := by
          rw [← List.append_assoc, List.take_append_drop]
          rfl
        rw [e0]
        unfold rdFlat
        rw [if_neg (by simp), if_neg (by simp [headP, isDig]), if_pos (by exact ⟨rfl, h4.2⟩), word_ok]
        rfl
      · rw [if_neg h4] at e
        by_cases h5 : s.head? = some 102 ∧ wBo k = true
        · rw [if_pos h5] at e
          obtain ⟨j, hj, hs, hj1⟩ := viaWord _ _ r (map_er e)
          have hj1 := hj1 h5.1
          have hpre : wFalse.take j ≠ [] := by
            intro h
            have := congrArg List.length h
            simp at this
            omega
          refine ⟨wFalse.take j, hs, wFalse.drop j, w_ends2 j hj hj1, Or.inl hpre, 0, by omega, fun x hx => ⟨(.bool false, .bool), ?_⟩⟩
          have e0 : wFalse.take j ++ (wFalse.drop j ++ (List.replicate 0 93 ++ x)) = wFalse ++ x := by
            rw [← List.append_assoc, List.take_append_drop]
            rfl
          rw [e0]
          unfold rdFlat
          rw [if_neg (by simp), if_neg (by simp [headP, isDig]), if_neg (by simp), if_pos (by exact ⟨rfl, h5.2⟩), word_ok]
          rfl
        · rw [if_neg h5] at e
          by_cases h6 : s.head? = some 110 ∧ wN k = true
          · rw [if_pos h6] at e
            obtain ⟨j, hj, hs, hj1⟩ := viaWord _ _ r (map_er e)
            have hj1 := hj1 h6.1
            have hpre : wNothing.take j ≠ [] := by
              intro h
              have := congrArg List.length h
              simp at this
              omega
            refine ⟨wNothing.take j, hs, wNothing.drop j, w_ends3 j hj, Or.inl hpre, 0, by omega, fun x hx => ⟨(.nothing, .nothing), ?_⟩⟩
            have e0 : wNothing.take j ++ (wNothing.drop j ++ (List.replicate 0 93 ++ x)) = wNothing ++ x := by
              rw [← List.append_assoc, List.take_append_drop]
              rfl
            rw [e0]
            unfold rdFlat
            rw [if_neg (by simp), if_neg (by simp [headP, isDig]), if_neg (by simp), if_neg (by simp), if_pos (by exact ⟨rfl, h6.2⟩), word_ok]
            rfl
          · rw [if_neg h6] at e
            simp only [Ro.er.injEq] at e
            exact (hr e.symm).elim
theorem rep_close (cnt : Nat) (x : List Nat) : List.replicate (cnt + 1) 93 ++ x = List.replicate cnt 93 ++ 93 :: x := by
  rw [List.replicate_succ', List.append_assoc]
  rfl
/-- items, with one that is closed behind -/
theorem items_close {f : Kn → List Nat → Ro (Vl × Kn)} {n : Nat} {acc : List Vl} {k : Kn} {u x : List Nat} {a : Vl × Kn} (h : f k u = .ok a (93 :: x)) : ∃ b, rdItems f (n + 1) acc k u = .ok b x := by
  obtain ⟨v, k'⟩ := a
  refine ⟨(.list (acc ++ [v]), .list k'), ?_⟩
  unfold rdItems
  rw [h]
  simp only
  rw [if_pos (by rfl)]
  rfl
theorem items_next {f : Kn → List Nat → Ro (Vl × Kn)} {n : Nat} {acc : List Vl} {k k' : Kn} {u x : List Nat} {v : Vl} (h : f k u = .ok (v, k') (44 :: 32 :: x)) (hn : n ≠ 0) : rdItems f (n + 1) acc k u = rdItems f n (acc ++ [v]) k' x := by
  rw [rdItems, h]
  simp only
  rw [if_neg (by simp), if_neg (by simp [hn]), if_neg (by simp)]
  rfl
theorem viaItems {m : Nat} (hv : ∀ (k : Kn) (s r : List Nat), kd k ≤ m → rdAt m k s = .er r → Via (rdAt m k) m s r) : ∀ (n : Nat) (acc : List Vl) (k : Kn) (s r : List Nat), kd k ≤ m → rdItems (rdAt m) (n + 1) acc k s = .er r → Via (rdItems (rdAt m) (n + 1) acc k) (m + 1) s r := by
  intro n
  induction n with
  | zero =>
    intro acc k s r hk e
    unfold rdItems at e
    cases h1 : rdAt m k s with
    | er r1 =>
      rw [h1] at e
      simp only [Ro.er.injEq] at e
      subst e
      obtain ⟨pre, hs, en, h2, h3, cnt, hc, h4⟩ := hv k s r1 hk h1
      refine ⟨pre, hs, en, h2, h3, cnt + 1, by omega, fun x hx => ?_⟩
      obtain ⟨a, h4⟩ := h4 (93 :: x) Stop.close
      rw [rep_close]
      exact items_close h4
    | ok p r1 =>
      obtain ⟨v, k'⟩ := p
      rw [h1] at e
      simp only at e
      have sf := rdAt_sf m k s
      rw [h1] at sf
      obtain ⟨p1, hp1⟩ : r1 <:+ s := sf
      by_cases h93 : r1.head? = some 93
      · rw [if_pos h93] at e; cases e
      · rw [if_neg h93, if_pos (Or.inr trivial)] at e
        simp only [Ro.er.injEq] at e
        subst e
        subst hp1
        have hne : p1 ≠ [] := fun h => by
          subst h
          exact rdAt_nil m k r1 _ h1
        refine ⟨p1, rfl, [], by decide, Or.inl hne, 1, by omega, fun x hx => ?_⟩
        exact items_close (rdAt_trc m k p1 r1 (93 :: x) _ h1 Stop.close)
  | succ n ih =>
    intro acc k s r hk e
    unfold rdItems at e
    cases h1 : rdAt m k s with
    | er r1 =>
      rw [h1] at e
      simp only [Ro.er.injEq] at e
      subst e
      obtain ⟨pre, hs, en, h2, h3, cnt, hc, h4⟩ := hv k s r1 hk h1
      refine ⟨pre, hs, en, h2, h3, cnt + 1, by omega, fun x hx => ?_⟩
      obtain ⟨a, h4⟩ := h4 (93 :: x) Stop.close
      rw [rep_close]
      exact items_close h4
    | ok p r1 =>
      obtain ⟨v, k'⟩ := p
      have hk' := rdAt_kd m k s v k' r1 h1
      rw [h1] at e
      simp only at e
      have sf := rdAt_sf m k s
      rw [h1] at sf
      obtain ⟨p1, hp1⟩ : r1 <:+ s := sf
      subst hp1
      have hne : p1 ≠ [] := fun h => by
        subst h
        exact rdAt_nil m k r1 _ h1
      by_cases h93 : r1.head? = some 93
      · rw [if_pos h93] at e; cases e
      · rw [if_neg h93] at e
        by_cases h44 : r1.head? ≠ some 44 ∨ n + 1 = 0
        · rw [if_pos h44] at e
          simp only [Ro.er.injEq] at e
          subst e
          refine ⟨p1, rfl, [], by decide, Or.inl hne, 1, by omega, fun x hx => ?_⟩
          exact items_close (rdAt_trc m k p1 r1 (93 :: x) _ h1 Stop.close)
        · rw [if_neg h44] at e
          have h44' : r1.head? = some 44 := Classical.byContradiction fun h => h44 (Or.inl h)
          have hr1 := cons_of h44'
          by_cases h32 : r1.tail.head? ≠ some 32
          · rw [if_pos h32] at e
            simp only [Ro.er.injEq] at e
            rw [e] at hr1
            refine ⟨p1 ++ [44], by rw [hr1]; simp, 32 :: itemOf k', item_in2 k', Or.inl (by simp), 1, by omega, fun x hx => ?_⟩
            rw [hr1] at h1
            have e3 : p1 ++ [44] ++ (32 :: itemOf k' ++ (List.replicate 1 93 ++ x)) = p1 ++ 44 :: 32 :: (itemOf k' ++ 93 :: x) := by simp
            rw [e3, items_next (loc_ok (rdAt_loc m k) h1 (32 :: (itemOf k' ++ 93 :: x))) (by omega)]
            obtain ⟨a, h5⟩ := item_ok (m := m) (k := k') (x := 93 :: x) (by omega) Stop.close
            exact items_close h5
          · rw [if_neg h32] at e
            have h32' : r1.tail.head? = some 32 := Classical.byContradiction fun h => h32 h
            have hr2 := cons_of h32'
            rw [hr2] at hr1
            obtain ⟨s2, hs2⟩ : ∃ s2, s2 = r1.tail.tail := ⟨_, rfl⟩
            rw [← hs2] at hr1 e
            obtain ⟨pre, hs, en, h2, h3, cnt, hc, h4⟩ := ih (acc ++ [v]) k' s2 r (by omega) e
            rw [hr1] at h1
            refine ⟨p1 ++ 44 :: 32 :: pre, by rw [hr1, hs]; simp, en, h2, Or.inl (by simp), cnt, hc, fun x hx => ?_⟩
            obtain ⟨a, h4⟩ := h4 x hx
            refine ⟨a, ?_⟩
            have e3 : p1 ++ 44 :: 32 :: pre ++ (en ++ (List.replicate cnt 93 ++ x)) = p1 ++ 44 :: 32 :: (pre ++ (en ++ (List.replicate cnt 93 ++ x))) := by simp
            rw [e3, items_next (loc_ok (rdAt_loc m k) h1 (32 :: (pre ++ (en ++ (List.replicate cnt 93 ++ x))))) (by omega)]
            exact h4
theorem app_head {pre q s r : List Nat} (hs : s = pre ++ r) (hp : pre ≠ []) : (pre ++ q).head? = s.head? := by
  cases pre with
  | nil => exact (hp rfl).elim
  | cons d pre => rw [hs]; rfl
theorem via : ∀ (m : Nat) (k : Kn) (s r : List Nat), kd k ≤ m → rdAt m k s = .er r → Via (rdAt m k) m s r := by
  intro m
  induction m with
  | zero =>
    intro k s r hk e
    by_cases hr : r = s
    · subst hr
      refine ⟨[], rfl, itemOf k, item_in k, Or.inr (item_ne k), 0, by omega, fun x hx => item_ok hk hx⟩
    · exact viaFlat e hr
  | succ m ih =>
    intro k s r hk e
    by_cases hr : r = s
    · subst hr
      refine ⟨[], rfl, itemOf k, item_in k, Or.inr (item_ne k), 0, by omega, fun x hx => item_ok hk hx⟩
    · by_cases h : s.head? = some 91 ∧ wL k = true
      · unfold rdAt at e
        rw [if_pos h] at e
        unfold rdList at e
        by_cases h93 : s.tail.head? = some 93
        · rw [if_pos h93] at e; cases e
        · rw [if_neg h93] at e
          have hks : kd (sub k) ≤ m := by rcases kd_sub k with h | h <;> omega
          obtain ⟨pre, hs, en, h2, h3, cnt, hc, h4⟩ := viaItems ih 19 [] (sub k) s.tail r hks e
          refine ⟨91 :: pre, by rw [cons_of h.1, hs]; rfl, en, h2, Or.inl (by simp), cnt, hc, fun x hx => ?_⟩
          obtain ⟨a, h4⟩ := h4 x hx
          refine ⟨a, ?_⟩
          unfold rdAt
          rw [if_pos (by exact ⟨rfl, h.2⟩)]
          unfold rdList
          have hh : ¬ (91 :: pre ++ (en ++ (List.replicate cnt 93 ++ x))).tail.head? = some 93 := by
            show ¬ (pre ++ (en ++ (List.replicate cnt 93 ++ x))).head? = some 93
            by_cases hp : pre = []
            · obtain ⟨d, t, he, hd⟩ := h3.resolve_left fun h => h hp
              rw [hp, he]
              simp [hd]
            · rw [app_head hs hp]
              exact h93
          rw [if_neg hh]
          exact h4
      · rw [flat_at h] at e
        obtain ⟨pre, hs, en, h2, h3, cnt, hc, h4⟩ := viaFlat (m := m + 1) e hr
        have hp : pre ≠ [] := fun hp => by
          rw [hp] at hs
          exact hr hs.symm
        refine ⟨pre, hs, en, h2, h3, cnt, hc, fun x hx => ?_⟩
        obtain ⟨a, h4⟩ := h4 x hx
        refine ⟨a, ?_⟩
        rw [flat_at (by rw [app_head hs hp]; exact h)]
        exact h4
end J11

/-! what was read is written so -/
namespace J11
open PySem PySem.Spec PyProof.Rows L2 IL SX
def esc : List Nat → List Nat
  | [] => []
  | c :: r => if c = 34 then 34 :: 34 :: esc r else c :: esc r
def shI (i : Int) : List Nat := if i < 0 then 45 :: TL.numL i.natAbs else TL.numL i.natAbs
mutual
def sh : Vl → List Nat
  | .int i => shI i
  | .bool b => if b then wTrue else wFalse
  | .text t => 34 :: (esc t ++ [34])
  | .nothing => wNothing
  | .list vs => 91 :: (TL.joinL [44, 32] (shs vs) ++ [93])
def shs : List Vl → List (List Nat)
  | [] => []
  | v :: vs => sh v :: shs vs
end
mutual
/-- within the bounds of values -/
def gv : Vl → Prop
  | .int i => i.natAbs ≤ 1000000000000
  | .text t => t.length ≤ 60 ∧ ∀ c ∈ t, 32 ≤ c ∧ c ≤ 126
  | .list vs => vs.length ≤ 20 ∧ gvs vs
  | _ => True
def gvs : List Vl → Prop
  | [] => True
  | v :: vs => gv v ∧ gvs vs
end
mutual
def vd : Vl → Nat
  | .list vs => vds vs + 1
  | _ => 0
def vds : List Vl → Nat
  | [] => 0
  | v :: vs => max (vd v) (vds vs)
end
/-- of a type that is wanted -/
def gk : Kn → Bool
  | .no => false
  | .list k => gk k
  | _ => true
mutual
def fitsV : Vl → Kn → Bool
  | .list vs, .list k => fitsVs vs k
  | .list _, _ => false
  | .int _, k => match k with
    | .int => true
    | _ => false
  | .bool _, k => match k with
    | .bool => true
    | _ => false
  | .text _, k => match k with
    | .text => true
    | _ => false
  | .nothing, k => match k with
    | .nothing => true
    | _ => false
def fitsVs : List Vl → Kn → Bool
  | [], _ => true
  | v :: vs, k => fitsV v k && fitsVs vs k
end
theorem shs_app (a b : List Vl) : shs (a ++ b) = shs a ++ shs b := by
  induction a with
  | nil => rfl
  | cons x a ih => simp [shs, ih]
theorem gvs_app (a b : List Vl) : gvs (a ++ b) ↔ gvs a ∧ gvs b := by
  induction a with
  | nil => simp [gvs]
  | cons x a ih => simp [gvs, ih, and_assoc]
theorem vds_app (a b : List Vl) : vds (a ++ b) = max (vds a) (vds b) := by
  induction a with
  | nil => simp [vds]
  | cons x a ih => simp only [List.cons_append, vds, ih]; omega
theorem fitsVs_app (a b : List Vl) (k : Kn) : fitsVs (a ++ b) k = (fitsVs a k && fitsVs b k) := by
  induction a with
  | nil => simp [fitsVs]
  | cons x a ih => simp [fitsVs, ih, Bool.and_assoc]
theorem rdText_so : ∀ (n : Nat) (acc s a r : List Nat), rdText n acc s = .ok a r → ∃ t, a = acc ++ t ∧ s = esc t ++ 34 :: r ∧ t.length ≤ n ∧ ∀ c ∈ t, 32 ≤ c ∧ c ≤ 126
  | 0, acc, s, a, r, e => by
    unfold rdText at e
    split at e
    · rename_i h
      simp only [Ro.ok.injEq] at e
      refine ⟨[], by simp [e.1], ?_, by simp, by simp⟩
      rw [cons_of h, e.2]
      rfl
    · cases e
  | n + 1, acc, s, a, r, e => by
    unfold rdText at e
    by_cases h : s.head? = some 34
    · rw [if_pos h] at e
      by_cases h2 : s.tail.head? = some 34
      · rw [if_pos h2] at e
        obtain ⟨t, h3, h4, h5, h6⟩ := rdText_so n _ _ a r e
        refine ⟨34 :: t, by rw [h3]; simp, ?_, by simp; omega, ?_⟩
        · rw [cons_of h, cons_of h2, h4]
          rfl
        · intro c hc
          rcases List.mem_cons.mp hc with rfl | hc
          · omega
          · exact h6 c hc
      · rw [if_neg h2] at e
        simp only [Ro.ok.injEq] at e
        refine ⟨[], by simp [e.1], ?_, by simp, by simp⟩
        rw [cons_of h, e.2]
        rfl
    · rw [if_neg h] at e
      cases h3 : headP isLet s with
      | true =>
        rw [h3, if_pos rfl] at e
        obtain ⟨d, q, hs, hd⟩ := headP_some h3
        subst hs
        obtain ⟨t, h4, h5, h6, h7⟩ := rdText_so n _ _ a r e
        have hd' : 32 ≤ d ∧ d ≤ 126 := by simpa [isLet] using hd
        have hne : d ≠ 34 := fun hd => h (by rw [hd]; rfl)
        refine ⟨d :: t, by rw [h4]; simp, ?_, by simp; omega, ?_⟩
        · show d :: q = (if d = 34 then 34 :: 34 :: esc t else d :: esc t) ++ 34 :: r
          rw [if_neg hne, show q = esc t ++ 34 :: r from h5]
          rfl
        · intro c hc
          rcases List.mem_cons.mp hc with rfl | hc
          · exact hd'
          · exact h7 c hc
      | false => rw [h3, if_neg Bool.false_ne_true] at e; cases e
theorem rdDig_so : ∀ (s : List Nat) (a b : Nat) (r : List Nat), 0 < a → a ≤ 1000000000000 → rdDig a s = (b, r) → ∃ ds, s = ds ++ r ∧ TL.numL b = TL.numL a ++ ds ∧ b ≤ 1000000000000 ∧ 0 < b
  | [], a, b, r, ha, hb, e => by
    unfold rdDig at e
    obtain ⟨e1, e2⟩ := Prod.mk.inj e
    subst e1 e2
    exact ⟨[], rfl, by simp, hb, ha⟩
  | d :: q, a, b, r, ha, hb, e => by
    unfold rdDig at e
    split at e
    · rename_i h
      rw [if_pos (by omega)] at e
      obtain ⟨ds, h1, h2, h3, h4⟩ := rdDig_so q (a * 10 + (d - 48)) b r (by omega) h.2 e
      have hd : 48 ≤ d ∧ d ≤ 57 := by simpa [isDig] using h.1
      refine ⟨d :: ds, by rw [h1]; rfl, ?_, h3, h4⟩
      rw [h2, TL.numL_step (by omega), show (a * 10 + (d - 48)) / 10 = a by omega, show 48 + (a * 10 + (d - 48)) % 10 = d by omega]
      simp
    · obtain ⟨e1, e2⟩ := Prod.mk.inj e
      subst e1 e2
      exact ⟨[], rfl, by simp, hb, ha⟩
theorem numAt_so {neg : Bool} {s r : List Nat} {i : Int} (e : numAt neg s = .ok i r) : s = TL.numL i.natAbs ++ r ∧ i.natAbs ≤ 1000000000000 ∧ (if neg then i < 0 else 0 ≤ i) := by
  unfold numAt at e
  split at e
  · cases e
  · rename_i h
    have hd : headP isDig s = true := by
      cases h1 : headP isDig s with
      | true => rfl
      | false => exact absurd (Or.inl h1) h
    obtain ⟨d, q, hs, hdd⟩ := headP_some hd
    subst hs
    have hd' : 48 ≤ d ∧ d ≤ 57 := by simpa [isDig] using hdd
    have key : ∃ b, (rdDig 0 (d :: q)).1 = b ∧ d :: q = TL.numL b ++ (rdDig 0 (d :: q)).2 ∧ b ≤ 1000000000000 ∧ (d ≠ 48 → 0 < b) := by
      have e0 : rdDig 0 (d :: q) = if d - 48 > 0 then rdDig (d - 48) q else (0, q) := by
        rw [rdDig, if_pos ⟨hdd, by omega⟩]
        simp only [Nat.zero_mul, Nat.zero_add]
      by_cases hz : d - 48 > 0
      · rw [e0, if_pos hz]
        obtain ⟨ds, h1, h2, h3, h4⟩ := rdDig_so q (d - 48) (rdDig (d - 48) q).1 (rdDig (d - 48) q).2 hz (by omega) rfl
        refine ⟨_, rfl, ?_, h3, fun _ => h4⟩
        rw [h2, TL.numL_lt (by omega), show 48 + (d - 48) = d by omega]
        simp only [List.cons_append, List.nil_append, List.append_assoc]
        rw [← h1]
      · rw [e0, if_neg hz]
        refine ⟨0, rfl, ?_, by omega, fun h => by omega⟩
        rw [TL.numL_lt (by omega)]
        have : d = 48 := by omega
        subst this
        rfl
    obtain ⟨b, h1, h2, h3, h4⟩ := key
    simp only [Ro.ok.injEq] at e
    obtain ⟨e1, e2⟩ := e
    rw [h1] at e1
    cases neg with
    | true =>
      simp only [if_true] at e1
      have hb : 0 < b := h4 fun hd => h (Or.inr ⟨rfl, by rw [hd]; rfl⟩)
      have hn : i.natAbs = b := by omega
      rw [hn, ← e2]
      exact ⟨h2, h3, by simp; omega⟩
    | false =>
      simp only [Bool.false_eq_true, if_false] at e1
      have hn : i.natAbs = b := by omega
      rw [hn, ← e2]
      exact ⟨h2, h3, by simp; omega⟩
theorem rdNum_so {s r : List Nat} {i : Int} (e : rdNum s = .ok i r) : s = shI i ++ r ∧ i.natAbs ≤ 1000000000000 := by
  unfold rdNum at e
  unfold shI
  split at e
  · rename_i h
    obtain ⟨h1, h2, h3⟩ := numAt_so e
    simp only [if_true] at h3
    rw [if_pos h3]
    exact ⟨by rw [cons_of h, h1]; rfl, h2⟩
  · obtain ⟨h1, h2, h3⟩ := numAt_so e
    simp only [Bool.false_eq_true, if_false] at h3
    rw [if_neg (by omega)]
    exact ⟨h1, h2⟩
theorem rdWord_so : ∀ (w s r : List Nat) (a : Unit), rdWord w s = .ok a r → s = w ++ r
  | [], s, r, a, e => by
    unfold rdWord at e
    simp only [Ro.ok.injEq] at e
    exact e.2
  | c :: w, s, r, a, e => by
    unfold rdWord at e
    split at e
    · rename_i h
      rw [cons_of h, rdWord_so w _ r a e]
      rfl
    · cases e
/-- what is told of a value that was read: its form, its bounds, its type -/
structure So (m : Nat) (w : Kn) (s r : List Nat) (v : Vl) (k : Kn) : Prop where
  form : s = sh v ++ r
  good : gv v
  deep : vd v ≤ m
  kind : gk w = true → fitsV v w = true ∧ k = w
theorem rdFlat_so {w k : Kn} {s r : List Nat} {v : Vl} {m : Nat} (e : rdFlat w s = .ok (v, k) r) : So m w s r v k := by
  unfold rdFlat at e
  by_cases h2 : s.head? = some 34 ∧ wT w = true
  · rw [if_pos h2] at e
    obtain ⟨a, e1, ha⟩ := map_ok e
    cases ha
    obtain ⟨t, h3, h4, h5, h6⟩ := rdText_so _ _ _ _ _ e1
    simp only [List.nil_append] at h3
    subst h3
    refine ⟨?_, ⟨h5, h6⟩, by simp [vd], fun hw => ?_⟩
    · rw [cons_of h2.1, h4]
      simp [sh]
    · have := h2.2
      cases w <;> simp [wT, gk] at this hw <;> simp [fitsV]
  · rw [if_neg h2] at e
    by_cases h3 : (s.head? = some 45 ∨ headP isDig s = true) ∧ wI w = true
    · rw [if_pos h3] at e
      obtain ⟨a, e1, ha⟩ := map_ok e
      cases ha
      obtain ⟨h4, h5⟩ := rdNum_so e1
      refine ⟨by rw [h4]; simp [sh], h5, by simp [vd], fun hw => ?_⟩
      have := h3.2
      cases w <;> simp [wI, gk] at this hw <;> simp [fitsV]
    · rw [if_neg h3] at e
      by_cases h4 : s.head? = some 116 ∧ wBo w = true
      · rw [if_pos h4] at e
        obtain ⟨a, e1, ha⟩ := map_ok e
        cases ha
        refine ⟨by rw [rdWord_so _ _ _ _ e1]; simp [sh], trivial, by simp [vd], fun hw => ?_⟩
        have := h4.2
        cases w <;> simp [wBo, gk] at this hw <;> simp [fitsV]
      · rw [if_neg h4] at e
        by_cases h5 : s.head? = some 102 ∧ wBo w = true
        · rw [if_pos h5] at e
          obtain ⟨a, e1, ha⟩ := map_ok e
          cases ha
          refine ⟨by rw [rdWord_so _ _ _ _ e1]; simp [sh], trivial, by simp [vd], fun hw => ?_⟩
          have := h5.2
          cases w <;> simp [wBo, gk] at this hw <;> simp [fitsV]
        · rw [if_neg h5] at e
          by_cases h6 : s.head? = some 110 ∧ wN w = true
          · rw [if_pos h6] at e
            obtain ⟨a, e1, ha⟩ := map_ok e
            cases ha
            refine ⟨by rw [rdWord_so _ _ _ _ e1]; simp [sh], trivial, by simp [vd], fun hw => ?_⟩
            have := h6.2
            cases w <;> simp [wN, gk] at this hw <;> simp [fitsV]
          · rw [if_neg h6] at e; cases e
theorem joinL_cons2 (s a : List Nat) (b : List (List Nat)) (hb : b ≠ []) : TL.joinL s (a :: b) = a ++ (s ++ TL.joinL s b) := by
  cases b with
  | nil => exact (hb rfl).elim
  | cons x b => rfl
theorem rdItems_so {m : Nat} (hf : ∀ (k : Kn) (s r : List Nat) (v : Vl) (k' : Kn), rdAt m k s = .ok (v, k') r → So m k s r v k') : ∀ (n : Nat) (acc : List Vl) (k : Kn) (s r : List Nat) (v : Vl) (k' : Kn), rdItems (rdAt m) n acc k s = .ok (v, k') r →
    ∃ vs, vs ≠ [] ∧ v = .list (acc ++ vs) ∧ s = TL.joinL [44, 32] (shs vs) ++ 93 :: r ∧ vs.length ≤ n ∧ gvs vs ∧ vds vs ≤ m ∧ (gk k = true → fitsVs vs k = true ∧ k' = .list k)
  | 0, acc, k, s, r, v, k', e => by cases e
  | n + 1, acc, k, s, r, v, k', e => by
    unfold rdItems at e
    cases h1 : rdAt m k s with
    | er r1 => rw [h1] at e; cases e
    | ok p r1 =>
      obtain ⟨v1, k1⟩ := p
      have so := hf k s r1 v1 k1 h1
      rw [h1] at e
      simp only at e
      by_cases h93 : r1.head? = some 93
      · rw [if_pos h93] at e
        simp only [Ro.ok.injEq, Prod.mk.injEq] at e
        obtain ⟨⟨e1, e2⟩, e3⟩ := e
        refine ⟨[v1], by simp, e1.symm, ?_, by simp, ⟨so.good, trivial⟩, by simp [vds]; exact so.deep, fun hk => ?_⟩
        · rw [so.form, cons_of h93, e3]
          rfl
        · obtain ⟨h2, h3⟩ := so.kind hk
          exact ⟨by simp [fitsVs, h2], by rw [← e2, h3]⟩
      · rw [if_neg h93] at e
        by_cases h44 : r1.head? ≠ some 44 ∨ n = 0
        · rw [if_pos h44] at e; cases e
        · rw [if_neg h44] at e
          by_cases h32 : r1.tail.head? ≠ some 32
          · rw [if_pos h32] at e; cases e
          · rw [if_neg h32] at e
            have h44' : r1.head? = some 44 := Classical.byContradiction fun h => h44 (Or.inl h)
            have h32' : r1.tail.head? = some 32 := Classical.byContradiction fun h => h32 h
            obtain ⟨vs, hne, h2, h3, h4, h5, h6, h7⟩ := rdItems_so hf n _ k1 _ r v k' e
            refine ⟨v1 :: vs, by simp, by rw [h2]; simp, ?_, by simp; omega, ⟨so.good, h5⟩, by have := so.deep; simp only [vds]; omega, fun hk => ?_⟩
            · have hne2 : shs vs ≠ [] := by
                cases vs with
                | nil => exact (hne rfl).elim
                | cons x vs => simp [shs]
              rw [so.form, cons_of h44', cons_of h32', h3]
              show _ = TL.joinL [44, 32] (sh v1 :: shs vs) ++ _
              rw [joinL_cons2 _ _ _ hne2]
              simp
            · obtain ⟨h8, h9⟩ := so.kind hk
              subst h9
              obtain ⟨h10, h11⟩ := h7 hk
              exact ⟨by simp [fitsVs, h8, h10], h11⟩
theorem rdAt_so : ∀ (m : Nat) (w : Kn) (s r : List Nat) (v : Vl) (k : Kn), rdAt m w s = .ok (v, k) r → So m w s r v k
  | 0, w, s, r, v, k, e => rdFlat_so e
  | m + 1, w, s, r, v, k, e => by
    by_cases h : s.head? = some 91 ∧ wL w = true
    · unfold rdAt at e
      rw [if_pos h] at e
      have hsub : gk w = true → gk (sub w) = true ∧ w = .list (sub w) := fun hw => by
        have := h.2
        cases w <;> simp [wL, gk, sub] at this hw ⊢
        exact hw
      unfold rdList at e
      by_cases h93 : s.tail.head? = some 93
      · rw [if_pos h93] at e
        simp only [Ro.ok.injEq, Prod.mk.injEq] at e
        obtain ⟨⟨e1, e2⟩, e3⟩ := e
        subst e1 e2 e3
        refine ⟨?_, ⟨by simp, trivial⟩, by simp [vd, vds], fun hw => ?_⟩
        · rw [cons_of h.1, cons_of h93]
          rfl
        · obtain ⟨h1, h2⟩ := hsub hw
          exact ⟨by rw [h2]; simp [fitsV, fitsVs], h2.symm⟩
      · rw [if_neg h93] at e
        obtain ⟨vs, hne, h2, h3, h4, h5, h6, h7⟩ := rdItems_so (rdAt_so m) 20 [] (sub w) s.tail r v k e
        simp only [List.nil_append] at h2
        subst h2
        refine ⟨?_, ⟨h4, h5⟩, by simp [vd]; exact h6, fun hw => ?_⟩
        · rw [cons_of h.1, h3]
          simp [sh]
        · obtain ⟨h1, h2⟩ := hsub hw
          obtain ⟨h8, h9⟩ := h7 h1
          exact ⟨by rw [h2]; simp [fitsV, h8], by rw [h9]; exact h2.symm⟩
    · rw [flat_at h] at e
      exact rdFlat_so e
end J11

/-! the defs of the reader; told, is_type -/
namespace J11
open PySem PySem.Spec PyProof.Rows L2 IL SX
def rdTop (w : Kn) (l : List Nat) : Ro Vl := match rdAt 6 w l with
  | .er r => .er r
  | .ok (v, _) r => if r = [] then .ok v [] else .er r
def toldP (l : List Nat) : Ro Vl → PV
  | .ok v _ => pv v
  | .er r => .int (pos l r)
section
variable {n : Nat} {st : Sto} {l : List Nat} {w : Kn}
theorem pos_le {r : List Nat} (h : r <:+ l) : ∃ j : Nat, pos l r = (j : Int) ∧ j ≤ l.length ∧ l.drop j = r := by
  obtain ⟨t, ht⟩ := h
  refine ⟨t.length, ?_, ?_, ?_⟩
  · unfold pos
    rw [← ht, List.length_append]
    omega
  · rw [← ht, List.length_append]
    omega
  · rw [← ht, List.drop_left]
theorem e_whole (T : Tx l) (hk : kd w ≤ 40) : Rd l st (fun v _ => pv v) (rdTop w l) (GG (n + 16) I__read_whole [.str (S l), pk w] st) := by
  rw [e__read_whole]
  refine WR.to rfl ?_ fun v _ => nr_pv v
  have hT := T.len
  have h := e_at (l := l) 6 n w 0 0 0 st T (by omega) hk rfl (Nat.zero_le _) rfl
  rw [List.drop_zero] at h
  have sf := rdAt_sf 6 w l
  unfold rdTop
  have hlen : l.length ≤ 9000000 := by omega
  cases ho : rdAt 6 w l with
  | er r =>
    rw [ho] at h
    obtain ⟨g, h⟩ := h
    refine ⟨[some (.str (S l)), some (pk w), none, none, none], g, ?_⟩
    simp [b__read_whole, h]
  | ok a r =>
    obtain ⟨v, k⟩ := a
    rw [ho] at h sf
    have h : _ = _ := h
    have sf : r <:+ l := sf
    obtain ⟨j, hj, hj2, hj3⟩ := pos_le sf
    simp only
    by_cases hr : r = []
    · rw [if_pos hr]
      subst hr
      have hlt : ¬ pos l [] < (l.length : Int) := by unfold pos; simp
      refine ⟨[], ?_⟩
      simp [b__read_whole, h, S_len, hlen, hlt]
    · rw [if_neg hr]
      have hlt : pos l r < (l.length : Int) := by
        unfold pos
        have : 0 < r.length := List.length_pos_iff.mpr hr
        omega
      have e5 : (pos l r).natAbs < 10 ^ 30 := small_ok hj (by omega)
      refine ⟨[some (.str (S l)), some (pk w), some (pv v), some (.int (pos l r)), some (pk k)], [], ?_⟩
      simp [b__read_whole, h, S_len, hlen, hlt, e5]
theorem Rd.ok_or {α : Type} {f : α → List Nat → PV} {o : Ro α} {x : Option (RX × Sto)} (h : Rd l st f o x) : (∃ a r, o = .ok a r ∧ x = some (.ok (f a r), st)) ∨ ∃ r g, o = .er r ∧ x = some (.er S_WrittenError [(S_at, .int (pos l r))], st ++ g) := by
  unfold Rd at h
  cases o with
  | ok a r => exact .inl ⟨a, r, rfl, h⟩
  | er r =>
    obtain ⟨g, h⟩ := h
    exact .inr ⟨r, g, rfl, h⟩
theorem e_read_value' (T : Tx l) : Rd l st (fun v _ => pv v) (rdTop .no l) (GG (n + 17) I_read_value [.str (S l)] st) := by
  rw [e_read_value]
  refine WR.to rfl ?_ fun v _ => nr_pv v
  have h := e_whole (n := n) (st := st) (w := .no) T (by simp [kd])
  unfold pk at h
  rcases Rd.ok_or h with ⟨a, r, h1, h2⟩ | ⟨r, g, h1, h2⟩
  · rw [h1]
    exact ⟨[], by simp [b_read_value, h2]⟩
  · rw [h1]
    exact ⟨[some (.str (S l))], g, by simp [b_read_value, h2]⟩
noncomputable def tyC : IT := (iTest (iCall (a2 fIsi) (iCons (iVar 1) (iCons (iC (.ty "tuple")) iNil))))
noncomputable def tyB : IS := (iSeq (iAsg (gN 1) (iBin fSubB (iVar 1) (iC (.int 1)))) (iAugAdd 2 (iC (.int 1))))
def base : Kn → Kn
  | .list k => base k
  | k => k
theorem w_type {q0 : Option PV} : ∀ (k : Kn) (j : Int) (m : Nat), kd k < m → wloop tyC tyB m [q0, some (pk k), some (.int j)] st = some (.nx [q0, some (pk (base k)), some (.int (j + (kd k : Int)))] st)
  | .list k, j, m, hm => by
    cases m with
    | zero => omega
    | succ m =>
      have ih := w_type (q0 := q0) k (j + 1) m (by simp only [kd] at hm; omega)
      rw [wloop]
      have e1 : tyC [q0, some (pk (.list k)), some (.int j)] st = some (true, st) := by simp [tyC, pk]
      have e2 : tyB [q0, some (pk (.list k)), some (.int j)] st = some (.nx [q0, some (pk k), some (.int (j + 1))] st) := by simp [tyB, pk]
      rw [e1]
      simp only [e2]
      rw [ih]
      have : j + 1 + (kd k : Int) = j + ((kd (.list k) : Nat) : Int) := by simp only [kd]; omega
      rw [this]
      rfl
  | .no, j, m, hm => by
    cases m with
    | zero => omega
    | succ m => simp [wloop, tyC, pk, base, kd]
  | .int, j, m, hm => by
    cases m with
    | zero => omega
    | succ m => simp [wloop, tyC, pk, base, kd]
  | .bool, j, m, hm => by
    cases m with
    | zero => omega
    | succ m => simp [wloop, tyC, pk, base, kd]
  | .text, j, m, hm => by
    cases m with
    | zero => omega
    | succ m => simp [wloop, tyC, pk, base, kd]
  | .nothing, j, m, hm => by
    cases m with
    | zero => omega
    | succ m => simp [wloop, tyC, pk, base, kd]
theorem base_in : ∀ k : Kn, gk k = true → inC st (pk (base k)) c_SIMPLE_KINDS = some true
  | .list k, h => base_in k h
  | .no, h => by cases h
  | .int, h => by simp [base, pk, inC, mapO, flatP, inV, eqV]
  | .bool, h => by simp [base, pk, inC, mapO, flatP, inV, eqV]
  | .text, h => by simp [base, pk, inC, mapO, flatP, inV, eqV]
  | .nothing, h => by simp [base, pk, inC, mapO, flatP, inV, eqV]
theorem e_is_type' (hg : gk w = true) (hk : kd w ≤ 6) : FF (n + 1) I_is_type [pk w] st = some (.bl true, st) := by
  rw [e_is_type]
  refine def_pure0 rfl ?_ rfl
  obtain ⟨k, hkk⟩ := iWhile_at 900000 (by omega)
  have h := w_type (st := st) (q0 := some (pk w)) w 0 (k + 900000) (by omega)
  rw [← hkk] at h
  have hb := base_in (st := st) w hg
  unfold tyC tyB at h
  have hle : (0 : Int) + (kd w : Int) ≤ 6 := by omega
  simp only [b_is_type, List.map_cons, List.map_nil, iSeq_e, iAsg_e, iVar_e, iC_e, ob_s, List.cons_append, List.nil_append, List.replicate_succ, List.replicate_zero, List.getElem?_cons_zero, List.getElem?_cons_succ, gN_e, List.set_cons_succ, List.set_cons_zero, h, iRet_e, iAndV_e, iBin_e, fInC_e, hb, Option.map_some, tru_bl, fLe_i, decide_eq_true hle]
theorem e_read_typed' (T : Tx l) (hg : gk w = true) (hk : kd w ≤ 6) : Rd l st (fun v _ => pv v) (rdTop w l) (GG (n + 17) I_read_typed [.str (S l), pk w] st) := by
  rw [e_read_typed]
  refine WR.to rfl ?_ fun v _ => nr_pv v
  have h := e_whole (n := n) (st := st) (w := w) T (by omega)
  have h0 := e_is_type' (n := n + 15) (st := st) hg hk
  rcases Rd.ok_or h with ⟨a, r, h1, h2⟩ | ⟨r, g, h1, h2⟩
  · rw [h1]
    exact ⟨[], by simp [b_read_typed, h0, h2]⟩
  · rw [h1]
    exact ⟨[some (.str (S l)), some (pk w)], g, by simp [b_read_typed, h0, h2]⟩
theorem retX_fl {ix : IX} {env : PEnv} : iRetX ix env st = toFl env (ix env st) := by
  rw [iRetX_e]
  cases ix env st with
  | none => rfl
  | some y =>
    obtain ⟨y, s⟩ := y
    cases y <;> rfl
end
end J11

/-! show_value and fits -/
namespace J11
open PySem PySem.Spec PyProof.Rows L2 IL SX
theorem repl_esc : ∀ t : List Nat, StrLaws.replL [34] [34, 34] t = esc t
  | [] => StrLaws.replL_nil
  | c :: r => by
    unfold esc
    by_cases h : c = 34
    · rw [if_pos h, StrLaws.replL_hit (by simp) (by rw [h]; rfl)]
      show _ ++ StrLaws.replL _ _ r = _
      rw [repl_esc r]
      rfl
    · rw [if_neg h, StrLaws.replL_miss (by simpa using h), repl_esc r]
theorem replace_S (t : List Nat) : Txt.replace (S t) S_x22 S_x22x22 = S (esc t) := by
  have e2 : S_x22x22 = S [34, 34] := by decide +kernel
  rw [s22, e2]
  refine TL.ext_tl ?_
  show (Txt.replace (S t) (S [34]) (S [34, 34])).cps.toList = esc t
  rw [StrLaws.replace_list (by decide)]
  exact repl_esc t
theorem text_int (i : Int) : Str.ofString (toString i) = S (shI i) := by
  unfold shI
  by_cases h : i < 0
  · rw [if_pos h]
    refine TL.ext_tl ?_
    have e1 : TL.tl (Str.ofString (toString ((i.natAbs : Nat) : Int))) = TL.numL i.natAbs := TL.tl_num i.natAbs
    have e2 : (0 : Int) - i = ((i.natAbs : Nat) : Int) := by omega
    rw [toString_neg h, e2, TL.tl_ofString, String.toList_append, List.map_append, ← TL.tl_ofString, ← TL.tl_ofString, e1]
    rfl
  · rw [if_neg h]
    have e2 : i = ((i.natAbs : Nat) : Int) := by omega
    have := num_S i.natAbs
    rw [← e2] at this
    exact this
theorem joinL_len (a b : List Nat) (L : List (List Nat)) : (TL.joinL [44, 32] (L)).length = (L.map List.length).sum + (L.length - 1) * 2 := by
  induction L with
  | nil => rfl
  | cons p L ih =>
    cases L with
    | nil => simp [TL.joinL]
    | cons q L =>
      rw [show TL.joinL [44, 32] (p :: q :: L) = p ++ ([44, 32] ++ TL.joinL [44, 32] (q :: L)) from rfl, List.length_append, List.length_append, ih]
      simp only [List.map_cons, List.sum_cons, List.length_cons, List.length_nil, Nat.add_sub_cancel]
      omega
theorem shs_map (vs : List Vl) : shs vs = vs.map sh := by
  induction vs with
  | nil => rfl
  | cons v vs ih => simp [shs, ih]
theorem pvs_map (vs : List Vl) : pvs vs = vs.map pv := by
  induction vs with
  | nil => rfl
  | cons v vs ih => simp [pvs, ih]
theorem gvs_mem : ∀ {vs : List Vl} {v : Vl}, gvs vs → v ∈ vs → gv v
  | x :: vs, v, h, hm => by
    rcases List.mem_cons.mp hm with rfl | hm
    · exact h.1
    · exact gvs_mem h.2 hm
theorem vds_mem : ∀ {vs : List Vl} {v : Vl}, v ∈ vs → vd v ≤ vds vs
  | x :: vs, v, hm => by
    unfold vds
    rcases List.mem_cons.mp hm with rfl | hm
    · omega
    · have := vds_mem hm
      omega
theorem len_mem {L : List (List Nat)} {p : List Nat} (h : p ∈ L) : p.length ≤ (L.map List.length).sum := by
  induction L with
  | nil => cases h
  | cons q L ih =>
    simp only [List.map_cons, List.sum_cons]
    rcases List.mem_cons.mp h with rfl | h
    · omega
    · have := ih h
      omega
theorem nrs_map {α : Type} {f : α → PV} : ∀ {xs : List α}, (∀ x ∈ xs, nr (f x) = true) → nrs (xs.map f) = true := fun {xs} h => nrs_all fun y hy => by
  obtain ⟨x, hx, rfl⟩ := List.mem_map.mp hy
  exact h x hx
section
variable {n : Nat} {st : Sto}
theorem hstr (a b : Str) : eqP st (.str a) (.str b) = eqP st (.str a) (.str b) := rfl
theorem e_show : ∀ (d : Nat) (v : Vl) (n : Nat) (st : Sto), vd v ≤ d → gv v → (sh v).length ≤ 700000 → FF (n + d + 1) I_show_value [pv v] st = some (.str (S (sh v)), st)
  | d, .int i, n, st, hd, hg, hl => by
    rw [e_show_value]
    refine def_pure0 rfl ?_ rfl
    have h1 : i.natAbs < 2 ^ 1000 := Nat.lt_of_le_of_lt (show i.natAbs ≤ 1000000000000 from hg) (by decide)
    have e : Str.ofString i.repr = S (shI i) := text_int i
    simp [b_show_value, pv, h1, e, sh]
  | d, .bool b, n, st, hd, hg, hl => by
    rw [e_show_value]
    refine def_pure0 rfl ?_ rfl
    cases b <;> simp [b_show_value, pv, sh, s_true, s_false]
  | d, .nothing, n, st, hd, hg, hl => by
    rw [e_show_value]
    refine def_pure0 rfl ?_ rfl
    rw [show S (sh .nothing) = S_nothing from s_nothing.symm]
    simp [b_show_value, pv]
  | d, .text t, n, st, hd, hg, hl => by
    rw [e_show_value]
    refine def_pure0 rfl ?_ rfl
    have ht : t.length ≤ 60 := hg.1
    have h22 : (S_x22x22).length = 2 := by decide +kernel
    have h1 : t.length + (t.length + 1) * 2 ≤ 9000000 := by omega
    have hl' : (esc t).length + 2 ≤ 700000 := by simpa [sh] using hl
    have h221 : (S_x22).length = 1 := by decide +kernel
    have h2 : S_x22 ++ S (esc t) = S (34 :: esc t) := by rw [s22, S_cat]; rfl
    have h3 : S (34 :: esc t) ++ S_x22 = S (34 :: (esc t ++ [34])) := by rw [s22, S_cat]; rfl
    have h4 : 1 + (esc t).length ≤ 9000000 := by omega
    have h5 : (34 :: esc t).length + 1 ≤ 9000000 := by simp; omega
    have er : iRep (iBin fSubB (iVar 0) (iC (.int 1))) S_x22 S_x22x22 [some (pv (.text t)), none] st = some (.str (S (esc t)), st) := by
      simp only [iRep, iBin_e, iVar_e, iC_e, ob_s, List.getElem?_cons_zero, pv, fSubB_t, atI_1, Option.map_some, S_len, h22, h1, if_true, replace_S]
    have ec : iBin fAdd (iBin fAdd (iC (.str S_x22)) (iRep (iBin fSubB (iVar 0) (iC (.int 1))) S_x22 S_x22x22)) (iC (.str S_x22)) [some (pv (.text t)), none] st = some (.str (S (34 :: (esc t ++ [34]))), st) := by
      rw [iBin_e, iBin_e]
      simp only [iC_e, ob_s, er, fAdd_s, h221, S_len, h4, if_true, h2, h5, h3]
    have e0 : fSubB (pv (.text t)) (.int 0) st = some (.str S_text, st) := by simp [pv]
    simp only [b_show_value, List.map_cons, List.map_nil, List.cons_append, List.nil_append, List.replicate, iSeq_e, iIfS_e, iTestB_e]
    have E1 : iBin fEqB (iBin fSubB (iVar 0) (iC (.int 0))) (iC (.str S_int)) [some (pv (.text t)), none] st = some (.bl false, st) := by simp [pv]
    have E2 : iBin fEqB (iBin fSubB (iVar 0) (iC (.int 0))) (iC (.str S_bool)) [some (pv (.text t)), none] st = some (.bl false, st) := by simp [pv]
    have E3 : iBin fEqB (iBin fSubB (iVar 0) (iC (.int 0))) (iC (.str S_text)) [some (pv (.text t)), none] st = some (.bl true, st) := by simp [pv]
    simp only [E1, E2, E3, ob_s, isBl_e, Option.map_some, iSkip_e, iRet_e, ec]
    rfl
  | 0, .list vs, n, st, hd, hg, hl => by simp [vd] at hd
  | d + 1, .list vs, n, st, hd, hg, hl => by
    rw [show n + (d + 1) + 1 = (n + d + 1) + 1 by omega, e_show_value]
    have hgl : vs.length ≤ 20 := hg.1
    have hd' : vds vs ≤ d := by simp only [vd] at hd; omega
    have hll : (sh (.list vs)).length = (TL.joinL [44, 32] (shs vs)).length + 2 := by simp [sh]
    have hsum := joinL_len [] [] (shs vs)
    obtain ⟨l, hlc⟩ := iLc_tupm (xs := vs) (f := pv) (g := fun v => PV.str (S (sh v))) (p := fun _ => true) (ie := iBin fSubB (iVar 0) (iC (.int 1))) (e := iCall (FF (n + d + 1) I_show_value) (iCons (iVar 1) iNil)) (ig := gN 1) (t := iYes) (vs := [1]) (env := [some (pv (.list vs)), none]) (st := st) (s1 := st)
      (by simp [pv, pvs_map]) (by omega) (fun v hv s' => ⟨[some (pv (.list vs)), some (pv v)], rfl, rfl, fun _ => ⟨[], by
        have := e_show d v n s' (by have := vds_mem hv; omega) (gvs_mem hg.2 hv) (by
          have h1 : (sh v).length ≤ ((shs vs).map List.length).sum := len_mem (by rw [shs_map]; exact List.mem_map.mpr ⟨v, hv, rfl⟩)
          omega)
        simp [this]⟩⟩)
    have hnr : nrs ((vs.filter fun _ => true).map fun v => PV.str (S (sh v))) = true := nrs_map fun x _ => by simp [nr]
    have hx := new_at_ (l := [SO.lst ((vs.filter fun _ => true).map fun v => PV.str (S (sh v)))] ++ l) hlc at_mid (Nat.le_refl _) (List.append_assoc ..) (rlts_nr _ hnr)
    have hf : (vs.filter fun _ => true) = vs := by simp
    rw [hf] at hx
    have hm : ∀ us : List Vl, mapO isStr (us.map fun v => PV.str (S (sh v))) = some (us.map fun v => S (sh v)) := by
      intro us
      induction us with
      | nil => rfl
      | cons u us ih =>
        show mapO isStr (PV.str (S (sh u)) :: us.map fun v => PV.str (S (sh v))) = _
        unfold mapO
        rw [ih]
        rfl
    have ej : iJoin (iC (.str S_x2cx20)) (iNew (iLc (iWalk (iBin fSubB (iVar 0) (iC (.int 1)))) (gN 1) iYes (iCall (FF (n + d + 1) I_show_value) (iCons (iVar 1) iNil)) [1])) [some (pv (.list vs)), none] st = some (.str (S (TL.joinL [44, 32] (shs vs))), st) := by
      have e0 : Txt.join S_x2cx20 (vs.map fun v => S (sh v)) = S (TL.joinL [44, 32] (shs vs)) := by
        have := join_S [44, 32] (shs vs)
        rw [shs_map, List.map_map] at this
        rw [shs_map, show S_x2cx20 = S [44, 32] by decide +kernel]
        exact this
      have e1 : ((vs.map fun v => S (sh v)).map (·.length)).sum = ((shs vs).map List.length).sum := by
        rw [shs_map, List.map_map, List.map_map]
        exact congrArg List.sum (List.map_congr_left fun v _ => S_len _)
      have h2c : (S_x2cx20).length = 2 := by decide +kernel
      unfold iJoin
      simp only [iC_e, ob_s, hx, strsOf, itemsOf_f, hm]
      rw [if_pos, e0]
      rw [e1, h2c, List.length_map]
      have : (shs vs).length = vs.length := by rw [shs_map, List.length_map]
      omega
    have h2 : S_x5b ++ S (TL.joinL [44, 32] (shs vs)) = S (91 :: TL.joinL [44, 32] (shs vs)) := by rw [s5b, S_cat]; rfl
    have h3 : S (91 :: TL.joinL [44, 32] (shs vs)) ++ S_x5d = S (sh (.list vs)) := by rw [s5d, S_cat]; rfl
    have h5b : (S_x5b).length = 1 := by decide +kernel
    have h5d : (S_x5d).length = 1 := by decide +kernel
    have h4 : 1 + (TL.joinL [44, 32] (shs vs)).length ≤ 9000000 := by omega
    have h5 : (91 :: TL.joinL [44, 32] (shs vs)).length + 1 ≤ 9000000 := by simp; omega
    have ec : iBin fAdd (iBin fAdd (iC (.str S_x5b)) (iJoin (iC (.str S_x2cx20)) (iNew (iLc (iWalk (iBin fSubB (iVar 0) (iC (.int 1)))) (gN 1) iYes (iCall (FF (n + d + 1) I_show_value) (iCons (iVar 1) iNil)) [1])))) (iC (.str S_x5d)) [some (pv (.list vs)), none] st = some (.str (S (sh (.list vs))), st) := by
      rw [iBin_e, iBin_e]
      simp only [iC_e, ob_s, ej, fAdd_s, h5b, h5d, S_len, h4, if_true, h2, h5, h3]
    refine def_pure0 rfl ?_ rfl
    simp only [b_show_value, List.map_cons, List.map_nil, List.cons_append, List.nil_append, List.replicate, iSeq_e, iIfS_e, iTestB_e]
    have E1 : iBin fEqB (iBin fSubB (iVar 0) (iC (.int 0))) (iC (.str S_int)) [some (pv (.list vs)), none] st = some (.bl false, st) := by simp [pv]
    have E2 : iBin fEqB (iBin fSubB (iVar 0) (iC (.int 0))) (iC (.str S_bool)) [some (pv (.list vs)), none] st = some (.bl false, st) := by simp [pv]
    have E3 : iBin fEqB (iBin fSubB (iVar 0) (iC (.int 0))) (iC (.str S_text)) [some (pv (.list vs)), none] st = some (.bl false, st) := by simp [pv]
    have E4 : iBin fEqB (iBin fSubB (iVar 0) (iC (.int 0))) (iC (.str S_list)) [some (pv (.list vs)), none] st = some (.bl true, st) := by simp [pv]
    simp only [E1, E2, E3, E4, ob_s, isBl_e, Option.map_some, iSkip_e, iRet_e, ec]
theorem fitsVs_all (vs : List Vl) (k : Kn) : fitsVs vs k = (vs.map fun v => fitsV v k).all id := by
  induction vs with
  | nil => rfl
  | cons v vs ih => simp [fitsVs, ih]
theorem e_fits' : ∀ (d : Nat) (v : Vl) (k : Kn) (n : Nat) (st : Sto), vd v ≤ d → gv v → gk k = true → kd k ≤ 40 → FF (n + d + 1) I_fits [pv v, pk k] st = some (.bl (fitsV v k), st)
  | d, .int i, k, n, st, hd, hg, hk, hkd => by
    rw [e_fits]
    refine def_pure0 rfl ?_ rfl
    cases k with
    | list k =>
      have g1 : gd (.tup [.str S_list, pk k]) 60 = true := gd_pk (.list k) 60 (by omega)
      have : eqP st (.str S_int) (.tup [.str S_list, pk k]) = some false := by
        rw [eqP_gd (by simp [gd]) g1]
        simp [datP, PyData.eqv]
      simp [b_fits, pv, pk, this, fitsV]
    | no => cases hk
    | _ => simp [b_fits, pv, pk, fitsV]
  | d, .bool i, k, n, st, hd, hg, hk, hkd => by
    rw [e_fits]
    refine def_pure0 rfl ?_ rfl
    cases k with
    | list k =>
      have g1 : gd (.tup [.str S_list, pk k]) 60 = true := gd_pk (.list k) 60 (by omega)
      have : eqP st (.str S_bool) (.tup [.str S_list, pk k]) = some false := by
        rw [eqP_gd (by simp [gd]) g1]
        simp [datP, PyData.eqv]
      simp [b_fits, pv, pk, this, fitsV]
    | no => cases hk
    | _ => simp [b_fits, pv, pk, fitsV]
  | d, .text i, k, n, st, hd, hg, hk, hkd => by
    rw [e_fits]
    refine def_pure0 rfl ?_ rfl
    cases k with
    | list k =>
      have g1 : gd (.tup [.str S_list, pk k]) 60 = true := gd_pk (.list k) 60 (by omega)
      have : eqP st (.str S_text) (.tup [.str S_list, pk k]) = some false := by
        rw [eqP_gd (by simp [gd]) g1]
        simp [datP, PyData.eqv]
      simp [b_fits, pv, pk, this, fitsV]
    | no => cases hk
    | _ => simp [b_fits, pv, pk, fitsV]
  | d, .nothing, k, n, st, hd, hg, hk, hkd => by
    rw [e_fits]
    refine def_pure0 rfl ?_ rfl
    cases k with
    | list k =>
      have g1 : gd (.tup [.str S_list, pk k]) 60 = true := gd_pk (.list k) 60 (by omega)
      have : eqP st (.str S_nothing) (.tup [.str S_list, pk k]) = some false := by
        rw [eqP_gd (by simp [gd]) g1]
        simp [datP, PyData.eqv]
      simp [b_fits, pv, pk, this, fitsV]
    | no => cases hk
    | _ => simp [b_fits, pv, pk, fitsV]
  | 0, .list vs, k, n, st, hd, hg, hk, hkd => by simp [vd] at hd
  | d + 1, .list vs, k, n, st, hd, hg, hk, hkd => by
    rw [show n + (d + 1) + 1 = (n + d + 1) + 1 by omega, e_fits]
    have hgl : vs.length ≤ 20 := hg.1
    have hd' : vds vs ≤ d := by simp only [vd] at hd; omega
    cases k with
    | list k =>
      have hkd' : kd k ≤ 40 := by simp only [kd] at hkd; omega
      obtain ⟨l, hlc⟩ := iLc_tupm (xs := vs) (f := pv) (g := fun v => PV.bl (fitsV v k)) (p := fun _ => true) (ie := iBin fSubB (iVar 0) (iC (.int 1))) (e := iCall (FF (n + d + 1) I_fits) (iCons (iVar 2) (iCons (iBin fSubB (iVar 1) (iC (.int 1))) iNil))) (ig := gN 2) (t := iYes) (vs := [2]) (env := [some (pv (.list vs)), some (pk (.list k)), none]) (st := st) (s1 := st)
        (by simp [pv, pvs_map]) (by omega) (fun v hv s' => ⟨[some (pv (.list vs)), some (pk (.list k)), some (pv v)], rfl, rfl, fun _ => ⟨[], by
          have := e_fits' d v k n s' (by have := vds_mem hv; omega) (gvs_mem hg.2 hv) hk hkd'
          simp [pk, this]⟩⟩)
      have hnr : nrs ((vs.filter fun _ => true).map fun v => PV.bl (fitsV v k)) = true := nrs_map fun x _ => by simp [nr]
      have hx := new_at_ (l := [SO.lst ((vs.filter fun _ => true).map fun v => PV.bl (fitsV v k))] ++ l) hlc at_mid (Nat.le_refl _) (List.append_assoc ..) (rlts_nr _ hnr)
      have hf : (vs.filter fun _ => true) = vs := by simp
      rw [hf] at hx
      have hm : ∀ us : List Vl, mapO isBl (us.map fun v => PV.bl (fitsV v k)) = some (us.map fun v => fitsV v k) := by
        intro us
        induction us with
        | nil => rfl
        | cons u us ih =>
          show mapO isBl (PV.bl (fitsV u k) :: us.map fun v => PV.bl (fitsV v k)) = _
          unfold mapO
          rw [ih]
          rfl
      have hb : blsOf st (.frz (vs.map fun v => PV.bl (fitsV v k))) = some (vs.map fun v => fitsV v k) := by
        show mapO isBl _ = _
        exact hm vs
      refine def_pure0 rfl ?_ rfl
      simp only [b_fits, List.map_cons, List.map_nil, List.cons_append, List.nil_append, List.replicate, iSeq_e, iIfS_e, iTestB_e]
      rw [show iBin fEqB (iBin fSubB (iVar 0) (iC (.int 0))) (iC (.str S_list)) [some (pv (.list vs)), some (pk (.list k)), none] st = some (.bl true, st) by simp [pv]]
      have hp : isP st (pk (.list k)) (.ty "tuple") = some true := by simp [pk]
      simp only [ob_s, isBl_e, Option.map_some, iRet_e, iAndV_e, tru_bl, iCall_e, iCons_e, iNil_e, iVar_e, iC_e, List.getElem?_cons_succ, List.getElem?_cons_zero, a2_e, fIsi_e, hp, hx, a1_e, fAll_e, hb]
      rw [show fitsV (.list vs) (.list k) = fitsVs vs k by simp [fitsV], fitsVs_all]
    | no => cases hk
    | _ =>
      refine def_pure0 rfl ?_ rfl
      simp [b_fits, pv, pk, fitsV]
end
end J11

/-! what is written so is read so (for k11) -/
namespace J11
open PySem PySem.Spec PyProof.Rows L2 IL SX
theorem rdDig_num : ∀ (n : Nat) (s : List Nat), 0 < n → n ≤ 1000000000000 → rdDig 0 (TL.numL n ++ s) = rdDig n s := by
  intro n
  induction n using Nat.strongRecOn with
  | ind n ih =>
    intro s h0 h1
    by_cases h : n < 10
    · rw [TL.numL_lt h]
      show rdDig 0 ((48 + n) :: s) = _
      rw [rdDig, if_pos ⟨by simp [isDig]; omega, by omega⟩, if_pos (by omega), show 0 * 10 + (48 + n - 48) = n by omega]
    · rw [TL.numL_step (by omega), List.append_assoc, ih (n / 10) (by omega) _ (by omega) (by omega)]
      show rdDig (n / 10) ((48 + n % 10) :: s) = _
      rw [rdDig, if_pos ⟨by simp [isDig]; omega, by omega⟩, if_pos (by omega), show n / 10 * 10 + (48 + n % 10 - 48) = n by omega]
theorem rdDig_all {n : Nat} {x : List Nat} (h : n ≤ 1000000000000) (hx : Stop x) : rdDig 0 (TL.numL n ++ x) = (n, x) := by
  by_cases h0 : 0 < n
  · rw [rdDig_num n x h0 h, rdDig_stop hx]
  · have : n = 0 := by omega
    subst this
    rw [TL.numL_lt (by omega)]
    rfl
theorem numL_head (n : Nat) : ∃ d r, TL.numL n = d :: r ∧ isDig d = true ∧ (d = 48 → n = 0) := by
  induction n using Nat.strongRecOn with
  | ind n ih =>
    by_cases h : n < 10
    · exact ⟨48 + n, [], TL.numL_lt h, by simp [isDig]; omega, fun e => by omega⟩
    · obtain ⟨d, r, h1, h2, h3⟩ := ih (n / 10) (by omega)
      exact ⟨d, r ++ [48 + n % 10], by rw [TL.numL_step (by omega), h1]; rfl, h2, fun e => by have := h3 e; omega⟩
theorem rdNum_back {i : Int} {x : List Nat} (h : i.natAbs ≤ 1000000000000) (hx : Stop x) : rdNum (shI i ++ x) = .ok i x ∧ (∃ d r, shI i = d :: r ∧ (d = 45 ∨ isDig d = true)) := by
  obtain ⟨d, r, h1, h2, h3⟩ := numL_head i.natAbs
  have hd : 48 ≤ d ∧ d ≤ 57 := by simpa [isDig] using h2
  have ha := rdDig_all h hx
  unfold shI
  by_cases hi : i < 0
  · rw [if_pos hi]
    refine ⟨?_, 45, _, rfl, .inl rfl⟩
    unfold rdNum
    rw [if_pos (by rfl)]
    show numAt true (TL.numL i.natAbs ++ x) = _
    have hne : ¬ (headP isDig (TL.numL i.natAbs ++ x) = false ∨ (true = true ∧ (TL.numL i.natAbs ++ x).head? = some 48)) := by
      rw [h1]
      simp only [headP, List.cons_append, List.head?_cons, h2, Option.some.injEq]
      rintro (e | ⟨_, e⟩)
      · cases e
      · have := h3 e
        omega
    unfold numAt
    rw [if_neg hne, ha]
    simp only [if_true]
    rw [show -((i.natAbs : Nat) : Int) = i by omega]
  · rw [if_neg hi]
    refine ⟨?_, d, r, h1, .inr h2⟩
    unfold rdNum
    rw [if_neg (by rw [h1]; simp; omega)]
    have hne : ¬ (headP isDig (TL.numL i.natAbs ++ x) = false ∨ (false = true ∧ (TL.numL i.natAbs ++ x).head? = some 48)) := by
      rw [h1]
      simp only [headP, List.cons_append, List.head?_cons, h2]
      rintro (e | ⟨e, _⟩) <;> cases e
    unfold numAt
    rw [if_neg hne, ha]
    simp only [Bool.false_eq_true, if_false]
    rw [show ((i.natAbs : Nat) : Int) = i by omega]
theorem rdText_back : ∀ (t : List Nat) (n : Nat) (acc x : List Nat), t.length ≤ n → (∀ c ∈ t, 32 ≤ c ∧ c ≤ 126) → Stop x → rdText n acc (esc t ++ 34 :: x) = .ok (acc ++ t) x
  | [], n, acc, x, hl, ht, hx => by
    cases n with
    | zero =>
      unfold rdText
      rw [if_pos (by rfl), List.append_nil]
      rfl
    | succ n =>
      unfold rdText
      rw [if_pos (by rfl), if_neg (by exact hx.no34), List.append_nil]
      rfl
  | c :: t, n, acc, x, hl, ht, hx => by
    cases n with
    | zero => simp at hl
    | succ n =>
      have ih := rdText_back t n (acc ++ [c]) x (by simp at hl; omega) (fun d hd => ht d (List.mem_cons_of_mem _ hd)) hx
      have hc := ht c (List.mem_cons_self ..)
      unfold esc
      by_cases h : c = 34
      · subst h
        rw [if_pos rfl]
        unfold rdText
        rw [if_pos (by rfl), if_pos (by rfl)]
        show rdText n (acc ++ [34]) (esc t ++ 34 :: x) = _
        rw [ih]
        simp
      · rw [if_neg h]
        unfold rdText
        rw [if_neg (show ¬ (c :: esc t ++ 34 :: x).head? = some 34 by simpa using h), if_pos (show headP isLet (c :: esc t ++ 34 :: x) = true by simp [headP, isLet]; omega)]
        show rdText n (acc ++ [c]) (esc t ++ 34 :: x) = _
        rw [ih]
        simp
/-- less is known -/
def le : Kn → Kn → Prop
  | .no, _ => True
  | .list a, .list b => le a b
  | .int, .int => True
  | .bool, .bool => True
  | .text, .text => True
  | .nothing, .nothing => True
  | _, _ => False
theorem le_refl : ∀ k : Kn, le k k
  | .no => trivial
  | .int => trivial
  | .bool => trivial
  | .text => trivial
  | .nothing => trivial
  | .list k => le_refl k
theorem sh_head {v : Vl} : ∃ d r, sh v = d :: r ∧ d ≠ 93 := by
  cases v with
  | int i =>
    unfold sh shI
    split
    · exact ⟨45, _, rfl, by decide⟩
    · obtain ⟨d, r, h1, h2, _⟩ := numL_head i.natAbs
      refine ⟨d, r, h1, ?_⟩
      simp [isDig] at h2
      omega
  | bool b => cases b <;> exact ⟨_, _, rfl, by decide⟩
  | text t => exact ⟨34, _, rfl, by decide⟩
  | nothing => exact ⟨_, _, rfl, by decide⟩
  | list vs => exact ⟨91, _, rfl, by decide⟩
theorem items_back {T : Kn} {m : Nat} (hr : ∀ (v : Vl) (w : Kn) (x : List Nat), fitsV v T = true → gv v → le w T → Stop x → ∃ k, rdAt m w (sh v ++ x) = .ok (v, k) x ∧ le k T) :
    ∀ (vs : List Vl) (n : Nat) (acc : List Vl) (k : Kn) (x : List Nat), vs ≠ [] → vs.length ≤ n → fitsVs vs T = true → gvs vs → le k T → ∃ k', rdItems (rdAt m) n acc k (TL.joinL [44, 32] (shs vs) ++ 93 :: x) = .ok (.list (acc ++ vs), .list k') x ∧ le k' T
  | [], n, acc, k, x, hne, _, _, _, _ => (hne rfl).elim
  | [v], n, acc, k, x, hne, hl, hf, hg, hk => by
    cases n with
    | zero => simp at hl
    | succ n =>
      obtain ⟨k1, h1, h2⟩ := hr v k (93 :: x) (by simpa [fitsVs] using hf) hg.1 hk Stop.close
      refine ⟨k1, ?_, h2⟩
      unfold rdItems
      rw [show TL.joinL [44, 32] (shs [v]) ++ 93 :: x = sh v ++ 93 :: x from rfl, h1]
      simp only
      rw [if_pos (by rfl)]
      rfl
  | v :: u :: vs, n, acc, k, x, hne, hl, hf, hg, hk => by
    cases n with
    | zero => simp at hl
    | succ n =>
      have hf' : fitsV v T = true ∧ fitsVs (u :: vs) T = true := by simpa [fitsVs] using hf
      have hst : Stop (44 :: 32 :: (TL.joinL [44, 32] (shs (u :: vs)) ++ 93 :: x)) := fun d h => by cases h; exact .inr rfl
      obtain ⟨k1, h1, h2⟩ := hr v k _ hf'.1 hg.1 hk hst
      obtain ⟨k2, h3, h4⟩ := items_back hr (u :: vs) n (acc ++ [v]) k1 x (by simp) (by simp at hl ⊢; omega) hf'.2 hg.2 h2
      refine ⟨k2, ?_, h4⟩
      have e0 : TL.joinL [44, 32] (shs (v :: u :: vs)) ++ 93 :: x = sh v ++ 44 :: 32 :: (TL.joinL [44, 32] (shs (u :: vs)) ++ 93 :: x) := by
        show TL.joinL [44, 32] (sh v :: shs (u :: vs)) ++ _ = _
        rw [joinL_cons2 _ _ _ (by simp [shs])]
        simp
      rw [e0, items_next h1 (by simp at hl; omega), h3]
      simp
/-- a value of a type is read back, whatever of the type is known -/
theorem read_back : ∀ (T : Kn) (m : Nat) (v : Vl) (w : Kn) (x : List Nat), gk T = true → kd T ≤ m → fitsV v T = true → gv v → le w T → Stop x → ∃ k, rdAt m w (sh v ++ x) = .ok (v, k) x ∧ le k T
  | .no, m, v, w, x, hT, _, _, _, _, _ => by cases hT
  | .int, m, v, w, x, hT, hm, hf, hg, hw, hx => by
    cases v <;> simp [fitsV] at hf
    rename_i i
    obtain ⟨h1, d, r, h2, h3⟩ := rdNum_back (i := i) hg hx
    have hd : d ≠ 91 ∧ d ≠ 34 := by
      rcases h3 with rfl | h3
      · decide
      · simp [isDig] at h3; omega
    refine ⟨.int, ?_, trivial⟩
    have hs : sh (.int i) = shI i := by simp [sh]
    rw [hs, flat_at (by rw [h2]; simp [hd.1])]
    unfold rdFlat
    have hwi : wI w = true := by cases w <;> simp [le, wI] at hw ⊢
    rw [if_neg (by rw [h2]; simp [hd.2]), if_pos ⟨by rw [h2]; simpa [headP] using h3, hwi⟩, h1]
    rfl
  | .bool, m, v, w, x, hT, hm, hf, hg, hw, hx => by
    cases v <;> simp [fitsV] at hf
    rename_i b
    have hwb : wBo w = true := by cases w <;> simp [le, wBo] at hw ⊢
    refine ⟨.bool, ?_, trivial⟩
    cases b
    · rw [show sh (.bool false) = wFalse by simp [sh], flat_at (by simp)]
      unfold rdFlat
      rw [if_neg (by simp), if_neg (by simp [headP, isDig]), if_neg (by simp), if_pos ⟨by simp, hwb⟩, word_ok]
      rfl
    · rw [show sh (.bool true) = wTrue by simp [sh], flat_at (by simp)]
      unfold rdFlat
      rw [if_neg (by simp), if_neg (by simp [headP, isDig]), if_pos ⟨by simp, hwb⟩, word_ok]
      rfl
  | .nothing, m, v, w, x, hT, hm, hf, hg, hw, hx => by
    cases v <;> simp [fitsV] at hf
    have hwn : wN w = true := by cases w <;> simp [le, wN] at hw ⊢
    refine ⟨.nothing, ?_, trivial⟩
    rw [show sh .nothing = wNothing by simp [sh], flat_at (by simp)]
    unfold rdFlat
    rw [if_neg (by simp), if_neg (by simp [headP, isDig]), if_neg (by simp), if_neg (by simp), if_pos ⟨by simp, hwn⟩, word_ok]
    rfl
  | .text, m, v, w, x, hT, hm, hf, hg, hw, hx => by
    cases v <;> simp [fitsV] at hf
    rename_i t
    have hwt : wT w = true := by cases w <;> simp [le, wT] at hw ⊢
    refine ⟨.text, ?_, trivial⟩
    have hb := rdText_back t 60 [] x hg.1 hg.2 hx
    have e0 : sh (.text t) ++ x = 34 :: (esc t ++ 34 :: x) := by simp [sh]
    rw [e0, flat_at (by simp)]
    unfold rdFlat
    rw [if_pos ⟨by simp, hwt⟩]
    show (rdText 60 [] (esc t ++ 34 :: x)).map _ = _
    rw [hb]
    rfl
  | .list T, 0, v, w, x, hT, hm, hf, hg, hw, hx => by simp [kd] at hm
  | .list T, m + 1, v, w, x, hT, hm, hf, hg, hw, hx => by
    cases v <;> simp [fitsV] at hf
    rename_i vs
    have hwl : wL w = true ∧ le (sub w) T := by
      cases w <;> simp [le, wL, sub] at hw ⊢
      exact hw
    have e0 : sh (.list vs) ++ x = 91 :: (TL.joinL [44, 32] (shs vs) ++ 93 :: x) := by simp [sh]
    rw [e0]
    unfold rdAt
    rw [if_pos ⟨by simp, hwl.1⟩]
    show ∃ k, rdList (rdAt m) (sub w) (TL.joinL [44, 32] (shs vs) ++ 93 :: x) = _ ∧ _
    unfold rdList
    cases vs with
    | nil =>
      refine ⟨.list (sub w), ?_, hwl.2⟩
      rw [if_pos (by rfl)]
      rfl
    | cons v vs =>
      have hh : ¬ (TL.joinL [44, 32] (shs (v :: vs)) ++ 93 :: x).head? = some 93 := by
        obtain ⟨d, r, h1, h2⟩ := sh_head (v := v)
        have : ∃ q, TL.joinL [44, 32] (shs (v :: vs)) = sh v ++ q := by
          cases vs with
          | nil => exact ⟨[], by simp [shs, TL.joinL]⟩
          | cons u vs => exact ⟨_, joinL_cons2 _ _ _ (by simp [shs])⟩
        obtain ⟨q, hq⟩ := this
        rw [hq, h1]
        simpa using h2
      rw [if_neg hh]
      obtain ⟨k', h1, h2⟩ := items_back (T := T) (m := m) (fun u w x a b c d => read_back T m u w x hT (by simp only [kd] at hm; omega) a b c d) (v :: vs) 20 [] (sub w) x (by simp) hg.1 hf hg.2 hwl.2
      exact ⟨.list k', h1, h2⟩
end J11

/-! is a text whole; does one begin so -/
namespace J11
open PySem PySem.Spec PyProof.Rows L2 IL SX
def isOk : Ro Vl → Bool
  | .ok _ _ => true
  | .er _ => false
/-- kinds that the law wants -/
def Wk (w : Kn) : Prop := w = .no ∨ (gk w = true ∧ kd w ≤ 6)
theorem Wk.kd {w : Kn} (h : Wk w) : kd w ≤ 6 := by
  rcases h with rfl | h
  · simp [J11.kd]
  · exact h.2
theorem rdTop_ok {w : Kn} {l r : List Nat} {v : Vl} (h : rdTop w l = .ok v r) : l = sh v ∧ gv v ∧ vd v ≤ 6 ∧ (gk w = true → fitsV v w = true) := by
  unfold rdTop at h
  cases ho : rdAt 6 w l with
  | er r => rw [ho] at h; cases h
  | ok a r1 =>
    obtain ⟨v1, k⟩ := a
    rw [ho] at h
    simp only at h
    split at h
    · rename_i hr
      subst hr
      cases h
      have so := rdAt_so 6 w l [] _ k ho
      exact ⟨by have := so.form; rwa [List.append_nil] at this, so.good, so.deep, fun hw => (so.kind hw).1⟩
    · cases h
section
variable {n : Nat} {st : Sto} {l : List Nat} {w : Kn}
/-! ### the ends -/
theorem srcR_at {m : Nat} {st : Sto} {i : Nat} : (srcR 0 m).at_ st i = some (((List.range m).map fun j : Nat => PV.int (j : Int))[i]?) := by
  simp only [srcR, List.getElem?_map, Option.some.injEq]
  by_cases hi : i < m
  · rw [if_pos hi, List.getElem?_range hi]; simp
  · rw [if_neg hi, List.getElem?_eq_none (by simpa using hi)]; rfl
theorem range1_i {ir : IA} {env : PEnv} {s st1 : Sto} {j : Int} (h : ir env s = some ([.int j], st1)) (h0 : 0 ≤ j) (h1 : j < 9000000) : iRange1 ir env s = some (srcR 0 j.toNat, st1) := by
  have hb : big j = true := by unfold big; simp only [Bool.and_eq_true, decide_eq_true_eq]; omega
  unfold iRange1
  rw [h, ob_s]
  simp only [hb, if_true]
open Classical in
/-- a loop over places, ended where one is found -/
theorem loop_any {at_ : Sto → Nat → Option (Option PV)} {ig : IG} {body : IS} {N : Nat} (it : Nat → PV) (P : Nat → Bool) (I : PEnv → Prop) (h1 : ∀ i, i < N → at_ st i = some (some (it i))) (h2 : at_ st N = some none)
    (hb : ∀ i e, i < N → I e → ∃ e1, ig (it i) e st = some e1 ∧ (if P i then body e1 st = some (.rt (.bl true) st) else ∃ e2, I e2 ∧ body e1 st = some (.nx e2 st))) :
    ∀ (m i : Nat) (e : PEnv), i + m = N + 1 → i ≤ N → I e → if (∃ j, i ≤ j ∧ j < N ∧ P j = true) then loop at_ ig body m i e st = some (.rt (.bl true) st) else ∃ e2, I e2 ∧ loop at_ ig body m i e st = some (.nx e2 st)
  | 0, i, e, hm, hi, he => by omega
  | m + 1, i, e, hm, hi, he => by
    by_cases hN : i = N
    · subst hN
      rw [if_neg (by rintro ⟨j, h3, h4, _⟩; omega)]
      refine ⟨e, he, ?_⟩
      unfold loop
      rw [h2]
    · obtain ⟨e1, h3, h4⟩ := hb i e (by omega) he
      cases hp : P i with
      | true =>
        rw [if_pos ⟨i, Nat.le_refl _, by omega, hp⟩]
        rw [hp, if_pos rfl] at h4
        unfold loop
        rw [h1 i (by omega)]
        simp only [h3, h4]
      | false =>
        rw [hp, if_neg Bool.false_ne_true] at h4
        obtain ⟨e2, he2, h4⟩ := h4
        have ih := loop_any it P I h1 h2 hb m (i + 1) e2 (by omega) (by omega) he2
        have key : loop at_ ig body (m + 1) i e st = loop at_ ig body m (i + 1) e2 st := by
          rw [loop, h1 i (by omega)]
          simp only [h3, h4]
        rw [key]
        by_cases hx : ∃ j, i + 1 ≤ j ∧ j < N ∧ P j = true
        · rw [if_pos hx] at ih
          obtain ⟨j, g1, g2, g3⟩ := hx
          rw [if_pos ⟨j, by omega, g2, g3⟩]
          exact ih
        · rw [if_neg hx] at ih
          rw [if_neg]
          · exact ih
          · rintro ⟨j, g1, g2, g3⟩
            by_cases hj : j = i
            · subst hj
              rw [hp] at g3
              cases g3
            · exact hx ⟨j, by omega, g2, g3⟩
abbrev strP (e : List Nat) : PV := .str (S e)
theorem asg_seq {i : Nat} {ie : IE} {env : PEnv} {x : PV} {q : IS} {s2 : Sto} (h : ie env st = some (x, s2)) : iSeq (iAsg (gN i) ie) q env st = q (env.set i (some x)) s2 := by
  rw [iSeq_e, iAsg_e, h]
  rfl
theorem filter_yes {α : Type} {xs : List α} : (xs.filter fun _ => true) = xs := by simp
theorem close_mul {c : Nat} (h : c < 7) : fMulA (.str S_x5d) (.int (c : Int)) st = some (strP (List.replicate c 93), st) := by
  have h0 : Txt.mul S_x5d 0 = S (List.replicate 0 93) := by decide +kernel
  have h1 : Txt.mul S_x5d 1 = S (List.replicate 1 93) := by decide +kernel
  have h2 : repStr S_x5d 2 = S (List.replicate 2 93) := by decide +kernel
  have h3 : repStr S_x5d 3 = S (List.replicate 3 93) := by decide +kernel
  have h4 : repStr S_x5d 4 = S (List.replicate 4 93) := by decide +kernel
  have h5 : repStr S_x5d 5 = S (List.replicate 5 93) := by decide +kernel
  have h6 : repStr S_x5d 6 = S (List.replicate 6 93) := by decide +kernel
  have hl : (S_x5d).length = 1 := by decide +kernel
  have rp : ∀ k : Nat, 2 ≤ k → k < 7 → fMulA (.str S_x5d) (.int (k : Int)) st = some (.str (repStr S_x5d k), st) := fun k g1 g2 => by
    rw [fMulA_s (by unfold cRep; rw [hl]; simp; omega), Int.toNat_natCast]
  match c, h with
  | 0, _ => rw [fMulA_s1 (by omega) (by omega)]; exact congrArg (fun z => some (PV.str z, st)) h0
  | 1, _ => rw [fMulA_s1 (by omega) (by omega)]; exact congrArg (fun z => some (PV.str z, st)) h1
  | 2, _ => rw [rp 2 (by omega) (by omega), h2]
  | 3, _ => rw [rp 3 (by omega) (by omega), h3]
  | 4, _ => rw [rp 4 (by omega) (by omega), h4]
  | 5, _ => rw [rp 5 (by omega) (by omega), h5]
  | 6, _ => rw [rp 6 (by omega) (by omega), h6]
theorem open_mul {c : Nat} (h : c < 7) : fMulA (.str S_x5b) (.int (c : Int)) st = some (strP (List.replicate c 91), st) := by
  have h0 : Txt.mul S_x5b 0 = S (List.replicate 0 91) := by decide +kernel
  have h1 : Txt.mul S_x5b 1 = S (List.replicate 1 91) := by decide +kernel
  have h2 : repStr S_x5b 2 = S (List.replicate 2 91) := by decide +kernel
  have h3 : repStr S_x5b 3 = S (List.replicate 3 91) := by decide +kernel
  have h4 : repStr S_x5b 4 = S (List.replicate 4 91) := by decide +kernel
  have h5 : repStr S_x5b 5 = S (List.replicate 5 91) := by decide +kernel
  have h6 : repStr S_x5b 6 = S (List.replicate 6 91) := by decide +kernel
  have hl : (S_x5b).length = 1 := by decide +kernel
  have rp : ∀ k : Nat, 2 ≤ k → k < 7 → fMulA (.str S_x5b) (.int (k : Int)) st = some (.str (repStr S_x5b k), st) := fun k g1 g2 => by
    rw [fMulA_s (by unfold cRep; rw [hl]; simp; omega), Int.toNat_natCast]
  match c, h with
  | 0, _ => rw [fMulA_s1 (by omega) (by omega)]; exact congrArg (fun z => some (PV.str z, st)) h0
  | 1, _ => rw [fMulA_s1 (by omega) (by omega)]; exact congrArg (fun z => some (PV.str z, st)) h1
  | 2, _ => rw [rp 2 (by omega) (by omega), h2]
  | 3, _ => rw [rp 3 (by omega) (by omega), h3]
  | 4, _ => rw [rp 4 (by omega) (by omega), h4]
  | 5, _ => rw [rp 5 (by omega) (by omega), h5]
  | 6, _ => rw [rp 6 (by omega) (by omega), h6]
end
end J11

/-! the law's draws -/
namespace J11
open PySem PySem.Spec PyProof.Rows L2 IL SX
structure LS (st : Sto) (s c : Nat) : Prop where
  ne : s ≠ c
  ex : ∃ (a : Int) (cells : List Int), st[s]? = some (.lst [.ref c, .int a]) ∧ st[c]? = some (.lst (cells.map .int)) ∧ (∀ x ∈ cells, 0 ≤ x) ∧ cells.length ≤ 63
structure Mv (s c : Nat) (st st' : Sto) : Prop where
  len : st'.length = st.length
  eq : ∀ i, i ≠ s → i ≠ c → st'[i]? = st[i]?
  ls : LS st' s c
section
variable {n s c : Nat} {st st1 st2 : Sto}
theorem Mv.refl (h : LS st s c) : Mv s c st st := ⟨rfl, fun _ _ _ => rfl, h⟩
theorem Mv.trans (a : Mv s c st st1) (b : Mv s c st1 st2) : Mv s c st st2 := ⟨b.len.trans a.len, fun i h k => (b.eq i h k).trans (a.eq i h k), b.ls⟩
theorem at_set {d : Nat} {o o' : SO} (h : st[d]? = some o) : (st.set d o')[d]? = some o' := List.getElem?_set_self (lt_of_at h)
theorem set_same {d : Nat} {o : SO} (h : st[d]? = some o) : st.set d o = st := by
  apply List.ext_getElem?
  intro i
  by_cases e : d = i
  · subst e
    rw [List.getElem?_set_self (lt_of_at h), h]
  · rw [List.getElem?_set_ne e]
noncomputable def dC : IT := (iAnd (iTestB (iBin fGt (iCall (a1 fLenB) (iCons (iVar 2) iNil)) (iC (.int 0)))) (iTestB (iBin fEqB (iBin fSubB (iVar 2) (iC (.int 0))) (iC (.int 0)))))
noncomputable def dB : IS := (iDrop (iPop0 (iVar 2) (iC (.int 0))))
theorem pops {mm : Int} {o3 o4 : Option PV} : ∀ (cells : List Int) (m : Nat) (st : Sto), st[c]? = some (.lst (cells.map .int)) →
    wloop dC dB (m + cells.length + 1) [some (.ref s), some (.int mm), some (.ref c), o3, o4] st
      = some (.nx [some (.ref s), some (.int mm), some (.ref c), o3, o4] (st.set c (.lst ((cells.dropWhile fun x => x == 0).map .int))))
  | [], m, st, h => by
    have hl := fLenB_l h
    have hs : st.set c (.lst ((([] : List Int).dropWhile fun x => x == 0).map .int)) = st := set_same h
    rw [hs]
    simp at hl
    unfold wloop
    simp [dC, hl]
  | x :: xs, m, st, h => by
    have hl := fLenB_l h
    have h0 := fSubB_l (i := 0) h
    have hp : (0 : Int) < ((xs.length : Int) + 1) := by omega
    by_cases hx : x = 0
    · subst hx
      have ih := pops (mm := mm) (o3 := o3) (o4 := o4) xs m (st.set c (.lst (xs.map .int))) (at_set h)
      rw [List.set_set] at ih
      simp at hl h0 h
      show wloop _ _ (m + xs.length + 1 + 1) _ _ = _
      conv => lhs; unfold wloop
      simp [dC, dB, hl, h0, hp, iPop0, h]
      exact ih
    · have hx2 : (x == 0) = false := by simpa using hx
      have hd : (x :: xs).dropWhile (fun x => x == 0) = x :: xs := by simp [List.dropWhile_cons, hx2]
      rw [hd, set_same h]
      simp at hl h0
      show wloop _ _ (m + xs.length + 1 + 1) _ _ = _
      conv => lhs; unfold wloop
      simp [dC, hl, h0, hp, hx2]
theorem e_draw (m : Int) (hm : 1 ≤ m) (hm2 : m ≤ 1000000000) (L : LS st s c) : ∃ r st', FF (n + 1) I__law_draw [.ref s, .int m] st = some (.int r, st') ∧ 0 ≤ r ∧ r < m ∧ Mv s c st st' := by
  rw [e__law_draw]
  obtain ⟨ne, a, cells, h1, h2, h3, h4⟩ := L
  obtain ⟨k, hw⟩ := iWhile_at (cells.length + 1) (by omega)
  have hp := pops (s := s) (mm := m) (o3 := none) (o4 := none) cells k st h2
  have hsub : ∀ x ∈ cells.dropWhile (fun x => x == 0), 0 ≤ x := fun x hx => h3 x ((List.dropWhile_sublist _).mem hx)
  have hlen : (cells.dropWhile (fun x => x == 0)).length ≤ 63 := Nat.le_trans (List.dropWhile_sublist _).length_le h4
  generalize hq : cells.dropWhile (fun x => x == 0) = cs at *
  have b1 : (st.set c (.lst (cs.map .int)))[s]? = some (.lst [.ref c, .int a]) := by rw [List.getElem?_set_ne (fun e => ne e.symm)]; exact h1
  have b2 : (st.set c (.lst (cs.map PV.int)))[c]? = some (.lst (cs.map .int)) := at_set h2
  have hF1 : (st.set c (.lst (cs.map .int))).length = st.length := by simp
  have hF2 : ∀ i, i ≠ s → i ≠ c → (st.set c (.lst (cs.map .int)))[i]? = st[i]? := fun i _ hi => List.getElem?_set_ne (Ne.symm hi)
  generalize hs1 : st.set c (.lst (cs.map PV.int)) = s1 at *
  have e0 := fSubB_l (i := 0) h1
  have e1 := fSubB_l (i := 1) b1
  have e2 := fLenB_l b2
  have m1 : ¬ m < 1 := by omega
  have m0 : m ≠ 0 := by omega
  have hd : ∀ v : Int, cDiv v m = true := fun v => by
    unfold cDiv
    simp only [Bool.and_eq_true, decide_eq_true_eq]
    omega
  simp only [Nat.add_assoc] at hp
  unfold dC dB at hp
  cases cs with
  | nil =>
    have hmul : cMul a 48271 = true := by
      unfold cMul
      simp
    have h64 : ∀ v : Int, cDiv v 64 = true := fun v => by
      unfold cDiv
      simp
    obtain ⟨r0, r1⟩ := fmod_b (a := ((a * 48271 + 12345).fmod 2147483647).fdiv 64) (b := m) (by omega)
    have hset := fSetA_l (k := 1) (v := .int ((a * 48271 + 12345).fmod 2147483647)) b1 (ixN_in (by omega) (by simp))
    refine ⟨_, s1.set s (.lst [.ref c, .int ((a * 48271 + 12345).fmod 2147483647)]), def_same rfl ?_ (by simp [hF1]), r0, r1, ⟨by simp [hF1], fun i hi hi2 => ?_, ⟨ne, _, [], at_set b1, by rw [List.getElem?_set_ne ne]; exact b2, by simp, by simp⟩⟩⟩
    · simp at e0 e1 e2 hset
      simp [b__law_draw, m1, e0, hw, hp, e2, e1, hmul, hset, h64, m0]
    · rw [List.getElem?_set_ne (Ne.symm hi)]
      exact hF2 i hi hi2
  | cons v vs =>
    have e3 := fSubB_l (i := 0) b2
    obtain ⟨r0, r1⟩ := fmod_b (a := v) (b := m) (by omega)
    have v0 := hsub v List.mem_cons_self
    have hset := fSetA_l (k := 0) (v := .int (v.fdiv m)) b2 (ixN_in (by omega) (by simp))
    have hl : (0 : Int) < (vs.length : Int) + 1 := by omega
    have hdv : 0 ≤ v.fdiv m := by
      rw [Int.fdiv_eq_ediv_of_nonneg v (by omega)]
      exact Int.ediv_nonneg v0 (by omega)
    refine ⟨_, s1.set c (.lst ((v.fdiv m :: vs).map .int)), def_same rfl ?_ (by simp [hF1]), r0, r1, ⟨by simp [hF1], fun i hi hi2 => ?_, ⟨ne, a, v.fdiv m :: vs, by rw [List.getElem?_set_ne (fun e => ne e.symm)]; exact b1, at_set b2, ?_, hlen⟩⟩⟩
    · simp at e0 e1 e2 e3 hset
      simp [b__law_draw, m1, e0, hw, hp, e2, e3, hset, hd, m0, hl]
    · rw [List.getElem?_set_ne (Ne.symm hi2)]
      exact hF2 i hi hi2
    · intro x hx
      rcases List.mem_cons.mp hx with rfl | hx
      · exact hdv
      · exact hsub x (List.mem_cons_of_mem _ hx)
theorem e_pick {xs : List PV} (h1 : xs ≠ []) (h2 : xs.length ≤ 1000) (hx : nrs xs = true) (L : LS st s c) : ∃ x st', FF (n + 2) I__law_pick [.ref s, .frz xs] st = some (x, st') ∧ x ∈ xs ∧ Mv s c st st' := by
  rw [e__law_pick]
  have hl : 0 < xs.length := List.length_pos_iff.mpr h1
  obtain ⟨r, st', e, r0, r1, M⟩ := e_draw (n := n) (xs.length : Int) (by omega) (by omega) L
  obtain ⟨x, hx, ha⟩ := atI_in (xs := xs) r0 r1
  refine ⟨x, st', def_same rfl ?_ M.len, hx, M⟩
  simp [b__law_pick, e, ha]
end
end J11

/-! drawn types and values -/
namespace J11
open PySem PySem.Spec PyProof.Rows L2 IL SX
section
variable {n s c : Nat} {st st1 st2 : Sto}
theorem LS.lt (h : LS st s c) : s < st.length ∧ c < st.length := by
  obtain ⟨a, cells, h1, h2, _⟩ := h.ex
  exact ⟨lt_of_at h1, lt_of_at h2⟩
theorem LS.of_eq (h : LS st s c) (hs : st1[s]? = st[s]?) (hc : st1[c]? = st[c]?) : LS st1 s c := by
  obtain ⟨a, cells, h1, h2, h3⟩ := h.ex
  exact ⟨h.ne, a, cells, by rw [hs]; exact h1, by rw [hc]; exact h2, h3⟩
theorem Mv.old {l : Sto} (M : Mv s c st st1) : ∀ i so, i < st.length → (st1 ++ l)[i]? = some so → st[i]? = some so ∨ rltO st.length so := fun i so hi e => by
  rw [List.getElem?_append_left (by rw [M.len]; exact hi)] at e
  obtain ⟨a, cells, g1, g2, _⟩ := M.ls.ex
  by_cases h1 : i = s
  · subst h1
    rw [g1] at e; cases e
    have := lt_of_at g2
    rw [M.len] at this
    exact .inr ⟨this, trivial, trivial⟩
  · by_cases h2 : i = c
    · subst h2
      rw [g2] at e; cases e
      exact .inr (rlts_nr _ (nrs_map fun x _ => by simp [nr]))
    · exact .inl (by rw [← M.eq i h1 h2]; exact e)
/-- a new list, whose making draws -/
theorem new_draw {ia : IE} {env : PEnv} {xs : List PV} {l : Sto} (M : Mv s c st st1) (h : ia env st = some (.ref st1.length, st1 ++ [.lst xs] ++ l)) (hx : nrs xs = true) : iNew ia env st = some (.frz xs, st1) := by
  rw [new_ch h at_mid (by rw [M.len]; exact Nat.le_refl _) hx (by rw [List.append_assoc]; exact M.old), List.append_assoc, ← M.len, List.take_left']
  rfl
structure LI (s c d N : Nat) (P : Nat → PV → Prop) (s1 : Sto) (i : Nat) (acc : List PV) (S : Sto) : Prop where
  len : S.length = s1.length + 1
  eq : ∀ j, j < s1.length → j ≠ s → j ≠ c → S[j]? = s1[j]?
  ls : LS S s c
  at_ : S[s1.length]? = some (.lst acc)
  al : acc.length = i
  p : ∀ y ∈ acc, ∃ k, k < N ∧ P k y
theorem lc_draw {N : Nat} {it : Nat → PV} {src : Src} {ii : II} {ig : IG} {t : IT} {e : IE} {vs : List Nat} {env : PEnv} (P : Nat → PV → Prop) (hP : ∀ i y, P i y → nr y = true) (hi : ii env st = some (src, st1)) (M : Mv s c st st1) (hn : src.n = N) (hN : N ≤ 1000) (h1 : ∀ S i, i < N → src.at_ S i = some (some (it i))) (h2 : ∀ S, src.at_ S N = some none)
    (step : ∀ i, i < N → ∀ S, LS S s c → ∃ env1 y S', ig (it i) (wipeE env vs) S = some env1 ∧ t env1 S = some (true, S) ∧ e env1 S = some (y, S') ∧ Mv s c S S' ∧ P i y) :
    ∃ ys st', iNew (iLc ii ig t e vs) env st = some (.frz ys, st') ∧ Mv s c st st' ∧ ys.length = N ∧ ∀ y ∈ ys, ∃ k, k < N ∧ P k y := by
  obtain ⟨ls1, lc1⟩ := M.ls.lt
  obtain ⟨acc, S, hl, I⟩ := lc_inv (at_ := src.at_) (ig := ig) (t := t) (e := e) (d := st1.length) (envw := wipeE env vs) (LI s c st1.length N P st1) N (fun acc S _ => h2 S) (fun i acc S hi I => by
    obtain ⟨env1, y, S', g1, g2, g3, M2, p⟩ := step i hi S I.ls
    have hd : S'[st1.length]? = some (.lst acc) := by rw [M2.eq _ (by omega) (by omega)]; exact I.at_
    refine ⟨it i, env1, y, S', h1 S i hi, g1, g2, g3, hd, by rw [I.al]; omega, ?_⟩
    refine ⟨by rw [List.length_set, M2.len]; exact I.len, fun j hj hs hc => ?_, ?_, at_set hd, by rw [List.length_append, I.al]; rfl, fun z hz => ?_⟩
    · rw [List.getElem?_set_ne (by omega), M2.eq j hs hc]; exact I.eq j hj hs hc
    · exact M2.ls.of_eq (List.getElem?_set_ne (by omega)) (List.getElem?_set_ne (by omega))
    · rcases List.mem_append.mp hz with hz | hz
      · exact I.p z hz
      · rw [List.mem_singleton] at hz; subst hz; exact ⟨i, hi, p⟩) (N + 1) 0 [] (st1 ++ [.lst []])
    ⟨by simp, fun j hj _ _ => List.getElem?_append_left hj, M.ls.of_eq (List.getElem?_append_left ls1) (List.getElem?_append_left lc1), new_at, rfl, fun y hy => by cases hy⟩ (Nat.zero_le _) (by omega)
  have hlc : iLc ii ig t e vs env st = some (.ref st1.length, S) := by
    unfold iLc
    rw [hi, ob_s, hn, hl]; rfl
  have hLS : LS (S.take st.length) s c := I.ls.of_eq (by rw [List.getElem?_take_of_lt (by rw [← M.len]; exact ls1)]) (by rw [List.getElem?_take_of_lt (by rw [← M.len]; exact lc1)])
  have hMv : Mv s c st (S.take st.length) := by
    refine ⟨by rw [List.length_take, I.len, M.len]; omega, fun i hs hc => ?_, hLS⟩
    by_cases hi : i < st.length
    · rw [List.getElem?_take_of_lt hi, I.eq i (by rw [M.len]; exact hi) hs hc, M.eq i hs hc]
    · rw [List.getElem?_eq_none (by rw [List.length_take]; omega), List.getElem?_eq_none (by omega)]
  refine ⟨acc, S.take st.length, ?_, hMv, I.al, I.p⟩
  refine new_ch hlc I.at_ (by rw [M.len]; exact Nat.le_refl _) (nrs_all fun y hy => by
    obtain ⟨k, _, hp⟩ := I.p y hy
    exact hP k y hp) fun i so hi e => hMv.old (l := []) i so hi (by rw [List.append_nil, List.getElem?_take_of_lt hi]; exact e)
theorem p12 : fPow (.int 10) (.int 12) st = some (.int 1000000000000, st) := by
  unfold fPow
  rfl
theorem kinds_new {env : PEnv} : iNew (iLst (iCons (iC (.str S_int)) (iCons (iC (.str S_bool)) (iCons (iC (.str S_text)) (iCons (iC (.str S_nothing)) iNil))))) env st = some (.frz [.str S_int, .str S_bool, .str S_text, .str S_nothing], st) :=
  new_l (by simp) (by simp [nrs, nr])
theorem pick_kind (L : LS st s c) : ∃ k st', FF (n + 2) I__law_pick [.ref s, .frz [.str S_int, .str S_bool, .str S_text, .str S_nothing]] st = some (pk k, st') ∧ gk k = true ∧ kd k = 0 ∧ Mv s c st st' := by
  obtain ⟨x, st', e, hx, M⟩ := e_pick (n := n) (xs := [.str S_int, .str S_bool, .str S_text, .str S_nothing]) (by simp) (by simp) (by simp [nrs, nr]) L
  simp only [List.mem_cons, List.not_mem_nil, or_false] at hx
  rcases hx with rfl | rfl | rfl | rfl
  · exact ⟨.int, st', e, rfl, rfl, M⟩
  · exact ⟨.bool, st', e, rfl, rfl, M⟩
  · exact ⟨.text, st', e, rfl, rfl, M⟩
  · exact ⟨.nothing, st', e, rfl, rfl, M⟩
theorem e_ty : ∀ (deep n : Nat) (st : Sto), LS st s c → ∃ k st', FF (n + deep + 3) I__law_type [.ref s, .int deep] st = some (pk k, st') ∧ gk k = true ∧ kd k ≤ deep ∧ Mv s c st st'
  | 0, n, st, L => by
    rw [e__law_type]
    obtain ⟨k, st', e, hg, hk, M⟩ := pick_kind (n := n) L
    refine ⟨k, st', def_same rfl ?_ M.len, hg, by omega, M⟩
    simp only [b__law_type, List.map_cons, List.map_nil, List.cons_append, List.nil_append, List.replicate, iSeq_e, iIfS_e, iAnd_e, iTestB_e, iBin_e, iVar_e, iC_e, ob_s, List.getElem?_cons_succ, List.getElem?_cons_zero, fGt_i, isBl_e, Option.map_some, iSkip_e, iRet_e, iCall_e, iCons_e, iNil_e]
    simp [kinds_new, e]
  | d + 1, n, st, L => by
    rw [show n + (d + 1) + 3 = (n + d + 3) + 1 by omega, e__law_type]
    obtain ⟨r, s1, a1, a2, a3, M1⟩ := e_draw (n := n + d + 2) 3 (by omega) (by omega) L
    have hp : (0 : Int) < ((d + 1 : Nat) : Int) := by omega
    have hd : ((d + 1 : Nat) : Int) - 1 = (d : Int) := by omega
    by_cases h0 : r = 0
    · subst h0
      obtain ⟨k, s2, b1, b2, b3, M2⟩ := e_ty d n s1 M1.ls
      refine ⟨.list k, s2, def_same rfl ?_ (M1.trans M2).len, b2, by simp only [kd]; omega, M1.trans M2⟩
      simp only [b__law_type, List.map_cons, List.map_nil, List.cons_append, List.nil_append, List.replicate, iSeq_e, iIfS_e, iAnd_e, iTestB_e, iBin_e, iVar_e, iC_e, ob_s, List.getElem?_cons_succ, List.getElem?_cons_zero, fGt_i, decide_eq_true hp, isBl_e, Option.map_some, iCall_e, iCons_e, iNil_e, a1, fEqB_e, eqB_int, eqP_i, beq_self_eq_true, iRet_e, iTup_e, fSub_i, hd, b1]
      simp [pk]
    · have h00 : (r == 0) = false := by simpa using h0
      obtain ⟨k, s2, e, hg, hk, M2⟩ := pick_kind (n := n + d + 1) M1.ls
      refine ⟨k, s2, def_same rfl ?_ (M1.trans M2).len, hg, by omega, M1.trans M2⟩
      simp only [b__law_type, List.map_cons, List.map_nil, List.cons_append, List.nil_append, List.replicate, iSeq_e, iIfS_e, iAnd_e, iTestB_e, iBin_e, iVar_e, iC_e, ob_s, List.getElem?_cons_succ, List.getElem?_cons_zero, fGt_i, decide_eq_true hp, isBl_e, Option.map_some, iCall_e, iCons_e, iNil_e, a1, fEqB_e, eqB_int, eqP_i, h00, iRet_e, iSkip_e, kinds_new, e]
/-! ### values -/
def BL : Nat → Nat
  | 0 => 122
  | 1 => 2482
  | d + 2 => 3 * (BL (d + 1) + 2) + 2
theorem BL_mono : ∀ d, BL d ≤ BL (d + 1)
  | 0 => by decide
  | d + 1 => by
    show BL (d + 1) ≤ 3 * (BL (d + 1) + 2) + 2
    omega
/-- a drawn value -/
structure Dv (k : Kn) (v : Vl) : Prop where
  good : gv v
  deep : vd v ≤ kd k
  len : (sh v).length ≤ BL (kd k)
  fit : fitsV v k = true
def isLk : Kn → Bool
  | .list _ => true
  | _ => false
theorem isP_pk (k : Kn) : isP st (pk k) (.ty "tuple") = some (isLk k) := by cases k <;> simp [pk, isLk]
def textsL : List (List Nat) := [[], [97], [34], [34, 34], [97, 32, 98, 44, 32, 99, 93], List.replicate 60 126, List.replicate 60 34, wTrue]
theorem texts_s : ([S_, S_a, S_x22, S_x22x22, S_ax20bx2cx20cx5d, repStr S_x7e 60, repStr S_x22 60, S_true] : List Str) = textsL.map S := by decide +kernel
theorem texts_ok : ∀ t ∈ textsL, t.length ≤ 60 ∧ (∀ c ∈ t, 32 ≤ c ∧ c ≤ 126) ∧ (esc t).length ≤ 120 := by decide +kernel
theorem numL_small {i : Int} (h : i.natAbs ≤ 1000000000000) : (shI i).length ≤ 14 := by
  have := TL.numL_len (n := i.natAbs) (k := 13) (by decide) (Nat.lt_of_le_of_lt h (by decide))
  unfold shI
  split
  · simp; omega
  · omega
theorem eq_l_s {k : Kn} {b : Str} (hb : PyData.strOk b = true) (hk : kd k ≤ 40) : eqP st (.tup [.str S_list, pk k]) (.str b) = some false := by
  have g1 : gd (.tup [.str S_list, pk k]) 60 = true := gd_pk (.list k) 60 (by show kd k + 1 ≤ 60; omega)
  rw [eqP_gd g1 (by simp [gd, hb])]
  simp [datP, PyData.eqv]
noncomputable def vM (F : Nat → FA) : IE := (iIf (iAnd (iTestB (iBin fEqB (iCall (F I__law_draw) (iCons (iVar 0) (iCons (iC (.int 30)) iNil))) (iC (.int 0)))) (iNot (iTest (iCall (a2 fIsi) (iCons (iBin fSubB (iVar 1) (iC (.int 1))) (iCons (iC (.ty "tuple")) iNil)))))) (iC (.int 20)) (iCall (F I__law_draw) (iCons (iVar 0) (iCons (iC (.int 4)) iNil))))
theorem many_e {k : Kn} {x2 x3 : Option PV} (L : LS st s c) : ∃ (j : Nat) (s1 : Sto), (j ≤ 3 ∨ (j = 20 ∧ isLk k = false)) ∧ Mv s c st s1 ∧ vM (FF (n + 1)) [some (.ref s), some (.tup [.str S_list, pk k]), x2, x3] st = some (.int (j : Int), s1) := by
  obtain ⟨r, s1, a1, a2, a3, M1⟩ := e_draw (n := n) 30 (by omega) (by omega) L
  obtain ⟨r2, s2, b1, b2, b3, M2⟩ := e_draw (n := n) 4 (by omega) (by omega) M1.ls
  have hr2 : ((r2.toNat : Nat) : Int) = r2 := by omega
  by_cases h0 : r = 0
  · subst h0
    cases hl : isLk k with
    | true =>
      refine ⟨r2.toNat, s2, by omega, M1.trans M2, ?_⟩
      simp [vM, a1, isP_pk, hl, b1]
      omega
    | false =>
      refine ⟨20, s1, Or.inr ⟨rfl, rfl⟩, M1, ?_⟩
      simp [vM, a1, isP_pk, hl]
  · have h00 : (r == 0) = false := by simpa using h0
    refine ⟨r2.toNat, s2, by omega, M1.trans M2, ?_⟩
    simp [vM, a1, h00, b1]
    omega
theorem joinL_le {L : List (List Nat)} {B : Nat} (h : ∀ p ∈ L, p.length ≤ B) : (TL.joinL [44, 32] L).length ≤ L.length * (B + 2) := by
  rw [joinL_len [] []]
  have : (L.map List.length).sum ≤ L.length * B := by
    induction L with
    | nil => simp
    | cons p L ih =>
      have h1 := h p (List.mem_cons_self ..)
      have h2 := ih fun q hq => h q (List.mem_cons_of_mem _ hq)
      simp only [List.map_cons, List.sum_cons, List.length_cons, Nat.succ_mul]
      omega
  rw [Nat.mul_add]
  omega
theorem gvs_of : ∀ {vs : List Vl}, (∀ v ∈ vs, gv v) → gvs vs
  | [], _ => trivial
  | v :: vs, h => ⟨h v (List.mem_cons_self ..), gvs_of fun x hx => h x (List.mem_cons_of_mem _ hx)⟩
theorem vds_of {m : Nat} : ∀ {vs : List Vl}, (∀ v ∈ vs, vd v ≤ m) → vds vs ≤ m
  | [], _ => Nat.zero_le _
  | v :: vs, h => by
    have h1 := h v (List.mem_cons_self ..)
    have h2 := vds_of fun x hx => h x (List.mem_cons_of_mem _ hx)
    simp only [vds]
    omega
theorem pick_pv {k : Kn} : ∀ {ys : List PV}, (∀ y ∈ ys, ∃ i, i < 1000 ∧ ∃ v, y = pv v ∧ Dv k v) → ∃ vs : List Vl, ys = pvs vs ∧ ∀ v ∈ vs, Dv k v
  | [], _ => ⟨[], rfl, fun v hv => by cases hv⟩
  | y :: ys, h => by
    obtain ⟨_, _, v, rfl, hv⟩ := h y (List.mem_cons_self ..)
    obtain ⟨vs, rfl, hvs⟩ := pick_pv fun z hz => h z (List.mem_cons_of_mem _ hz)
    refine ⟨v :: vs, rfl, fun x hx => ?_⟩
    rcases List.mem_cons.mp hx with rfl | hx
    · exact hv
    · exact hvs x hx
end
end J11

/-! drawn values -/
namespace J11
open PySem PySem.Spec PyProof.Rows L2 IL SX
section
variable {n s c : Nat} {st st1 st2 : Sto}
theorem dv_int {i : Int} (h : i.natAbs ≤ 1000000000000) : Dv .int (.int i) := ⟨h, by simp [vd], by
  have := numL_small h
  show (shI i).length ≤ 122
  omega, by simp [fitsV]⟩
theorem fitsVs_of {k : Kn} : ∀ {vs : List Vl}, (∀ v ∈ vs, fitsV v k = true) → fitsV (.list vs) (.list k) = true
  | [], _ => by simp [fitsV, fitsVs]
  | v :: vs, h => by
    have h1 := h v (List.mem_cons_self ..)
    have h2 := fitsVs_of fun x hx => h x (List.mem_cons_of_mem _ hx)
    simp only [fitsV] at h2 ⊢
    simp [fitsVs, h1, h2]
def Vd (s c : Nat) (k : Kn) : Prop := ∀ (n : Nat) (st : Sto), gk k = true → kd k ≤ 30 → LS st s c → ∃ v st', FF (n + kd k + 4) I__law_value [.ref s, pk k] st = some (pv v, st') ∧ Dv k v ∧ Mv s c st st'
theorem vd_no : Vd s c .no := fun n st hg hk L => by cases hg
theorem vd_int : Vd s c .int := fun n st hg hk L => by
    rw [show n + kd .int + 4 = (n + 3) + 1 by simp [kd], e__law_value]
    obtain ⟨r, s1, a1, a2, a3, M1⟩ := e_draw (n := n + 2) 1000 (by omega) (by omega) L
    have hl : iLst (iCons (iC (.int 0)) (iCons (iC (.int 1)) (iCons (iUn fNeg (iC (.int 1))) (iCons (iC (.int 10)) (iCons (iUn fNeg (iBin fPow (iC (.int 10)) (iC (.int 12)))) (iCons (iBin fPow (iC (.int 10)) (iC (.int 12))) (iCons (iBin fSub (iCall (FF (n + 3) I__law_draw) (iCons (iVar 0) (iCons (iC (.int 1000)) iNil))) (iC (.int 500))) iNil))))))) [some (.ref s), some (pk .int), none, none] st = some (.ref s1.length, s1 ++ [.lst ([0, 1, -1, 10, -1000000000000, 1000000000000, r - 500].map PV.int)] ++ []) := by
      simp [a1, -fPow_i, p12]
    have hn := new_draw M1 hl (nrs_map fun x _ => by simp [nr])
    obtain ⟨x, s2, b1, b2, M2⟩ := e_pick (n := n + 1) (xs := [0, 1, -1, 10, -1000000000000, 1000000000000, r - 500].map PV.int) (by simp) (by simp) (nrs_map fun x _ => by simp [nr]) M1.ls
    obtain ⟨i, hi, rfl⟩ := List.mem_map.mp b2
    have hw : i.natAbs ≤ 1000000000000 := by
      simp only [List.mem_cons, List.not_mem_nil, or_false] at hi
      omega
    refine ⟨.int i, s2, def_same rfl ?_ (M1.trans M2).len, dv_int hw, M1.trans M2⟩
    have hc : iIfS (iTestB (iBin fEqB (iVar 1) (iC (.str S_int)))) (iRet (iTup (iCons (iC (.str S_int)) (iCons (iCall (FF (n + 3) I__law_pick) (iCons (iVar 0) (iCons (iNew (iLst (iCons (iC (.int 0)) (iCons (iC (.int 1)) (iCons (iUn fNeg (iC (.int 1))) (iCons (iC (.int 10)) (iCons (iUn fNeg (iBin fPow (iC (.int 10)) (iC (.int 12)))) (iCons (iBin fPow (iC (.int 10)) (iC (.int 12))) (iCons (iBin fSub (iCall (FF (n + 3) I__law_draw) (iCons (iVar 0) (iCons (iC (.int 1000)) iNil))) (iC (.int 500))) iNil))))))))) iNil))) iNil)))) iSkip [some (.ref s), some (pk .int), none, none] st = some (.rt (pv (.int i)) s2) := by
      have e1 : iTestB (iBin fEqB (iVar 1) (iC (.str S_int))) [some (.ref s), some (pk .int), none, none] st = some (true, st) := by simp [pk]
      rw [iIfS_e, e1, ob_s]
      simp only [iRet_e, iTup_e, iCons_e, iNil_e, iC_e, ob_s, iCall_e, iVar_e, List.getElem?_cons_zero, hn, b1]
      simp [pv]
    unfold b__law_value
    rw [iSeq_e]
    show (match iIfS _ _ _ [some (.ref s), some (pk .int), none, none] st with
      | some (.nx e s) => _
      | o => o) = _
    rw [hc]
theorem vd_bool : Vd s c .bool := fun n st hg hk L => by
    rw [show n + kd .bool + 4 = (n + 3) + 1 by simp [kd], e__law_value]
    obtain ⟨r, s1, a1, a2, a3, M1⟩ := e_draw (n := n + 2) 2 (by omega) (by omega) L
    refine ⟨.bool (r == 0), s1, def_same rfl ?_ M1.len, ⟨trivial, by simp [vd], by cases (r == 0) <;> simp [sh, kd, BL], by simp [fitsV]⟩, M1⟩
    simp [b__law_value, pk, a1, pv]
theorem vd_nothing : Vd s c .nothing := fun n st hg hk L => by
    rw [show n + kd .nothing + 4 = (n + 3) + 1 by simp [kd], e__law_value]
    refine ⟨.nothing, st, def_same rfl ?_ rfl, ⟨trivial, by simp [vd], by simp [sh, kd, BL], by simp [fitsV]⟩, Mv.refl L⟩
    simp [b__law_value, pk, pv]
theorem vd_text : Vd s c .text := fun n st hg hk L => by
    rw [show n + kd .text + 4 = (n + 3) + 1 by simp [kd], e__law_value]
    obtain ⟨x, s2, b1, b2, M2⟩ := e_pick (n := n + 1) (xs := textsL.map strP) (by simp [textsL]) (by simp [textsL]) (nrs_map fun x _ => by simp [nr]) L
    obtain ⟨t, ht, rfl⟩ := List.mem_map.mp b2
    obtain ⟨g1, g2, g3⟩ := texts_ok t ht
    refine ⟨.text t, s2, def_same rfl ?_ M2.len, ⟨⟨g1, g2⟩, by simp [vd], by simp [sh, kd, BL]; omega, by simp [fitsV]⟩, M2⟩
    have k1 : fMulA (.str S_x7e) (.int 60) st = some (.str (repStr S_x7e 60), st) := by
      rw [fMulA_s (by decide +kernel)]
      rfl
    have k2 : fMulA (.str S_x22) (.int 60) st = some (.str (repStr S_x22 60), st) := by
      rw [fMulA_s (by decide +kernel)]
      rfl
    have hb : ([PV.str S_, .str S_a, .str S_x22, .str S_x22x22, .str S_ax20bx2cx20cx5d, .str (repStr S_x7e 60), .str (repStr S_x22 60), .str S_true] : List PV) = textsL.map strP := by
      have := congrArg (List.map PV.str) texts_s
      rw [List.map_map] at this
      exact this
    have hn : iNew (iLst (iCons (iC (.str S_)) (iCons (iC (.str S_a)) (iCons (iC (.str S_x22)) (iCons (iC (.str S_x22x22)) (iCons (iC (.str S_ax20bx2cx20cx5d)) (iCons (iBin fMulA (iC (.str S_x7e)) (iC (.int 60))) (iCons (iBin fMulA (iC (.str S_x22)) (iC (.int 60))) (iCons (iC (.str S_true)) iNil))))))))) [some (.ref s), some (pk .text), none, none] st = some (.frz (textsL.map strP), st) := by
      refine new_l ?_ (nrs_map fun x _ => by simp [nr])
      rw [← hb]
      simp [k1, k2]
    have hc : iIfS (iTestB (iBin fEqB (iVar 1) (iC (.str S_text)))) (iRet (iTup (iCons (iC (.str S_text)) (iCons (iCall (FF (n + 3) I__law_pick) (iCons (iVar 0) (iCons (iNew (iLst (iCons (iC (.str S_)) (iCons (iC (.str S_a)) (iCons (iC (.str S_x22)) (iCons (iC (.str S_x22x22)) (iCons (iC (.str S_ax20bx2cx20cx5d)) (iCons (iBin fMulA (iC (.str S_x7e)) (iC (.int 60))) (iCons (iBin fMulA (iC (.str S_x22)) (iC (.int 60))) (iCons (iC (.str S_true)) iNil)))))))))) iNil))) iNil)))) iSkip [some (.ref s), some (pk .text), none, none] st = some (.rt (pv (.text t)) s2) := by
      have e1 : iTestB (iBin fEqB (iVar 1) (iC (.str S_text))) [some (.ref s), some (pk .text), none, none] st = some (true, st) := by simp [pk]
      rw [iIfS_e, e1, ob_s]
      simp only [iRet_e, iTup_e, iCons_e, iNil_e, iC_e, ob_s, iCall_e, iVar_e, List.getElem?_cons_zero, hn, b1]
      simp [pv]
    have c1 : ∀ v w, v ≠ S_text → PyData.strOk v = true → iIfS (iTestB (iBin fEqB (iVar 1) (iC (.str v)))) w iSkip [some (.ref s), some (pk .text), none, none] st = some (.nx [some (.ref s), some (pk .text), none, none] st) := fun v w hv hok => by
      have : eqP st (.str S_text) (.str v) = some false := by
        rw [eqP_s, hok]
        have : PyData.strOk S_text = true := by simp
        rw [this]
        simp
        exact fun h => hv h.symm
      simp [pk, this]
    unfold b__law_value
    rw [iSeq_e]
    show (match iIfS _ _ _ [some (.ref s), some (pk .text), none, none] st with
      | some (.nx e s) => _
      | o => o) = _
    rw [c1 _ _ (by simp) (by simp)]
    simp only
    rw [iSeq_e, c1 _ _ (by simp) (by simp)]
    simp only
    rw [iSeq_e, hc]
theorem vd_list (k : Kn) (ih : Vd s c k) : Vd s c (.list k) := fun n st hg hk L => by
    have hkk : kd k ≤ 30 := by simp only [kd] at hk; omega
    rw [show n + kd (.list k) + 4 = (n + kd k + 4) + 1 by simp only [kd]; omega, e__law_value]
    obtain ⟨j, s1, hj, M1, hm⟩ := many_e (n := n + kd k + 3) (k := k) (x2 := none) (x3 := none) L
    obtain ⟨jj, hjj⟩ : ∃ jj : Int, jj = (j : Int) := ⟨_, rfl⟩
    rw [← hjj] at hm
    have hrg := range1_i (ir := iCons (iVar 2) iNil) (env := [some (.ref s), some (.tup [.str S_list, pk k]), some (.int jj), none]) (s := s1) (st1 := s1) (j := jj) rfl (by omega) (by omega)
    rw [show jj.toNat = j by omega] at hrg
    obtain ⟨ys, s2, hl, M2, hyl, hy⟩ := lc_draw (N := j) (it := fun i => .int (i : Nat)) (ig := gN 3) (t := iYes) (e := iCall (FF (n + kd k + 4) I__law_value) (iCons (iVar 0) (iCons (iBin fSubB (iVar 1) (iC (.int 1))) iNil))) (vs := [3]) (fun _ y => ∃ v, y = pv v ∧ Dv k v) (fun i y ⟨v, h, _⟩ => by rw [h]; exact nr_pv v) hrg (Mv.refl M1.ls) rfl (by omega) (fun S i hi => by rw [srcR_at, List.getElem?_map, List.getElem?_range hi]; rfl) (fun S => by rw [srcR_at, List.getElem?_eq_none (by simp)])
      (fun i hi S LS' => by
        obtain ⟨v, S', h1, h2, M3⟩ := ih n S hg hkk LS'
        exact ⟨[some (.ref s), some (.tup [.str S_list, pk k]), some (.int jj), some (.int (i : Nat))], pv v, S', rfl, rfl, by simp [h1], M3, v, rfl, h2⟩)
    obtain ⟨vs, rfl, hvs⟩ := pick_pv (k := k) (ys := ys) fun y hy' => by
      obtain ⟨i, hi, v, h1, h2⟩ := hy y hy'
      exact ⟨i, by omega, v, h1, h2⟩
    rw [pvs_len] at hyl
    have hjl : (TL.joinL [44, 32] (shs vs)).length ≤ vs.length * (BL (kd k) + 2) := by
      have := joinL_le (L := shs vs) (B := BL (kd k)) fun p hp => by
        rw [shs_map] at hp
        obtain ⟨v, hv, rfl⟩ := List.mem_map.mp hp
        exact (hvs v hv).len
      rwa [show (shs vs).length = vs.length by rw [shs_map, List.length_map]] at this
    have hlen : (sh (.list vs)).length ≤ BL (kd (.list k)) := by
      have e0 : (sh (.list vs)).length = (TL.joinL [44, 32] (shs vs)).length + 2 := by simp [sh]
      rw [e0, hyl] at *
      rcases hj with hj | ⟨hj, hk0⟩
      · have h3 : j * (BL (kd k) + 2) ≤ 3 * (BL (kd k) + 2) := Nat.mul_le_mul_right _ hj
        have h4 : 3 * (BL (kd k) + 2) + 2 ≤ BL (kd k + 1) := by
          cases hd : kd k with
          | zero => decide
          | succ d => exact Nat.le_refl _
        show _ ≤ BL (kd k + 1)
        omega
      · have hd : kd k = 0 := by cases k <;> simp [isLk, kd] at hk0 ⊢
        show _ ≤ BL (kd k + 1)
        rw [hd] at hjl ⊢
        rw [hj] at hjl
        simp only [BL] at hjl ⊢
        omega
    refine ⟨.list vs, s2, def_same rfl ?_ (M1.trans M2).len, ⟨⟨by omega, gvs_of fun v hv => (hvs v hv).good⟩, by
      have := vds_of (m := kd k) fun v hv => (hvs v hv).deep
      simp only [vd, kd]
      omega, hlen, fitsVs_of fun v hv => (hvs v hv).fit⟩, M1.trans M2⟩
    have c1 : ∀ v w, PyData.strOk v = true → iIfS (iTestB (iBin fEqB (iVar 1) (iC (.str v)))) w iSkip [some (.ref s), some (.tup [.str S_list, pk k]), none, none] st = some (.nx [some (.ref s), some (.tup [.str S_list, pk k]), none, none] st) := fun v w hok => by
      have := eq_l_s (st := st) (k := k) hok (by omega)
      simp [this]
    unfold b__law_value
    rw [iSeq_e]
    show (match iIfS _ _ _ [some (.ref s), some (.tup [.str S_list, pk k]), none, none] st with
      | some (.nx e s) => _
      | o => o) = _
    rw [c1 _ _ (by simp)]
    simp only
    rw [iSeq_e, c1 _ _ (by simp)]
    simp only
    rw [iSeq_e, c1 _ _ (by simp)]
    simp only
    rw [iSeq_e, c1 _ _ (by simp)]
    simp only
    unfold vM at hm
    rw [asg_seq hm]
    show iRet _ [some (.ref s), some (.tup [.str S_list, pk k]), some (.int jj), none] s1 = _
    have ht : iCall (a1 fTuple) (iCons (iNew (iLc (iRange1 (iCons (iVar 2) iNil)) (gN 3) iYes (iCall (FF (n + kd k + 4) I__law_value) (iCons (iVar 0) (iCons (iBin fSubB (iVar 1) (iC (.int 1))) iNil))) [3])) iNil) [some (.ref s), some (.tup [.str S_list, pk k]), some (.int jj), none] s1 = some (.tup (pvs vs), s2) := by
      rw [iCall_e, iCons_e, hl]
      simp
    simp only [iRet_e, iTup_e, iCons_e, iNil_e, iC_e, ob_s, ht]
    simp [pv]
theorem e_vd (k : Kn) : Vd s c k := by
  induction k with
  | no => exact vd_no
  | int => exact vd_int
  | bool => exact vd_bool
  | text => exact vd_text
  | nothing => exact vd_nothing
  | list k ih => exact vd_list k ih
end
end J11

/-! the state at first; texts that are changed -/
namespace J11
open PySem PySem.Spec PyProof.Rows L2 IL SX
section
variable {n s c : Nat} {st st1 st2 : Sto}
noncomputable def sB : IS := (iAsg (gN 1) (iBin fMod (iCall (a1 fIntS) (iCons (iBin fAdd (iBin fMulA (iVar 1) (iC (.int 31))) (iVar 2)) iNil)) (iC (.int 1000003))))
theorem seed_fold {q0 : Option PV} : ∀ (ns : List Int) (a : Int) (x2 : Option PV), ∃ a' x2', foldT (gN 2) sB (ns.map .int) [q0, some (.int a), x2] st = some (.nx [q0, some (.int a'), x2'] st)
  | [], a, x2 => ⟨a, x2, rfl⟩
  | m :: ns, a, x2 => by
    have hb : sB [q0, some (.int a), some (.int m)] st = some (.nx [q0, some (.int ((a * 31 + m).fmod 1000003)), some (.int m)] st) := by
      have hc : cMul a 31 = true := by
        unfold cMul
        simp
      simp [sB, hc]
    obtain ⟨a', x2', ih⟩ := seed_fold (q0 := q0) ns ((a * 31 + m).fmod 1000003) (some (.int m))
    refine ⟨a', x2', ?_⟩
    show foldT (gN 2) sB (PV.int m :: ns.map .int) _ st = _
    unfold foldT
    rw [show gN 2 (PV.int m) [q0, some (.int a), x2] st = some [q0, some (.int a), some (.int m)] from rfl]
    simp only [hb]
    exact ih
theorem e_state {ns : List Int} (hn : ns.length ≤ 63) : ∃ (s c : Nat) (st' : Sto), FF (n + 1) I__law_state [.frz (ns.map .int)] [] = some (.ref s, st') ∧ LS st' s c := by
  rw [e__law_state]
  obtain ⟨a, x2, hf⟩ := seed_fold (st := []) (q0 := some (.frz (ns.map .int))) ns 7 none
  obtain ⟨l, hlc⟩ := iLc_frzm (xs := ns) (f := .int) (g := fun x => .int (if x < 0 then -x else x)) (p := fun _ => true) (ie := iVar 0) (e := iCall (a1 fAbs) (iCons (iVar 2) iNil)) (ig := gN 2) (t := iYes) (vs := [2]) (env := [some (.frz (ns.map .int)), some (.int a), x2]) (st := []) (s1 := []) rfl (by omega) (fun x _ s => ⟨[some (.frz (ns.map .int)), some (.int a), some (.int x)], rfl, rfl, fun _ => ⟨[], by simp⟩⟩)
  rw [filter_yes] at hlc
  obtain ⟨S, hS⟩ : ∃ S : Sto, S = [] ++ [SO.lst (ns.map fun x => .int (if x < 0 then -x else x))] ++ l := ⟨_, rfl⟩
  rw [← hS] at hlc
  have h0 : S[0]? = some (.lst ((ns.map fun x : Int => if x < 0 then -x else x).map .int)) := by rw [hS, List.map_map]; rfl
  have hl : 0 < S.length := lt_of_at h0
  refine ⟨S.length, 0, S ++ [.lst [.ref 0, .int (a + 1)]], ?_, by omega, a + 1, ns.map fun x => if x < 0 then -x else x, new_at, by rw [List.getElem?_append_left hl]; exact h0, fun x hx => ?_, by rw [List.length_map]; exact hn⟩
  · have hb : b__law_state (FF n) (GG n) ([PV.frz (ns.map .int)].map some ++ List.replicate (3 - 1) none) [] = some (.rt (.ref S.length) (S ++ [.lst [.ref 0, .int (a + 1)]])) := by
      show iSeq _ _ [some (.frz (ns.map .int)), none, none] [] = _
      rw [asg_seq (x := .int 7) rfl]
      show iSeq (iFor (iWalk (iVar 0)) (gN 2) sB) _ [some (.frz (ns.map .int)), some (.int 7), none] [] = _
      rw [iSeq_e, iFor_frz (xs := ns.map .int) rfl, hf]
      simp only
      have hlc' : iLc (iWalk (iVar 0)) (gN 2) iYes (iCall (a1 fAbs) (iCons (iVar 2) iNil)) [2] [some (.frz (ns.map .int)), some (.int a), x2] [] = some (.ref 0, S) := hlc
      rw [iRet_e, iLst_e, iCons_e, hlc']
      simp
    rw [def_rt (n := 1) rfl hb]
    unfold gcS
    rw [if_neg]
    rintro ⟨h, _⟩
    unfold rlt at h
    exact absurd h (by simp)
  · obtain ⟨z, _, rfl⟩ := List.mem_map.mp hx
    split <;> omega
/-! ### a text is changed -/
end
end J11

/-! the law -/
namespace J11
open PySem PySem.Spec PyProof.Rows L2 IL SX
theorem joinL_mem {c : Nat} : ∀ {L : List (List Nat)}, c ∈ TL.joinL [44, 32] L → (∃ p ∈ L, c ∈ p) ∨ c = 44 ∨ c = 32
  | [], h => by cases h
  | [p], h => .inl ⟨p, List.mem_cons_self .., h⟩
  | p :: q :: r, h => by
    rw [show TL.joinL [44, 32] (p :: q :: r) = p ++ ([44, 32] ++ TL.joinL [44, 32] (q :: r)) from rfl, List.mem_append, List.mem_append] at h
    rcases h with h | h | h
    · exact .inl ⟨p, List.mem_cons_self .., h⟩
    · simp at h
      exact .inr h
    · rcases joinL_mem h with ⟨x, hx, hc⟩ | h
      · exact .inl ⟨x, List.mem_cons_of_mem _ hx, hc⟩
      · exact .inr h
theorem esc_ok : ∀ {t : List Nat}, (∀ c ∈ t, 32 ≤ c ∧ c ≤ 126) → ∀ c ∈ esc t, c ≤ 126
  | [], _, c, h => by cases h
  | d :: t, ht, c, h => by
    unfold esc at h
    have ih := esc_ok fun x hx => ht x (List.mem_cons_of_mem _ hx)
    split at h
    · rcases List.mem_cons.mp h with rfl | h
      · omega
      · rcases List.mem_cons.mp h with rfl | h
        · omega
        · exact ih c h
    · rcases List.mem_cons.mp h with rfl | h
      · exact (ht _ (List.mem_cons_self ..)).2
      · exact ih c h
theorem shI_ok {i : Int} : ∀ c ∈ shI i, c ≤ 126 := by
  intro c h
  have hd := TL.numL_digits i.natAbs
  unfold shI at h
  split at h
  · rcases List.mem_cons.mp h with rfl | h
    · omega
    · have := hd c h
      omega
  · have := hd c h
    omega
mutual
theorem sh_ok : ∀ (v : Vl), gv v → ∀ c ∈ sh v, c ≤ 126
  | .int i, _, c, h => shI_ok c h
  | .bool b, _, c, h => by
    cases b
    · revert c
      decide
    · revert c
      decide
  | .nothing, _, c, h => by
    revert c
    decide
  | .text t, hg, c, h => by
    unfold sh at h
    rcases List.mem_cons.mp h with rfl | h
    · omega
    · rcases List.mem_append.mp h with h | h
      · exact esc_ok hg.2 c h
      · simp at h
        omega
  | .list vs, hg, c, h => by
    unfold sh at h
    rcases List.mem_cons.mp h with rfl | h
    · omega
    · rcases List.mem_append.mp h with h | h
      · rcases joinL_mem h with ⟨p, hp, hc⟩ | h | h
        · exact shs_ok vs hg.2 p hp c hc
        · omega
        · omega
      · simp at h
        omega
theorem shs_ok : ∀ (vs : List Vl), gvs vs → ∀ p ∈ shs vs, ∀ c ∈ p, c ≤ 126
  | [], _, p, h, _, _ => by cases h
  | v :: vs, hg, p, h, c, hc => by
    unfold shs at h
    rcases List.mem_cons.mp h with rfl | h
    · exact sh_ok v hg.1 c hc
    · exact shs_ok vs hg.2 p h c hc
end
theorem sh_okL {v : Vl} (h : gv v) : okL (sh v) := fun c hc => by
  have := sh_ok v h c hc
  omega
section
variable {n s c : Nat} {st st1 st2 : Sto}
end
end J11

/-! fits, where an exception is handled -/
namespace J11
open PySem PySem.Spec PyProof.Rows L2 IL SX
theorem iLc_tupmT {α : Type} {xs : List α} {f g : α → PV} {p : α → Bool} {ie e : IE} {ig : IG} {t : IT} {vs : List Nat} {env : PEnv} {st s1 : Sto} (hi : ie env st = some (.tup (xs.map f), s1)) (hl : xs.length < 9000000)
    (h : ∀ x ∈ xs, ∀ s : Sto, ∃ env1, ig (f x) (wipeE env vs) s = some env1 ∧ t env1 s = some (p x, s) ∧ (p x = true → ∃ l, e env1 s = some (g x, s ++ l))) :
    ∃ l, iLc (iWalkT ie) ig t e vs env st = some (.ref s1.length, s1 ++ [.lst ((xs.filter p).map g)] ++ l) := by
  have e1 : iWalkT ie env st = iWalk ie env st := by
    unfold iWalkT
    rw [iWalk_e, hi]
    rfl
  have e0 : iLc (iWalkT ie) ig t e vs env st = iLc (iWalk ie) ig t e vs env st := by
    unfold iLc
    rw [e1]
  rw [e0]
  exact iLc_tupm hi hl h
section
variable {n : Nat} {st : Sto}
theorem e_fitsH' : ∀ (d : Nat) (v : Vl) (k : Kn) (n : Nat) (st : Sto), vd v ≤ d → gv v → gk k = true → kd k ≤ 40 → FF (n + d + 1) I_fitsH [pv v, pk k] st = some (.bl (fitsV v k), st)
  | d, .int i, k, n, st, hd, hg, hk, hkd => by
    rw [e_fitsH]
    refine def_pure0 rfl ?_ rfl
    cases k with
    | list k =>
      have g1 : gd (.tup [.str S_list, pk k]) 60 = true := gd_pk (.list k) 60 (by omega)
      have : eqP st (.str S_int) (.tup [.str S_list, pk k]) = some false := by
        rw [eqP_gd (by simp [gd]) g1]
        simp [datP, PyData.eqv]
      simp [b_fitsH, pv, pk, this, fitsV]
    | no => cases hk
    | _ => simp [b_fitsH, pv, pk, fitsV]
  | d, .bool i, k, n, st, hd, hg, hk, hkd => by
    rw [e_fitsH]
    refine def_pure0 rfl ?_ rfl
    cases k with
    | list k =>
      have g1 : gd (.tup [.str S_list, pk k]) 60 = true := gd_pk (.list k) 60 (by omega)
      have : eqP st (.str S_bool) (.tup [.str S_list, pk k]) = some false := by
        rw [eqP_gd (by simp [gd]) g1]
        simp [datP, PyData.eqv]
      simp [b_fitsH, pv, pk, this, fitsV]
    | no => cases hk
    | _ => simp [b_fitsH, pv, pk, fitsV]
  | d, .text i, k, n, st, hd, hg, hk, hkd => by
    rw [e_fitsH]
    refine def_pure0 rfl ?_ rfl
    cases k with
    | list k =>
      have g1 : gd (.tup [.str S_list, pk k]) 60 = true := gd_pk (.list k) 60 (by omega)
      have : eqP st (.str S_text) (.tup [.str S_list, pk k]) = some false := by
        rw [eqP_gd (by simp [gd]) g1]
        simp [datP, PyData.eqv]
      simp [b_fitsH, pv, pk, this, fitsV]
    | no => cases hk
    | _ => simp [b_fitsH, pv, pk, fitsV]
  | d, .nothing, k, n, st, hd, hg, hk, hkd => by
    rw [e_fitsH]
    refine def_pure0 rfl ?_ rfl
    cases k with
    | list k =>
      have g1 : gd (.tup [.str S_list, pk k]) 60 = true := gd_pk (.list k) 60 (by omega)
      have : eqP st (.str S_nothing) (.tup [.str S_list, pk k]) = some false := by
        rw [eqP_gd (by simp [gd]) g1]
        simp [datP, PyData.eqv]
      simp [b_fitsH, pv, pk, this, fitsV]
    | no => cases hk
    | _ => simp [b_fitsH, pv, pk, fitsV]
  | 0, .list vs, k, n, st, hd, hg, hk, hkd => by simp [vd] at hd
  | d + 1, .list vs, k, n, st, hd, hg, hk, hkd => by
    rw [show n + (d + 1) + 1 = (n + d + 1) + 1 by omega, e_fitsH]
    have hgl : vs.length ≤ 20 := hg.1
    have hd' : vds vs ≤ d := by simp only [vd] at hd; omega
    cases k with
    | list k =>
      have hkd' : kd k ≤ 40 := by simp only [kd] at hkd; omega
      obtain ⟨l, hlc⟩ := iLc_tupmT (xs := vs) (f := pv) (g := fun v => PV.bl (fitsV v k)) (p := fun _ => true) (ie := iBin fSubB (iVar 0) (iC (.int 1))) (e := iCall (FF (n + d + 1) I_fitsH) (iCons (iVar 2) (iCons (iBin fSubB (iVar 1) (iC (.int 1))) iNil))) (ig := gN 2) (t := iYes) (vs := [2]) (env := [some (pv (.list vs)), some (pk (.list k)), none]) (st := st) (s1 := st)
        (by simp [pv, pvs_map]) (by omega) (fun v hv s' => ⟨[some (pv (.list vs)), some (pk (.list k)), some (pv v)], rfl, rfl, fun _ => ⟨[], by
          have := e_fitsH' d v k n s' (by have := vds_mem hv; omega) (gvs_mem hg.2 hv) hk hkd'
          simp [pk, this]⟩⟩)
      have hnr : nrs ((vs.filter fun _ => true).map fun v => PV.bl (fitsV v k)) = true := nrs_map fun x _ => by simp [nr]
      have hx := new_at_ (l := [SO.lst ((vs.filter fun _ => true).map fun v => PV.bl (fitsV v k))] ++ l) hlc at_mid (Nat.le_refl _) (List.append_assoc ..) (rlts_nr _ hnr)
      have hf : (vs.filter fun _ => true) = vs := by simp
      rw [hf] at hx
      have hm : ∀ us : List Vl, mapO isBl (us.map fun v => PV.bl (fitsV v k)) = some (us.map fun v => fitsV v k) := by
        intro us
        induction us with
        | nil => rfl
        | cons u us ih =>
          show mapO isBl (PV.bl (fitsV u k) :: us.map fun v => PV.bl (fitsV v k)) = _
          unfold mapO
          rw [ih]
          rfl
      have hb : blsOf st (.frz (vs.map fun v => PV.bl (fitsV v k))) = some (vs.map fun v => fitsV v k) := by
        show mapO isBl _ = _
        exact hm vs
      refine def_pure0 rfl ?_ rfl
      simp only [b_fitsH, List.map_cons, List.map_nil, List.cons_append, List.nil_append, List.replicate, iSeq_e, iIfS_e, iTestB_e]
      rw [show iBin fEqB (iBin fSubB (iVar 0) (iC (.int 0))) (iC (.str S_list)) [some (pv (.list vs)), some (pk (.list k)), none] st = some (.bl true, st) by simp [pv]]
      have hp : isP st (pk (.list k)) (.ty "tuple") = some true := by simp [pk]
      simp only [ob_s, isBl_e, Option.map_some, iRet_e, iAndV_e, tru_bl, iCall_e, iCons_e, iNil_e, iVar_e, iC_e, List.getElem?_cons_succ, List.getElem?_cons_zero, a2_e, fIsi_e, hp, hx, a1_e, fAll_e, hb]
      rw [show fitsV (.list vs) (.list k) = fitsVs vs k by simp [fitsV], fitsVs_all]
    | no => cases hk
    | _ =>
      refine def_pure0 rfl ?_ rfl
      simp [b_fitsH, pv, pk, fitsV]
end
end J11

/-! values as data: good for ==, equal ones are the same; the law's own form of values -/
namespace J11
open PySem PySem.Spec PyProof.Rows L2 IL SX
theorem okL_gv {t : List Nat} (h : ∀ c ∈ t, 32 ≤ c ∧ c ≤ 126) : okL t := fun c hc => by
  have := h c hc
  omega
mutual
theorem gd_pv : ∀ (v : Vl) (n : Nat), gv v → 2 * vd v + 1 ≤ n → gd (pv v) n = true
  | .int i, n, _, h => by
    have : 0 < n := by simp only [vd] at h; omega
    simp [pv, gd, gds, this]
  | .bool b, n, _, h => by
    have : 0 < n := by simp only [vd] at h; omega
    simp [pv, gd, gds, this]
  | .nothing, n, _, h => by
    have : 0 < n := by simp only [vd] at h; omega
    simp [pv, gd, gds, this]
  | .text t, n, hg, h => by
    have : 0 < n := by simp only [vd] at h; omega
    have h2 : PyData.strOk (S t) = true := okL_iff.mpr (okL_gv hg.2)
    simp [pv, gd, gds, this, h2]
  | .list vs, n, hg, h => by
    have h1 : 0 < n ∧ 0 < n - 1 := by simp only [vd] at h; omega
    have h2 := gds_pvs vs (n - 1 - 1) hg.2 (by simp only [vd] at h; omega)
    simp [pv, gd, gds, h1.1, h1.2, h2]
theorem gds_pvs : ∀ (vs : List Vl) (n : Nat), gvs vs → 2 * vds vs + 1 ≤ n → gds (pvs vs) n = true
  | [], n, _, _ => by simp [pvs, gds]
  | v :: vs, n, hg, h => by
    have h1 := gd_pv v n hg.1 (by simp only [vds] at h; omega)
    have h2 := gds_pvs vs n hg.2 (by simp only [vds] at h; omega)
    simp [pvs, gds, h1, h2]
end
mutual
theorem eqv_pv : ∀ a b : Vl, PyData.eqv (datP (pv a)) (datP (pv b)) = true → a = b
  | .int i, b, h => by cases b <;> simp [pv, datP, datPs, PyData.eqv, PyData.eqvAll] at h ⊢; exact h
  | .bool i, b, h => by cases b <;> simp [pv, datP, datPs, PyData.eqv, PyData.eqvAll] at h ⊢; exact h
  | .text i, b, h => by
    cases b <;> simp [pv, datP, datPs, PyData.eqv, PyData.eqvAll] at h ⊢
    rename_i u
    have h2 : (S i == S u) = true := by rw [h]; exact beq_self_eq_true _
    rw [S_beq_eq] at h2
    exact of_decide_eq_true h2
  | .nothing, b, h => by cases b <;> simp [pv, datP, datPs, PyData.eqv, PyData.eqvAll] at h ⊢
  | .list vs, b, h => by
    cases b <;> simp [pv, datP, datPs, PyData.eqv, PyData.eqvAll] at h ⊢
    exact eqv_pvs vs _ h
theorem eqv_pvs : ∀ a b : List Vl, PyData.eqvAll (datPs (pvs a)) (datPs (pvs b)) = true → a = b
  | [], [], _ => rfl
  | [], _ :: _, h => by simp [pvs, datPs, PyData.eqvAll] at h
  | _ :: _, [], h => by simp [pvs, datPs, PyData.eqvAll] at h
  | x :: xs, y :: ys, h => by
    simp only [pvs, datPs, PyData.eqvAll, Bool.and_eq_true] at h
    rw [eqv_pv x y h.1, eqv_pvs xs ys h.2]
end
section
variable {n : Nat} {st : Sto}
theorem eq_pv_self {v : Vl} (hg : gv v) (hd : vd v ≤ 6) : eqP st (pv v) (pv v) = some true := eqP_gd_self (gd_pv v 60 hg (by omega))
theorem eq_pv_ne {v u : Vl} (hg : gv v) (hd : vd v ≤ 6) (hg2 : gv u) (hd2 : vd u ≤ 6) (h : v ≠ u) : eqP st (pv v) (pv u) = some false := by
  rw [eqP_gd (gd_pv v 60 hg (by omega)) (gd_pv u 60 hg2 (by omega))]
  cases he : PyData.eqv (datP (pv v)) (datP (pv u)) with
  | false => rfl
  | true => exact (h (eqv_pv v u he)).elim
theorem eqB_pv {x : PV} {v : Vl} : eqB st x (pv v) = eqP st x (pv v) := by cases v <;> simp [pv]
/-! ### the law's own form -/
theorem mapO_S : ∀ L : List (List Nat), mapO isStr (L.map strP) = some (L.map S)
  | [] => rfl
  | c :: r => by
    show mapO isStr (strP c :: r.map strP) = _
    unfold mapO
    rw [mapO_S r]
    rfl
theorem join_frz {env : PEnv} {ie : IE} {L : List (List Nat)} {a : Str} {sep : List Nat} (ha : a = S sep) (h : ie env st = some (.frz (L.map strP), st)) (hl : (L.map List.length).sum + L.length * sep.length ≤ 9000000) :
    iJoin (iC (.str a)) ie env st = some (strP (TL.joinL sep L), st) := by
  subst ha
  have e1 : ((L.map S).map (·.length)).sum = (L.map List.length).sum := by
    rw [List.map_map]
    exact congrArg List.sum (List.map_congr_left fun v _ => S_len _)
  unfold iJoin
  simp only [iC_e, ob_s, h, strsOf, itemsOf_f, mapO_S]
  rw [if_pos, join_S]
  rw [e1, S_len, List.length_map]
  exact hl
theorem joinL_flat : ∀ L : List (List Nat), TL.joinL [] L = L.flatten
  | [] => rfl
  | [a] => by simp [TL.joinL]
  | a :: b :: r => by
    show a ++ ([] ++ TL.joinL [] (b :: r)) = _
    rw [joinL_flat (b :: r)]
    rfl
def pcL (c : Nat) : List Nat := if c = 34 then [34, 34] else [c]
theorem esc_flat : ∀ t : List Nat, (t.map pcL).flatten = esc t
  | [] => rfl
  | c :: r => by
    have ih := esc_flat r
    unfold esc
    simp only [List.map_cons, List.flatten_cons, ih]
    unfold pcL
    split <;> rfl
theorem sum_flat : ∀ L : List (List Nat), (L.map List.length).sum = L.flatten.length
  | [] => rfl
  | a :: r => by rw [List.map_cons, List.sum_cons, sum_flat r, List.flatten_cons, List.length_append]
theorem esc_len {t : List Nat} : (esc t).length ≤ 2 * t.length := by
  induction t with
  | nil => exact Nat.zero_le _
  | cons c r ih =>
    have e : esc (c :: r) = if c = 34 then 34 :: 34 :: esc r else c :: esc r := rfl
    rw [e]
    split
    · simp only [List.length_cons]; omega
    · simp only [List.length_cons]; omega
theorem esc_new {t : List Nat} (ht : t.length ≤ 60) (hc : ∀ c ∈ t, 32 ≤ c ∧ c ≤ 126) {x1 x2 : Option PV} : iJoin (iC (.str S_)) (iNew (iLc (iWalk (iBin fSubB (iVar 0) (iC (.int 1)))) (gN 2) iYes (iIf (iTestB (iBin fEqB (iVar 2) (iC (.str S_x22)))) (iC (.str S_x22x22)) (iVar 2)) [2])) [some (pv (.text t)), x1, x2] st = some (strP (esc t), st) := by
  obtain ⟨l, hlc⟩ := iLc_strm (x := S t) (g := fun c => strP (pcL c)) (p := fun _ => true) (ie := iBin fSubB (iVar 0) (iC (.int 1))) (e := iIf (iTestB (iBin fEqB (iVar 2) (iC (.str S_x22)))) (iC (.str S_x22x22)) (iVar 2)) (ig := gN 2) (t := iYes) (vs := [2]) (env := [some (pv (.text t)), x1, x2]) (st := st) (s1 := st)
    (by simp [pv]) (by rw [S_len]; omega) (fun c hcm s' => ⟨[some (pv (.text t)), x1, some (.str (S [c]))], rfl, rfl, fun _ => ⟨[], by
      have hc2 : c ∈ t := by simpa [S] using hcm
      have hok := hc c hc2
      have h1 : eqP s' (.str (S [c])) (.str S_x22) = some (decide ([c] = [34])) := by
        rw [s22, eqP_SX (fun d hd => by rw [List.mem_singleton] at hd; omega) (fun d hd => by rw [List.mem_singleton] at hd; omega)]
      have e2 : S_x22x22 = S [34, 34] := by decide +kernel
      by_cases h34 : c = 34
      · subst h34
        simp [h1, pcL, e2]
      · have : decide ([c] = [34]) = false := by simpa using h34
        simp [h1, pcL, h34, this]⟩⟩)
  have hnr : nrs ((((S t).cps.toList).filter fun _ => true).map fun c => strP (pcL c)) = true := nrs_map fun x _ => by simp [nr]
  have hx := new_at_ (l := [SO.lst ((((S t).cps.toList).filter fun _ => true).map fun c => strP (pcL c))] ++ l) hlc at_mid (Nat.le_refl _) (List.append_assoc ..) (rlts_nr _ hnr)
  have hf : (((S t).cps.toList).filter fun _ => true).map (fun c => strP (pcL c)) = (t.map pcL).map strP := by
    have hs : (S t).cps.toList = t := by simp [S]
    rw [hs, filter_yes, List.map_map]
    rfl
  rw [hf] at hx
  have := join_frz (st := st) (sep := []) s0 hx (by
    have h1 := sum_flat (t.map pcL)
    rw [esc_flat] at h1
    have h2 := esc_len (t := t)
    rw [h1, List.length_nil, Nat.mul_zero]
    omega)
  rw [this, joinL_flat, esc_flat]
theorem e_lshown : ∀ (d : Nat) (v : Vl) (n : Nat) (st : Sto), vd v ≤ d → gv v → (sh v).length ≤ 700000 → FF (n + d + 1) I__law_shown [pv v] st = some (.str (S (sh v)), st)
  | d, .int i, n, st, hd, hg, hl => by
    rw [e__law_shown]
    refine def_pure0 rfl ?_ rfl
    have h1 : i.natAbs < 2 ^ 1000 := Nat.lt_of_le_of_lt (show i.natAbs ≤ 1000000000000 from hg) (by decide)
    have e : Str.ofString i.repr = S (shI i) := text_int i
    simp [b__law_shown, pv, h1, e, sh]
  | d, .bool b, n, st, hd, hg, hl => by
    rw [e__law_shown]
    refine def_pure0 rfl ?_ rfl
    cases b <;> simp [b__law_shown, pv, sh, s_true, s_false]
  | d, .nothing, n, st, hd, hg, hl => by
    rw [e__law_shown]
    refine def_pure0 rfl ?_ rfl
    rw [show S (sh .nothing) = S_nothing from s_nothing.symm]
    simp [b__law_shown, pv]
  | d, .text t, n, st, hd, hg, hl => by
    rw [e__law_shown]
    refine def_pure0 rfl ?_ rfl
    have ht : t.length ≤ 60 := hg.1
    have hl2 := esc_len (t := t)
    have h221 : (S_x22).length = 1 := by decide +kernel
    have h2 : S_x22 ++ S (esc t) = S (34 :: esc t) := by rw [s22, S_cat]; rfl
    have h3 : S (34 :: esc t) ++ S_x22 = S (34 :: (esc t ++ [34])) := by rw [s22, S_cat]; rfl
    have h4 : 1 + (esc t).length ≤ 9000000 := by omega
    have h5 : (34 :: esc t).length + 1 ≤ 9000000 := by simp; omega
    have ej := esc_new (st := st) ht hg.2 (x1 := none) (x2 := none)
    have ec : iBin fAdd (iBin fAdd (iC (.str S_x22)) (iJoin (iC (.str S_)) (iNew (iLc (iWalk (iBin fSubB (iVar 0) (iC (.int 1)))) (gN 2) iYes (iIf (iTestB (iBin fEqB (iVar 2) (iC (.str S_x22)))) (iC (.str S_x22x22)) (iVar 2)) [2])))) (iC (.str S_x22)) [some (pv (.text t)), none, none] st = some (.str (S (34 :: (esc t ++ [34]))), st) := by
      rw [iBin_e, iBin_e]
      simp only [iC_e, ob_s, ej, fAdd_s, h221, S_len, h4, if_true, h2, h5, h3]
    simp only [b__law_shown, List.map_cons, List.map_nil, List.cons_append, List.nil_append, List.replicate, iSeq_e, iIfS_e, iTestB_e]
    have E1 : iBin fEqB (iBin fSubB (iVar 0) (iC (.int 0))) (iC (.str S_int)) [some (pv (.text t)), none, none] st = some (.bl false, st) := by simp [pv]
    have E2 : iBin fEqB (iBin fSubB (iVar 0) (iC (.int 0))) (iC (.str S_bool)) [some (pv (.text t)), none, none] st = some (.bl false, st) := by simp [pv]
    have E3 : iBin fEqB (iBin fSubB (iVar 0) (iC (.int 0))) (iC (.str S_text)) [some (pv (.text t)), none, none] st = some (.bl true, st) := by simp [pv]
    simp only [E1, E2, E3, ob_s, isBl_e, Option.map_some, iSkip_e, iRet_e, ec]
    rfl
  | 0, .list vs, n, st, hd, hg, hl => by simp [vd] at hd
  | d + 1, .list vs, n, st, hd, hg, hl => by
    rw [show n + (d + 1) + 1 = (n + d + 1) + 1 by omega, e__law_shown]
    have hgl : vs.length ≤ 20 := hg.1
    have hd' : vds vs ≤ d := by simp only [vd] at hd; omega
    have hll : (sh (.list vs)).length = (TL.joinL [44, 32] (shs vs)).length + 2 := by simp [sh]
    have hsum := joinL_len [] [] (shs vs)
    obtain ⟨l, hlc⟩ := iLc_tupm (xs := vs) (f := pv) (g := fun v => strP (sh v)) (p := fun _ => true) (ie := iBin fSubB (iVar 0) (iC (.int 1))) (e := iCall (FF (n + d + 1) I__law_shown) (iCons (iVar 1) iNil)) (ig := gN 1) (t := iYes) (vs := [1]) (env := [some (pv (.list vs)), none, none]) (st := st) (s1 := st)
      (by simp [pv, pvs_map]) (by omega) (fun v hv s' => ⟨[some (pv (.list vs)), some (pv v), none], rfl, rfl, fun _ => ⟨[], by
        have := e_lshown d v n s' (by have := vds_mem hv; omega) (gvs_mem hg.2 hv) (by
          have h1 : (sh v).length ≤ ((shs vs).map List.length).sum := len_mem (by rw [shs_map]; exact List.mem_map.mpr ⟨v, hv, rfl⟩)
          omega)
        simp [this]⟩⟩)
    have hnr : nrs ((vs.filter fun _ => true).map fun v => strP (sh v)) = true := nrs_map fun x _ => by simp [nr]
    have hx := new_at_ (l := [SO.lst ((vs.filter fun _ => true).map fun v => strP (sh v))] ++ l) hlc at_mid (Nat.le_refl _) (List.append_assoc ..) (rlts_nr _ hnr)
    have hf : (vs.filter fun _ => true).map (fun v => strP (sh v)) = (shs vs).map strP := by rw [filter_yes, shs_map, List.map_map]; rfl
    rw [hf] at hx
    have hsl : (shs vs).length = vs.length := by rw [shs_map, List.length_map]
    have ej := join_frz (st := st) (sep := [44, 32]) (show S_x2cx20 = S [44, 32] by decide +kernel) hx (by
      simp only [List.length_cons, List.length_nil]
      omega)
    have h2 : S_x5b ++ S (TL.joinL [44, 32] (shs vs)) = S (91 :: TL.joinL [44, 32] (shs vs)) := by rw [s5b, S_cat]; rfl
    have h3 : S (91 :: TL.joinL [44, 32] (shs vs)) ++ S_x5d = S (sh (.list vs)) := by rw [s5d, S_cat]; rfl
    have h5b : (S_x5b).length = 1 := by decide +kernel
    have h5d : (S_x5d).length = 1 := by decide +kernel
    have h4 : 1 + (TL.joinL [44, 32] (shs vs)).length ≤ 9000000 := by omega
    have h5 : (91 :: TL.joinL [44, 32] (shs vs)).length + 1 ≤ 9000000 := by simp; omega
    have ec : iBin fAdd (iBin fAdd (iC (.str S_x5b)) (iJoin (iC (.str S_x2cx20)) (iNew (iLc (iWalk (iBin fSubB (iVar 0) (iC (.int 1)))) (gN 1) iYes (iCall (FF (n + d + 1) I__law_shown) (iCons (iVar 1) iNil)) [1])))) (iC (.str S_x5d)) [some (pv (.list vs)), none, none] st = some (.str (S (sh (.list vs))), st) := by
      rw [iBin_e, iBin_e]
      simp only [iC_e, ob_s, ej, fAdd_s, h5b, h5d, S_len, h4, if_true, h2, h5, h3]
    refine def_pure0 rfl ?_ rfl
    simp only [b__law_shown, List.map_cons, List.map_nil, List.cons_append, List.nil_append, List.replicate, iSeq_e, iIfS_e, iTestB_e]
    have E1 : iBin fEqB (iBin fSubB (iVar 0) (iC (.int 0))) (iC (.str S_int)) [some (pv (.list vs)), none, none] st = some (.bl false, st) := by simp [pv]
    have E2 : iBin fEqB (iBin fSubB (iVar 0) (iC (.int 0))) (iC (.str S_bool)) [some (pv (.list vs)), none, none] st = some (.bl false, st) := by simp [pv]
    have E3 : iBin fEqB (iBin fSubB (iVar 0) (iC (.int 0))) (iC (.str S_text)) [some (pv (.list vs)), none, none] st = some (.bl false, st) := by simp [pv]
    have E4 : iBin fEqB (iBin fSubB (iVar 0) (iC (.int 0))) (iC (.str S_nothing)) [some (pv (.list vs)), none, none] st = some (.bl false, st) := by simp [pv]
    simp only [E1, E2, E3, E4, ob_s, isBl_e, Option.map_some, iSkip_e, iRet_e, ec]
end
end J11

/-! written types -/
namespace J11
open PySem PySem.Spec PyProof.Rows L2 IL SX
/-- a type's form -/
def shK : Kn → List Nat
  | .no => []
  | .int => [105, 110, 116]
  | .bool => [98, 111, 111, 108]
  | .text => [116, 101, 120, 116]
  | .nothing => wNothing
  | .list k => 91 :: (shK k ++ [93])
theorem n_int : S_int = S [105, 110, 116] := by decide +kernel
theorem n_bool : S_bool = S [98, 111, 111, 108] := by decide +kernel
theorem n_text : S_text = S [116, 101, 120, 116] := by decide +kernel
theorem shK_len : ∀ k : Kn, (shK k).length ≤ 7 + 2 * kd k
  | .no => by simp [shK]
  | .int => by simp only [shK, List.length_cons, List.length_nil]; omega
  | .bool => by simp only [shK, List.length_cons, List.length_nil]; omega
  | .text => by simp only [shK, List.length_cons, List.length_nil]; omega
  | .nothing => by simp [shK]
  | .list k => by
    have := shK_len k
    simp only [shK, kd, List.length_cons, List.length_append, List.length_nil]
    omega
theorem shK_ok : ∀ k : Kn, okL (shK k)
  | .no => by unfold okL shK; decide
  | .int => by unfold okL shK; decide
  | .bool => by unfold okL shK; decide
  | .text => by unfold okL shK; decide
  | .nothing => by unfold okL shK; decide
  | .list k => fun c hc => by
    have h := shK_ok k
    simp only [shK, List.mem_cons, List.mem_append, List.not_mem_nil, or_false] at hc
    rcases hc with rfl | hc | rfl
    · decide
    · exact h c hc
    · decide
theorem pk_base : ∀ k : Kn, gk k = true → kd k = 0 → pk k = strP (shK k)
  | .no, h, _ => by cases h
  | .int, _, _ => by simp [pk, shK, n_int]
  | .bool, _, _ => by simp [pk, shK, n_bool]
  | .text, _, _ => by simp [pk, shK, n_text]
  | .nothing, _, _ => by simp [pk, shK, s_nothing]
  | .list k, _, h => by simp [kd] at h
theorem base_gk : ∀ k : Kn, gk k = true → gk (base k) = true ∧ kd (base k) = 0
  | .no, h => by cases h
  | .int, _ => ⟨rfl, rfl⟩
  | .bool, _ => ⟨rfl, rfl⟩
  | .text, _ => ⟨rfl, rfl⟩
  | .nothing, _ => ⟨rfl, rfl⟩
  | .list k, h => base_gk k h
/-- from outside -/
theorem shK_rep : ∀ k : Kn, gk k = true → shK k = List.replicate (kd k) 91 ++ shK (base k) ++ List.replicate (kd k) 93
  | .no, h => by cases h
  | .int, _ => by simp [base, kd]
  | .bool, _ => by simp [base, kd]
  | .text, _ => by simp [base, kd]
  | .nothing, _ => by simp [base, kd]
  | .list k, h => by
    have ih := shK_rep k h
    have e : List.replicate (kd k) 93 ++ [93] = List.replicate (kd k + 1) 93 := by rw [List.replicate_succ']
    simp only [shK, base, kd]
    rw [ih, ← e, List.replicate_succ]
    simp only [List.cons_append, List.append_assoc]
section
variable {n : Nat} {st : Sto}
theorem e_show_type' : ∀ (k : Kn) (n : Nat) (st : Sto), gk k = true → kd k ≤ 40 → FF (n + kd k + 1) I_show_type [pk k] st = some (strP (shK k), st)
  | .no, n, st, hg, _ => by cases hg
  | .int, n, st, hg, _ => by
    rw [e_show_type]
    refine def_pure0 rfl ?_ rfl
    simp [b_show_type, pk, shK, n_int]
  | .bool, n, st, hg, _ => by
    rw [e_show_type]
    refine def_pure0 rfl ?_ rfl
    simp [b_show_type, pk, shK, n_bool]
  | .text, n, st, hg, _ => by
    rw [e_show_type]
    refine def_pure0 rfl ?_ rfl
    simp [b_show_type, pk, shK, n_text]
  | .nothing, n, st, hg, _ => by
    rw [e_show_type]
    refine def_pure0 rfl ?_ rfl
    simp [b_show_type, pk, shK, s_nothing]
  | .list k, n, st, hg, hk => by
    have hk' : kd k ≤ 40 := by simp only [kd] at hk; omega
    have ih := e_show_type' k n st hg hk'
    have hl := shK_len k
    rw [show n + kd (.list k) + 1 = (n + kd k + 1) + 1 by simp only [kd]; omega, e_show_type]
    refine def_pure0 rfl ?_ rfl
    have h5b : (S_x5b).length = 1 := by decide +kernel
    have h5d : (S_x5d).length = 1 := by decide +kernel
    have h2 : S_x5b ++ S (shK k) = S (91 :: shK k) := by rw [s5b, S_cat]; rfl
    have h3 : S (91 :: shK k) ++ S_x5d = S (shK (.list k)) := by rw [s5d, S_cat]; rfl
    have h4 : 1 + (shK k).length ≤ 9000000 := by omega
    have h5 : (91 :: shK k).length + 1 ≤ 9000000 := by simp; omega
    have hp : isP st (pk (.list k)) (.ty "tuple") = some true := by simp [pk]
    have e1 : iBin fSubB (iVar 0) (iC (.int 1)) [some (pk (.list k))] st = some (pk k, st) := by simp [pk]
    have ec : iBin fAdd (iBin fAdd (iC (.str S_x5b)) (iCall (FF (n + kd k + 1) I_show_type) (iCons (iBin fSubB (iVar 0) (iC (.int 1))) iNil))) (iC (.str S_x5d)) [some (pk (.list k))] st = some (strP (shK (.list k)), st) := by
      rw [iBin_e, iBin_e]
      simp only [iC_e, ob_s, iCall_e, iCons_e, iNil_e, e1, ih, fAdd_s, h5b, h5d, S_len, h4, if_true, h2, h5, h3]
    have et : iTest (iCall (a2 fIsi) (iCons (iVar 0) (iCons (iC (.ty "tuple")) iNil))) [some (pk (.list k))] st = some (true, st) := by simp [hp]
    unfold b_show_type
    show iSeq _ _ [some (pk (.list k))] st = _
    rw [iSeq_e, iIfS_e, et, ob_s]
    simp only [if_true, iRet_e, ec, ob_s, Option.map_some]
noncomputable def tyB2 : IS := (iSeq (iAsg (gN 1) (iBin fSubB (iVar 1) (iC (.int 1)))) (iAsg (gN 2) (iBin fAdd (iVar 2) (iC (.int 1)))))
theorem w_type2 {q0 : Option PV} : ∀ (k : Kn) (j : Int) (m : Nat), kd k < m → wloop tyC tyB2 m [q0, some (pk k), some (.int j)] st = some (.nx [q0, some (pk (base k)), some (.int (j + (kd k : Int)))] st)
  | .list k, j, m, hm => by
    cases m with
    | zero => omega
    | succ m =>
      have ih := w_type2 (q0 := q0) k (j + 1) m (by simp only [kd] at hm; omega)
      rw [wloop]
      have e1 : tyC [q0, some (pk (.list k)), some (.int j)] st = some (true, st) := by simp [tyC, pk]
      have e2 : tyB2 [q0, some (pk (.list k)), some (.int j)] st = some (.nx [q0, some (pk k), some (.int (j + 1))] st) := by simp [tyB2, pk]
      rw [e1]
      simp only [e2]
      rw [ih]
      have : j + 1 + (kd k : Int) = j + ((kd (.list k) : Nat) : Int) := by simp only [kd]; omega
      rw [this]
      rfl
  | .no, j, m, hm => by
    cases m with
    | zero => omega
    | succ m => simp [wloop, tyC, pk, base, kd]
  | .int, j, m, hm => by
    cases m with
    | zero => omega
    | succ m => simp [wloop, tyC, pk, base, kd]
  | .bool, j, m, hm => by
    cases m with
    | zero => omega
    | succ m => simp [wloop, tyC, pk, base, kd]
  | .text, j, m, hm => by
    cases m with
    | zero => omega
    | succ m => simp [wloop, tyC, pk, base, kd]
  | .nothing, j, m, hm => by
    cases m with
    | zero => omega
    | succ m => simp [wloop, tyC, pk, base, kd]
theorem e_ltype (k : Kn) (hg : gk k = true) (hk : kd k ≤ 6) : FF (n + 1) I__law_shown_type [pk k] st = some (strP (shK k), st) := by
  rw [e__law_shown_type]
  refine def_pure0 rfl ?_ rfl
  obtain ⟨m, hm⟩ := iWhile_at 900000 (by omega)
  have h := w_type2 (st := st) (q0 := some (pk k)) k 0 (m + 900000) (by omega)
  rw [← hm] at h
  unfold tyC tyB2 at h
  obtain ⟨hb1, hb2⟩ := base_gk k hg
  have hb := pk_base (base k) hb1 hb2
  rw [hb] at h
  have hl := shK_len (base k)
  have m1 := open_mul (st := st) (c := kd k) (by omega)
  have m2 := close_mul (st := st) (c := kd k) (by omega)
  have hj : (0 : Int) + (kd k : Int) = ((kd k : Nat) : Int) := by omega
  rw [hj] at h
  obtain ⟨dd, hdd⟩ : ∃ dd : Int, dd = ((kd k : Nat) : Int) := ⟨_, rfl⟩
  rw [← hdd] at h m1 m2
  have h4 : (List.replicate (kd k) 91).length + (shK (base k)).length ≤ 9000000 := by rw [List.length_replicate]; omega
  have h5 : (List.replicate (kd k) 91 ++ shK (base k)).length + (List.replicate (kd k) 93).length ≤ 9000000 := by rw [List.length_append, List.length_replicate, List.length_replicate]; omega
  have h2 : S (List.replicate (kd k) 91) ++ S (shK (base k)) = S (List.replicate (kd k) 91 ++ shK (base k)) := S_cat ..
  have h3 : S (List.replicate (kd k) 91 ++ shK (base k)) ++ S (List.replicate (kd k) 93) = S (shK k) := by rw [S_cat, ← shK_rep k hg]
  have ec : iBin fAdd (iBin fAdd (iBin fMulA (iC (.str S_x5b)) (iVar 2)) (iVar 1)) (iBin fMulA (iC (.str S_x5d)) (iVar 2)) [some (pk k), some (strP (shK (base k))), some (.int dd)] st = some (strP (shK k), st) := by
    simp only [iBin_e, iC_e, iVar_e, ob_s, List.getElem?_cons_zero, List.getElem?_cons_succ, m1, m2, fAdd_s, S_len, h4, if_true, h2, h5, h3]
  simp only [b__law_shown_type, List.map_cons, List.map_nil, iSeq_e, iAsg_e, iVar_e, iC_e, ob_s, List.cons_append, List.nil_append, List.replicate_succ, List.replicate_zero, List.getElem?_cons_zero, List.getElem?_cons_succ, gN_e, List.set_cons_succ, List.set_cons_zero, h, iRet_e, ec, Option.map_some]
end
end J11

/-! what is written is read; other types; a turn's tests -/
namespace J11
open PySem PySem.Spec PyProof.Rows L2 IL SX
/-- a value of the law -/
structure Gv (v : Vl) : Prop where
  good : gv v
  deep : vd v ≤ 6
  len : (sh v).length ≤ 700000
  ty : ∃ k, gk k = true ∧ kd k ≤ 6 ∧ fitsV v k = true
theorem BL_le : ∀ d, d ≤ 6 → BL d ≤ 700000 := by decide
theorem Gv.of {k : Kn} {v : Vl} (h : Dv k v) (hg : gk k = true) (hk : kd k ≤ 6) : Gv v :=
  ⟨h.good, Nat.le_trans h.deep hk, Nat.le_trans h.len (BL_le _ hk), k, hg, hk, h.fit⟩
theorem rdTop_back {T w : Kn} {v : Vl} (hT : gk T = true) (hk : kd T ≤ 6) (hf : fitsV v T = true) (hg : gv v) (hw : le w T) : rdTop w (sh v) = .ok v [] := by
  obtain ⟨k, h, _⟩ := read_back T 6 v w [] hT hk hf hg hw Stop.nil
  rw [List.append_nil] at h
  unfold rdTop
  rw [h]
  rfl
theorem Gv.read {v : Vl} (h : Gv v) : rdTop .no (sh v) = .ok v [] := by
  obtain ⟨k, hg, hk, hf⟩ := h.ty
  exact rdTop_back hg hk hf h.good trivial
theorem sh_inj {a b : Vl} (ha : Gv a) (hb : Gv b) (h : sh a = sh b) : a = b := by
  have h1 := ha.read
  rw [h, hb.read] at h1
  cases h1
  rfl
theorem Gv.tx {v : Vl} (h : Gv v) : Tx (sh v) := ⟨h.len, sh_okL h.good⟩
/-- read for a type: the value, and it fits; or a fault, and it does not fit -/
theorem Gv.other {v : Vl} (h : Gv v) {o : Kn} (ho : gk o = true) (hk : kd o ≤ 6) : (rdTop o (sh v) = .ok v [] ∧ fitsV v o = true) ∨ ∃ r, rdTop o (sh v) = .er r ∧ r <:+ sh v ∧ fitsV v o = false := by
  cases hf : fitsV v o with
  | true => exact .inl ⟨rdTop_back ho hk hf h.good (le_refl o), rfl⟩
  | false =>
    right
    cases hr : rdTop o (sh v) with
    | ok u r =>
      obtain ⟨h1, h2, h3, h4⟩ := rdTop_ok hr
      have hu : Gv u := ⟨h2, h3, by rw [← h1]; exact h.len, o, ho, hk, h4 ho⟩
      have := sh_inj h hu h1
      rw [this, h4 ho] at hf
      cases hf
    | er r =>
      refine ⟨r, rfl, ?_, rfl⟩
      have sf := rdAt_sf 6 o (sh v)
      unfold rdTop at hr
      cases ho2 : rdAt 6 o (sh v) with
      | er r1 =>
        rw [ho2] at hr sf
        cases hr
        exact sf
      | ok a r1 =>
        obtain ⟨u, k⟩ := a
        rw [ho2] at hr sf
        simp only at hr
        split at hr
        · cases hr
        · cases hr
          exact sf
section
variable {n : Nat} {st : Sto} {v u : Vl} {o k : Kn}
theorem g_show (h : Gv v) : FF 30 I_show_value [pv v] st = some (strP (sh v), st) := e_show 6 v 23 st h.deep h.good h.len
theorem g_lshown (h : Gv v) : FF 30 I__law_shown [pv v] st = some (strP (sh v), st) := e_lshown 6 v 23 st h.deep h.good h.len
theorem g_fits (h : Gv v) (hg : gk o = true) (hk : kd o ≤ 6) : FF 30 I_fits [pv v, pk o] st = some (.bl (fitsV v o), st) := e_fits' 6 v o 23 st h.deep h.good hg (by omega)
theorem g_fitsH (h : Gv v) (hg : gk o = true) (hk : kd o ≤ 6) : FF 30 I_fitsH [pv v, pk o] st = some (.bl (fitsV v o), st) := e_fitsH' 6 v o 23 st h.deep h.good hg (by omega)
theorem g_readv (h : Gv v) : GG 30 I_read_value [strP (sh v)] st = some (.ok (pv v), st) := by
  have r := e_read_value' (n := 13) (st := st) h.tx
  rw [h.read] at r
  exact r
theorem g_readt (h : Gv v) (hg : gk o = true) (hk : kd o ≤ 6) (hf : fitsV v o = true) : GG 30 I_read_typed [strP (sh v), pk o] st = some (.ok (pv v), st) := by
  have r := e_read_typed' (n := 13) (st := st) h.tx hg hk
  rw [rdTop_back hg hk hf h.good (le_refl o)] at r
  exact r
theorem g_readno (h : Gv v) (hg : gk o = true) (hk : kd o ≤ 6) (hf : fitsV v o = false) : ∃ (g : Sto) (j : Nat), j ≤ (sh v).length ∧ GG 30 I_read_typed [strP (sh v), pk o] st = some (.er S_WrittenError [(S_at, .int (j : Int))], st ++ g) := by
  have r := e_read_typed' (n := 13) (st := st) h.tx hg hk
  rcases h.other hg hk with ⟨_, h2⟩ | ⟨q, h1, h2, _⟩
  · rw [h2] at hf; cases hf
  · rw [h1] at r
    obtain ⟨g, r⟩ := r
    obtain ⟨j, hj, hj2, _⟩ := pos_le h2
    rw [hj] at r
    exact ⟨g, j, hj2, r⟩
theorem g_type (hg : gk k = true) (hk : kd k ≤ 6) : FF 30 I_show_type [pk k] st = some (strP (shK k), st) := by
  have := e_show_type' k (29 - kd k) st hg (by omega)
  rwa [show 29 - kd k + kd k + 1 = 30 by omega] at this
theorem g_ltype (hg : gk k = true) (hk : kd k ≤ 6) : FF 30 I__law_shown_type [pk k] st = some (strP (shK k), st) := e_ltype (n := 29) k hg hk
theorem ne_str {a b : List Nat} (ha : okL a) (hb : okL b) : fNeB (strP a) (strP b) st = some (.bl (!decide (a = b)), st) := by
  rw [fNeB_e, eqB_str, eqP_SX ha hb]
  rfl
theorem ne_pv_self (h : Gv v) : fNeB (pv v) (pv v) st = some (.bl false, st) := by
  rw [fNeB_e, eqB_pv, eq_pv_self h.good h.deep]
  rfl
theorem eq_pv (h : Gv v) (h2 : Gv u) : fEqB (pv v) (pv u) st = some (.bl (decide (sh v = sh u)), st) := by
  rw [fEqB_e, eqB_pv]
  by_cases e : v = u
  · subst e
    rw [eq_pv_self h.good h.deep, decide_eq_true rfl]
    rfl
  · rw [eq_pv_ne h.good h.deep h2.good h2.deep e, decide_eq_false fun z => e (sh_inj h h2 z)]
    rfl
end
end J11

/-! the law: a turn -/
namespace J11
open PySem PySem.Spec PyProof.Rows L2 IL SX
noncomputable def zC1 (F : Nat → FA) (G : Nat → FX) : IT := (iOr (iTestB (iBin fNeB (iCall (F I_show_value) (iCons (iVar 6) iNil)) (iVar 7))) (iOr (iTestB (iBin fNeB (iCall (pureF (G I_read_value)) (iCons (iVar 7) iNil)) (iVar 6))) (iTestB (iBin fNeB (iCall (pureF (G I_read_typed)) (iCons (iVar 7) (iCons (iVar 5) iNil))) (iVar 6)))))
noncomputable def zC2 (F : Nat → FA) : IT := (iTestB (iBin fNeB (iCall (F I_show_type) (iCons (iVar 5) iNil)) (iCall (F I__law_shown_type) (iCons (iVar 5) iNil))))
noncomputable def zB (F : Nat → FA) (G : Nat → FX) : IS := (iAsgX (gN 9) (iCallX (G I_read_typed) (iCons (iVar 7) (iCons (iVar 8) iNil))))
noncomputable def zC3 (F : Nat → FA) (fs : List (Str × PV)) : IT := (iOr (iNot (iTest (iC (.bl true)))) (iOr (iTest (iCall (F I_fitsH) (iCons (iVar 6) (iCons (iVar 8) iNil)))) (iNot (iTestB (iChain fLe fLe (iC (.int 0)) (iExF fs S_at) (iCall (a1 fLenB) (iCons (iVar 7) iNil)))))))
noncomputable def zC4 (F : Nat → FA) : IT := (iOr (iTestB (iBin fNeB (iVar 9) (iVar 6))) (iNot (iTest (iCall (F I_fits) (iCons (iVar 6) (iCons (iVar 8) iNil))))))
noncomputable def zK (F : Nat → FA) (G : Nat → FX) : IS := iCatch S_WrittenError (zB F G) 10 (fun fs => iIfS (zC3 F fs) (iRet (iC (.bl false))) iSkip) (iIfS (zC4 F) (iRet (iC (.bl false))) iSkip)
noncomputable def zT (F : Nat → FA) (G : Nat → FX) : IS := iSeq (iAsg (gN 5) (iCall (F I__law_type) (iCons (iVar 1) (iCons (iC (.int 6)) iNil)))) (iSeq (iAsg (gN 6) (iCall (F I__law_value) (iCons (iVar 1) (iCons (iVar 5) iNil)))) (iSeq (iDrop (iAppend (iVar 2) (iVar 6))) (iSeq (iAsg (gN 7) (iCall (F I__law_shown) (iCons (iVar 6) iNil))) (iSeq (iIfS (zC1 F G) (iRet (iC (.bl false))) iSkip) (iSeq (iIfS (zC2 F) (iRet (iC (.bl false))) iSkip) (iSeq (iAsg (gN 8) (iCall (F I__law_type) (iCons (iVar 1) (iCons (iC (.int 4)) iNil)))) (zK F G)))))))
noncomputable def zC5 (F : Nat → FA) : IT := (iTestB (iBin fNeB (iBin fEqB (iCall (F I_show_value) (iCons (iVar 4) iNil)) (iCall (F I_show_value) (iCons (iVar 8) iNil))) (iBin fEqB (iVar 4) (iVar 8))))
noncomputable def zL (F : Nat → FA) : IS := iFor (iWalk (iVar 2)) (gN 8) (iIfS (zC5 F) (iRet (iC (.bl false))) iSkip)
theorem b_law_z (F : Nat → FA) (G : Nat → FX) : b_law F G = iSeq (iAsg (gN 1) (iCall (F I__law_state) (iCons (iVar 0) iNil))) (iSeq (iAsg (gN 2) (iLst iNil)) (iSeq (iFor (iRange1 (iCons (iC (.int 3)) iNil)) (gN 3) (zT F G)) (iSeq (iFor (iWalk (iVar 2)) (gN 4) (zL F)) (iRet (iC (.bl true)))))) := rfl
theorem nx_seq {p q : IS} {env e : PEnv} {st s : Sto} (h : p env st = some (.nx e s)) : iSeq p q env st = q e s := by rw [iSeq_e, h]
theorem if_skip {t : IT} {p : IS} {env : PEnv} {st s : Sto} (h : t env st = some (false, s)) : iIfS t p iSkip env st = some (.nx env s) := by
  rw [iIfS_e, h]
  rfl
section
variable {n s c d : Nat} {st : Sto} {v : Vl} {k o : Kn} {x0 x1 x2 x3 x4 x5 x6 x7 x8 x9 x10 : Option PV} {vs : List Vl}
theorem zc1_e (h : Gv v) (hg : gk k = true) (hk : kd k ≤ 6) (hf : fitsV v k = true) : zC1 (FF 30) (GG 30) [x0, x1, x2, x3, x4, some (pk k), some (pv v), some (strP (sh v)), x8, x9, x10] st = some (false, st) := by
  have o1 := sh_okL h.good
  have e1 := ne_str (st := st) o1 o1
  rw [decide_eq_true rfl] at e1
  have e2 := ne_pv_self (st := st) h
  have p1 : pureF (GG 30 I_read_value) [strP (sh v)] st = some (pv v, st) := by
    unfold pureF
    rw [g_readv h]
  have p2 : pureF (GG 30 I_read_typed) [strP (sh v), pk k] st = some (pv v, st) := by
    unfold pureF
    rw [g_readt h hg hk hf]
  have f1 : iTestB (iBin fNeB (iCall (FF 30 I_show_value) (iCons (iVar 6) iNil)) (iVar 7)) [x0, x1, x2, x3, x4, some (pk k), some (pv v), some (strP (sh v)), x8, x9, x10] st = some (false, st) := by
    simp only [iTestB_e, iBin_e, iCall_e, iCons_e, iNil_e, iVar_e, ob_s, List.getElem?_cons_zero, List.getElem?_cons_succ, g_show h, e1, Option.map_some, isBl_e, Bool.not_true]
  have f2 : iTestB (iBin fNeB (iCall (pureF (GG 30 I_read_value)) (iCons (iVar 7) iNil)) (iVar 6)) [x0, x1, x2, x3, x4, some (pk k), some (pv v), some (strP (sh v)), x8, x9, x10] st = some (false, st) := by
    simp only [iTestB_e, iBin_e, iCall_e, iCons_e, iNil_e, iVar_e, ob_s, List.getElem?_cons_zero, List.getElem?_cons_succ, p1, e2, Option.map_some, isBl_e]
  have f3 : iTestB (iBin fNeB (iCall (pureF (GG 30 I_read_typed)) (iCons (iVar 7) (iCons (iVar 5) iNil))) (iVar 6)) [x0, x1, x2, x3, x4, some (pk k), some (pv v), some (strP (sh v)), x8, x9, x10] st = some (false, st) := by
    simp only [iTestB_e, iBin_e, iCall_e, iCons_e, iNil_e, iVar_e, ob_s, List.getElem?_cons_zero, List.getElem?_cons_succ, p2, e2, Option.map_some, isBl_e]
  unfold zC1
  rw [iOr_e, f1]
  simp only [ob_s, Bool.false_eq_true, if_false]
  rw [iOr_e, f2]
  simp only [ob_s, Bool.false_eq_true, if_false]
  rw [f3]
theorem zc2_e (hg : gk k = true) (hk : kd k ≤ 6) : zC2 (FF 30) [x0, x1, x2, x3, x4, some (pk k), x6, x7, x8, x9, x10] st = some (false, st) := by
  have e1 := ne_str (st := st) (shK_ok k) (shK_ok k)
  rw [decide_eq_true rfl] at e1
  unfold zC2
  simp only [iTestB_e, iBin_e, iCall_e, iCons_e, iNil_e, iVar_e, ob_s, List.getElem?_cons_zero, List.getElem?_cons_succ, g_type hg hk, g_ltype hg hk, e1, Option.map_some, isBl_e, Bool.not_true]
theorem zc3_e (h : Gv v) (hg : gk o = true) (hk : kd o ≤ 6) (hf : fitsV v o = false) {j : Nat} (hj : j ≤ (sh v).length) : zC3 (FF 30) [(S_at, .int (j : Int))] [x0, x1, x2, x3, x4, x5, some (pv v), some (strP (sh v)), some (pk o), x9, x10] st = some (false, st) := by
  have g := g_fitsH (st := st) h hg hk
  rw [hf] at g
  have hl : (sh v).length ≤ 9000000 := by have := h.len; omega
  obtain ⟨jj, hjj⟩ : ∃ jj : Int, jj = (j : Int) := ⟨_, rfl⟩
  rw [← hjj]
  have h1 : decide ((0 : Int) ≤ jj) = true := decide_eq_true (by omega)
  have h2 : decide (jj ≤ ((sh v).length : Int)) = true := decide_eq_true (by omega)
  have f1 : iNot (iTest (iC (.bl true))) [x0, x1, x2, x3, x4, x5, some (pv v), some (strP (sh v)), some (pk o), x9, x10] st = some (false, st) := by simp
  have f2 : iTest (iCall (FF 30 I_fitsH) (iCons (iVar 6) (iCons (iVar 8) iNil))) [x0, x1, x2, x3, x4, x5, some (pv v), some (strP (sh v)), some (pk o), x9, x10] st = some (false, st) := by
    simp only [iTest_e, iCall_e, iCons_e, iNil_e, iVar_e, ob_s, List.getElem?_cons_zero, List.getElem?_cons_succ, g, tru_bl, Option.map_some]
  have f3 : iNot (iTestB (iChain fLe fLe (iC (.int 0)) (iExF [(S_at, .int jj)] S_at) (iCall (a1 fLenB) (iCons (iVar 7) iNil)))) [x0, x1, x2, x3, x4, x5, some (pv v), some (strP (sh v)), some (pk o), x9, x10] st = some (false, st) := by
    simp [S_len, hl, h1, h2]
  unfold zC3
  rw [iOr_e, f1]
  simp only [ob_s, Bool.false_eq_true, if_false]
  rw [iOr_e, f2]
  simp only [ob_s, Bool.false_eq_true, if_false]
  rw [f3]
theorem zc4_e (h : Gv v) (hg : gk o = true) (hk : kd o ≤ 6) (hf : fitsV v o = true) : zC4 (FF 30) [x0, x1, x2, x3, x4, x5, some (pv v), x7, some (pk o), some (pv v), x10] st = some (false, st) := by
  have e2 := ne_pv_self (st := st) h
  have g := g_fits (st := st) h hg hk
  rw [hf] at g
  have f1 : iTestB (iBin fNeB (iVar 9) (iVar 6)) [x0, x1, x2, x3, x4, x5, some (pv v), x7, some (pk o), some (pv v), x10] st = some (false, st) := by
    simp only [iTestB_e, iBin_e, iVar_e, ob_s, List.getElem?_cons_zero, List.getElem?_cons_succ, e2, Option.map_some, isBl_e]
  have f2 : iNot (iTest (iCall (FF 30 I_fits) (iCons (iVar 6) (iCons (iVar 8) iNil)))) [x0, x1, x2, x3, x4, x5, some (pv v), x7, some (pk o), some (pv v), x10] st = some (false, st) := by
    simp only [iNot_e, iTest_e, iCall_e, iCons_e, iNil_e, iVar_e, ob_s, List.getElem?_cons_zero, List.getElem?_cons_succ, g, tru_bl, Option.map_some, Bool.not_true]
  unfold zC4
  rw [iOr_e, f1]
  simp only [ob_s, Bool.false_eq_true, if_false]
  rw [f2]
theorem k_e (h : Gv v) (hg : gk o = true) (hk : kd o ≤ 6) : ∃ g y9 y10, zK (FF 30) (GG 30) [x0, x1, x2, x3, x4, x5, some (pv v), some (strP (sh v)), some (pk o), x9, x10] st = some (.nx [x0, x1, x2, x3, x4, x5, some (pv v), some (strP (sh v)), some (pk o), y9, y10] (st ++ g)) := by
  cases hf : fitsV v o with
  | true =>
    have e0 : zB (FF 30) (GG 30) [x0, x1, x2, x3, x4, x5, some (pv v), some (strP (sh v)), some (pk o), x9, x10] st = some (.nx [x0, x1, x2, x3, x4, x5, some (pv v), some (strP (sh v)), some (pk o), some (pv v), x10] st) := by
      simp only [zB, iAsgX_e, iCallX_e, iCons_e, iNil_e, iVar_e, ob_s, List.getElem?_cons_zero, List.getElem?_cons_succ, g_readt h hg hk hf, gN_e]
      rfl
    refine ⟨[], some (pv v), x10, ?_⟩
    unfold zK iCatch
    rw [e0]
    simp only [List.append_nil]
    exact if_skip (zc4_e h hg hk hf)
  | false =>
    obtain ⟨g, j, hj, hr⟩ := g_readno (st := st) h hg hk hf
    have e0 : zB (FF 30) (GG 30) [x0, x1, x2, x3, x4, x5, some (pv v), some (strP (sh v)), some (pk o), x9, x10] st = some (.er [x0, x1, x2, x3, x4, x5, some (pv v), some (strP (sh v)), some (pk o), x9, x10] S_WrittenError [(S_at, .int (j : Int))] (st ++ g)) := by
      simp only [zB, iAsgX_e, iCallX_e, iCons_e, iNil_e, iVar_e, ob_s, List.getElem?_cons_zero, List.getElem?_cons_succ, hr]
    refine ⟨g, x9, none, ?_⟩
    have e1 := if_skip (p := iRet (iC (.bl false))) (zc3_e (st := st ++ g) (x0 := x0) (x1 := x1) (x2 := x2) (x3 := x3) (x4 := x4) (x5 := x5) (x9 := x9) (x10 := none) h hg hk hf hj)
    unfold zK iCatch
    rw [e0]
    simp only [List.length_cons, List.length_nil, List.set_cons_succ, List.set_cons_zero, true_and]
    rw [if_pos (by omega), e1]
    rfl
end
end J11

/-! the law: its loops -/
namespace J11
open PySem PySem.Spec PyProof.Rows L2 IL SX
/-- what holds between turns -/
theorem loop_inv {at_ : Sto → Nat → Option (Option PV)} {ig : IG} {body : IS} {N : Nat} (I : Nat → PEnv → Sto → Prop)
    (h : ∀ i e st, i < N → I i e st → ∃ x e1 e2 st2, at_ st i = some (some x) ∧ ig x e st = some e1 ∧ body e1 st = some (.nx e2 st2) ∧ I (i + 1) e2 st2)
    (hN : ∀ e st, I N e st → at_ st N = some none) : ∀ (m i : Nat) (e : PEnv) (st : Sto), i + m = N + 1 → i ≤ N → I i e st → ∃ e2 st2, loop at_ ig body m i e st = some (.nx e2 st2) ∧ I N e2 st2
  | 0, i, e, st, hm, hi, _ => by omega
  | m + 1, i, e, st, hm, hi, hI => by
    by_cases hiN : i = N
    · subst hiN
      refine ⟨e, st, ?_, hI⟩
      rw [loop, hN e st hI]
    · obtain ⟨x, e1, e2, st2, h1, h2, h3, h4⟩ := h i e st (by omega) hI
      obtain ⟨e3, st3, h5, h6⟩ := loop_inv I h hN m (i + 1) e2 st2 (by omega) (by omega) h4
      refine ⟨e3, st3, ?_, h6⟩
      rw [loop, h1]
      simp only [h2, h3]
      exact h5
section
variable {n s c d : Nat} {st : Sto} {v : Vl} {k o : Kn} {x0 x1 x2 x3 x4 x5 x6 x7 x8 x9 x10 : Option PV} {vs : List Vl}
theorem LS.app {g : Sto} (L : LS st s c) : LS (st ++ g) s c :=
  L.of_eq (List.getElem?_append_left L.lt.1) (List.getElem?_append_left L.lt.2)
theorem turn (L : LS st s c) (hds : d ≠ s) (hdc : d ≠ c) (hd : st[d]? = some (.lst (pvs vs))) (hl : vs.length ≤ 1000) :
    ∃ y5 y6 y7 y8 y9 y10 st' u, zT (FF 30) (GG 30) [x0, some (.ref s), some (.ref d), x3, x4, x5, x6, x7, x8, x9, x10] st = some (.nx [x0, some (.ref s), some (.ref d), x3, x4, y5, y6, y7, y8, y9, y10] st') ∧ LS st' s c ∧ st'[d]? = some (.lst (pvs (vs ++ [u]))) ∧ Gv u := by
  obtain ⟨k, s1, h1, hg, hk, M1⟩ := e_ty (s := s) (c := c) 6 21 st L
  obtain ⟨v, s2, h2, dv, M2⟩ := e_vd (s := s) (c := c) k (26 - kd k) s1 hg (by omega) M1.ls
  rw [show 26 - kd k + kd k + 4 = 30 by omega] at h2
  have gvv := Gv.of dv hg hk
  have d2 : s2[d]? = some (.lst (pvs vs)) := by rw [M2.eq d hds hdc, M1.eq d hds hdc]; exact hd
  have ld : d < s2.length := lt_of_at d2
  obtain ⟨S3, hS3⟩ : ∃ S3, S3 = s2.set d (.lst (pvs vs ++ [pv v])) := ⟨_, rfl⟩
  have L3 : LS S3 s c := M2.ls.of_eq (by rw [hS3]; exact List.getElem?_set_ne hds) (by rw [hS3]; exact List.getElem?_set_ne hdc)
  have d3 : S3[d]? = some (.lst (pvs (vs ++ [v]))) := by
    rw [hS3, List.getElem?_set_self ld, pvs_map, pvs_map, List.map_append]
    rfl
  obtain ⟨o, s4, h4, hgo, hko, M4⟩ := e_ty (s := s) (c := c) 4 23 S3 L3
  obtain ⟨g, y9, y10, hK⟩ := k_e (st := s4) (x0 := x0) (x1 := some (.ref s)) (x2 := some (.ref d)) (x3 := x3) (x4 := x4) (x5 := some (pk k)) (x9 := x9) (x10 := x10) gvv hgo (by omega)
  have d4 : s4[d]? = some (.lst (pvs (vs ++ [v]))) := by rw [M4.eq d hds hdc]; exact d3
  refine ⟨some (pk k), some (pv v), some (strP (sh v)), some (pk o), y9, y10, s4 ++ g, v, ?_, M4.ls.app, by rw [List.getElem?_append_left (lt_of_at d4)]; exact d4, gvv⟩
  have e1 : iCall (FF 30 I__law_type) (iCons (iVar 1) (iCons (iC (.int 6)) iNil)) [x0, some (.ref s), some (.ref d), x3, x4, x5, x6, x7, x8, x9, x10] st = some (pk k, s1) := by
    simp only [iCall_e, iCons_e, iNil_e, iVar_e, iC_e, ob_s, List.getElem?_cons_zero, List.getElem?_cons_succ]
    exact h1
  have e2 : iCall (FF 30 I__law_value) (iCons (iVar 1) (iCons (iVar 5) iNil)) [x0, some (.ref s), some (.ref d), x3, x4, some (pk k), x6, x7, x8, x9, x10] s1 = some (pv v, s2) := by
    simp only [iCall_e, iCons_e, iNil_e, iVar_e, ob_s, List.getElem?_cons_zero, List.getElem?_cons_succ, h2]
  have e3 : iDrop (iAppend (iVar 2) (iVar 6)) [x0, some (.ref s), some (.ref d), x3, x4, some (pk k), some (pv v), x7, x8, x9, x10] s2 = some (.nx [x0, some (.ref s), some (.ref d), x3, x4, some (pk k), some (pv v), x7, x8, x9, x10] S3) := by
    rw [iDrop_e, append_e (n := d) (s1 := s2) (s2 := s2) (ys := pvs vs) (xs := pvs vs) (x := pv v) rfl d2 rfl d2 (by rw [pvs_len]; omega), hS3]
    rfl
  have e4 : iCall (FF 30 I__law_shown) (iCons (iVar 6) iNil) [x0, some (.ref s), some (.ref d), x3, x4, some (pk k), some (pv v), x7, x8, x9, x10] S3 = some (strP (sh v), S3) := by
    simp only [iCall_e, iCons_e, iNil_e, iVar_e, ob_s, List.getElem?_cons_zero, List.getElem?_cons_succ, g_lshown gvv]
  have e5 := if_skip (p := iRet (iC (.bl false))) (zc1_e (st := S3) (x0 := x0) (x1 := some (.ref s)) (x2 := some (.ref d)) (x3 := x3) (x4 := x4) (x8 := x8) (x9 := x9) (x10 := x10) gvv hg hk dv.fit)
  have e6 := if_skip (p := iRet (iC (.bl false))) (zc2_e (st := S3) (x0 := x0) (x1 := some (.ref s)) (x2 := some (.ref d)) (x3 := x3) (x4 := x4) (x6 := some (pv v)) (x7 := some (strP (sh v))) (x8 := x8) (x9 := x9) (x10 := x10) hg hk)
  have e7 : iCall (FF 30 I__law_type) (iCons (iVar 1) (iCons (iC (.int 4)) iNil)) [x0, some (.ref s), some (.ref d), x3, x4, some (pk k), some (pv v), some (strP (sh v)), x8, x9, x10] S3 = some (pk o, s4) := by
    simp only [iCall_e, iCons_e, iNil_e, iVar_e, iC_e, ob_s, List.getElem?_cons_zero, List.getElem?_cons_succ]
    exact h4
  unfold zT
  rw [asg_seq e1]
  show iSeq _ _ [x0, some (.ref s), some (.ref d), x3, x4, some (pk k), x6, x7, x8, x9, x10] s1 = _
  rw [asg_seq e2]
  show iSeq _ _ [x0, some (.ref s), some (.ref d), x3, x4, some (pk k), some (pv v), x7, x8, x9, x10] s2 = _
  rw [nx_seq e3, asg_seq e4]
  show iSeq _ _ [x0, some (.ref s), some (.ref d), x3, x4, some (pk k), some (pv v), some (strP (sh v)), x8, x9, x10] S3 = _
  rw [nx_seq e5, nx_seq e6, asg_seq e7]
  exact hK
/-! ### values beside values -/
theorem zc5_e {a b : Vl} (ha : Gv a) (hb : Gv b) : zC5 (FF 30) [x0, x1, x2, x3, some (pv a), x5, x6, x7, some (pv b), x9, x10] st = some (false, st) := by
  have e1 : fEqB (strP (sh a)) (strP (sh b)) st = some (.bl (decide (sh a = sh b)), st) := by
    rw [fEqB_e, eqB_str, eqP_SX (sh_okL ha.good) (sh_okL hb.good)]
    rfl
  have e3 : fNeB (.bl (decide (sh a = sh b))) (.bl (decide (sh a = sh b))) st = some (.bl false, st) := by
    rw [fNeB_e, eqB_bl, eqP_b]
    simp
  unfold zC5
  simp only [iTestB_e, iBin_e, iCall_e, iCons_e, iNil_e, iVar_e, ob_s, List.getElem?_cons_zero, List.getElem?_cons_succ, g_show ha, g_show hb, e1, eq_pv ha hb, e3, Option.map_some, isBl_e]
theorem at_srcL {ys : List PV} {i : Nat} (hd : st[d]? = some (.lst ys)) : (srcL d ys.length).at_ st i = some ys[i]? := by
  simp only [srcL, hd]
theorem walk_L {ys : List PV} {env : PEnv} (he : env[2]? = some (some (.ref d))) (hd : st[d]? = some (.lst ys)) : iWalk (iVar 2) env st = some (srcL d ys.length, st) := by
  rw [iWalk_e, iVar_e, he]
  simp only [ob_s, hd]
/-- the environment between turns of the last loops -/
def EL (d : Nat) (e : PEnv) : Prop := ∃ x0 x1 x3 x4 x5 x6 x7 x8 x9 x10 : Option PV, e = [x0, x1, some (.ref d), x3, x4, x5, x6, x7, x8, x9, x10]
theorem inner_e (hv : ∀ v ∈ vs, Gv v) (hd : st[d]? = some (.lst (pvs vs))) {a : Vl} (ha : Gv a) : ∃ e2, zL (FF 30) [x0, x1, some (.ref d), x3, some (pv a), x5, x6, x7, x8, x9, x10] st = some (.nx e2 st) ∧ EL d e2 := by
  have h := loop_inv (at_ := (srcL d (pvs vs).length).at_) (ig := gN 8) (body := iIfS (zC5 (FF 30)) (iRet (iC (.bl false))) iSkip) (N := (pvs vs).length)
    (fun _ e S => S = st ∧ ∃ x0 x1 x3 x5 x6 x7 x8 x9 x10 : Option PV, e = [x0, x1, some (.ref d), x3, some (pv a), x5, x6, x7, x8, x9, x10])
    (fun i e S hi ⟨hS, x0, x1, x3, x5, x6, x7, x8, x9, x10, he⟩ => by
      subst hS
      subst he
      have hi' : i < vs.length := by rw [pvs_len] at hi; exact hi
      have hm : (pvs vs)[i]? = some (pv vs[i]) := by rw [pvs_map, List.getElem?_map, List.getElem?_eq_getElem hi']; rfl
      refine ⟨pv vs[i], _, [x0, x1, some (.ref d), x3, some (pv a), x5, x6, x7, some (pv vs[i]), x9, x10], S, by rw [at_srcL hd, hm], rfl, ?_, rfl, x0, x1, x3, x5, x6, x7, some (pv vs[i]), x9, x10, rfl⟩
      exact if_skip (zc5_e ha (hv _ (List.getElem_mem hi'))))
    (fun e S ⟨hS, _⟩ => by subst hS; rw [at_srcL hd, List.getElem?_eq_none (Nat.le_refl _)])
    ((pvs vs).length + 1) 0 [x0, x1, some (.ref d), x3, some (pv a), x5, x6, x7, x8, x9, x10] st (by omega) (Nat.zero_le _) ⟨rfl, x0, x1, x3, x5, x6, x7, x8, x9, x10, rfl⟩
  obtain ⟨e2, st2, h1, rfl, y0, y1, y3, y5, y6, y7, y8, y9, y10, rfl⟩ := h
  refine ⟨_, ?_, y0, y1, y3, some (pv a), y5, y6, y7, y8, y9, y10, rfl⟩
  unfold zL
  rw [iFor_e, walk_L rfl hd, ob_s]
  exact h1
theorem outer_e (hv : ∀ v ∈ vs, Gv v) (hd : st[d]? = some (.lst (pvs vs))) {e : PEnv} (he : EL d e) : ∃ e2, iFor (iWalk (iVar 2)) (gN 4) (zL (FF 30)) e st = some (.nx e2 st) := by
  have h := loop_inv (at_ := (srcL d (pvs vs).length).at_) (ig := gN 4) (body := zL (FF 30)) (N := (pvs vs).length) (fun _ e S => S = st ∧ EL d e)
    (fun i e S hi ⟨hS, x0, x1, x3, x4, x5, x6, x7, x8, x9, x10, he⟩ => by
      subst hS
      subst he
      have hi' : i < vs.length := by rw [pvs_len] at hi; exact hi
      have hm : (pvs vs)[i]? = some (pv vs[i]) := by rw [pvs_map, List.getElem?_map, List.getElem?_eq_getElem hi']; rfl
      obtain ⟨e2, h1, h2⟩ := inner_e (x0 := x0) (x1 := x1) (x3 := x3) (x5 := x5) (x6 := x6) (x7 := x7) (x8 := x8) (x9 := x9) (x10 := x10) hv hd (hv _ (List.getElem_mem hi'))
      exact ⟨pv vs[i], _, e2, S, by rw [at_srcL hd, hm], rfl, h1, rfl, h2⟩)
    (fun e S ⟨hS, _⟩ => by subst hS; rw [at_srcL hd, List.getElem?_eq_none (Nat.le_refl _)])
    ((pvs vs).length + 1) 0 e st (by omega) (Nat.zero_le _) ⟨rfl, he⟩
  obtain ⟨e2, st2, h1, rfl, _⟩ := h
  obtain ⟨x0, x1, x3, x4, x5, x6, x7, x8, x9, x10, rfl⟩ := he
  refine ⟨e2, ?_⟩
  rw [iFor_e, walk_L rfl hd, ob_s]
  exact h1
/-- between turns of the first loop -/
def TI (s c d i : Nat) (e : PEnv) (S : Sto) : Prop := (∃ x0 x3 x4 x5 x6 x7 x8 x9 x10 : Option PV, e = [x0, some (.ref s), some (.ref d), x3, x4, x5, x6, x7, x8, x9, x10]) ∧ LS S s c ∧ ∃ vs, S[d]? = some (.lst (pvs vs)) ∧ vs.length = i ∧ ∀ v ∈ vs, Gv v
theorem first_e (hds : d ≠ s) (hdc : d ≠ c) {e : PEnv} (h0 : TI s c d 0 e st) : ∃ e2 st2, iFor (iRange1 (iCons (iC (.int 3)) iNil)) (gN 3) (zT (FF 30) (GG 30)) e st = some (.nx e2 st2) ∧ TI s c d 3 e2 st2 := by
  have h := loop_inv (at_ := (srcR 0 3).at_) (ig := gN 3) (body := zT (FF 30) (GG 30)) (N := 3) (TI s c d)
    (fun i e S hi ⟨⟨x0, x3, x4, x5, x6, x7, x8, x9, x10, he⟩, L, vs, h1, h2, h3⟩ => by
      subst he
      obtain ⟨y5, y6, y7, y8, y9, y10, st', u, h4, h5, h6, h7⟩ := turn (x0 := x0) (x3 := some (.int (i : Nat))) (x4 := x4) (x5 := x5) (x6 := x6) (x7 := x7) (x8 := x8) (x9 := x9) (x10 := x10) L hds hdc h1 (by omega)
      refine ⟨.int (i : Nat), _, _, st', by rw [srcR_at, List.getElem?_map, List.getElem?_range hi]; rfl, rfl, h4, ⟨x0, some (.int (i : Nat)), x4, y5, y6, y7, y8, y9, y10, rfl⟩, h5, vs ++ [u], h6, by rw [List.length_append, h2]; rfl, fun v hv => ?_⟩
      rcases List.mem_append.mp hv with hv | hv
      · exact h3 v hv
      · rw [List.mem_singleton] at hv
        rw [hv]
        exact h7)
    (fun e S _ => by rw [srcR_at, List.getElem?_eq_none (by simp)])
    4 0 e st rfl (Nat.zero_le _) h0
  obtain ⟨e2, st2, h1, h2⟩ := h
  refine ⟨e2, st2, ?_, h2⟩
  have hrg := range1_i (ir := iCons (iC (.int 3)) iNil) (env := e) (s := st) (st1 := st) (j := 3) rfl (by omega) (by omega)
  rw [iFor_e, hrg, ob_s]
  exact h1
theorem e_all (ns : List Int) (hn : ns.length ≤ 63) : ∃ s', FF 31 I_law [.frz (ns.map .int)] [] = some (.bl true, s') := by
  obtain ⟨s, c, s1, h1, L1⟩ := e_state (n := 29) hn
  have e1 : iCall (FF 30 I__law_state) (iCons (iVar 0) iNil) [some (.frz (ns.map .int)), none, none, none, none, none, none, none, none, none, none] [] = some (.ref s, s1) := by
    simp only [iCall_e, iCons_e, iNil_e, iVar_e, ob_s, List.getElem?_cons_zero]
    exact h1
  have e2 : iLst iNil [some (.frz (ns.map .int)), some (.ref s), none, none, none, none, none, none, none, none, none] s1 = some (.ref s1.length, s1 ++ [.lst []]) := by
    simp
  have hds : s1.length ≠ s := by have := L1.lt.1; omega
  have hdc : s1.length ≠ c := by have := L1.lt.2; omega
  obtain ⟨e3, s3, h3, ⟨x0, x3, x4, x5, x6, x7, x8, x9, x10, he⟩, L3, vs, hd, _, hv⟩ := first_e (s := s) (c := c) (d := s1.length) (st := s1 ++ [.lst []]) (e := [some (.frz (ns.map .int)), some (.ref s), some (.ref s1.length), none, none, none, none, none, none, none, none]) hds hdc
    ⟨⟨some (.frz (ns.map .int)), none, none, none, none, none, none, none, none, rfl⟩, L1.app, [], by simp [pvs], rfl, fun v hv => by cases hv⟩
  subst he
  obtain ⟨e4, h4⟩ := outer_e (e := [x0, some (.ref s), some (.ref s1.length), x3, x4, x5, x6, x7, x8, x9, x10]) hv hd ⟨x0, some (.ref s), x3, x4, x5, x6, x7, x8, x9, x10, rfl⟩
  have hb : b_law (FF 30) (GG 30) [some (.frz (ns.map .int)), none, none, none, none, none, none, none, none, none, none] [] = some (.rt (.bl true) s3) := by
    rw [b_law_z, asg_seq e1]
    show iSeq _ _ [some (.frz (ns.map .int)), some (.ref s), none, none, none, none, none, none, none, none, none] s1 = _
    rw [asg_seq e2]
    show iSeq _ _ [some (.frz (ns.map .int)), some (.ref s), some (.ref s1.length), none, none, none, none, none, none, none, none] (s1 ++ [.lst []]) = _
    rw [nx_seq h3, nx_seq h4]
    rfl
  have e := e_law 30
  rw [e]
  exact ⟨_, def_rt (n := 1) rfl hb⟩
end
end J11

namespace J11
open PySem PySem.Spec PyProof.Rows L2 IL
theorem calX_zero {P : Program} {w : World} {K : PySem.W.Frag} {mg : Str → Option Value} {base : Heap} {k : Nat} {x : Str} {st : Stmt} {f : Addr} {fd : FuncData} {ps : List Str} (F : C8.Def K mg x st f fd) (b : Binds K fd ps []) : CalX P w K mg base k x ps.length (fun _ _ => none) :=
  ⟨f, fd, ps, ⟨fun vs H Q E h => h.1, fun A outer s H args us vs Q E hr e0 hb r h => by obtain ⟨_, _, _, _, _, _, _, q, _⟩ := h; cases q⟩, F.mgf, F.kp, b⟩
/-- what is raised by a class is caught by its name -/
theorem caught_own {K : PySem.W.Frag} {C : Addr} (isC : PySem.W.isClsIn K C = true) (own : PySem.W.subIn K (.ref C) (.ref C) = some true) (exc : PySem.W.subIn K (.ref C) (.type "BaseException") = some true) (ty : PySem.W.typeIn K (.ref C) = some (.type "type")) : PySem.W.exmOne K (.ref C) (.ref C) = some true := by
  have isC' : (PySem.W.clsIn K C).isSome = true := isC
  simp only [PySem.W.exmOne, PySem.W.kitCls, exc, ty, isC', own, beq_self_eq_true, Bool.and_self, if_true]
theorem calH_zero {P : Program} {w : World} {K : PySem.W.Frag} {mg : Str → Option Value} {base : Heap} {x : Str} {st : Stmt} {f : Addr} {fd : FuncData} {ps : List Str} {k : Nat} (F : C8.Def K mg x st f fd) (b : Binds K fd ps []) : CalH P w K mg base k x ps.length (fun _ _ => none) :=
  ⟨f, fd, ps, ⟨fun _ _ _ _ h => h.1, fun A outer s H args us vs Q E p _ _ _ _ _ _ h => by
    obtain ⟨_, s1, ρ, xs, z, st', S1, R1, h, q⟩ := h
    cases h⟩, F.mgf, F.kp, b⟩
theorem kit_own {K : PySem.W.Frag} {C D : Addr} (isD : PySem.W.isClsIn K D = true) (ty : PySem.W.typeIn K (.ref D) = some (.type "type")) (sub : PySem.W.subIn K (.ref C) (.ref D) = some true) : PySem.W.kitOne K (.ref C) (.ref D) = some true := by
  have isD' : (PySem.W.clsIn K D).isSome = true := isD
  unfold PySem.W.kitOne
  split
  · rfl
  · simp only [PySem.W.kitCls, ty, isD', sub, beq_self_eq_true, Bool.and_self, if_true]
set_option maxHeartbeats 0 in
theorem all_mk {P : Program} {w : World} {K : PySem.W.Frag} {h : Heap} {mg : Str → Option Value} {fa : Addr} (X : K.In h) (G : h.Ns mainGlobals mg) (hfa : mg "law" = some (.ref fa))
    {f0 f1 f2 f3 f4 f5 f6 f7 f8 f9 f10 f11 f12 f13 f14 f15 f16 f17 f18 f19 f20 f21 d_WORDS C_WrittenError B_FlowError fI_WrittenError E_FlowError : Addr} {od0 an0 od1 an1 od2 an2 od3 an3 od4 an4 od5 an5 od6 an6 od7 an7 od8 an8 od9 an9 od10 an10 od11 an11 od12 an12 od13 an13 od14 an14 od15 an15 od16 an16 od17 an17 od18 an18 od19 an19 od20 an20 od21 an21 odI_WrittenError anI_WrittenError : Option Addr} {sl0 sl1 sl2 sl3 sl4 sl5 sl6 sl7 sl8 sl9 sl10 sl11 sl12 sl13 sl14 sl15 sl16 sl17 sl18 sl19 sl20 sl21 slI_WrittenError : Array (Option Value)} {oc0 kV0 dc0 pm0 cd0 ct0 oc1 kV1 dc1 pm1 cd1 ct1 oc2 kV2 dc2 pm2 cd2 ct2 oc3 kV3 dc3 pm3 cd3 ct3 oc4 kV4 dc4 pm4 cd4 ct4 oc5 kV5 dc5 pm5 cd5 ct5 oc6 kV6 dc6 pm6 cd6 ct6 oc7 kV7 dc7 pm7 cd7 ct7 oc8 kV8 dc8 pm8 cd8 ct8 oc9 kV9 dc9 pm9 cd9 ct9 oc10 kV10 dc10 pm10 cd10 ct10 oc11 kV11 dc11 pm11 cd11 ct11 oc12 kV12 dc12 pm12 cd12 ct12 oc13 kV13 dc13 pm13 cd13 ct13 oc14 kV14 dc14 pm14 cd14 ct14 oc15 kV15 dc15 pm15 cd15 ct15 oc16 kV16 dc16 pm16 cd16 ct16 oc17 kV17 dc17 pm17 cd17 ct17 oc18 kV18 dc18 pm18 cd18 ct18 oc19 kV19 dc19 pm19 cd19 ct19 oc20 kV20 dc20 pm20 cd20 ct20 oc21 kV21 dc21 pm21 cd21 ct21 u_SIMPLE_KINDS u_MOST_NUMBER u_MOST_LETTERS u_MOST_ITEMS u_MOST_DEPTH mc_FlowError ocI_WrittenError kVI_WrittenError dcI_WrittenError pmI_WrittenError cdI_WrittenError ctI_WrittenError : Value}
    {nm_WrittenError q_WrittenError : Str} {N_WrittenError : Addr} {bs_WrittenError bm_WrittenError : List Value} {sn_WrittenError : List Str} {sub_WrittenError : List Value} {ab_WrittenError : Bool} {col_WrittenError : Option Bool} {dd_WrittenError : Option Addr} {m0_WrittenError m1_WrittenError m2_WrittenError m3_WrittenError m5_WrittenError : Option Value}
    (a0 : PySem.W.nsIn K mainGlobals "is_type" = some (some (.ref f0)))
    (l0 : K.lookup f0 = some ⟨oc0, od0, .func (PySem.W.fnOf "is_type" "is_type" (C8.fnArgs s_is_type) (C8.fnBody s_is_type) (C8.fnScope s_is_type) .none kV0 dc0 pm0 an0 cd0 ct0), sl0⟩) (c0 : PySem.W.codeIn K cd0 "is_type" = true) (k0 : PySem.W.keepIn K (.ref f0) = true)
    (a1 : PySem.W.nsIn K mainGlobals "is_letter" = some (some (.ref f1)))
    (l1 : K.lookup f1 = some ⟨oc1, od1, .func (PySem.W.fnOf "is_letter" "is_letter" (C8.fnArgs s_is_letter) (C8.fnBody s_is_letter) (C8.fnScope s_is_letter) .none kV1 dc1 pm1 an1 cd1 ct1), sl1⟩) (c1 : PySem.W.codeIn K cd1 "is_letter" = true) (k1 : PySem.W.keepIn K (.ref f1) = true)
    (a2 : PySem.W.nsIn K mainGlobals "fits" = some (some (.ref f2)))
    (l2 : K.lookup f2 = some ⟨oc2, od2, .func (PySem.W.fnOf "fits" "fits" (C8.fnArgs s_fits) (C8.fnBody s_fits) (C8.fnScope s_fits) .none kV2 dc2 pm2 an2 cd2 ct2), sl2⟩) (c2 : PySem.W.codeIn K cd2 "fits" = true) (k2 : PySem.W.keepIn K (.ref f2) = true)
    (a3 : PySem.W.nsIn K mainGlobals "show_type" = some (some (.ref f3)))
    (l3 : K.lookup f3 = some ⟨oc3, od3, .func (PySem.W.fnOf "show_type" "show_type" (C8.fnArgs s_show_type) (C8.fnBody s_show_type) (C8.fnScope s_show_type) .none kV3 dc3 pm3 an3 cd3 ct3), sl3⟩) (c3 : PySem.W.codeIn K cd3 "show_type" = true) (k3 : PySem.W.keepIn K (.ref f3) = true)
    (a4 : PySem.W.nsIn K mainGlobals "show_value" = some (some (.ref f4)))
    (l4 : K.lookup f4 = some ⟨oc4, od4, .func (PySem.W.fnOf "show_value" "show_value" (C8.fnArgs s_show_value) (C8.fnBody s_show_value) (C8.fnScope s_show_value) .none kV4 dc4 pm4 an4 cd4 ct4), sl4⟩) (c4 : PySem.W.codeIn K cd4 "show_value" = true) (k4 : PySem.W.keepIn K (.ref f4) = true)
    (a5 : PySem.W.nsIn K mainGlobals "read_value" = some (some (.ref f5)))
    (l5 : K.lookup f5 = some ⟨oc5, od5, .func (PySem.W.fnOf "read_value" "read_value" (C8.fnArgs s_read_value) (C8.fnBody s_read_value) (C8.fnScope s_read_value) .none kV5 dc5 pm5 an5 cd5 ct5), sl5⟩) (c5 : PySem.W.codeIn K cd5 "read_value" = true) (k5 : PySem.W.keepIn K (.ref f5) = true)
    (a6 : PySem.W.nsIn K mainGlobals "read_typed" = some (some (.ref f6)))
    (l6 : K.lookup f6 = some ⟨oc6, od6, .func (PySem.W.fnOf "read_typed" "read_typed" (C8.fnArgs s_read_typed) (C8.fnBody s_read_typed) (C8.fnScope s_read_typed) .none kV6 dc6 pm6 an6 cd6 ct6), sl6⟩) (c6 : PySem.W.codeIn K cd6 "read_typed" = true) (k6 : PySem.W.keepIn K (.ref f6) = true)
    (a7 : PySem.W.nsIn K mainGlobals "_read_whole" = some (some (.ref f7)))
    (l7 : K.lookup f7 = some ⟨oc7, od7, .func (PySem.W.fnOf "_read_whole" "_read_whole" (C8.fnArgs s__read_whole) (C8.fnBody s__read_whole) (C8.fnScope s__read_whole) .none kV7 dc7 pm7 an7 cd7 ct7), sl7⟩) (c7 : PySem.W.codeIn K cd7 "_read_whole" = true) (k7 : PySem.W.keepIn K (.ref f7) = true)
    (a8 : PySem.W.nsIn K mainGlobals "_read_at" = some (some (.ref f8)))
    (l8 : K.lookup f8 = some ⟨oc8, od8, .func (PySem.W.fnOf "_read_at" "_read_at" (C8.fnArgs s__read_at) (C8.fnBody s__read_at) (C8.fnScope s__read_at) .none kV8 dc8 pm8 an8 cd8 ct8), sl8⟩) (c8 : PySem.W.codeIn K cd8 "_read_at" = true) (k8 : PySem.W.keepIn K (.ref f8) = true)
    (a9 : PySem.W.nsIn K mainGlobals "_read_list" = some (some (.ref f9)))
    (l9 : K.lookup f9 = some ⟨oc9, od9, .func (PySem.W.fnOf "_read_list" "_read_list" (C8.fnArgs s__read_list) (C8.fnBody s__read_list) (C8.fnScope s__read_list) .none kV9 dc9 pm9 an9 cd9 ct9), sl9⟩) (c9 : PySem.W.codeIn K cd9 "_read_list" = true) (k9 : PySem.W.keepIn K (.ref f9) = true)
    (a10 : PySem.W.nsIn K mainGlobals "_read_text" = some (some (.ref f10)))
    (l10 : K.lookup f10 = some ⟨oc10, od10, .func (PySem.W.fnOf "_read_text" "_read_text" (C8.fnArgs s__read_text) (C8.fnBody s__read_text) (C8.fnScope s__read_text) .none kV10 dc10 pm10 an10 cd10 ct10), sl10⟩) (c10 : PySem.W.codeIn K cd10 "_read_text" = true) (k10 : PySem.W.keepIn K (.ref f10) = true)
    (a11 : PySem.W.nsIn K mainGlobals "_read_number" = some (some (.ref f11)))
    (l11 : K.lookup f11 = some ⟨oc11, od11, .func (PySem.W.fnOf "_read_number" "_read_number" (C8.fnArgs s__read_number) (C8.fnBody s__read_number) (C8.fnScope s__read_number) .none kV11 dc11 pm11 an11 cd11 ct11), sl11⟩) (c11 : PySem.W.codeIn K cd11 "_read_number" = true) (k11 : PySem.W.keepIn K (.ref f11) = true)
    (a12 : PySem.W.nsIn K mainGlobals "_read_word" = some (some (.ref f12)))
    (l12 : K.lookup f12 = some ⟨oc12, od12, .func (PySem.W.fnOf "_read_word" "_read_word" (C8.fnArgs s__read_word) (C8.fnBody s__read_word) (C8.fnScope s__read_word) .none kV12 dc12 pm12 an12 cd12 ct12), sl12⟩) (c12 : PySem.W.codeIn K cd12 "_read_word" = true) (k12 : PySem.W.keepIn K (.ref f12) = true)
    (a13 : PySem.W.nsIn K mainGlobals "_is_digit" = some (some (.ref f13)))
    (l13 : K.lookup f13 = some ⟨oc13, od13, .func (PySem.W.fnOf "_is_digit" "_is_digit" (C8.fnArgs s__is_digit) (C8.fnBody s__is_digit) (C8.fnScope s__is_digit) .none kV13 dc13 pm13 an13 cd13 ct13), sl13⟩) (c13 : PySem.W.codeIn K cd13 "_is_digit" = true) (k13 : PySem.W.keepIn K (.ref f13) = true)
    (a14 : PySem.W.nsIn K mainGlobals "_law_state" = some (some (.ref f14)))
    (l14 : K.lookup f14 = some ⟨oc14, od14, .func (PySem.W.fnOf "_law_state" "_law_state" (C8.fnArgs s__law_state) (C8.fnBody s__law_state) (C8.fnScope s__law_state) .none kV14 dc14 pm14 an14 cd14 ct14), sl14⟩) (c14 : PySem.W.codeIn K cd14 "_law_state" = true) (k14 : PySem.W.keepIn K (.ref f14) = true)
    (a15 : PySem.W.nsIn K mainGlobals "_law_draw" = some (some (.ref f15)))
    (l15 : K.lookup f15 = some ⟨oc15, od15, .func (PySem.W.fnOf "_law_draw" "_law_draw" (C8.fnArgs s__law_draw) (C8.fnBody s__law_draw) (C8.fnScope s__law_draw) .none kV15 dc15 pm15 an15 cd15 ct15), sl15⟩) (c15 : PySem.W.codeIn K cd15 "_law_draw" = true) (k15 : PySem.W.keepIn K (.ref f15) = true)
    (a16 : PySem.W.nsIn K mainGlobals "_law_pick" = some (some (.ref f16)))
    (l16 : K.lookup f16 = some ⟨oc16, od16, .func (PySem.W.fnOf "_law_pick" "_law_pick" (C8.fnArgs s__law_pick) (C8.fnBody s__law_pick) (C8.fnScope s__law_pick) .none kV16 dc16 pm16 an16 cd16 ct16), sl16⟩) (c16 : PySem.W.codeIn K cd16 "_law_pick" = true) (k16 : PySem.W.keepIn K (.ref f16) = true)
    (a17 : PySem.W.nsIn K mainGlobals "_law_type" = some (some (.ref f17)))
    (l17 : K.lookup f17 = some ⟨oc17, od17, .func (PySem.W.fnOf "_law_type" "_law_type" (C8.fnArgs s__law_type) (C8.fnBody s__law_type) (C8.fnScope s__law_type) .none kV17 dc17 pm17 an17 cd17 ct17), sl17⟩) (c17 : PySem.W.codeIn K cd17 "_law_type" = true) (k17 : PySem.W.keepIn K (.ref f17) = true)
    (a18 : PySem.W.nsIn K mainGlobals "_law_value" = some (some (.ref f18)))
    (l18 : K.lookup f18 = some ⟨oc18, od18, .func (PySem.W.fnOf "_law_value" "_law_value" (C8.fnArgs s__law_value) (C8.fnBody s__law_value) (C8.fnScope s__law_value) .none kV18 dc18 pm18 an18 cd18 ct18), sl18⟩) (c18 : PySem.W.codeIn K cd18 "_law_value" = true) (k18 : PySem.W.keepIn K (.ref f18) = true)
    (a19 : PySem.W.nsIn K mainGlobals "_law_shown" = some (some (.ref f19)))
    (l19 : K.lookup f19 = some ⟨oc19, od19, .func (PySem.W.fnOf "_law_shown" "_law_shown" (C8.fnArgs s__law_shown) (C8.fnBody s__law_shown) (C8.fnScope s__law_shown) .none kV19 dc19 pm19 an19 cd19 ct19), sl19⟩) (c19 : PySem.W.codeIn K cd19 "_law_shown" = true) (k19 : PySem.W.keepIn K (.ref f19) = true)
    (a20 : PySem.W.nsIn K mainGlobals "_law_shown_type" = some (some (.ref f20)))
    (l20 : K.lookup f20 = some ⟨oc20, od20, .func (PySem.W.fnOf "_law_shown_type" "_law_shown_type" (C8.fnArgs s__law_shown_type) (C8.fnBody s__law_shown_type) (C8.fnScope s__law_shown_type) .none kV20 dc20 pm20 an20 cd20 ct20), sl20⟩) (c20 : PySem.W.codeIn K cd20 "_law_shown_type" = true) (k20 : PySem.W.keepIn K (.ref f20) = true)
    (a21 : PySem.W.nsIn K mainGlobals "law" = some (some (.ref f21)))
    (l21 : K.lookup f21 = some ⟨oc21, od21, .func (PySem.W.fnOf "law" "law" (C8.fnArgs s_law) (C8.fnBody s_law) (C8.fnScope s_law) .none kV21 dc21 pm21 an21 cd21 ct21), sl21⟩) (c21 : PySem.W.codeIn K cd21 "law" = true) (k21 : PySem.W.keepIn K (.ref f21) = true)
    (z_abs : PySem.W.nsIn K mainGlobals "abs" = some none)
    (z_all : PySem.W.nsIn K mainGlobals "all" = some none)
    (z_enumerate : PySem.W.nsIn K mainGlobals "enumerate" = some none)
    (z_int : PySem.W.nsIn K mainGlobals "int" = some none)
    (z_isinstance : PySem.W.nsIn K mainGlobals "isinstance" = some none)
    (z_len : PySem.W.nsIn K mainGlobals "len" = some none)
    (z_range : PySem.W.nsIn K mainGlobals "range" = some none)
    (z_str : PySem.W.nsIn K mainGlobals "str" = some none)
    (z_tuple : PySem.W.nsIn K mainGlobals "tuple" = some none)
    (n_SIMPLE_KINDS : PySem.W.nsIn K mainGlobals "SIMPLE_KINDS" = some (some u_SIMPLE_KINDS)) (v_SIMPLE_KINDS : KVal K u_SIMPLE_KINDS c_SIMPLE_KINDS)
    (n_MOST_NUMBER : PySem.W.nsIn K mainGlobals "MOST_NUMBER" = some (some u_MOST_NUMBER)) (v_MOST_NUMBER : KVal K u_MOST_NUMBER c_MOST_NUMBER)
    (n_MOST_LETTERS : PySem.W.nsIn K mainGlobals "MOST_LETTERS" = some (some u_MOST_LETTERS)) (v_MOST_LETTERS : KVal K u_MOST_LETTERS c_MOST_LETTERS)
    (n_MOST_ITEMS : PySem.W.nsIn K mainGlobals "MOST_ITEMS" = some (some u_MOST_ITEMS)) (v_MOST_ITEMS : KVal K u_MOST_ITEMS c_MOST_ITEMS)
    (n_MOST_DEPTH : PySem.W.nsIn K mainGlobals "MOST_DEPTH" = some (some u_MOST_DEPTH)) (v_MOST_DEPTH : KVal K u_MOST_DEPTH c_MOST_DEPTH)
    {es_WORDS : Array DictEntry} {m_WORDS : Nat} (n_WORDS : PySem.W.nsIn K mainGlobals "WORDS" = some (some (.ref d_WORDS))) (l_WORDS : K.lookup d_WORDS = some ⟨.type "dict", none, .dict es_WORDS m_WORDS, #[]⟩) (o_WORDS : (d_WORDS == sysModules) = false) (v_WORDS : KEnts K w.params es_WORDS.toList tab_WORDS)
    (a_WrittenError : ClsAt K "WrittenError" C_WrittenError) (xl_WrittenError : K.lookup C_WrittenError = some (excClassObj nm_WrittenError q_WrittenError C_WrittenError N_WrittenError bs_WrittenError bm_WrittenError true sn_WrittenError sub_WrittenError ab_WrittenError col_WrittenError dd_WrittenError m0_WrittenError m1_WrittenError m2_WrittenError m3_WrittenError m5_WrittenError "ValueError.__new__")) (xr_WrittenError : PySem.HandSPX.refsVE bm_WrittenError = true)
    (sa_WrittenError : PySem.W.findIn K (.ref C_WrittenError) "__setattr__" = some (some (.builtin "object.__setattr__"))) (ga_WrittenError : PySem.W.findIn K (.ref C_WrittenError) "__getattribute__" = some (some (.builtin "BaseException.__getattribute__"))) (gg_WrittenError : PySem.W.findIn K (.ref C_WrittenError) "__getattr__" = some none) (ke_WrittenError : PySem.W.keepIn K (.ref C_WrittenError) = true) (eC_WrittenError : PySem.W.subIn K (.ref C_WrittenError) (.type "BaseException") = some true) (tC_WrittenError : PySem.W.typeIn K (.ref C_WrittenError) = some (.type "type")) (hC_WrittenError : PySem.W.hasDictIn K C_WrittenError = true)
    (no_WrittenError_at : PySem.W.findIn K (.ref C_WrittenError) "at" = some none)
    (b_FlowError : ClsAt K "FlowError" B_FlowError) (sp_FlowError : PySem.W.specialIn K (.ref B_FlowError) "__getattribute__" = some (some (.builtin "type.__getattribute__"))) (rd_FlowError : PySem.W.readsIn K B_FlowError mc_FlowError = true) (vV_FlowError : PySem.W.findCls K (.ref B_FlowError) mc_FlowError "__init__" = some (.val (.builtin "ValueError.__init__")))
    (aI_WrittenError : PySem.W.findIn K (.ref C_WrittenError) "__init__" = some (some (.ref fI_WrittenError))) (tI_WrittenError : PySem.W.typeIn K (.ref fI_WrittenError) = some (.type "function")) (lI_WrittenError : K.lookup fI_WrittenError = some ⟨ocI_WrittenError, odI_WrittenError, .func (PySem.W.fnOf "__init__" "WrittenError.__init__" (C8.fnArgs s_WrittenError___init__) (C8.fnBody s_WrittenError___init__) (C8.fnScope s_WrittenError___init__) .none kVI_WrittenError dcI_WrittenError pmI_WrittenError anI_WrittenError cdI_WrittenError ctI_WrittenError), slI_WrittenError⟩) (cI_WrittenError : PySem.W.codeIn K cdI_WrittenError "WrittenError.__init__" = true)
    (is_WrittenError : PySem.W.isClsIn K C_WrittenError = true) (se_WrittenError : PySem.W.subIn K (.ref C_WrittenError) (.ref C_WrittenError) = some true)
    (cc_WrittenError : PySem.W.findIn K (.ref C_WrittenError) "__class__" = some (some (.builtin "object.__class__"))) (cm_WrittenError : PySem.W.mroIn K C_WrittenError (.type "object") = some true)
    (cg : PySem.W.specialIn K (.builtin "object.__class__") "__get__" = some (some (.builtin "getset_descriptor.__get__"))) (ck : PySem.W.takesIn K (.builtin "object.__class__") = some true)
    (e_FlowError : ClsAt K "FlowError" E_FlowError) (ei_FlowError : PySem.W.isClsIn K E_FlowError = true) (et_FlowError : PySem.W.typeIn K (.ref E_FlowError) = some (.type "type"))
    (ek_WrittenError_FlowError : PySem.W.subIn K (.ref C_WrittenError) (.ref E_FlowError) = some true)
    : ∃ fd : FuncData, (∀ (s : Shared) (v : Value), BindsTo s fd ⟨[v], []⟩ [("script", v)]) ∧ ∀ base : Heap, K.In base → base.Ns mainGlobals mg → LawOk P w K mg base fa fd "script" (spLaw K) := by
  have e := hfa.symm.trans (PySem.W.mg_of X G a21)
  cases e
  have D0 := def_mk (st := s_is_type) X G a0 l0 c0 k0
  have B0 := D0.fn.binds rfl (ps := ["kind"]) fun _ _ _ _ _ _ us hl => match us, hl with | [_], _ => rfl
  have D1 := def_mk (st := s_is_letter) X G a1 l1 c1 k1
  have B1 := D1.fn.binds rfl (ps := ["letter"]) fun _ _ _ _ _ _ us hl => match us, hl with | [_], _ => rfl
  have D2 := def_mk (st := s_fits) X G a2 l2 c2 k2
  have B2 := D2.fn.binds rfl (ps := ["value", "kind"]) fun _ _ _ _ _ _ us hl => match us, hl with | [_, _], _ => rfl
  have D3 := def_mk (st := s_show_type) X G a3 l3 c3 k3
  have B3 := D3.fn.binds rfl (ps := ["kind"]) fun _ _ _ _ _ _ us hl => match us, hl with | [_], _ => rfl
  have D4 := def_mk (st := s_show_value) X G a4 l4 c4 k4
  have B4 := D4.fn.binds rfl (ps := ["value"]) fun _ _ _ _ _ _ us hl => match us, hl with | [_], _ => rfl
  have D5 := def_mk (st := s_read_value) X G a5 l5 c5 k5
  have B5 := D5.fn.binds rfl (ps := ["text"]) fun _ _ _ _ _ _ us hl => match us, hl with | [_], _ => rfl
  have D6 := def_mk (st := s_read_typed) X G a6 l6 c6 k6
  have B6 := D6.fn.binds rfl (ps := ["text", "kind"]) fun _ _ _ _ _ _ us hl => match us, hl with | [_, _], _ => rfl
  have D7 := def_mk (st := s__read_whole) X G a7 l7 c7 k7
  have B7 := D7.fn.binds rfl (ps := ["text", "wanted"]) fun _ _ _ _ _ _ us hl => match us, hl with | [_, _], _ => rfl
  have D8 := def_mk (st := s__read_at) X G a8 l8 c8 k8
  have B8 := D8.fn.binds rfl (ps := ["text", "at", "wanted", "depth"]) fun _ _ _ _ _ _ us hl => match us, hl with | [_, _, _, _], _ => rfl
  have D9 := def_mk (st := s__read_list) X G a9 l9 c9 k9
  have B9 := D9.fn.binds rfl (ps := ["text", "at", "wanted", "depth"]) fun _ _ _ _ _ _ us hl => match us, hl with | [_, _, _, _], _ => rfl
  have D10 := def_mk (st := s__read_text) X G a10 l10 c10 k10
  have B10 := D10.fn.binds rfl (ps := ["text", "at"]) fun _ _ _ _ _ _ us hl => match us, hl with | [_, _], _ => rfl
  have D11 := def_mk (st := s__read_number) X G a11 l11 c11 k11
  have B11 := D11.fn.binds rfl (ps := ["text", "at"]) fun _ _ _ _ _ _ us hl => match us, hl with | [_, _], _ => rfl
  have D12 := def_mk (st := s__read_word) X G a12 l12 c12 k12
  have B12 := D12.fn.binds rfl (ps := ["text", "at", "word"]) fun _ _ _ _ _ _ us hl => match us, hl with | [_, _, _], _ => rfl
  have D13 := def_mk (st := s__is_digit) X G a13 l13 c13 k13
  have B13 := D13.fn.binds rfl (ps := ["letter"]) fun _ _ _ _ _ _ us hl => match us, hl with | [_], _ => rfl
  have D14 := def_mk (st := s__law_state) X G a14 l14 c14 k14
  have B14 := D14.fn.binds rfl (ps := ["script"]) fun _ _ _ _ _ _ us hl => match us, hl with | [_], _ => rfl
  have D15 := def_mk (st := s__law_draw) X G a15 l15 c15 k15
  have B15 := D15.fn.binds rfl (ps := ["state", "many"]) fun _ _ _ _ _ _ us hl => match us, hl with | [_, _], _ => rfl
  have D16 := def_mk (st := s__law_pick) X G a16 l16 c16 k16
  have B16 := D16.fn.binds rfl (ps := ["state", "row"]) fun _ _ _ _ _ _ us hl => match us, hl with | [_, _], _ => rfl
  have D17 := def_mk (st := s__law_type) X G a17 l17 c17 k17
  have B17 := D17.fn.binds rfl (ps := ["state", "deep"]) fun _ _ _ _ _ _ us hl => match us, hl with | [_, _], _ => rfl
  have D18 := def_mk (st := s__law_value) X G a18 l18 c18 k18
  have B18 := D18.fn.binds rfl (ps := ["state", "kind"]) fun _ _ _ _ _ _ us hl => match us, hl with | [_, _], _ => rfl
  have D19 := def_mk (st := s__law_shown) X G a19 l19 c19 k19
  have B19 := D19.fn.binds rfl (ps := ["value"]) fun _ _ _ _ _ _ us hl => match us, hl with | [_], _ => rfl
  have D20 := def_mk (st := s__law_shown_type) X G a20 l20 c20 k20
  have B20 := D20.fn.binds rfl (ps := ["kind"]) fun _ _ _ _ _ _ us hl => match us, hl with | [_], _ => rfl
  have D21 := def_mk (st := s_law) X G a21 l21 c21 k21
  have B21 := D21.fn.binds rfl (ps := ["script"]) fun _ _ _ _ _ _ us hl => match us, hl with | [_], _ => rfl
  have DI_WrittenError := fun_mk0 (st := s_WrittenError___init__) lI_WrittenError cI_WrittenError
  have BI_WrittenError := DI_WrittenError.binds rfl (ps := ["self", "at"]) fun _ _ _ _ _ _ us hl => match us, hl with | [_, _], _ => rfl
  have Z_abs := PySem.W.mg_none_of X G z_abs
  have Z_all := PySem.W.mg_none_of X G z_all
  have Z_enumerate := PySem.W.mg_none_of X G z_enumerate
  have Z_int := PySem.W.mg_none_of X G z_int
  have Z_isinstance := PySem.W.mg_none_of X G z_isinstance
  have Z_len := PySem.W.mg_none_of X G z_len
  have Z_range := PySem.W.mg_none_of X G z_range
  have Z_str := PySem.W.mg_none_of X G z_str
  have Z_tuple := PySem.W.mg_none_of X G z_tuple
  refine ⟨PySem.W.fnOf "law" "law" (C8.fnArgs s_law) (C8.fnBody s_law) (C8.fnScope s_law) .none kV21 dc21 pm21 an21 cd21 ct21, fun s v => .of_eq rfl, fun base _ _ => ?_⟩
  have all : ∀ n, Tb P w K mg base n := by
    intro n
    induction n with
    | zero => exact ⟨Z_abs, Z_all, Z_enumerate, Z_int, Z_isinstance, Z_len, Z_range, Z_str, Z_tuple, gc_of X G n_SIMPLE_KINDS v_SIMPLE_KINDS, gc_of X G n_MOST_NUMBER v_MOST_NUMBER, gc_of X G n_MOST_LETTERS v_MOST_LETTERS, gc_of X G n_MOST_ITEMS v_MOST_ITEMS, gc_of X G n_MOST_DEPTH v_MOST_DEPTH, ktab_of X G n_WORDS l_WORDS o_WORDS v_WORDS, cal_zero D0 B0, cal_zero D1 B1, cal_zero D2 B2, cal_zero D3 B3, cal_zero D4 B4, calX_zero D5 B5, calX_zero D6 B6, calX_zero D7 B7, calX_zero D8 B8, calX_zero D9 B9, calX_zero D10 B10, calX_zero D11 B11, calX_zero D12 B12, cal_zero D13 B13, cal_zero D14 B14, cal_zero D15 B15, cal_zero D16 B16, cal_zero D17 B17, cal_zero D18 B18, cal_zero D19 B19, cal_zero D20 B20, calH_zero D2 B2, i_WrittenError DI_WrittenError BI_WrittenError a_WrittenError (PySem.W.mg_of X G a_WrittenError) ⟨⟨_, _, _, _, _, _, _, _, _, _, _, _, _, _, _, xl_WrittenError, xr_WrittenError⟩, sa_WrittenError, eC_WrittenError, tC_WrittenError, ke_WrittenError⟩ aI_WrittenError tI_WrittenError (PySem.W.mg_of X G b_FlowError) sp_FlowError rd_FlowError vV_FlowError no_WrittenError_at, ⟨C_WrittenError, a_WrittenError, PySem.W.mg_of X G a_WrittenError, caught_own is_WrittenError se_WrittenError eC_WrittenError tC_WrittenError⟩, ⟨C_WrittenError, a_WrittenError, ⟨ga_WrittenError, gg_WrittenError, eC_WrittenError, hC_WrittenError⟩, no_WrittenError_at⟩, ⟨C_WrittenError, E_FlowError, a_WrittenError, PySem.W.mg_of X G e_FlowError, kit_own ei_FlowError et_FlowError ek_WrittenError_FlowError, ⟨ga_WrittenError, gg_WrittenError, eC_WrittenError, hC_WrittenError, cc_WrittenError, cg, ck, cm_WrittenError⟩⟩⟩
    | succ n T => exact ⟨Z_abs, Z_all, Z_enumerate, Z_int, Z_isinstance, Z_len, Z_range, Z_str, Z_tuple, gc_of X G n_SIMPLE_KINDS v_SIMPLE_KINDS, gc_of X G n_MOST_NUMBER v_MOST_NUMBER, gc_of X G n_MOST_LETTERS v_MOST_LETTERS, gc_of X G n_MOST_ITEMS v_MOST_ITEMS, gc_of X G n_MOST_DEPTH v_MOST_DEPTH, ktab_of X G n_WORDS l_WORDS o_WORDS v_WORDS, t_is_type D0 B0 T, t_is_letter D1 B1 T, t_fits D2 B2 T, t_show_type D3 B3 T, t_show_value D4 B4 T, t_read_value D5 B5 T, t_read_typed D6 B6 T, t__read_whole D7 B7 T, t__read_at D8 B8 T, t__read_list D9 B9 T, t__read_text D10 B10 T, t__read_number D11 B11 T, t__read_word D12 B12 T, t__is_digit D13 B13 T, t__law_state D14 B14 T, t__law_draw D15 B15 T, t__law_pick D16 B16 T, t__law_type D17 B17 T, t__law_value D18 B18 T, t__law_shown D19 B19 T, t__law_shown_type D20 B20 T, t_fitsH D2 B2 T, i_WrittenError DI_WrittenError BI_WrittenError a_WrittenError (PySem.W.mg_of X G a_WrittenError) ⟨⟨_, _, _, _, _, _, _, _, _, _, _, _, _, _, _, xl_WrittenError, xr_WrittenError⟩, sa_WrittenError, eC_WrittenError, tC_WrittenError, ke_WrittenError⟩ aI_WrittenError tI_WrittenError (PySem.W.mg_of X G b_FlowError) sp_FlowError rd_FlowError vV_FlowError no_WrittenError_at, ⟨C_WrittenError, a_WrittenError, PySem.W.mg_of X G a_WrittenError, caught_own is_WrittenError se_WrittenError eC_WrittenError tC_WrittenError⟩, ⟨C_WrittenError, a_WrittenError, ⟨ga_WrittenError, gg_WrittenError, eC_WrittenError, hC_WrittenError⟩, no_WrittenError_at⟩, ⟨C_WrittenError, E_FlowError, a_WrittenError, PySem.W.mg_of X G e_FlowError, kit_own ei_FlowError et_FlowError ek_WrittenError_FlowError, ⟨ga_WrittenError, gg_WrittenError, eC_WrittenError, hC_WrittenError, cc_WrittenError, cg, ck, cm_WrittenError⟩⟩⟩
  have L := lawOk_of (k := 2 * 30 + 3) (N := N_law) (y := "script") (ib := b_law (FF 30) (GG 30)) ⟨rfl, by decide, by decide⟩ D21.fn sc_law (k_law (all 30))
  exact L.imp fun vs H Q E h => law_sp (fun ns h => (by have e := J11.e_all ns h; rw [J11.e_law 30] at e; exact e)) h
end J11
open PySem PySem.W PyProof.Rows
set_option maxRecDepth 100000 in
set_option maxHeartbeats 0 in
theorem PySem.Challenge.cw_flowreprise_k11_written_values_holds : PySem.Challenge.rw_flowreprise_k11_written_values.Holds := by
  w_on; o_law; k_head; (case hw => w_witness2)
  k_fill
  refine IL.walk_J (l := PySem.Challenge.rw_flowreprise_k11_written_values) (n := 63) (x := "script") (sp := fun w => IL.spLaw _) rfl (by decide) rfl (fun w h Y => PySem.W.kIn_of Y) ?F (fun _ _ a ns hl hS => ⟨a, ns, rfl, hS, hl, fun _ => rfl⟩)
  case F =>
    intro w mg fa h KX G hmg
    refine' J11.all_mk (mc_FlowError := .type "type") KX G hmg ?a0 ?l0 ?c0 ?k0 ?a1 ?l1 ?c1 ?k1 ?a2 ?l2 ?c2 ?k2 ?a3 ?l3 ?c3 ?k3 ?a4 ?l4 ?c4 ?k4 ?a5 ?l5 ?c5 ?k5 ?a6 ?l6 ?c6 ?k6 ?a7 ?l7 ?c7 ?k7 ?a8 ?l8 ?c8 ?k8 ?a9 ?l9 ?c9 ?k9 ?a10 ?l10 ?c10 ?k10 ?a11 ?l11 ?c11 ?k11 ?a12 ?l12 ?c12 ?k12 ?a13 ?l13 ?c13 ?k13 ?a14 ?l14 ?c14 ?k14 ?a15 ?l15 ?c15 ?k15 ?a16 ?l16 ?c16 ?k16 ?a17 ?l17 ?c17 ?k17 ?a18 ?l18 ?c18 ?k18 ?a19 ?l19 ?c19 ?k19 ?a20 ?l20 ?c20 ?k20 ?a21 ?l21 ?c21 ?k21 ?z_abs ?z_all ?z_enumerate ?z_int ?z_isinstance ?z_len ?z_range ?z_str ?z_tuple ?n_SIMPLE_KINDS ?v_SIMPLE_KINDS ?n_MOST_NUMBER ?v_MOST_NUMBER ?n_MOST_LETTERS ?v_MOST_LETTERS ?n_MOST_ITEMS ?v_MOST_ITEMS ?n_MOST_DEPTH ?v_MOST_DEPTH ?n_WORDS ?l_WORDS ?o_WORDS ?v_WORDS ?a_WrittenError ?xl_WrittenError ?xr_WrittenError ?sa_WrittenError ?ga_WrittenError ?gg_WrittenError ?ke_WrittenError ?eC_WrittenError ?tC_WrittenError ?hC_WrittenError ?no_WrittenError_at ?b_FlowError ?sp_FlowError ?rd_FlowError ?vV_FlowError ?aI_WrittenError ?tI_WrittenError ?lI_WrittenError ?cI_WrittenError ?is_WrittenError ?se_WrittenError ?cc_WrittenError ?cm_WrittenError ?cg ?ck ?e_FlowError ?ei_FlowError ?et_FlowError ?ek_WrittenError_FlowError
    (case a0 => k_is)
    (case l0 => k_is)
    (case c0 => k_is)
    (case k0 => k_is)
    (case a1 => k_is)
    (case l1 => k_is)
    (case c1 => k_is)
    (case k1 => k_is)
    (case a2 => k_is)
    (case l2 => k_is)
    (case c2 => k_is)
    (case k2 => k_is)
    (case a3 => k_is)
    (case l3 => k_is)
    (case c3 => k_is)
    (case k3 => k_is)
    (case a4 => k_is)
    (case l4 => k_is)
    (case c4 => k_is)
    (case k4 => k_is)
    (case a5 => k_is)
    (case l5 => k_is)
    (case c5 => k_is)
    (case k5 => k_is)
    (case a6 => k_is)
    (case l6 => k_is)
    (case c6 => k_is)
    (case k6 => k_is)
    (case a7 => k_is)
    (case l7 => k_is)
    (case c7 => k_is)
    (case k7 => k_is)
    (case a8 => k_is)
    (case l8 => k_is)
    (case c8 => k_is)
    (case k8 => k_is)
    (case a9 => k_is)
    (case l9 => k_is)
    (case c9 => k_is)
    (case k9 => k_is)
    (case a10 => k_is)
    (case l10 => k_is)
    (case c10 => k_is)
    (case k10 => k_is)
    (case a11 => k_is)
    (case l11 => k_is)
    (case c11 => k_is)
    (case k11 => k_is)
    (case a12 => k_is)
    (case l12 => k_is)
    (case c12 => k_is)
    (case k12 => k_is)
    (case a13 => k_is)
    (case l13 => k_is)
    (case c13 => k_is)
    (case k13 => k_is)
    (case a14 => k_is)
    (case l14 => k_is)
    (case c14 => k_is)
    (case k14 => k_is)
    (case a15 => k_is)
    (case l15 => k_is)
    (case c15 => k_is)
    (case k15 => k_is)
    (case a16 => k_is)
    (case l16 => k_is)
    (case c16 => k_is)
    (case k16 => k_is)
    (case a17 => k_is)
    (case l17 => k_is)
    (case c17 => k_is)
    (case k17 => k_is)
    (case a18 => k_is)
    (case l18 => k_is)
    (case c18 => k_is)
    (case k18 => k_is)
    (case a19 => k_is)
    (case l19 => k_is)
    (case c19 => k_is)
    (case k19 => k_is)
    (case a20 => k_is)
    (case l20 => k_is)
    (case c20 => k_is)
    (case k20 => k_is)
    (case a21 => k_is)
    (case l21 => k_is)
    (case c21 => k_is)
    (case k21 => k_is)
    (case z_abs => k_is)
    (case z_all => k_is)
    (case z_enumerate => k_is)
    (case z_int => k_is)
    (case z_isinstance => k_is)
    (case z_len => k_is)
    (case z_range => k_is)
    (case z_str => k_is)
    (case z_tuple => k_is)
    (case n_SIMPLE_KINDS => k_is)
    (case v_SIMPLE_KINDS => exact (IL.kv_tup (by k_is) (.cons (IL.kv_str rfl) (.cons (IL.kv_str rfl) (.cons (IL.kv_str rfl) (.cons (IL.kv_str rfl) .nil))))))
    (case n_MOST_NUMBER => k_is)
    (case v_MOST_NUMBER => exact IL.kv_int)
    (case n_MOST_LETTERS => k_is)
    (case v_MOST_LETTERS => exact IL.kv_int)
    (case n_MOST_ITEMS => k_is)
    (case v_MOST_ITEMS => exact IL.kv_int)
    (case n_MOST_DEPTH => k_is)
    (case v_MOST_DEPTH => exact IL.kv_int)
    (case n_WORDS => k_is)
    (case l_WORDS => k_is)
    (case o_WORDS => decide)
    (case v_WORDS => exact (.cons rfl rfl (IL.kv_tup (by k_is) (.cons (IL.kv_str rfl) (.cons (IL.kv_tup (by k_is) (.cons (IL.kv_str rfl) (.cons IL.kv_bl .nil))) .nil))) (.cons rfl rfl (IL.kv_tup (by k_is) (.cons (IL.kv_str rfl) (.cons (IL.kv_tup (by k_is) (.cons (IL.kv_str rfl) (.cons IL.kv_bl .nil))) .nil))) (.cons rfl rfl (IL.kv_tup (by k_is) (.cons (IL.kv_str rfl) (.cons (IL.kv_tup (by k_is) (.cons (IL.kv_str rfl) .nil)) .nil))) .nil))))
    (case a_WrittenError => unfold IL.ClsAt; k_is)
    (case xl_WrittenError => k_is)
    (case xr_WrittenError => decide +kernel)
    (case sa_WrittenError => k_is)
    (case ga_WrittenError => k_is)
    (case gg_WrittenError => k_is)
    (case ke_WrittenError => k_is)
    (case eC_WrittenError => k_is)
    (case tC_WrittenError => k_is)
    (case hC_WrittenError => k_is)
    (case no_WrittenError_at => k_is)
    (case b_FlowError => unfold IL.ClsAt; k_is)
    (case sp_FlowError => k_is)
    (case rd_FlowError => k_is)
    (case vV_FlowError => k_is)
    (case aI_WrittenError => k_is)
    (case tI_WrittenError => k_is)
    (case lI_WrittenError => k_is)
    (case cI_WrittenError => k_is)
    (case is_WrittenError => k_is)
    (case se_WrittenError => first | rfl | k_is)
    (case cc_WrittenError => k_is)
    (case cm_WrittenError => k_is)
    (case cg => k_is)
    (case ck => k_is)
    (case e_FlowError => unfold IL.ClsAt; k_is)
    (case ei_FlowError => k_is)
    (case et_FlowError => k_is)
    (case ek_WrittenError_FlowError => first | rfl | k_is)
