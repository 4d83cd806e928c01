import PyProof.Rows.All
import Wide.All
import OpenK.AllK
import Wide.FinOn
import HandS.ForMost
import HandS.Codes
import HandS.TupLe
import HandS.TupAny
import HandS.TupMul
import HandS.Wide
import HandS.IsInst
import HandS.Style
import HandS.Flow
import HandS.SortKw
import HandS.Deep
import KE.DatumOrd
import HandS.DictComp
import PySem.Challenge.RW_flowreprise_k30_operations
set_option Elab.async false
set_option linter.all false
set_option maxRecDepth 100000
namespace IL
open PySem PySem.Spec PyProof.Rows L2

/-- a value, data as trees, what may change by its number in the store -/
inductive PV where
  | non | bl (b : Bool) | int (i : Int) | str (x : Str) | tup (xs : List PV) | frz (xs : List PV) | ref (n : Nat) | ty (n : String)
/-- what may change -/
inductive SO where
  | lst (xs : List PV)
  | dK (kvs : List (Key × PV))
abbrev Sto := List SO
abbrev PEnv := List (Option PV)

section
variable (K : PySem.W.Frag) (H : Hp) (ρ : List Addr)
/-- a list that nobody writes -/
def FrzAt (a : Addr) (vs : List V) : Prop :=
  (Rd H a (.lst vs) ∧ a ∉ ρ) ∨ ∃ (o : Obj) (its : Array Value) (n : Nat), K.lookup a = some o ∧ o.cls = .type "list" ∧ o.dict = none ∧ o.data = .seq its n ∧ its.size ≤ sizeLine ∧ Vals vs its.toList
mutual
def Rep : PV → V → Prop
  | .non, v => v = .non
  | .bl b, v => v = .bl b
  | .int i, v => v = .int i
  | .str x, v => v = .str x
  | .tup xs, v => ∃ a vs, v = .ref a ∧ SqT K H a vs ∧ Reps xs vs
  | .frz xs, v => ∃ a vs, v = .ref a ∧ FrzAt K H ρ a vs ∧ Reps xs vs
  | .ref n, v => ∃ a, v = .ref a ∧ ρ[n]? = some a
  | .ty n, v => v = .ty n
def Reps : List PV → List V → Prop
  | [], vs => vs = []
  | x :: xs, vs => ∃ v r, vs = v :: r ∧ Rep x v ∧ Reps xs r
end
def RepK : List (Key × PV) → List (Key × V) → Prop
  | [], vs => vs = []
  | x :: xs, vs => ∃ v r, vs = (x.1, v) :: r ∧ Rep K H ρ x.2 v ∧ RepK xs r
def RepO : SO → Addr → Prop
  | .lst xs, a => ∃ vs, H a = some (.lst vs) ∧ Reps K H ρ xs vs
  | .dK kvs, a => ∃ vs, H a = some (.dK vs) ∧ RepK K H ρ kvs vs
structure RepS (st : Sto) : Prop where
  len : ρ.length = st.length
  nd : ρ.Nodup
  at_ : ∀ (n : Nat) (so : SO), st[n]? = some so → ∃ a, ρ[n]? = some a ∧ RepO K H ρ so a
structure RepE (env : PEnv) (σ : L2.St) : Prop where
  len : env.length = σ.length
  at_ : ∀ (i : Nat) (x : PV), env[i]? = some (some x) → ∃ v, σ[i]? = some (some v) ∧ Rep K H ρ x v
end
structure Grow (H : Hp) (ρ : List Addr) (H' : Hp) (ρ' : List Addr) : Prop where
  ext : ∃ l, ρ' = ρ ++ l ∧ ∀ b ∈ l, H b = none
  keep : ∀ b o, b ∉ ρ → H b = some o → H' b = some o
  dom : ∀ b, H' b = none → H b = none

section
variable {K : PySem.W.Frag} {H H' H1 H2 : Hp} {ρ ρ' ρ1 ρ2 : List Addr} {st st' : Sto} {env : PEnv} {σ : L2.St}
theorem Grow.refl : Grow H ρ H ρ := ⟨⟨[], by simp, fun _ h => by simp at h⟩, fun _ _ _ h => h, fun _ h => h⟩
theorem Grow.trans (a : Grow H ρ H1 ρ1) (b : Grow H1 ρ1 H2 ρ2) : Grow H ρ H2 ρ2 := by
  obtain ⟨l1, e1, f1⟩ := a.ext
  obtain ⟨l2, e2, f2⟩ := b.ext
  refine ⟨⟨l1 ++ l2, by rw [e2, e1, List.append_assoc], fun x hx => ?_⟩, fun x o hx ho => ?_, fun x hx => a.dom x (b.dom x hx)⟩
  · rcases List.mem_append.mp hx with h | h
    · exact f1 x h
    · exact a.dom x (f2 x h)
  · refine b.keep x o (fun hm => ?_) (a.keep x o hx ho)
    rw [e1] at hm
    rcases List.mem_append.mp hm with h | h
    · exact hx h
    · rw [f1 x h] at ho; cases ho
theorem Grow.ix (g : Grow H ρ H' ρ') {n : Nat} {a : Addr} (h : ρ[n]? = some a) : ρ'[n]? = some a := by
  obtain ⟨l, e, _⟩ := g.ext
  rw [e, List.getElem?_append_left (List.getElem?_eq_some_iff.mp h).1]
  exact h
theorem RepS.mem (S : RepS K H ρ st) {a : Addr} (h : a ∈ ρ) : ∃ (n : Nat) (so : SO), ρ[n]? = some a ∧ st[n]? = some so ∧ RepO K H ρ so a := by
  obtain ⟨n, hn, e⟩ := List.mem_iff_getElem.mp h
  have hs : n < st.length := by have := S.len; omega
  obtain ⟨b, hb, r⟩ := S.at_ n st[n] (List.getElem?_eq_getElem hs)
  have e2 : ρ[n]? = some a := by rw [List.getElem?_eq_getElem hn, e]
  rw [e2] at hb; cases hb
  exact ⟨n, st[n], e2, List.getElem?_eq_getElem hs, r⟩
theorem RepO.some {so : SO} {a : Addr} (h : RepO K H ρ so a) : (∃ vs, H a = some (.lst vs)) ∨ ∃ vs, H a = some (.dK vs) := by
  cases so with
  | lst xs => obtain ⟨vs, h, _⟩ := h; exact .inl ⟨vs, h⟩
  | dK xs => obtain ⟨vs, h, _⟩ := h; exact .inr ⟨vs, h⟩
theorem RepS.notT (S : RepS K H ρ st) {a : Addr} {vs : List V} (h : Rd H a (.tup vs)) : a ∉ ρ := fun hm => by
  obtain ⟨n, so, _, _, r⟩ := S.mem hm
  rcases r.some with ⟨w, e⟩ | ⟨w, e⟩ <;> rcases h with h | ⟨o, h⟩ <;> (rw [e] at h; cases h)
theorem RepS.fresh (S : RepS K H ρ st) {p : Addr} (h : H p = none) : p ∉ ρ := fun hm => by
  obtain ⟨n, so, _, _, r⟩ := S.mem hm
  rcases r.some with ⟨w, e⟩ | ⟨w, e⟩ <;> (rw [e] at h; cases h)
theorem Grow.rd (g : Grow H ρ H' ρ') {a : Addr} {u : HO} (n : a ∉ ρ) (h : Rd H a u) : Rd H' a u := by
  rcases h with h | ⟨o, h⟩
  · exact .inl (g.keep a _ n h)
  · exact .inr ⟨o, g.keep a _ n h⟩
theorem Rd.ne_none {a : Addr} {u : HO} (h : Rd H a u) : H a ≠ none := fun e => by
  rcases h with h | ⟨o, h⟩ <;> (rw [e] at h; cases h)
theorem Grow.notin (g : Grow H ρ H' ρ') {a : Addr} (n : a ∉ ρ) (h : H a ≠ none) : a ∉ ρ' := fun hm => by
  obtain ⟨l, e, f⟩ := g.ext
  rw [e] at hm
  rcases List.mem_append.mp hm with hm | hm
  · exact n hm
  · exact h (f a hm)
theorem SqT.grow (S : RepS K H ρ st) (g : Grow H ρ H' ρ') {a : Addr} {vs : List V} (h : SqT K H a vs) : SqT K H' a vs := by
  rcases h with h | h
  · exact .inl (g.rd (S.notT h) h)
  · exact .inr h
theorem FrzAt.grow (g : Grow H ρ H' ρ') {a : Addr} {vs : List V} (h : FrzAt K H ρ a vs) : FrzAt K H' ρ' a vs := by
  rcases h with ⟨h, n⟩ | h
  · exact .inl ⟨g.rd n h, g.notin n (Rd.ne_none h)⟩
  · exact .inr h
theorem FrzAt.sq {a : Addr} {vs : List V} (h : FrzAt K H ρ a vs) : SqL K H a vs := by
  rcases h with ⟨h, _⟩ | h
  · exact .inl h
  · exact .inr h
mutual
theorem Rep.grow (S : RepS K H ρ st) (g : Grow H ρ H' ρ') : ∀ (x : PV) (v : V), Rep K H ρ x v → Rep K H' ρ' x v
  | .non, v, h => by unfold Rep at *; exact h
  | .bl b, v, h => by unfold Rep at *; exact h
  | .int i, v, h => by unfold Rep at *; exact h
  | .str x, v, h => by unfold Rep at *; exact h
  | .tup xs, v, h => by
    unfold Rep at *
    obtain ⟨a, vs, e, h1, h2⟩ := h
    exact ⟨a, vs, e, SqT.grow S g h1, Reps.grow S g xs vs h2⟩
  | .frz xs, v, h => by
    unfold Rep at *
    obtain ⟨a, vs, e, h1, h2⟩ := h
    exact ⟨a, vs, e, h1.grow g, Reps.grow S g xs vs h2⟩
  | .ref n, v, h => by
    unfold Rep at *
    obtain ⟨a, e, h1⟩ := h
    exact ⟨a, e, g.ix h1⟩
  | .ty n, v, h => by unfold Rep at *; exact h
theorem Reps.grow (S : RepS K H ρ st) (g : Grow H ρ H' ρ') : ∀ (xs : List PV) (vs : List V), Reps K H ρ xs vs → Reps K H' ρ' xs vs
  | [], vs, h => by unfold Reps at *; exact h
  | x :: xs, vs, h => by
    unfold Reps at *
    obtain ⟨v, r, e, h1, h2⟩ := h
    exact ⟨v, r, e, Rep.grow S g x v h1, Reps.grow S g xs r h2⟩
end
theorem RepK.grow (S : RepS K H ρ st) (g : Grow H ρ H' ρ') : ∀ (xs : List (Key × PV)) (vs : List (Key × V)), RepK K H ρ xs vs → RepK K H' ρ' xs vs
  | [], vs, h => h
  | x :: xs, vs, h => by
    obtain ⟨v, r, e, h1, h2⟩ := h
    exact ⟨v, r, e, Rep.grow S g _ v h1, RepK.grow S g xs r h2⟩
theorem RepE.grow (S : RepS K H ρ st) (g : Grow H ρ H' ρ') (E : RepE K H ρ env σ) : RepE K H' ρ' env σ :=
  ⟨E.len, fun i x h => by
    obtain ⟨v, h1, h2⟩ := E.at_ i x h
    exact ⟨v, h1, Rep.grow S g _ _ h2⟩⟩
theorem Reps.length : ∀ {xs : List PV} {vs : List V}, Reps K H ρ xs vs → xs.length = vs.length
  | [], vs, h => by unfold Reps at h; subst h; rfl
  | x :: xs, vs, h => by
    unfold Reps at h
    obtain ⟨v, r, rfl, _, h2⟩ := h
    simp [Reps.length h2]
theorem Reps.get : ∀ {xs : List PV} {vs : List V} {i : Nat} {x : PV}, Reps K H ρ xs vs → xs[i]? = some x → ∃ v, vs[i]? = some v ∧ Rep K H ρ x v
  | [], _, _, _, _, e => by simp at e
  | y :: ys, vs, 0, x, h, e => by
    unfold Reps at h
    obtain ⟨v, r, rfl, h1, _⟩ := h
    simp at e; subst e
    exact ⟨v, rfl, h1⟩
  | y :: ys, vs, i + 1, x, h, e => by
    unfold Reps at h
    obtain ⟨v, r, rfl, _, h2⟩ := h
    obtain ⟨w, a, b⟩ := Reps.get (i := i) (x := x) h2 (by simpa using e)
    exact ⟨w, by simpa using a, b⟩
theorem Reps.append : ∀ {xs ys : List PV} {vs ws : List V}, Reps K H ρ xs vs → Reps K H ρ ys ws → Reps K H ρ (xs ++ ys) (vs ++ ws)
  | [], _, _, _, h, h' => by unfold Reps at h; subst h; exact h'
  | x :: xs, _, _, _, h, h' => by
    unfold Reps at h
    obtain ⟨v, r, rfl, h1, h2⟩ := h
    show Reps K H ρ (x :: (xs ++ _)) (v :: (r ++ _))
    unfold Reps
    exact ⟨v, _, rfl, h1, Reps.append h2 h'⟩
theorem Reps.drop : ∀ {xs : List PV} {vs : List V} (n : Nat), Reps K H ρ xs vs → Reps K H ρ (xs.drop n) (vs.drop n)
  | _, _, 0, h => h
  | [], _, n + 1, h => by unfold Reps at h; subst h; simp [Reps]
  | x :: xs, _, n + 1, h => by
    unfold Reps at h
    obtain ⟨v, r, rfl, _, h2⟩ := h
    exact Reps.drop n h2
theorem Reps.take : ∀ {xs : List PV} {vs : List V} (n : Nat), Reps K H ρ xs vs → Reps K H ρ (xs.take n) (vs.take n)
  | _, _, 0, h => by simp [Reps]
  | [], _, n + 1, h => by unfold Reps at h; subst h; simp [Reps]
  | x :: xs, _, n + 1, h => by
    unfold Reps at h
    obtain ⟨v, r, rfl, h1, h2⟩ := h
    show Reps K H ρ (x :: xs.take n) (v :: r.take n)
    unfold Reps
    exact ⟨v, _, rfl, h1, Reps.take n h2⟩
theorem Reps.set {y : PV} {w : V} (hy : Rep K H ρ y w) : ∀ {xs : List PV} {vs : List V} (n : Nat), Reps K H ρ xs vs → Reps K H ρ (xs.set n y) (vs.set n w)
  | [], _, n, h => by unfold Reps at h; subst h; simp [Reps]
  | x :: xs, _, 0, h => by
    unfold Reps at h
    obtain ⟨v, r, rfl, h1, h2⟩ := h
    show Reps K H ρ (y :: xs) (w :: r)
    unfold Reps
    exact ⟨w, _, rfl, hy, h2⟩
  | x :: xs, _, n + 1, h => by
    unfold Reps at h
    obtain ⟨v, r, rfl, h1, h2⟩ := h
    show Reps K H ρ (x :: xs.set n y) (v :: r.set n w)
    unfold Reps
    exact ⟨v, _, rfl, h1, Reps.set hy n h2⟩
theorem RepE.set (E : RepE K H ρ env σ) {x : PV} {v : V} (h : Rep K H ρ x v) (i : Nat) : RepE K H ρ (env.set i (some x)) (σ.set i (some v)) := by
  refine ⟨by simpa using E.len, fun j y hj => ?_⟩
  by_cases e : i = j
  · subst e
    by_cases hl : i < env.length
    · rw [List.getElem?_set_self hl] at hj
      cases hj
      exact ⟨v, List.getElem?_set_self (by rw [← E.len]; exact hl), h⟩
    · rw [List.getElem?_eq_none (by simpa using hl)] at hj
      cases hj
  · rw [List.getElem?_set_ne e] at hj
    obtain ⟨w, a, b⟩ := E.at_ j y hj
    exact ⟨w, by rw [List.getElem?_set_ne e]; exact a, b⟩
/-- a new tuple -/
theorem grow_new {p : Addr} {o : HO} (h : H p = none) : Grow H ρ (upd H p o) ρ :=
  ⟨⟨[], by simp, fun _ h => by simp at h⟩, fun b u _ e => by rw [upd_ne (ne_of_none e h)]; exact e, fun b e => by
    by_cases hb : b = p
    · subst hb; exact h
    · rw [upd_ne hb] at e; exact e⟩
theorem grow_alloc {p : Addr} {o : HO} (h : H p = none) : Grow H ρ (upd H p o) (ρ ++ [p]) :=
  ⟨⟨[p], rfl, fun b hb => by simp at hb; subst hb; exact h⟩, (grow_new h (ρ := ρ)).keep, (grow_new h (ρ := ρ)).dom⟩
theorem grow_write {p : Addr} {o u : HO} (h : H p = some u) (m : p ∈ ρ) : Grow H ρ (upd H p o) ρ :=
  ⟨⟨[], by simp, fun _ h => by simp at h⟩, fun b w nb e => by rw [upd_ne (fun z => nb (by rw [z]; exact m))]; exact e, fun b e => by
    by_cases hb : b = p
    · subst hb; rw [upd_same] at e; cases e
    · rw [upd_ne hb] at e; exact e⟩
/-- the store as it was, one heap on -/
theorem RepO.grow (S : RepS K H ρ st) (g : Grow H ρ H' ρ') {so : SO} {a : Addr} (h : RepO K H ρ so a) (e : H' a = H a) : RepO K H' ρ' so a := by
  cases so with
  | lst xs => obtain ⟨vs, h1, h2⟩ := h; exact ⟨vs, by rw [e]; exact h1, Reps.grow S g _ _ h2⟩
  | dK xs => obtain ⟨vs, h1, h2⟩ := h; exact ⟨vs, by rw [e]; exact h1, RepK.grow S g _ _ h2⟩
theorem RepS.same (S : RepS K H ρ st) (g : Grow H ρ H' ρ) (e : ∀ a ∈ ρ, H' a = H a) : RepS K H' ρ st :=
  ⟨S.len, S.nd, fun n so h => by
    obtain ⟨a, h1, h2⟩ := S.at_ n so h
    exact ⟨a, h1, h2.grow S g (e a (List.mem_of_getElem? h1))⟩⟩
theorem RepS.new {p : Addr} {o : HO} (S : RepS K H ρ st) (h : H p = none) : RepS K (upd H p o) ρ st :=
  S.same (grow_new h) fun a ha => upd_ne fun e => S.fresh h (by rw [← e]; exact ha)
theorem RepS.alloc {p : Addr} {o : HO} {so : SO} (S : RepS K H ρ st) (h : H p = none) (r : RepO K (upd H p o) (ρ ++ [p]) so p) : RepS K (upd H p o) (ρ ++ [p]) (st ++ [so]) := by
  refine ⟨by simp [S.len], ?_, fun n so' hn => ?_⟩
  · exact List.nodup_append.mpr ⟨S.nd, by simp, fun a ha b hb => by simp at hb; subst hb; exact fun e => S.fresh h (by rw [← e]; exact ha)⟩
  · by_cases hl : n < st.length
    · rw [List.getElem?_append_left hl] at hn
      obtain ⟨a, h1, h2⟩ := S.at_ n so' hn
      exact ⟨a, (grow_alloc h (o := o)).ix h1, h2.grow S (grow_alloc h) (upd_ne fun e => S.fresh h (by rw [← e]; exact List.mem_of_getElem? h1))⟩
    · have e : n = st.length := by
        have := (List.getElem?_eq_some_iff.mp hn).1
        simp at this; omega
      subst e
      rw [List.getElem?_append_right (Nat.le_refl _)] at hn
      simp at hn; subst hn
      exact ⟨p, by rw [← S.len, List.getElem?_append_right (Nat.le_refl _)]; simp, r⟩
theorem RepS.write {p : Addr} {o u : HO} {so : SO} {n : Nat} (S : RepS K H ρ st) (hn : ρ[n]? = some p) (h : H p = some u) (r : RepO K (upd H p o) ρ so p) : RepS K (upd H p o) ρ (st.set n so) := by
  have g : Grow H ρ (upd H p o) ρ := grow_write h (List.mem_of_getElem? hn)
  refine ⟨by simpa using S.len, S.nd, fun m so' hm => ?_⟩
  by_cases e : n = m
  · subst e
    have hl : n < st.length := by have := (List.getElem?_eq_some_iff.mp hn).1; rw [S.len] at this; exact this
    rw [List.getElem?_set_self hl] at hm; cases hm
    exact ⟨p, hn, r⟩
  · rw [List.getElem?_set_ne e] at hm
    obtain ⟨a, h1, h2⟩ := S.at_ m so' hm
    refine ⟨a, h1, h2.grow S g (upd_ne fun z => e ?_)⟩
    subst z
    obtain ⟨l1, e1⟩ := List.getElem?_eq_some_iff.mp hn
    obtain ⟨l2, e2⟩ := List.getElem?_eq_some_iff.mp h1
    exact (List.getElem_inj S.nd).mp (e1.trans e2.symm)
end
end IL

namespace IL
open PySem PySem.Spec PyProof.Rows L2

/-! ### what is computed, by plain functions -/
def ob {α β : Type} (m : Option (α × Sto)) (k : α → Sto → Option β) : Option β := match m with
  | some (a, s) => k a s
  | none => none
theorem ob_some {α β : Type} {m : Option (α × Sto)} {k : α → Sto → Option β} {r : β} (h : ob m k = some r) : ∃ a s, m = some (a, s) ∧ k a s = some r := by
  unfold ob at h
  split at h
  · exact ⟨_, _, rfl, h⟩
  · cases h
abbrev IE := PEnv → Sto → Option (PV × Sto)
abbrev IA := PEnv → Sto → Option (List PV × Sto)
abbrev IT := PEnv → Sto → Option (Bool × Sto)
abbrev IO := PEnv → Sto → Option (Option Int × Sto)
inductive Fl where
  | nx (e : PEnv) (s : Sto) | rt (v : PV) (s : Sto) | bk (e : PEnv) (s : Sto) | ct (e : PEnv) (s : Sto)
abbrev IS := PEnv → Sto → Option Fl
/-- operations on values -/
abbrev F1 := PV → Sto → Option (PV × Sto)
abbrev F2 := PV → PV → Sto → Option (PV × Sto)
abbrev FA := List PV → Sto → Option (PV × Sto)

section
variable (K : PySem.W.Frag)
def tI (i : IE) : TE := fun σ H Q => ∃ env st ρ x st', RepE K H ρ env σ ∧ RepS K H ρ st ∧ i env st = some (x, st') ∧ ∀ v H' ρ', Grow H ρ H' ρ' → RepS K H' ρ' st' → Rep K H' ρ' x v → Q v H'
def tIA (i : IA) : TA := fun σ H Q => ∃ env st ρ x st', RepE K H ρ env σ ∧ RepS K H ρ st ∧ i env st = some (x, st') ∧ ∀ v H' ρ', Grow H ρ H' ρ' → RepS K H' ρ' st' → Reps K H' ρ' x v → Q v H'
def tIT (i : IT) : TT := fun σ H Q => ∃ env st ρ x st', RepE K H ρ env σ ∧ RepS K H ρ st ∧ i env st = some (x, st') ∧ ∀ H' ρ', Grow H ρ H' ρ' → RepS K H' ρ' st' → Q x H'
def tIO (i : IO) : TO := fun σ H Q => ∃ env st ρ x st', RepE K H ρ env σ ∧ RepS K H ρ st ∧ i env st = some (x, st') ∧ ∀ H' ρ', Grow H ρ H' ρ' → RepS K H' ρ' st' → Q x H'
def PostF (D : Ends) (H : Hp) (ρ : List Addr) : Fl → Prop
  | .nx e s => ∀ σ' H' ρ', Grow H ρ H' ρ' → RepS K H' ρ' s → RepE K H' ρ' e σ' → D.nx σ' H'
  | .bk e s => ∀ σ' H' ρ', Grow H ρ H' ρ' → RepS K H' ρ' s → RepE K H' ρ' e σ' → D.bk σ' H'
  | .ct e s => ∀ σ' H' ρ', Grow H ρ H' ρ' → RepS K H' ρ' s → RepE K H' ρ' e σ' → D.ct σ' H'
  | .rt x s => ∀ v H' ρ', Grow H ρ H' ρ' → RepS K H' ρ' s → Rep K H' ρ' x v → D.rt v H'
def tIS (i : IS) : TS := fun D σ H => ∃ env st ρ f, RepE K H ρ env σ ∧ RepS K H ρ st ∧ i env st = some f ∧ PostF K D H ρ f
/-- an operation's reading does what the function does -/
def OpI (r : R2) (f : F2) : Prop := ∀ H ρ st x y vx vy z st' (Q : VK), RepS K H ρ st → Rep K H ρ x vx → Rep K H ρ y vy → f x y st = some (z, st') → (∀ v H' ρ', Grow H ρ H' ρ' → RepS K H' ρ' st' → Rep K H' ρ' z v → Q v H') → r vx vy H Q
def UnI (r : V → Hp → VK → Prop) (f : F1) : Prop := ∀ H ρ st x vx z st' (Q : VK), RepS K H ρ st → Rep K H ρ x vx → f x st = some (z, st') → (∀ v H' ρ', Grow H ρ H' ρ' → RepS K H' ρ' st' → Rep K H' ρ' z v → Q v H') → r vx H Q
def CallI (r : List V → Hp → VK → Prop) (f : FA) : Prop := ∀ H ρ st xs vs z st' (Q : VK), RepS K H ρ st → Reps K H ρ xs vs → f xs st = some (z, st') → (∀ v H' ρ', Grow H ρ H' ρ' → RepS K H' ρ' st' → Rep K H' ρ' z v → Q v H') → r vs H Q
end
section
variable {X : Cx} {e : Expr}
theorem PE.imp {t t' : TE} (h : PE X e t) (m : ∀ σ H Q, t' σ H Q → t σ H Q) : PE X e t' := ⟨fun pins s σ H Q I q => h.run pins s σ H Q I (m σ H Q q)⟩
theorem PT.imp {t t' : TT} (h : PT X e t) (m : ∀ σ H Q, t' σ H Q → t σ H Q) : PT X e t' := ⟨fun pins s σ H Q I q => h.run pins s σ H Q I (m σ H Q q)⟩
theorem PA.imp {es : List Expr} {t t' : TA} (h : PA X es t) (m : ∀ σ H Q, t' σ H Q → t σ H Q) : PA X es t' := ⟨fun pos pins s σ H Q I q => h.run pos pins s σ H Q I (m σ H Q q)⟩
theorem PO.imp {e : Option Expr} {t t' : TO} (h : PO X e t) (m : ∀ σ H Q, t' σ H Q → t σ H Q) : PO X e t' := ⟨fun pins s σ H Q I q => h.run pins s σ H Q I (m σ H Q q)⟩
theorem PS.imp {st : Stmt} {t t' : TS} (h : PS X st t) (m : ∀ D σ H, t' D σ H → t D σ H) : PS X st t' := ⟨fun pins s σ H D I q => h.run pins s σ H D I (m D σ H q)⟩
theorem PSs.imp {st : List Stmt} {t t' : TS} (h : PSs X st t) (m : ∀ D σ H, t' D σ H → t D σ H) : PSs X st t' := ⟨fun pins s σ H D I q => h.run pins s σ H D I (m D σ H q)⟩
theorem OpR.or {f : Value → Value → Sem Value} {r r' : R2} (h : OpR X f r) (h' : OpR X f r') : OpR X f (fun x y H Q => r x y H Q ∨ r' x y H Q) := fun pins s σ H x y v u Q I rx ry q =>
  q.elim (h pins s σ H x y v u Q I rx ry) (h' pins s σ H x y v u Q I rx ry)
theorem CallR.or {f : Value} {r r' : List V → Hp → VK → Prop} (h : CallR X f r) (h' : CallR X f r') : CallR X f (fun x H Q => r x H Q ∨ r' x H Q) := fun pins s σ H xs us Q I rx q =>
  q.elim (h pins s σ H xs us Q I rx) (h' pins s σ H xs us Q I rx)
theorem SlR.or {r r' : V → Option Int → Option Int → Hp → VK → Prop} (h : SlR X r) (h' : SlR X r') : SlR X (fun x a b H Q => r x a b H Q ∨ r' x a b H Q) := fun pins s σ H x v vl vu lo hi sl Q I rx hs pl pu q =>
  q.elim (h pins s σ H x v vl vu lo hi sl Q I rx hs pl pu) (h' pins s σ H x v vl vu lo hi sl Q I rx hs pl pu)
end

section
variable {X : Cx} {a b c e : Expr} {es rest : List Expr} {pos : Pos} {ia ib ic : IE} {ta tb : IT}
/-! ### names, constants -/
def iVar (i : Nat) : IE := fun env st => match env[i]? with
  | some (some v) => some (v, st)
  | _ => none
theorem r_var {i : Nat} {x : Str} (hN : X.N[i]? = some x) (hv : Vis X.env.scope x) (hd : (x == ("__debug__" : Str)) = false := by decide) (hcd : (x == ("__classdict__" : Str)) = false := by decide) : PE X (.Name x pos) (tI X.K (iVar i)) :=
  PE.imp (pe_var hN hv hd hcd) fun σ H Q ⟨env, st, ρ, x, st', E, S, h, q⟩ => by
    unfold iVar at h
    split at h
    · rename_i v e
      cases h
      obtain ⟨w, h1, h2⟩ := E.at_ i _ e
      exact ⟨w, h1, q w H ρ Grow.refl S h2⟩
    · cases h
def iC (v : PV) : IE := fun _ st => some (v, st)
theorem r_c {x : PV} {v : V} (h : PE X e (tC v)) (r : ∀ H ρ, Rep X.K H ρ x v) : PE X e (tI X.K (iC x)) := PE.imp h fun σ H Q ⟨env, st, ρ, y, st', E, S, h, q⟩ => by
  cases h
  exact q v H ρ Grow.refl S (r H ρ)
theorem r_int {i j} : PE X (.Constant (.int i) j pos) (tI X.K (iC (.int i))) := r_c pe_int fun _ _ => by unfold Rep; rfl
theorem r_bl {i j} : PE X (.Constant (.bool i) j pos) (tI X.K (iC (.bl i))) := r_c pe_bl fun _ _ => by unfold Rep; rfl
theorem r_non {j} : PE X (.Constant .none j pos) (tI X.K (iC .non)) := r_c pe_non fun _ _ => by unfold Rep; rfl
theorem r_str {i j} : PE X (.Constant (.str i) j pos) (tI X.K (iC (.str i))) := r_c pe_str fun _ _ => by unfold Rep; rfl
/-- a module's constant -/
def GC (K : PySem.W.Frag) (mg : Str → Option Value) (x : Str) (y : PV) : Prop := ∃ u v, mg x = some u ∧ RelV v u ∧ ∀ H ρ, Rep K H ρ y v
theorem r_glob {x : Str} {y : PV} (hg : Gl X x) (h : GC X.K X.mg x y) (hd : (x == ("__debug__" : Str)) = false := by decide) : PE X (.Name x pos) (tI X.K (iC y)) := by
  obtain ⟨u, v, h1, h2, h3⟩ := h
  exact r_c (pe_glob hg h1 h2 hd) h3
/-- a built-in class as a value -/
theorem r_ty {x : Str} {n : String} (hg : Gl X x) (hm : X.mg x = none) (hv : bootBuiltins x = some (.type n)) (hn : x ≠ "__name__" := by decide) (hd : (x == ("__debug__" : Str)) = false := by decide) : PE X (.Name x pos) (tI X.K (iC (.ty n))) :=
  r_c (pe_bltn (v := .ty n) hg hm hv rfl hn hd) fun _ _ => by unfold Rep; rfl

/-! ### two in a row -/
def iBin (f : F2) (ia ib : IE) : IE := fun env st => ob (ia env st) fun x s1 => ob (ib env s1) fun y s2 => f x y s2
def iUn (f : F1) (ia : IE) : IE := fun env st => ob (ia env st) fun x s1 => f x s1
theorem bin_to {r : R2} {f : F2} {K : PySem.W.Frag} (hf : OpI K r f) {σ : L2.St} {H : Hp} {Q : VK} (h : tI K (iBin f ia ib) σ H Q) : tOp r (tI K ia) (tI K ib) σ H Q := by
  obtain ⟨env, st, ρ, z, st', E, S, h, q⟩ := h
  obtain ⟨x, s1, h1, h⟩ := ob_some h
  obtain ⟨y, s2, h2, h⟩ := ob_some h
  refine ⟨env, st, ρ, x, s1, E, S, h1, fun vx H1 ρ1 G1 S1 R1 => ⟨env, s1, ρ1, y, s2, E.grow S G1, S1, h2, fun vy H2 ρ2 G2 S2 R2 => ?_⟩⟩
  exact hf H2 ρ2 s2 x y vx vy z st' Q S2 (Rep.grow S1 G2 _ _ R1) R2 h fun v H3 ρ3 G3 S3 R3 => q v H3 ρ3 ((G1.trans G2).trans G3) S3 R3
theorem r_op {op : Operator} {r : R2} {f : F2} (ho : OpR X (binaryOp op) r) (hf : OpI X.K r f) (ha : PE X a (tI X.K ia)) (hb : PE X b (tI X.K ib)) : PE X (.BinOp a op b pos) (tI X.K (iBin f ia ib)) :=
  PE.imp (pe_op ho ha hb) fun _ _ _ h => bin_to hf h
theorem r_cmp {op : CmpOp} {r : R2} {f : F2} (ho : OpR X (compareOp op) r) (hf : OpI X.K r f) (ha : PE X a (tI X.K ia)) (hb : PE X b (tI X.K ib)) (hm : behindInMarks op b = false) : PE X (.Compare a [op] [b] pos) (tI X.K (iBin f ia ib)) :=
  PE.imp (pe_cmpR ho ha hb hm) fun _ _ _ h => bin_to hf h
theorem r_ix {r : R2} {f : F2} (ho : IxR X r) (hf : OpI X.K r f) (ha : PE X a (tI X.K ia)) (hb : PE X b (tI X.K ib)) (hs : PlainIx b) : PE X (.Subscript a b pos) (tI X.K (iBin f ia ib)) :=
  PE.imp (pe_ix ho ha hb hs) fun _ _ _ h => bin_to hf h
theorem r_un {op : UnaryOp} {r : V → Hp → VK → Prop} {f : F1} (ho : UnR X (unaryOp op) r) (hf : UnI X.K r f) (ha : PE X a (tI X.K ia)) : PE X (.UnaryOp op a pos) (tI X.K (iUn f ia)) :=
  PE.imp (pe_un ho ha) fun σ H Q ⟨env, st, ρ, z, st', E, S, h, q⟩ => by
    obtain ⟨x, s1, h1, h⟩ := ob_some h
    exact ⟨env, st, ρ, x, s1, E, S, h1, fun vx H1 ρ1 G1 S1 R1 => hf H1 ρ1 s1 x vx z st' Q S1 R1 h fun v H3 ρ3 G3 S3 R3 => q v H3 ρ3 (G1.trans G3) S3 R3⟩
/-- a chain of two comparisons -/
def iChain (f g : F2) (ia ib ic : IE) : IE := fun env st => ob (ia env st) fun x s1 => ob (ib env s1) fun y s2 => ob (f x y s2) fun z s3 => match z with
  | .bl true => ob (ic env s3) fun w s4 => g y w s4
  | .bl false => some (.bl false, s3)
  | _ => none
theorem r_chain {op op' : CmpOp} {r r' : R2} {f g : F2} (ho : OpR X (compareOp op) r) (hf : OpI X.K r f) (ho' : OpR X (compareOp op') r') (hg : OpI X.K r' g) (ha : PE X a (tI X.K ia)) (hb : PE X b (tI X.K ib)) (hc : PE X c (tI X.K ic))
    (hm : lastMarks [op, op'] [b, c] = false := by with_unfolding_all rfl) : PE X (.Compare a [op, op'] [b, c] pos) (tI X.K (iChain f g ia ib ic)) :=
  PE.imp (pe_chain ho ho' ha hb hc hm) fun σ H Q ⟨env, st, ρ, z, st', E, S, h, q⟩ => by
    obtain ⟨x, s1, h1, h⟩ := ob_some h
    obtain ⟨y, s2, h2, h⟩ := ob_some h
    obtain ⟨w, s3, h3, h⟩ := ob_some h
    refine ⟨env, st, ρ, x, s1, E, S, h1, fun vx H1 ρ1 G1 S1 R1 => ⟨env, s1, ρ1, y, s2, E.grow S G1, S1, h2, fun vy H2 ρ2 G2 S2 R2 => ?_⟩⟩
    refine hf H2 ρ2 s2 x y vx vy w s3 _ S2 (Rep.grow S1 G2 _ _ R1) R2 h3 fun v H3 ρ3 G3 S3 R3 => ?_
    split at h
    · unfold Rep at R3
      subst R3
      obtain ⟨w, s4, h4, h⟩ := ob_some h
      refine ⟨true, rfl, ?_⟩
      rw [if_pos rfl]
      refine ⟨env, s3, ρ3, w, s4, ((E.grow S G1).grow S1 G2).grow S2 G3, S3, h4, fun vw H4 ρ4 G4 S4 R4 => ?_⟩
      exact hg H4 ρ4 s4 y w vy vw z st' Q S4 (Rep.grow S3 G4 _ _ (Rep.grow S2 G3 _ _ R2)) R4 h fun v H5 ρ5 G5 S5 R5 => q v H5 ρ5 ((((G1.trans G2).trans G3).trans G4).trans G5) S5 R5
    · unfold Rep at R3
      subst R3
      cases h
      refine ⟨false, rfl, ?_⟩
      rw [if_neg Bool.false_ne_true]
      exact q _ H3 ρ3 ((G1.trans G2).trans G3) S3 (by unfold Rep; rfl)
    · cases h

/-! ### truth -/
def tru (st : Sto) : PV → Option Bool
  | .non => some false
  | .bl b => some b
  | .int i => some (i != 0)
  | .str x => if x.length ≤ 100000 then some ((x.length : Int) != 0) else none
  | .tup xs => some (!xs.isEmpty)
  | .frz xs => some (!xs.isEmpty)
  | .ref n => match st[n]? with
    | some (.lst xs) => some (!xs.isEmpty)
    | some (.dK kvs) => some (!kvs.isEmpty)
    | _ => none
  | .ty _ => none
theorem line5 {n : Nat} (h : n ≤ 100000) : n ≤ sizeLine := Nat.le_trans h (by decide)
theorem Reps.empty {K : PySem.W.Frag} {H : Hp} {ρ : List Addr} {xs : List PV} {vs : List V} (h : Reps K H ρ xs vs) : vs.isEmpty = xs.isEmpty := by
  have := h.length
  cases xs <;> cases vs <;> simp_all
theorem RepK.length {K : PySem.W.Frag} {H : Hp} {ρ : List Addr} : ∀ {xs : List (Key × PV)} {vs : List (Key × V)}, RepK K H ρ xs vs → xs.length = vs.length
  | [], vs, h => by subst h; rfl
  | x :: xs, vs, h => by
    obtain ⟨v, r, rfl, _, h2⟩ := h
    simp [RepK.length h2]
theorem RepK.empty {K : PySem.W.Frag} {H : Hp} {ρ : List Addr} {xs : List (Key × PV)} {vs : List (Key × V)} (h : RepK K H ρ xs vs) : vs.isEmpty = xs.isEmpty := by
  have := h.length
  cases xs <;> cases vs <;> simp_all
theorem tru_rep {K : PySem.W.Frag} {H : Hp} {ρ : List Addr} {st : Sto} (S : RepS K H ρ st) {x : PV} {v : V} {k : Bool} (R : Rep K H ρ x v) (h : tru st x = some k) : TruV K v H k := by
  cases x with
  | non => unfold Rep at R; subst R; cases h; rfl
  | bl b => unfold Rep at R; subst R; cases h; rfl
  | int i => unfold Rep at R; subst R; cases h; rfl
  | str y =>
    unfold Rep at R; subst R
    simp only [tru] at h
    split at h
    · cases h; exact ⟨line5 (by assumption), rfl⟩
    · cases h
  | tup xs =>
    unfold Rep at R
    obtain ⟨a, vs, rfl, h1, h2⟩ := R
    cases h
    exact .inr (.inl ⟨vs, h1, by rw [h2.empty]⟩)
  | frz xs =>
    unfold Rep at R
    obtain ⟨a, vs, rfl, h1, h2⟩ := R
    cases h
    exact .inl ⟨vs, h1.sq, by rw [h2.empty]⟩
  | ty n => cases h
  | ref n =>
    unfold Rep at R
    obtain ⟨a, rfl, h1⟩ := R
    simp only [tru] at h
    split at h
    · rename_i xs e
      obtain ⟨b, hb, vs, h2, h3⟩ := S.at_ _ _ e
      rw [h1] at hb; cases hb
      cases h
      exact .inl ⟨vs, .of h2, by rw [h3.empty]⟩
    · rename_i xs e
      obtain ⟨b, hb, vs, h2, h3⟩ := S.at_ _ _ e
      rw [h1] at hb; cases hb
      cases h
      exact .inr (.inr ⟨vs, h2, by rw [h3.empty]⟩)
    · cases h
def iTest (ia : IE) : IT := fun env st => ob (ia env st) fun x s1 => (tru s1 x).map fun k => (k, s1)
theorem map_pair {α : Type} {o : Option α} {s : Sto} {r : α × Sto} (h : (o.map fun k => (k, s)) = some r) : o = some r.1 ∧ r.2 = s := by
  cases o with
  | none => cases h
  | some k => cases h; exact ⟨rfl, rfl⟩
theorem r_truth (ha : PE X a (tI X.K ia)) (he : ∀ whole, isTrue a X.env whole = (do let v ← whole; standAt a.pos; holding [v] (truthy v))) : PT X a (tIT X.K (iTest ia)) :=
  PT.imp (pt_truth ha he) fun σ H Q ⟨env, st, ρ, z, st', E, S, h, q⟩ => by
    obtain ⟨x, s1, h1, h⟩ := ob_some h
    obtain ⟨h2, h3⟩ := map_pair h
    simp only at h2 h3
    subst h3
    exact ⟨env, st, ρ, x, _, E, S, h1, fun v H1 ρ1 G1 S1 R1 => ⟨z, tru_rep S1 R1 h2, q H1 ρ1 G1 S1⟩⟩
/-- a comparison as a test -/
def isBl : PV → Option Bool
  | .bl b => some b
  | _ => none
def iTestB (ia : IE) : IT := fun env st => ob (ia env st) fun x s1 => (isBl x).map fun k => (k, s1)
theorem testB_to {K : PySem.W.Frag} {σ : L2.St} {H : Hp} {Q : Bool → Hp → Prop} (h : tIT K (iTestB ia) σ H Q) : tTest (tI K ia) σ H Q := by
  obtain ⟨env, st, ρ, z, st', E, S, h, q⟩ := h
  obtain ⟨x, s1, h1, h⟩ := ob_some h
  obtain ⟨h2, h3⟩ := map_pair h
  simp only at h2 h3
  subst h3
  refine ⟨env, st, ρ, x, _, E, S, h1, fun v H1 ρ1 G1 S1 R1 => ?_⟩
  cases x <;> simp only [isBl, Option.some.injEq, reduceCtorEq] at h2
  subst h2
  unfold Rep at R1
  exact ⟨_, R1, q H1 ρ1 G1 S1⟩
theorem TE_test_mono {t t' : TE} (m : ∀ σ H Q, t' σ H Q → t σ H Q) {σ : L2.St} {H : Hp} {Q : Bool → Hp → Prop} (h : tTest t' σ H Q) : tTest t σ H Q := m _ _ _ h
theorem r_cmpT {op : CmpOp} {r : R2} {f : F2} (ho : OpR X (compareOp op) r) (hf : OpI X.K r f) (ha : PE X a (tI X.K ia)) (hb : PE X b (tI X.K ib)) (hm : behindInMarks op b = false) : PT X (.Compare a [op] [b] pos) (tIT X.K (iTestB (iBin f ia ib))) :=
  PT.imp (pt_cmpR ho ha hb hm) fun _ _ _ h => TE_test_mono (fun _ _ _ h => bin_to hf h) (testB_to h)
theorem chain_to {K : PySem.W.Frag} {r r' : R2} {f g : F2} (hf : OpI K r f) (hg : OpI K r' g) {σ : L2.St} {H : Hp} {Q : VK} (h : tI K (iChain f g ia ib ic) σ H Q) : tChain r r' (tI K ia) (tI K ib) (tI K ic) σ H Q := by
  obtain ⟨env, st, ρ, z, st', E, S, h, q⟩ := h
  obtain ⟨x, s1, h1, h⟩ := ob_some h
  obtain ⟨y, s2, h2, h⟩ := ob_some h
  obtain ⟨w, s3, h3, h⟩ := ob_some h
  refine ⟨env, st, ρ, x, s1, E, S, h1, fun vx H1 ρ1 G1 S1 R1 => ⟨env, s1, ρ1, y, s2, E.grow S G1, S1, h2, fun vy H2 ρ2 G2 S2 R2 => ?_⟩⟩
  refine hf H2 ρ2 s2 x y vx vy w s3 _ S2 (Rep.grow S1 G2 _ _ R1) R2 h3 fun v H3 ρ3 G3 S3 R3 => ?_
  split at h
  · unfold Rep at R3
    subst R3
    obtain ⟨w, s4, h4, h⟩ := ob_some h
    refine ⟨true, rfl, ?_⟩
    rw [if_pos rfl]
    refine ⟨env, s3, ρ3, w, s4, ((E.grow S G1).grow S1 G2).grow S2 G3, S3, h4, fun vw H4 ρ4 G4 S4 R4 => ?_⟩
    exact hg H4 ρ4 s4 y w vy vw z st' Q S4 (Rep.grow S3 G4 _ _ (Rep.grow S2 G3 _ _ R2)) R4 h fun v H5 ρ5 G5 S5 R5 => q v H5 ρ5 ((((G1.trans G2).trans G3).trans G4).trans G5) S5 R5
  · unfold Rep at R3
    subst R3
    cases h
    refine ⟨false, rfl, ?_⟩
    rw [if_neg Bool.false_ne_true]
    exact q _ H3 ρ3 ((G1.trans G2).trans G3) S3 (by unfold Rep; rfl)
  · cases h
theorem r_chainT {op op' : CmpOp} {r r' : R2} {f g : F2} (ho : OpR X (compareOp op) r) (hf : OpI X.K r f) (ho' : OpR X (compareOp op') r') (hg : OpI X.K r' g) (ha : PE X a (tI X.K ia)) (hb : PE X b (tI X.K ib)) (hc : PE X c (tI X.K ic))
    (hm : lastMarks [op, op'] [b, c] = false := by with_unfolding_all rfl) : PT X (.Compare a [op, op'] [b, c] pos) (tIT X.K (iTestB (iChain f g ia ib ic))) :=
  PT.imp (pt_chain ho ho' ha hb hc hm) fun _ _ _ h => TE_test_mono (fun _ _ _ h => chain_to hf hg h) (testB_to h)

/-! ### and, or, not -/
def iAnd (t u : IT) : IT := fun env st => ob (t env st) fun k s1 => match k with
  | true => u env s1
  | false => some (false, s1)
def iOr (t u : IT) : IT := fun env st => ob (t env st) fun k s1 => match k with
  | true => some (true, s1)
  | false => u env s1
def iNot (t : IT) : IT := fun env st => ob (t env st) fun k s1 => some (!k, s1)
theorem PW.imp {t t' : TT} (h : PW X e t) (m : ∀ σ H Q, t' σ H Q → t σ H Q) : PW X e t' := ⟨fun w pins s σ H Q I q => h.run w pins s σ H Q I (m σ H Q q)⟩
theorem w_and1 (ha : PT X a (tIT X.K ta)) : PW X (.BoolOp .And [a] pos) (tIT X.K ta) := pw_and1 ha
theorem w_or1 (ha : PT X a (tIT X.K ta)) : PW X (.BoolOp .Or [a] pos) (tIT X.K ta) := pw_or1 ha
theorem w_and (ha : PT X a (tIT X.K ta)) (hb : PW X (.BoolOp .And (b :: rest) pos) (tIT X.K tb)) : PW X (.BoolOp .And (a :: b :: rest) pos) (tIT X.K (iAnd ta tb)) :=
  PW.imp (pw_and ha hb) fun σ H Q ⟨env, st, ρ, z, st', E, S, h, q⟩ => by
    obtain ⟨k, s1, h1, h⟩ := ob_some h
    refine ⟨env, st, ρ, k, s1, E, S, h1, fun H1 ρ1 G1 S1 => ?_⟩
    cases k with
    | true =>
      rw [if_pos rfl]
      exact ⟨env, s1, ρ1, z, st', E.grow S G1, S1, h, fun H2 ρ2 G2 S2 => q H2 ρ2 (G1.trans G2) S2⟩
    | false =>
      rw [if_neg Bool.false_ne_true]
      cases h
      exact q H1 ρ1 G1 S1
theorem w_or (ha : PT X a (tIT X.K ta)) (hb : PW X (.BoolOp .Or (b :: rest) pos) (tIT X.K tb)) : PW X (.BoolOp .Or (a :: b :: rest) pos) (tIT X.K (iOr ta tb)) :=
  PW.imp (pw_or ha hb) fun σ H Q ⟨env, st, ρ, z, st', E, S, h, q⟩ => by
    obtain ⟨k, s1, h1, h⟩ := ob_some h
    refine ⟨env, st, ρ, k, s1, E, S, h1, fun H1 ρ1 G1 S1 => ?_⟩
    cases k with
    | true =>
      rw [if_pos rfl]
      cases h
      exact q H1 ρ1 G1 S1
    | false =>
      rw [if_neg Bool.false_ne_true]
      exact ⟨env, s1, ρ1, z, st', E.grow S G1, S1, h, fun H2 ρ2 G2 S2 => q H2 ρ2 (G1.trans G2) S2⟩
theorem r_not (ha : PT X a (tIT X.K ta)) : PT X (.UnaryOp .Not a pos) (tIT X.K (iNot ta)) :=
  PT.imp (pt_not ha) fun σ H Q ⟨env, st, ρ, z, st', E, S, h, q⟩ => by
    obtain ⟨k, s1, h1, h⟩ := ob_some h
    cases h
    exact ⟨env, st, ρ, k, _, E, S, h1, fun H1 ρ1 G1 S1 => q H1 ρ1 G1 S1⟩
/-- .. as values -/
def iAndV (ia ib : IE) : IE := fun env st => ob (ia env st) fun x s1 => match tru s1 x with
  | some true => ib env s1
  | some false => some (x, s1)
  | none => none
def iOrV (ia ib : IE) : IE := fun env st => ob (ia env st) fun x s1 => match tru s1 x with
  | some true => some (x, s1)
  | some false => ib env s1
  | none => none
def iNotV (ia : IE) : IE := fun env st => ob (ia env st) fun x s1 => (tru s1 x).map fun k => (.bl (!k), s1)
theorem r_one {op} (h : PE X a (tI X.K ia)) : PE X (.BoolOp op [a] pos) (tI X.K ia) := pe_one h
theorem r_andV (ha : PE X a (tI X.K ia)) (hb : PE X (.BoolOp .And (b :: rest) pos) (tI X.K ib)) : PE X (.BoolOp .And (a :: b :: rest) pos) (tI X.K (iAndV ia ib)) :=
  PE.imp (pe_andT ha hb) fun σ H Q ⟨env, st, ρ, z, st', E, S, h, q⟩ => by
    obtain ⟨x, s1, h1, h⟩ := ob_some h
    refine ⟨env, st, ρ, x, s1, E, S, h1, fun v H1 ρ1 G1 S1 R1 => ?_⟩
    split at h
    · rename_i e
      refine ⟨true, tru_rep S1 R1 e, ?_⟩
      rw [if_pos rfl]
      exact ⟨env, s1, ρ1, z, st', E.grow S G1, S1, h, fun v H2 ρ2 G2 S2 R2 => q v H2 ρ2 (G1.trans G2) S2 R2⟩
    · rename_i e
      refine ⟨false, tru_rep S1 R1 e, ?_⟩
      rw [if_neg Bool.false_ne_true]
      cases h
      exact q v H1 ρ1 G1 S1 R1
    · cases h
theorem r_orV (ha : PE X a (tI X.K ia)) (hb : PE X (.BoolOp .Or (b :: rest) pos) (tI X.K ib)) : PE X (.BoolOp .Or (a :: b :: rest) pos) (tI X.K (iOrV ia ib)) :=
  PE.imp (pe_orT ha hb) fun σ H Q ⟨env, st, ρ, z, st', E, S, h, q⟩ => by
    obtain ⟨x, s1, h1, h⟩ := ob_some h
    refine ⟨env, st, ρ, x, s1, E, S, h1, fun v H1 ρ1 G1 S1 R1 => ?_⟩
    split at h
    · rename_i e
      refine ⟨true, tru_rep S1 R1 e, ?_⟩
      rw [if_pos rfl]
      cases h
      exact q v H1 ρ1 G1 S1 R1
    · rename_i e
      refine ⟨false, tru_rep S1 R1 e, ?_⟩
      rw [if_neg Bool.false_ne_true]
      exact ⟨env, s1, ρ1, z, st', E.grow S G1, S1, h, fun v H2 ρ2 G2 S2 R2 => q v H2 ρ2 (G1.trans G2) S2 R2⟩
    · cases h
theorem r_notV (ha : PE X a (tI X.K ia)) : PE X (.UnaryOp .Not a pos) (tI X.K (iNotV ia)) :=
  PE.imp (pe_notT ha) fun σ H Q ⟨env, st, ρ, z, st', E, S, h, q⟩ => by
    obtain ⟨x, s1, h1, h⟩ := ob_some h
    refine ⟨env, st, ρ, x, s1, E, S, h1, fun v H1 ρ1 G1 S1 R1 => ?_⟩
    cases e : tru s1 x with
    | none => rw [e] at h; cases h
    | some k =>
      rw [e] at h
      obtain ⟨rfl, rfl⟩ : PV.bl (!k) = z ∧ s1 = st' := by simpa using h
      exact ⟨k, tru_rep S1 R1 e, q _ H1 ρ1 G1 S1 (by unfold Rep; rfl)⟩
def iIf (t : IT) (ia ib : IE) : IE := fun env st => ob (t env st) fun k s1 => match k with
  | true => ia env s1
  | false => ib env s1
theorem r_ifExp (hc : PT X c (tIT X.K ta)) (ha : PE X a (tI X.K ia)) (hb : PE X b (tI X.K ib)) : PE X (.IfExp c a b pos) (tI X.K (iIf ta ia ib)) :=
  PE.imp (pe_ifExp hc ha hb) fun σ H Q ⟨env, st, ρ, z, st', E, S, h, q⟩ => by
    obtain ⟨k, s1, h1, h⟩ := ob_some h
    refine ⟨env, st, ρ, k, s1, E, S, h1, fun H1 ρ1 G1 S1 => ?_⟩
    cases k with
    | true =>
      rw [if_pos rfl]
      exact ⟨env, s1, ρ1, z, st', E.grow S G1, S1, h, fun v H2 ρ2 G2 S2 R2 => q v H2 ρ2 (G1.trans G2) S2 R2⟩
    | false =>
      rw [if_neg Bool.false_ne_true]
      exact ⟨env, s1, ρ1, z, st', E.grow S G1, S1, h, fun v H2 ρ2 G2 S2 R2 => q v H2 ρ2 (G1.trans G2) S2 R2⟩

/-! ### arguments, displays -/
def iNil : IA := fun _ st => some ([], st)
def iCons (ia : IE) (ir : IA) : IA := fun env st => ob (ia env st) fun x s1 => ob (ir env s1) fun xs s2 => some (x :: xs, s2)
variable {ir : IA}
theorem a_nil : PA X [] (tIA X.K iNil) := PA.imp pa_nil fun σ H Q ⟨env, st, ρ, z, st', E, S, h, q⟩ => by
  cases h
  exact q [] H ρ Grow.refl S (by unfold Reps; rfl)
theorem a_cons (ha : PE X e (tI X.K ia)) (hr : PA X es (tIA X.K ir)) (hs : starEach (e :: es) X.env = (false, eval e X.env) :: starEach es X.env := by rfl) : PA X (e :: es) (tIA X.K (iCons ia ir)) :=
  PA.imp (pa_cons ha hr hs) fun σ H Q ⟨env, st, ρ, z, st', E, S, h, q⟩ => by
    obtain ⟨x, s1, h1, h⟩ := ob_some h
    obtain ⟨xs, s2, h2, h⟩ := ob_some h
    cases h
    refine ⟨env, st, ρ, x, s1, E, S, h1, fun v H1 ρ1 G1 S1 R1 => ⟨env, s1, ρ1, xs, _, E.grow S G1, S1, h2, fun vs H2 ρ2 G2 S2 R2 => ?_⟩⟩
    exact q (v :: vs) H2 ρ2 (G1.trans G2) S2 (by unfold Reps; exact ⟨v, vs, rfl, Rep.grow S1 G2 _ _ R1, R2⟩)
def iTup (ir : IA) : IE := fun env st => ob (ir env st) fun xs s1 => if xs.length ≤ 100000 then some (.tup xs, s1) else none
theorem new_tup {K : PySem.W.Frag} {H : Hp} {ρ : List Addr} {st : Sto} (S : RepS K H ρ st) {xs : List PV} {vs : List V} (R : Reps K H ρ xs vs) {p : Addr} (hp : H p = none) : Rep K (upd H p (.tup vs)) ρ (.tup xs) (.ref p) := by
  unfold Rep
  exact ⟨p, vs, rfl, .of upd_same, Reps.grow S (grow_new hp) _ _ R⟩
theorem r_tup {x1} (h : PA X es (tIA X.K ir)) : PE X (.Tuple es x1 pos) (tI X.K (iTup ir)) :=
  PE.imp (pe_tup h) fun σ H Q ⟨env, st, ρ, z, st', E, S, h, q⟩ => by
    obtain ⟨xs, s1, h1, h⟩ := ob_some h
    split at h
    · rename_i hl
      cases h
      exact ⟨env, st, ρ, xs, _, E, S, h1, fun vs H1 ρ1 G1 S1 R1 => ⟨line5 (by rw [← R1.length]; exact hl), fun p hp => q _ _ ρ1 (G1.trans (grow_new hp)) (S1.new hp) (new_tup S1 R1 hp)⟩⟩
    · cases h
/-- a new list -/
def alloc (so : SO) (st : Sto) : PV × Sto := (.ref st.length, st ++ [so])
theorem new_lst {K : PySem.W.Frag} {H : Hp} {ρ : List Addr} {st : Sto} (S : RepS K H ρ st) {xs : List PV} {vs : List V} (R : Reps K H ρ xs vs) {p : Addr} (hp : H p = none) :
    Grow H ρ (upd H p (.lst vs)) (ρ ++ [p]) ∧ RepS K (upd H p (.lst vs)) (ρ ++ [p]) (alloc (.lst xs) st).2 ∧ Rep K (upd H p (.lst vs)) (ρ ++ [p]) (alloc (.lst xs) st).1 (.ref p) := by
  have g : Grow H ρ (upd H p (.lst vs)) (ρ ++ [p]) := grow_alloc hp
  refine ⟨g, S.alloc hp ⟨vs, upd_same, Reps.grow S g _ _ R⟩, ?_⟩
  unfold alloc Rep
  refine ⟨p, rfl, ?_⟩
  rw [← S.len, List.getElem?_append_right (Nat.le_refl _)]
  simp
def iLst (ir : IA) : IE := fun env st => ob (ir env st) fun xs s1 => if xs.length ≤ 100000 then some (alloc (.lst xs) s1) else none
theorem r_lst (h : PA X es (tIA X.K ir)) : PE X (.List es pos) (tI X.K (iLst ir)) :=
  PE.imp (pe_lst h) fun σ H Q ⟨env, st, ρ, z, st', E, S, h, q⟩ => by
    obtain ⟨xs, s1, h1, h⟩ := ob_some h
    split at h
    · rename_i hl
      refine ⟨env, st, ρ, xs, _, E, S, h1, fun vs H1 ρ1 G1 S1 R1 => ⟨line5 (by rw [← R1.length]; exact hl), fun p hp => ?_⟩⟩
      obtain ⟨a1, a2, a3⟩ := new_lst S1 R1 hp
      have e := Option.some.inj h
      rw [e] at a2 a3
      exact q _ _ _ (G1.trans a1) a2 a3
    · cases h

/-! ### slices -/
def iNo : IO := fun _ st => some (none, st)
def iPart (ia : IE) : IO := fun env st => ob (ia env st) fun x s1 => match x with
  | .int i => some (some i, s1)
  | _ => none
theorem o_none : PO X none (tIO X.K iNo) := PO.imp po_none fun σ H Q ⟨env, st, ρ, z, st', E, S, h, q⟩ => by
  cases h
  exact q H ρ Grow.refl S
theorem o_some (ha : PE X e (tI X.K ia)) : PO X (some e) (tIO X.K (iPart ia)) := PO.imp (po_some ha) fun σ H Q ⟨env, st, ρ, z, st', E, S, h, q⟩ => by
  obtain ⟨x, s1, h1, h⟩ := ob_some h
  split at h
  · cases h
    exact ⟨env, st, ρ, _, _, E, S, h1, fun v H1 ρ1 G1 S1 R1 => by
      unfold Rep at R1
      exact ⟨_, R1, q H1 ρ1 G1 S1⟩⟩
  · cases h
abbrev FSl := PV → Option Int → Option Int → Sto → Option (PV × Sto)
def iSl (f : FSl) (ia : IE) (lo hi : IO) : IE := fun env st => ob (ia env st) fun x s1 => ob (lo env s1) fun l s2 => ob (hi env s2) fun u s3 => f x l u s3
def SlI (K : PySem.W.Frag) (r : V → Option Int → Option Int → Hp → VK → Prop) (f : FSl) : Prop :=
  ∀ H ρ st x vx lo hi z st' (Q : VK), RepS K H ρ st → Rep K H ρ x vx → f x lo hi st = some (z, st') → (∀ v H' ρ', Grow H ρ H' ρ' → RepS K H' ρ' st' → Rep K H' ρ' z v → Q v H') → r vx lo hi H Q
theorem r_slice {r : V → Option Int → Option Int → Hp → VK → Prop} {f : FSl} {lo hi : Option Expr} {il ih : IO} {p2 : Pos} (hr : SlR X r) (hf : SlI X.K r f) (ha : PE X e (tI X.K ia)) (hl : PO X lo (tIO X.K il)) (hh : PO X hi (tIO X.K ih)) :
    PE X (.Subscript e (.Slice lo hi none p2) pos) (tI X.K (iSl f ia il ih)) :=
  PE.imp (pe_slice hr ha hl hh) fun σ H Q ⟨env, st, ρ, z, st', E, S, h, q⟩ => by
    obtain ⟨x, s1, h1, h⟩ := ob_some h
    obtain ⟨l, s2, h2, h⟩ := ob_some h
    obtain ⟨u, s3, h3, h⟩ := ob_some h
    refine ⟨env, st, ρ, x, s1, E, S, h1, fun v H1 ρ1 G1 S1 R1 => ⟨env, s1, ρ1, l, s2, E.grow S G1, S1, h2, fun H2 ρ2 G2 S2 => ⟨env, s2, ρ2, u, s3, (E.grow S G1).grow S1 G2, S2, h3, fun H3 ρ3 G3 S3 => ?_⟩⟩⟩
    exact hf H3 ρ3 s3 x v l u z st' Q S3 (Rep.grow S2 G3 _ _ (Rep.grow S1 G2 _ _ R1)) h fun v H4 ρ4 G4 S4 R4 => q v H4 ρ4 (((G1.trans G2).trans G3).trans G4) S4 R4

/-! ### calls -/
def iCall (f : FA) (ir : IA) : IE := fun env st => ob (ir env st) fun xs s1 => f xs s1
variable {x : Str} {p : Pos}
theorem cb_to {K : PySem.W.Frag} {r : List V → Hp → VK → Prop} {f : FA} (hf : CallI K r f) {σ : L2.St} {H : Hp} {Q : VK} (h : tI K (iCall f ir) σ H Q) : tCB r (tIA K ir) σ H Q := by
  obtain ⟨env, st, ρ, z, st', E, S, h, q⟩ := h
  obtain ⟨xs, s1, h1, h⟩ := ob_some h
  exact ⟨env, st, ρ, xs, s1, E, S, h1, fun vs H1 ρ1 G1 S1 R1 => hf H1 ρ1 s1 xs vs z st' Q S1 R1 h fun v H2 ρ2 G2 S2 R2 => q v H2 ρ2 (G1.trans G2) S2 R2⟩
theorem r_callB {id : String} {r : List V → Hp → VK → Prop} {f : FA} (hc : CallR X (.builtin id) r) (hf : CallI X.K r f) (hg : Gl X x) (hm : X.mg x = none) (hv : bootBuiltins x = some (.builtin id)) (ha : PA X (e :: es) (tIA X.K ir)) (hn : x ≠ "__name__" := by decide) (hdb : (x == ("__debug__" : Str)) = false := by decide)
    (he : starEach (e :: es) X.env = (false, eval e X.env) :: starEach es X.env := by rfl) (hpl : (backTo pos (starEach es X.env)).any (·.1) = false := by rfl) : PE X (.Call (.Name x p) (e :: es) [] pos) (tI X.K (iCall f ir)) :=
  PE.imp (pe_callB hc hg hm hv ha hn hdb he hpl) fun _ _ _ h => cb_to hf h
theorem r_callTy {T : String} {r : List V → Hp → VK → Prop} {f : FA} (hc : CallR X (.type T) r) (hf : CallI X.K r f) (hg : Gl X x) (hm : X.mg x = none) (hv : bootBuiltins x = some (.type T)) (ha : PA X (e :: es) (tIA X.K ir)) (hn : x ≠ "__name__" := by decide) (hdb : (x == ("__debug__" : Str)) = false := by decide)
    (he : starEach (e :: es) X.env = (false, eval e X.env) :: starEach es X.env := by rfl) (hpl : (backTo pos (starEach es X.env)).any (·.1) = false := by rfl) : PE X (.Call (.Name x p) (e :: es) [] pos) (tI X.K (iCall f ir)) :=
  PE.imp (pe_callTy hc hg hm hv ha hn hdb he hpl) fun _ _ _ h => cb_to hf h
/-- a def's promise: it does what f does -/
def spI (K : PySem.W.Frag) (n : Nat) (f : FA) : Sp := fun vs H Q _ => vs.length = n ∧ ∃ st ρ xs z st', RepS K H ρ st ∧ Reps K H ρ xs vs ∧ f xs st = some (z, st') ∧ ∀ v H' ρ', Grow H ρ H' ρ' → RepS K H' ρ' st' → Rep K H' ρ' z v → Q v H'
/-- a def may be called, and does what f does -/
abbrev CalI (P : Program) (w : World) (K : PySem.W.Frag) (mg : Str → Option Value) (base : Heap) (k : Nat) (x : Str) (n : Nat) (f : FA) : Prop := C8.Cal P w K mg base k x (spI K n f) []
/-- f of so many values alone -/
def Ar (n : Nat) (f : FA) : Prop := ∀ xs st r, f xs st = some r → xs.length = n
theorem call_to {K : PySem.W.Frag} {n : Nat} {f : FA} (hn : Ar n f) {σ : L2.St} {H : Hp} {Q : VK} (h : tI K (iCall f ir) σ H Q) : tCall (spI K n f) [] E0 (tIA K ir) σ H Q := by
  obtain ⟨env, st, ρ, z, st', E, S, h, q⟩ := h
  obtain ⟨xs, s1, h1, h⟩ := ob_some h
  refine ⟨env, st, ρ, xs, s1, E, S, h1, fun vs H1 ρ1 G1 S1 R1 => ?_⟩
  show spI K n f (vs ++ []) H1 Q E0
  rw [List.append_nil]
  exact ⟨by rw [← R1.length]; exact hn _ _ _ h, s1, ρ1, xs, z, st', S1, R1, h, fun v H2 ρ2 G2 S2 R2 => q v H2 ρ2 (G1.trans G2) S2 R2⟩
theorem r_call {k j n : Nat} {f : FA} (c : CalI X.prog X.w X.K X.mg X.base k x n f) (hn : Ar n f) (hr : Room j X.A) (hk : k ≤ j) (hg : Gl X x) (ha : PA X (e :: es) (tIA X.K ir))
    (hdb : (x == ("__debug__" : Str)) = false := by decide) (he : starEach (e :: es) X.env = (false, eval e X.env) :: starEach es X.env := by rfl) (hpl : (backTo pos (starEach es X.env)).any (·.1) = false := by rfl) :
    PE X (.Call (.Name x p) (e :: es) [] pos) (tI X.K (iCall f ir)) :=
  PE.imp (C8.pe_c c hr hk hg ha hdb he hpl) fun _ _ _ h => call_to hn h
end
end IL

namespace IL
open PySem PySem.Spec PyProof.Rows L2

section
variable {K : PySem.W.Frag} {H H' : Hp} {ρ ρ' : List Addr} {st : Sto} {env : PEnv} {σ : L2.St} {D : Ends}
theorem PostF.grow (g : Grow H ρ H' ρ') : ∀ {f : Fl}, PostF K D H ρ f → PostF K D H' ρ' f
  | .nx _ _, h => fun σ' H2 ρ2 G S E => h σ' H2 ρ2 (g.trans G) S E
  | .bk _ _, h => fun σ' H2 ρ2 G S E => h σ' H2 ρ2 (g.trans G) S E
  | .ct _ _, h => fun σ' H2 ρ2 G S E => h σ' H2 ρ2 (g.trans G) S E
  | .rt _ _, h => fun v H2 ρ2 G S R => h v H2 ρ2 (g.trans G) S R
/-! ### targets -/
abbrev IG := PV → PEnv → Sto → Option PEnv
abbrev IGs := List PV → PEnv → Sto → Option PEnv
def tIG (K : PySem.W.Frag) (T : List Nat) (ig : IG) : TG := fun v σ H Q => ∃ env st ρ x env', RepE K H ρ env σ ∧ RepS K H ρ st ∧ Rep K H ρ x v ∧ ig x env st = some env' ∧
  ∀ σ' : L2.St, RepE K H ρ env' σ' → σ'.length = σ.length → (∀ i, i ∉ T → σ'[i]? = σ[i]?) → Q σ' H
def tIGs (K : PySem.W.Frag) (T : List Nat) (ig : IGs) : TGs := fun vs σ H Q => ∃ env st ρ xs env', RepE K H ρ env σ ∧ RepS K H ρ st ∧ Reps K H ρ xs vs ∧ ig xs env st = some env' ∧
  ∀ σ' : L2.St, RepE K H ρ env' σ' → σ'.length = σ.length → (∀ i, i ∉ T → σ'[i]? = σ[i]?) → Q σ' H
theorem PG.imp {X : Cx} {tg : Expr} {t t' : TG} (h : PG X tg t) (m : ∀ v σ H Q, t' v σ H Q → t v σ H Q) : PG X tg t' := ⟨fun pins s σ H v u Q I r q => h.run pins s σ H v u Q I r (m v σ H Q q)⟩
theorem PGs.imp {X : Cx} {tg : List Expr} {t t' : TGs} (h : PGs X tg t) (m : ∀ v σ H Q, t' v σ H Q → t v σ H Q) : PGs X tg t' := ⟨fun pins s σ H v u Q I r q => h.run pins s σ H v u Q I r (m v σ H Q q)⟩
def gN (i : Nat) : IG := fun x env _ => some (env.set i (some x))
def gNs : IGs := fun xs env _ => if xs.isEmpty then some env else none
def gCs (g : IG) (gs : IGs) : IGs := fun xs env st => match xs with
  | x :: r => match g x env st with
    | some env1 => gs r env1 st
    | none => none
  | [] => none
def gT (n : Nat) (gs : IGs) : IG := fun x env st => match x with
  | .tup xs => if xs.length = n then gs xs env st else none
  | _ => none
end
section
variable {X : Cx} {pos : Pos}
theorem g_name {i : Nat} {x : Str} (hN : X.N.Nodup) (hi : X.N[i]? = some x) (hx : Loc X.env.scope x) (hf : X.fn x = true ∨ X.env.scope.names.lookup x = some .local := by first | exact .inl rfl | exact .inr rfl | assumption) :
    PG X (.Name x pos) (tIG X.K [i] (gN i)) := PG.imp (pg_name hN hi hx hf) fun v σ H Q ⟨env, st, ρ, y, env', E, S, R, h, q⟩ => by
  cases h
  refine q _ (E.set R i) (by simp) fun j hj => ?_
  rw [List.getElem?_set_ne (fun e => hj (by simp [e]))]
theorem gs_nil : PGs X [] (tIGs X.K [] gNs) := PGs.imp pgs_nil fun v σ H Q ⟨env, st, ρ, y, env', E, S, R, h, q⟩ => by
  unfold gNs at h
  cases y with
  | nil =>
    unfold Reps at R
    cases h
    exact ⟨R, q σ E rfl fun _ _ => rfl⟩
  | cons => simp at h
theorem gs_cons {e : Expr} {es : List Expr} {T T' : List Nat} {g : IG} {gs : IGs} (h1 : PG X e (tIG X.K T g)) (h2 : PGs X es (tIGs X.K T' gs))
    (hs : (assignEach (e :: es) X.env).map (·.2) = assign e X.env :: (assignEach es X.env).map (·.2) := by rfl) : PGs X (e :: es) (tIGs X.K (T ++ T') (gCs g gs)) :=
  PGs.imp (pgs_cons h1 h2 hs) fun v σ H Q ⟨env, st, ρ, y, env', E, S, R, h, q⟩ => by
    cases y with
    | nil => cases h
    | cons y ys =>
      unfold Reps at R
      obtain ⟨w, r, rfl, R1, R2⟩ := R
      simp only [gCs] at h
      split at h
      · rename_i env1 h1
        refine ⟨w, r, rfl, env, st, ρ, y, env1, E, S, R1, h1, fun σ1 E1 l1 a1 => ⟨env1, st, ρ, ys, env', E1, S, R2, h, fun σ2 E2 l2 a2 => q σ2 E2 (l2.trans l1) fun i hi => ?_⟩⟩
        rw [a2 i (fun z => hi (List.mem_append_right _ z)), a1 i (fun z => hi (List.mem_append_left _ z))]
      · cases h
theorem g_tup {es : List Expr} {k : Nat} {T : List Nat} {gs : IGs} {n : Nat} (hc : X.calm = true) (h : PGs X es (tIGs X.K T gs))
    (hn : (assignEach es X.env).length = n := by rfl) (hst : (assignEach es X.env).findIdx? (·.1) = none := by rfl) : PG X (.Tuple es k pos) (tIG X.K T (gT n gs)) :=
  PG.imp (pg_tup hc h hn hst) fun v σ H Q ⟨env, st, ρ, y, env', E, S, R, h, q⟩ => by
    cases y with
    | tup xs =>
      unfold Rep at R
      obtain ⟨a, vs, rfl, h1, h2⟩ := R
      simp only [gT] at h
      split at h
      · rename_i hl
        exact ⟨a, vs, rfl, h1, by rw [← h2.length]; exact hl, env, st, ρ, xs, env', E, S, h2, h, q⟩
      · cases h
    | _ => cases h

/-! ### statements -/
def iSkip : IS := fun env st => some (.nx env st)
def iSeq (a b : IS) : IS := fun env st => match a env st with
  | some (.nx e s) => b e s
  | o => o
variable {st : Stmt} {rest : List Stmt} {e : Expr} {ia ib : IS} {ie : IE} {it : IT}
theorem s_nil : PSs X [] (tIS X.K iSkip) := PSs.imp pss_nil fun D σ H ⟨env, s, ρ, f, E, S, h, q⟩ => by
  cases h
  exact q σ H ρ Grow.refl S E
theorem s_cons (h1 : PS X st (tIS X.K ia)) (h2 : PSs X rest (tIS X.K ib)) : PSs X (st :: rest) (tIS X.K (iSeq ia ib)) := PSs.imp (pss_cons h1 h2) fun D σ H ⟨env, s, ρ, f, E, S, h, q⟩ => by
  unfold iSeq at h
  cases e1 : ia env s with
  | none => rw [e1] at h; cases h
  | some f1 =>
    rw [e1] at h
    refine ⟨env, s, ρ, f1, E, S, e1, ?_⟩
    cases f1 with
    | nx e s1 => exact fun σ' H' ρ' G S' E' => ⟨e, s1, ρ', f, E', S', h, q.grow G⟩
    | rt v s1 => cases h; exact q
    | bk e s1 => cases h; exact q
    | ct e s1 => cases h; exact q
theorem s_one (h1 : PS X st (tIS X.K ia)) : PSs X [st] (tIS X.K ia) := pss_one h1
theorem s_pass : PS X (.Pass pos) (tIS X.K iSkip) := PS.imp ps_pass fun D σ H ⟨env, s, ρ, f, E, S, h, q⟩ => by
  cases h
  exact q σ H ρ Grow.refl S E
def iBreak : IS := fun env st => some (.bk env st)
def iCont : IS := fun env st => some (.ct env st)
theorem s_break : PS X (.Break pos) (tIS X.K iBreak) := PS.imp ps_break fun D σ H ⟨env, s, ρ, f, E, S, h, q⟩ => by
  cases h
  exact q σ H ρ Grow.refl S E
theorem s_continue : PS X (.Continue pos) (tIS X.K iCont) := PS.imp ps_continue fun D σ H ⟨env, s, ρ, f, E, S, h, q⟩ => by
  cases h
  exact q σ H ρ Grow.refl S E
def iDrop (ie : IE) : IS := fun env st => ob (ie env st) fun _ s => some (.nx env s)
theorem s_expr (he : PE X e (tI X.K ie)) (hs : swapsWith e none pos.line X.env = pure false := by rfl) : PS X (.Expr e pos) (tIS X.K (iDrop ie)) := PS.imp (ps_expr he hs) fun D σ H ⟨env, s, ρ, f, E, S, h, q⟩ => by
  obtain ⟨x, s1, h1, h⟩ := ob_some h
  cases h
  exact ⟨env, s, ρ, x, _, E, S, h1, fun v H1 ρ1 G1 S1 R1 => q σ H1 ρ1 G1 S1 (E.grow S G1)⟩
def iRet (ie : IE) : IS := fun env st => ob (ie env st) fun x s => some (.rt x s)
theorem s_ret (he : PE X e (tI X.K ie)) : PS X (.Return (some e) pos) (tIS X.K (iRet ie)) := PS.imp (ps_ret he) fun D σ H ⟨env, s, ρ, f, E, S, h, q⟩ => by
  obtain ⟨x, s1, h1, h⟩ := ob_some h
  cases h
  exact ⟨env, s, ρ, x, _, E, S, h1, fun v H1 ρ1 G1 S1 R1 => q v H1 ρ1 G1 S1 R1⟩
def iRetN : IS := fun _ st => some (.rt .non st)
theorem s_retN : PS X (.Return none pos) (tIS X.K iRetN) := PS.imp ps_retN fun D σ H ⟨env, s, ρ, f, E, S, h, q⟩ => by
  cases h
  exact q .non H ρ Grow.refl S (by unfold Rep; rfl)
def iIfS (t : IT) (a b : IS) : IS := fun env st => ob (t env st) fun k s => match k with
  | true => a env s
  | false => b env s
theorem s_if {c : Expr} {p q : List Stmt} (hc : PT X c (tIT X.K it)) (ha : PSs X p (tIS X.K ia)) (hb : PSs X q (tIS X.K ib)) : PS X (.If c p q pos) (tIS X.K (iIfS it ia ib)) :=
  PS.imp (ps_if hc ha hb) fun D σ H ⟨env, s, ρ, f, E, S, h, q⟩ => by
    obtain ⟨k, s1, h1, h⟩ := ob_some h
    refine ⟨env, s, ρ, k, s1, E, S, h1, fun H1 ρ1 G1 S1 => ?_⟩
    cases k with
    | true =>
      rw [if_pos rfl]
      exact ⟨env, s1, ρ1, f, E.grow S G1, S1, h, q.grow G1⟩
    | false =>
      rw [if_neg Bool.false_ne_true]
      exact ⟨env, s1, ρ1, f, E.grow S G1, S1, h, q.grow G1⟩
def iAsg (ig : IG) (ie : IE) : IS := fun env st => ob (ie env st) fun x s => match ig x env s with
  | some env' => some (.nx env' s)
  | none => none
theorem s_asg {tg : Expr} {T : List Nat} {ig : IG} (he : PE X e (tI X.K ie)) (hg : PG X tg (tIG X.K T ig)) (hs : swapsWithSole [tg] e pos.line X.env = pure false := by rfl) (hw : swappedStores [tg] e X.env = pure none := by rfl)
    (h1 : (assignEach [tg] X.env).map (·.2) = [assign tg X.env] := by rfl) : PS X (.Assign [tg] e pos) (tIS X.K (iAsg ig ie)) := PS.imp (ps_asg he hg hs hw h1) fun D σ H ⟨env, s, ρ, f, E, S, h, q⟩ => by
  obtain ⟨x, s1, h1, h⟩ := ob_some h
  refine ⟨env, s, ρ, x, s1, E, S, h1, fun v H1 ρ1 G1 S1 R1 => ?_⟩
  split at h
  · rename_i env' hg
    cases h
    exact ⟨env, _, ρ1, x, env', E.grow S G1, S1, R1, hg, fun σ' E' _ _ => q σ' H1 ρ1 G1 S1 E'⟩
  · cases h
theorem s_set {i : Nat} {x : Str} {pos' : Pos} (hN : X.N.Nodup) (hi : X.N[i]? = some x) (hx : Loc X.env.scope x) (he : PE X e (tI X.K ie)) (hs : swapsWith e (some (.Name x pos')) pos.line X.env = pure false := by rfl)
    (hf : X.fn x = true ∨ X.env.scope.names.lookup x = some .local := by first | exact .inl rfl | exact .inr rfl | assumption) : PS X (.Assign [.Name x pos'] e pos) (tIS X.K (iAsg (gN i) ie)) :=
  PS.imp (ps_set hN hi hx he hs hf) fun D σ H ⟨env, s, ρ, f, E, S, h, q⟩ => by
    obtain ⟨x, s1, h1, h⟩ := ob_some h
    cases h
    exact ⟨env, s, ρ, x, _, E, S, h1, fun v H1 ρ1 G1 S1 R1 => q _ H1 ρ1 G1 S1 ((E.grow S G1).set R1 i)⟩
/-- a, b = x, y: two local names -/
def iPar (i j : Nat) (ir : IA) : IS := fun env st => ob (ir env st) fun xs s => match xs with
  | [x, y] => some (.nx ((env.set i (some x)).set j (some y)) s)
  | _ => none
theorem s_par {i j : Nat} {x y : Str} {a b : Expr} {ir : IA} {px py pt : Pos} {kt k2 pt2} (hc : X.calm = true) (hN : X.N.Nodup) (hi : X.N[i]? = some x) (hj : X.N[j]? = some y) (hij : i ≠ j)
    (hx : X.env.scope.names.lookup x = some .local) (hy : X.env.scope.names.lookup y = some .local) (ha : PA X [a, b] (tIA X.K ir))
    (hw : swappedStores [.Tuple [.Name x px, .Name y py] kt pt] (.Tuple [a, b] k2 pt2) X.env = pure (some [x, y]))
    (hs : swapsWithSole [.Tuple [.Name x px, .Name y py] kt pt] (.Tuple [a, b] k2 pt2) pos.line X.env = pure false := by rfl) :
    PS X (.Assign [.Tuple [.Name x px, .Name y py] kt pt] (.Tuple [a, b] k2 pt2) pos) (tIS X.K (iPar i j ir)) := PS.imp (ps_par hc hN hi hj hij hx hy ha hw hs) fun D σ H ⟨env, s, ρ, f, E, S, h, q⟩ => by
  obtain ⟨xs, s1, h1, h⟩ := ob_some h
  refine ⟨env, s, ρ, xs, s1, E, S, h1, fun v H1 ρ1 G1 S1 R1 => ?_⟩
  split at h
  · cases h
    unfold Reps at R1
    obtain ⟨v1, r, rfl, R1, R2⟩ := R1
    unfold Reps at R2
    obtain ⟨v2, r, rfl, R2, R3⟩ := R2
    unfold Reps at R3
    subst R3
    exact ⟨v1, v2, rfl, q _ H1 ρ1 G1 S1 (((E.grow S G1).set R1 i).set R2 j)⟩
  · cases h
/-- o[i] = v -/
abbrev FSet := PV → PV → PV → Sto → Option Sto
def SetI (K : PySem.W.Frag) (t : TSet) (f : FSet) : Prop := ∀ H ρ st o i x vo vi vx st' (Q : Hp → Prop), RepS K H ρ st → Rep K H ρ o vo → Rep K H ρ i vi → Rep K H ρ x vx → f o i x st = some st' → (∀ H' ρ', Grow H ρ H' ρ' → RepS K H' ρ' st' → Q H') → t vo vi vx H Q
def iSetIx (f : FSet) (io ii ie : IE) : IS := fun env st => ob (ie env st) fun x s1 => ob (io env s1) fun o s2 => ob (ii env s2) fun i s3 => (f o i x s3).map fun s4 => .nx env s4
theorem s_setIx {o i : Expr} {t : TSet} {f : FSet} {io ii : IE} {ps : Pos} (hs : PSet X t) (hf : SetI X.K t f) (ho : PE X o (tI X.K io)) (hi : PE X i (tI X.K ii)) (he : PE X e (tI X.K ie))
    (ha : ∀ v, assign (.Subscript o i ps) X.env v = (do
      let ov ← holding [v] (eval o X.env)
      let iv ← holding [v, ov] (eval i X.env)
      standAt ps
      holding [v, ov, iv] (setItem ov iv v)
      release [v, ov, iv] []) := by intro _; rfl)
    (hs1 : swapsWithSole [.Subscript o i ps] e pos.line X.env = pure false := by rfl) (hw : swappedStores [.Subscript o i ps] e X.env = pure none := by rfl) (h1 : (assignEach [.Subscript o i ps] X.env).map (·.2) = [assign (.Subscript o i ps) X.env] := by rfl) :
    PS X (.Assign [.Subscript o i ps] e pos) (tIS X.K (iSetIx f io ii ie)) := PS.imp (ps_asg he (pg_sub ho hi hs ha) hs1 hw h1) fun D σ H ⟨env, s, ρ, fl, E, S, h, q⟩ => by
  obtain ⟨x, s1, h1, h⟩ := ob_some h
  obtain ⟨o, s2, h2, h⟩ := ob_some h
  obtain ⟨i, s3, h3, h⟩ := ob_some h
  cases e4 : f o i x s3 with
  | none => rw [e4] at h; cases h
  | some s4 =>
    rw [e4] at h
    cases h
    refine ⟨env, s, ρ, x, s1, E, S, h1, fun vx H1 ρ1 G1 S1 R1 => ⟨env, s1, ρ1, o, s2, E.grow S G1, S1, h2, fun vo H2 ρ2 G2 S2 R2 => ⟨env, s2, ρ2, i, s3, (E.grow S G1).grow S1 G2, S2, h3, fun vi H3 ρ3 G3 S3 R3 => ?_⟩⟩⟩
    refine hf H3 ρ3 s3 o i x vo vi vx s4 _ S3 (Rep.grow S2 G3 _ _ R2) R3 (Rep.grow S2 G3 _ _ (Rep.grow S1 G2 _ _ R1)) e4 fun H4 ρ4 G4 S4 => ?_
    exact q σ H4 ρ4 (((G1.trans G2).trans G3).trans G4) S4 ((((E.grow S G1).grow S1 G2).grow S2 G3).grow S3 G4)

/-! ### what is walked -/
structure Src where
  n : Nat
  at_ : Sto → Nat → Option (Option PV)
def SrcOk (K : PySem.W.Frag) (src : Src) (J : It) (H0 : Hp) (ρ0 : List Addr) : Prop := ∀ H ρ st, Grow H0 ρ0 H ρ → RepS K H ρ st → ∀ i, (src.at_ st i = some none → J.stop i H) ∧
  ∀ x, src.at_ st i = some (some x) → J.go i H ∧ ∀ v H', J.yld i H v H' → ∃ ρ', Grow H ρ H' ρ' ∧ RepS K H' ρ' st ∧ Rep K H' ρ' x v
abbrev II := PEnv → Sto → Option (Src × Sto)
def tII (K : PySem.W.Frag) (ii : II) : TI := fun σ H R => ∃ env st ρ src st', RepE K H ρ env σ ∧ RepS K H ρ st ∧ ii env st = some (src, st') ∧ ∀ J H' ρ', Grow H ρ H' ρ' → RepS K H' ρ' st' → SrcOk K src J H' ρ' → R J H'
theorem PI.imp {tg iter : Expr} {t t' : TI} (h : PI X tg iter t) (m : ∀ σ H R, t' σ H R → t σ H R) : PI X tg iter t' := ⟨fun pins s σ H R I q => h.run pins s σ H R I (m σ H R q)⟩
theorem PI.or {tg iter : Expr} {t t' : TI} (h : PI X tg iter t) (h' : PI X tg iter t') : PI X tg iter (fun σ H R => t σ H R ∨ t' σ H R) := ⟨fun pins s σ H R I q => q.elim (h.run pins s σ H R I) (h'.run pins s σ H R I)⟩
def srcL (n k : Nat) : Src := ⟨k, fun st i => match st[n]? with
  | some (.lst xs) => some xs[i]?
  | _ => none⟩
def srcT (xs : List PV) : Src := ⟨xs.length, fun _ i => some xs[i]?⟩
def srcR (lo : Int) (n : Nat) : Src := ⟨n, fun _ i => some (if i < n then some (.int (lo + i)) else none)⟩
theorem srcL_ok {K : PySem.W.Frag} {H0 : Hp} {ρ0 : List Addr} {n k : Nat} {a : Addr} (h : ρ0[n]? = some a) : SrcOk K (srcL n k) (Itl K a) H0 ρ0 := fun H ρ st G S i => by
  have ha := G.ix h
  refine ⟨fun hs => ?_, fun x hs => ?_⟩
  · simp only [srcL] at hs
    split at hs
    · rename_i xs e
      obtain ⟨b, hb, vs, h1, h2⟩ := S.at_ _ _ e
      rw [ha] at hb; cases hb
      exact ⟨vs, .of h1, by rw [← h2.length]; simpa using hs⟩
    · cases hs
  · simp only [srcL] at hs
    split at hs
    · rename_i xs e
      obtain ⟨b, hb, vs, h1, h2⟩ := S.at_ _ _ e
      rw [ha] at hb; cases hb
      obtain ⟨v, hv, r⟩ := h2.get (by simpa using hs)
      refine ⟨⟨vs, v, .of h1, hv⟩, fun w H' y => ?_⟩
      obtain ⟨rfl, y⟩ := y
      have := y vs (.of h1)
      rw [hv] at this; cases this
      exact ⟨ρ, Grow.refl, S, r⟩
    · cases hs
theorem srcT_ok {K : PySem.W.Frag} {H0 : Hp} {ρ0 : List Addr} {st0 : Sto} {xs : List PV} {vs : List V} {a : Addr} (S0 : RepS K H0 ρ0 st0) (h : SqT K H0 a vs) (r : Reps K H0 ρ0 xs vs) : SrcOk K (srcT xs) (Itt K a) H0 ρ0 := fun H ρ st G S i => by
  have h1 := SqT.grow S0 G h
  have r1 := Reps.grow S0 G _ _ r
  refine ⟨fun hs => ?_, fun x hs => ?_⟩
  · simp only [srcT] at hs
    exact ⟨vs, h1, by rw [← r1.length]; simpa using hs⟩
  · simp only [srcT] at hs
    obtain ⟨v, hv, r⟩ := r1.get (by simpa using hs)
    refine ⟨⟨vs, v, h1, hv⟩, fun w H' y => ?_⟩
    obtain ⟨rfl, y⟩ := y
    have := y vs h1
    rw [hv] at this; cases this
    exact ⟨ρ, Grow.refl, S, r⟩
theorem srcF_ok {K : PySem.W.Frag} {H0 : Hp} {ρ0 : List Addr} {st0 : Sto} {xs : List PV} {vs : List V} {a : Addr} (S0 : RepS K H0 ρ0 st0) (h : FrzAt K H0 ρ0 a vs) (r : Reps K H0 ρ0 xs vs) : SrcOk K (srcT xs) (Itl K a) H0 ρ0 := fun H ρ st G S i => by
  have h1 := (h.grow G).sq
  have r1 := Reps.grow S0 G _ _ r
  refine ⟨fun hs => ?_, fun x hs => ?_⟩
  · simp only [srcT] at hs
    exact ⟨vs, h1, by rw [← r1.length]; simpa using hs⟩
  · simp only [srcT] at hs
    obtain ⟨v, hv, r⟩ := r1.get (by simpa using hs)
    refine ⟨⟨vs, v, h1, hv⟩, fun w H' y => ?_⟩
    obtain ⟨rfl, y⟩ := y
    have := y vs h1
    rw [hv] at this; cases this
    exact ⟨ρ, Grow.refl, S, r⟩
theorem srcR_ok {K : PySem.W.Frag} {H0 : Hp} {ρ0 : List Addr} {lo : Int} {n : Nat} : SrcOk K (srcR lo n) (Itr lo n) H0 ρ0 := fun H ρ st G S i => by
  refine ⟨fun hs => ?_, fun x hs => ?_⟩
  · simp only [srcR] at hs
    split at hs
    · cases hs
    · exact Nat.le_of_not_lt (by assumption)
  · simp only [srcR] at hs
    split at hs
    · rename_i hl
      cases hs
      refine ⟨hl, fun w H' y => ?_⟩
      obtain ⟨rfl, rfl⟩ := y
      exact ⟨ρ, Grow.refl, S, by unfold Rep; rfl⟩
    · cases hs
def srcS (x : Str) : Src := ⟨x.length, fun _ i => some ((x.cps[i]?).map fun c => .str ⟨#[c]⟩)⟩
theorem srcS_ok {K : PySem.W.Frag} {H0 : Hp} {ρ0 : List Addr} {x : Str} : SrcOk K (srcS x) (Its x) H0 ρ0 := fun H ρ st G S i => by
  refine ⟨fun hs => ?_, fun y hs => ?_⟩
  · simp only [srcS, Option.some.injEq, Option.map_eq_none_iff] at hs
    exact Array.getElem?_eq_none_iff.mp hs
  · simp only [srcS, Option.some.injEq] at hs
    cases e : x.cps[i]? with
    | none => rw [e] at hs; cases hs
    | some c =>
      rw [e] at hs
      cases hs
      refine ⟨(Array.getElem?_eq_some_iff.mp e).1, fun w H' y => ?_⟩
      obtain ⟨rfl, c', e', rfl⟩ := y
      rw [e] at e'; cases e'
      exact ⟨ρ, Grow.refl, S, by unfold Rep; rfl⟩
/-- a list, a tuple or a text is walked -/
def iWalk (ie : IE) : II := fun env st => ob (ie env st) fun x s => match x with
  | .str y => some (srcS y, s)
  | .tup xs => some (srcT xs, s)
  | .frz xs => some (srcT xs, s)
  | .ref n => match s[n]? with
    | some (.lst xs) => some (srcL n xs.length, s)
    | _ => none
  | _ => none
theorem i_walk {tg : Expr} (he : PE X e (tI X.K ie)) : PI X tg e (tII X.K (iWalk ie)) := PI.imp (PI.or (pi_list he) (PI.or (pi_tup he) (pi_str he))) fun σ H R ⟨env, s, ρ, src, st', E, S, h, q⟩ => by
  obtain ⟨x, s1, h1, h⟩ := ob_some h
  cases x with
  | str y =>
    cases h
    refine .inr (.inr ⟨env, s, ρ, _, _, E, S, h1, fun v H1 ρ1 G1 S1 R1 => ?_⟩)
    unfold Rep at R1
    exact ⟨y, R1, q _ H1 ρ1 G1 S1 srcS_ok⟩
  | tup xs =>
    cases h
    refine .inr (.inl ⟨env, s, ρ, _, _, E, S, h1, fun v H1 ρ1 G1 S1 R1 => ?_⟩)
    unfold Rep at R1
    obtain ⟨a, vs, rfl, t1, t2⟩ := R1
    exact ⟨a, rfl, ⟨vs, t1⟩, q _ H1 ρ1 G1 S1 (srcT_ok S1 t1 t2)⟩
  | frz xs =>
    cases h
    refine .inl ⟨env, s, ρ, _, _, E, S, h1, fun v H1 ρ1 G1 S1 R1 => ?_⟩
    unfold Rep at R1
    obtain ⟨a, vs, rfl, t1, t2⟩ := R1
    exact ⟨a, rfl, ⟨vs, t1.sq⟩, q _ H1 ρ1 G1 S1 (srcF_ok S1 t1 t2)⟩
  | ref n =>
    simp only at h
    split at h
    · rename_i xs e1
      cases h
      refine .inl ⟨env, s, ρ, _, _, E, S, h1, fun v H1 ρ1 G1 S1 R1 => ?_⟩
      unfold Rep at R1
      obtain ⟨a, rfl, t1⟩ := R1
      obtain ⟨b, hb, vs, h2, h3⟩ := S1.at_ _ _ e1
      rw [t1] at hb; cases hb
      exact ⟨a, rfl, ⟨vs, .of h2⟩, q _ H1 ρ1 G1 S1 (srcL_ok t1)⟩
    · cases h
  | _ => cases h
/-- range -/
def big (j : Int) : Bool := decide (-(2 ^ 62) ≤ j) && decide (j < 2 ^ 62)
theorem big_of {j : Int} (h : big j = true) : -(2 ^ 62) ≤ j ∧ j < 2 ^ 62 := by
  unfold big at h
  simp only [Bool.and_eq_true, decide_eq_true_eq] at h
  exact h
def iRange1 (ir : IA) : II := fun env st => ob (ir env st) fun xs s => match xs with
  | [.int j] => if big j then some (srcR 0 j.toNat, s) else none
  | _ => none
def iRange2 (ir : IA) : II := fun env st => ob (ir env st) fun xs s => match xs with
  | [.int i, .int j] => if big i && big j then some (srcR i (j - i).toNat, s) else none
  | _ => none
theorem i_range1 {tg a : Expr} {ir : IA} {p : Pos} (hg : Gl X "range") (hm : X.mg "range" = none) (ha : PA X [a] (tIA X.K ir)) (hs : starEach [a] X.env = [(false, eval a X.env)] := by rfl) : PI X tg (.Call (.Name "range" p) [a] [] pos) (tII X.K (iRange1 ir)) :=
  PI.imp (pi_range1 hg hm ha hs) fun σ H R ⟨env, s, ρ, src, st', E, S, h, q⟩ => by
    obtain ⟨xs, s1, h1, h⟩ := ob_some h
    split at h
    · rename_i j
      split at h
      · rename_i hb
        cases h
        refine ⟨env, s, ρ, _, _, E, S, h1, fun v H1 ρ1 G1 S1 R1 => ?_⟩
        unfold Reps at R1
        obtain ⟨w, r, rfl, R1, R2⟩ := R1
        unfold Reps at R2
        subst R2
        unfold Rep at R1
        subst R1
        obtain ⟨b1, b2⟩ := big_of hb
        exact ⟨j, rfl, b1, b2, q _ H1 ρ1 G1 S1 srcR_ok⟩
      · cases h
    · cases h
theorem i_range2 {tg a b : Expr} {ir : IA} {p : Pos} (hg : Gl X "range") (hm : X.mg "range" = none) (ha : PA X [a, b] (tIA X.K ir)) (hs : starEach [a, b] X.env = [(false, eval a X.env), (false, eval b X.env)] := by rfl) (hs2 : starEach [b] X.env = [(false, eval b X.env)] := by rfl) :
    PI X tg (.Call (.Name "range" p) [a, b] [] pos) (tII X.K (iRange2 ir)) :=
  PI.imp (pi_range2 hg hm ha hs hs2) fun σ H R ⟨env, s, ρ, src, st', E, S, h, q⟩ => by
    obtain ⟨xs, s1, h1, h⟩ := ob_some h
    split at h
    · rename_i i j
      split at h
      · rename_i hb
        cases h
        refine ⟨env, s, ρ, _, _, E, S, h1, fun v H1 ρ1 G1 S1 R1 => ?_⟩
        unfold Reps at R1
        obtain ⟨w, r, rfl, R1, R2⟩ := R1
        unfold Reps at R2
        obtain ⟨w2, r2, rfl, R2, R3⟩ := R2
        unfold Reps at R3
        subst R3
        unfold Rep at R1 R2
        subst R1 R2
        rw [Bool.and_eq_true] at hb
        obtain ⟨b1, b2⟩ := big_of hb.1
        obtain ⟨b3, b4⟩ := big_of hb.2
        exact ⟨i, j, rfl, ⟨b1, b2, b3, b4⟩, q _ H1 ρ1 G1 S1 srcR_ok⟩
      · cases h
    · cases h

/-! ### for -/
def loop (at_ : Sto → Nat → Option (Option PV)) (ig : IG) (body : IS) : Nat → Nat → PEnv → Sto → Option Fl
  | 0, _, _, _ => none
  | m + 1, i, env, st => match at_ st i with
    | none => none
    | some none => some (.nx env st)
    | some (some x) => match ig x env st with
      | none => none
      | some env1 => match body env1 st with
        | some (.nx e s) => loop at_ ig body m (i + 1) e s
        | some (.ct e s) => loop at_ ig body m (i + 1) e s
        | some (.bk e s) => some (.nx e s)
        | some (.rt v s) => some (.rt v s)
        | none => none
def iFor (ii : II) (ig : IG) (body : IS) : IS := fun env st => ob (ii env st) fun src s => loop src.at_ ig body (src.n + 1) 0 env s
theorem s_for {iter tg : Expr} {body : List Stmt} {ii : II} {T : List Nat} {ig : IG} (hp : PassesOwn (model X.prog X.w) X.A X.env X.xe) (hc : X.calm = true) (hi : PI X tg iter (tII X.K ii)) (hg : PG X tg (tIG X.K T ig)) (hb : PSs X body (tIS X.K ia))
    (hs : ∀ x, foldedSetIterable iter X.env x = pure x := by intro _; rfl) : PS X (.For tg iter body [] pos) (tIS X.K (iFor ii ig ia)) :=
  PS.imp (ps_for hp hc hi hg hb hs) fun D σ H ⟨env, s, ρ, f, E, S, h, q⟩ => by
    obtain ⟨src, s1, h1, h⟩ := ob_some h
    refine ⟨env, s, ρ, src, s1, E, S, h1, fun J H1 ρ1 G1 S1 O => ?_⟩
    refine ⟨fun i m σ' H' => ∃ env' st' ρ' f', Grow H1 ρ1 H' ρ' ∧ RepE X.K H' ρ' env' σ' ∧ RepS X.K H' ρ' st' ∧ loop src.at_ ig ia m i env' st' = some f' ∧ PostF X.K D H' ρ' f', ⟨src.n + 1, env, s1, ρ1, f, Grow.refl, E.grow S G1, S1, h, q.grow G1⟩, ?_⟩
    rintro i m σ' H' ⟨env', st', ρ', f', G', E', S', hl, q'⟩
    cases m with
    | zero => cases hl
    | succ m =>
      unfold loop at hl
      obtain ⟨o1, o2⟩ := O H' ρ' st' G' S' i
      split at hl
      · cases hl
      · rename_i e1
        cases hl
        exact .inl ⟨o1 e1, q' σ' H' ρ' Grow.refl S' E'⟩
      · rename_i x e1
        obtain ⟨go, yl⟩ := o2 x e1
        split at hl
        · cases hl
        · rename_i env1 e2
          refine .inr ⟨go, fun σ2 H2 => ∃ m', m' < m + 1 ∧ ∃ env' st' ρ' f', Grow H1 ρ1 H2 ρ' ∧ RepE X.K H2 ρ' env' σ2 ∧ RepS X.K H2 ρ' st' ∧ loop src.at_ ig ia m' (i + 1) env' st' = some f' ∧ PostF X.K D H2 ρ' f', fun σ2 H2 n => n, fun v H2 y => ?_⟩
          obtain ⟨ρ2, G2, S2, R2⟩ := yl v H2 y
          refine ⟨env', st', ρ2, x, env1, E'.grow S' G2, S2, R2, e2, fun σ3 E3 _ _ => ?_⟩
          cases e3 : ia env1 st' with
          | none => rw [e3] at hl; cases hl
          | some fl =>
            rw [e3] at hl
            refine ⟨env1, st', ρ2, fl, E3, S2, e3, ?_⟩
            cases fl with
            | nx e s => exact fun σ4 H4 ρ4 G4 S4 E4 => ⟨m, Nat.lt_succ_self m, e, s, ρ4, f', (G'.trans G2).trans G4, E4, S4, hl, q'.grow (G2.trans G4)⟩
            | ct e s => exact fun σ4 H4 ρ4 G4 S4 E4 => ⟨m, Nat.lt_succ_self m, e, s, ρ4, f', (G'.trans G2).trans G4, E4, S4, hl, q'.grow (G2.trans G4)⟩
            | bk e s => cases hl; exact fun σ4 H4 ρ4 G4 S4 E4 => q' σ4 H4 ρ4 (G2.trans G4) S4 E4
            | rt v s => cases hl; exact fun v H4 ρ4 G4 S4 R4 => q' v H4 ρ4 (G2.trans G4) S4 R4

/-! ### while -/
@[irreducible] def bigN : Nat := 1000000
def wloop (t : IT) (body : IS) : Nat → PEnv → Sto → Option Fl
  | 0, _, _ => none
  | m + 1, env, st => match t env st with
    | none => none
    | some (false, s) => some (.nx env s)
    | some (true, s) => match body env s with
      | some (.nx e s) => wloop t body m e s
      | some (.ct e s) => wloop t body m e s
      | some (.bk e s) => some (.nx e s)
      | some (.rt v s) => some (.rt v s)
      | none => none
def iWhile (t : IT) (body : IS) : IS := wloop t body bigN
theorem s_while {c : Expr} {body : List Stmt} (hp : PassesOwn (model X.prog X.w) X.A X.env X.xe) (hc : PT X c (tIT X.K it)) (hb : PSs X body (tIS X.K ia)) : PS X (.While c body [] pos) (tIS X.K (iWhile it ia)) :=
  PS.imp (ps_while hp hc hb) fun D σ H ⟨env, s, ρ, f, E, S, h, q⟩ => by
    refine ⟨fun m σ' H' => ∃ env' st' ρ' f', RepE X.K H' ρ' env' σ' ∧ RepS X.K H' ρ' st' ∧ wloop it ia m env' st' = some f' ∧ PostF X.K D H' ρ' f', ⟨bigN, env, s, ρ, f, E, S, h, q⟩, ?_⟩
    rintro m σ' H' ⟨env', st', ρ', f', E', S', hl, q'⟩
    cases m with
    | zero => cases hl
    | succ m =>
      unfold wloop at hl
      cases e1 : it env' st' with
      | none => rw [e1] at hl; cases hl
      | some r =>
        obtain ⟨b, s1⟩ := r
        rw [e1] at hl
        refine ⟨env', st', ρ', b, s1, E', S', e1, fun H1 ρ1 G1 S1 => ?_⟩
        cases b with
        | false =>
          cases hl
          rw [if_neg Bool.false_ne_true]
          exact q' σ' H1 ρ1 G1 S1 (E'.grow S' G1)
        | true =>
          rw [if_pos rfl]
          refine ⟨fun σ2 H2 => ∃ m', m' < m + 1 ∧ ∃ env' st' ρ' f', RepE X.K H2 ρ' env' σ2 ∧ RepS X.K H2 ρ' st' ∧ wloop it ia m' env' st' = some f' ∧ PostF X.K D H2 ρ' f', fun σ2 H2 n => n, ?_⟩
          cases e3 : ia env' s1 with
          | none => simp only [e3] at hl; cases hl
          | some fl =>
            simp only [e3] at hl
            refine ⟨env', s1, ρ1, fl, E'.grow S' G1, S1, e3, ?_⟩
            cases fl with
            | nx e s => exact fun σ4 H4 ρ4 G4 S4 E4 => ⟨m, Nat.lt_succ_self m, e, s, ρ4, f', E4, S4, hl, q'.grow (G1.trans G4)⟩
            | ct e s => exact fun σ4 H4 ρ4 G4 S4 E4 => ⟨m, Nat.lt_succ_self m, e, s, ρ4, f', E4, S4, hl, q'.grow (G1.trans G4)⟩
            | bk e s => cases hl; exact fun σ4 H4 ρ4 G4 S4 E4 => q' σ4 H4 ρ4 (G1.trans G4) S4 E4
            | rt v s => cases hl; exact fun v H4 ρ4 G4 S4 R4 => q' v H4 ρ4 (G1.trans G4) S4 R4

/-! ### comprehensions -/
def wipeE (env : PEnv) : List Nat → PEnv
  | [] => env
  | v :: vs => (wipeE env vs).set v none
theorem RepE.setNone {K : PySem.W.Frag} {H : Hp} {ρ : List Addr} {env : PEnv} {σ : L2.St} (E : RepE K H ρ env σ) (i : Nat) : RepE K H ρ (env.set i none) (σ.set i none) := by
  refine ⟨by simpa using E.len, fun j y hj => ?_⟩
  by_cases e : i = j
  · subst e
    by_cases hl : i < env.length
    · rw [List.getElem?_set_self hl] at hj
      cases hj
    · rw [List.getElem?_eq_none (by simpa using hl)] at hj
      cases hj
  · rw [List.getElem?_set_ne e] at hj
    obtain ⟨w, a, b⟩ := E.at_ j y hj
    exact ⟨w, by rw [List.getElem?_set_ne e]; exact a, b⟩
theorem RepE.wipe {K : PySem.W.Frag} {H : Hp} {ρ : List Addr} {env : PEnv} {σ : L2.St} (E : RepE K H ρ env σ) : ∀ vs : List Nat, RepE K H ρ (wipeE env vs) (L2.wipe σ vs)
  | [] => E
  | v :: vs => (RepE.wipe E vs).setNone v
theorem wipe_at {σ : L2.St} {i : Nat} : ∀ {vs : List Nat}, i ∈ vs → i < σ.length → (L2.wipe σ vs)[i]? = some none
  | [], h, _ => by simp at h
  | v :: vs, h, hl => by
    unfold L2.wipe
    by_cases e : v = i
    · subst e
      exact List.getElem?_set_self (by rw [L2.wipe_length]; exact hl)
    · rw [List.getElem?_set_ne e]
      exact wipe_at (by rcases List.mem_cons.mp h with h | h; exact absurd h.symm e; exact h) hl
theorem wipe_same {σ σ' : L2.St} {vs : List Nat} (hl : σ'.length = σ.length) (h : ∀ i, i ∉ vs → σ'[i]? = (L2.wipe σ vs)[i]?) : L2.wipe σ' vs = L2.wipe σ vs := by
  refine List.ext_getElem? fun i => ?_
  by_cases hi : i ∈ vs
  · by_cases hb : i < σ.length
    · rw [wipe_at hi hb, wipe_at hi (by rw [hl]; exact hb)]
    · rw [List.getElem?_eq_none (by rw [L2.wipe_length]; omega), List.getElem?_eq_none (by rw [L2.wipe_length]; omega)]
  · rw [L2.wipe_out hi, h i hi]
def lcLoop (at_ : Sto → Nat → Option (Option PV)) (ig : IG) (t : IT) (e : IE) (d : Nat) (env : PEnv) : Nat → Nat → Sto → Option Sto
  | 0, _, _ => none
  | m + 1, i, st => match at_ st i with
    | none => none
    | some none => some st
    | some (some x) => match ig x env st with
      | none => none
      | some env1 => match t env1 st with
        | none => none
        | some (false, s1) => lcLoop at_ ig t e d env m (i + 1) s1
        | some (true, s1) => match e env1 s1 with
          | none => none
          | some (y, s2) => match s2[d]? with
            | some (.lst acc) => if acc.length < 100000 then lcLoop at_ ig t e d env m (i + 1) (s2.set d (.lst (acc ++ [y]))) else none
            | _ => none
def iLc (ii : II) (ig : IG) (t : IT) (e : IE) (vs : List Nat) : IE := fun env st => ob (ii env st) fun src s =>
  (lcLoop src.at_ ig t e s.length (wipeE env vs) (src.n + 1) 0 (s ++ [.lst []])).map fun s' => (.ref s.length, s')
theorem line6 {n : Nat} (h : n < 100000) : n < sizeLine := Nat.lt_of_lt_of_le h (by decide)
theorem lc_to {K : PySem.W.Frag} {ii : II} {ig : IG} {T vs : List Nat} {σ : L2.St} {H : Hp} {Q : VK} (hT : ∀ i ∈ T, i ∈ vs) (h : tI K (iLc ii ig it ie vs) σ H Q) : tLc (tII K ii) (tIG K T ig) (tIT K it) (tI K ie) vs σ H Q := by
  obtain ⟨env, s, ρ, z, st', E, S, h, q⟩ := h
  obtain ⟨src, s1, h1, h⟩ := ob_some h
  obtain ⟨hl, hz⟩ : lcLoop src.at_ ig it ie s1.length (wipeE env vs) (src.n + 1) 0 (s1 ++ [.lst []]) = some st' ∧ z = .ref s1.length := by
    cases e : lcLoop src.at_ ig it ie s1.length (wipeE env vs) (src.n + 1) 0 (s1 ++ [.lst []]) with
    | none => rw [e] at h; cases h
    | some s' => rw [e] at h; cases h; exact ⟨rfl, rfl⟩
  subst hz
  refine ⟨env, s, ρ, src, s1, E, S, h1, fun J H1 ρ1 G1 S1 O Dl hD => ?_⟩
  have g0 : Grow H1 ρ1 (upd H1 Dl (.lst [])) (ρ1 ++ [Dl]) := grow_alloc hD
  have E1 : RepE K H1 ρ1 env σ := E.grow S G1
  refine ⟨fun i m H' => ∃ st2 ρ', Grow (upd H1 Dl (.lst [])) (ρ1 ++ [Dl]) H' ρ' ∧ RepS K H' ρ' st2 ∧ lcLoop src.at_ ig it ie s1.length (wipeE env vs) m i st2 = some st',
    ⟨src.n + 1, _, _, Grow.refl, S1.alloc (so := .lst []) hD ⟨[], upd_same, by unfold Reps; rfl⟩, hl⟩, ?_⟩
  rintro i m H' ⟨st2, ρ', G', S', hl⟩
  have ix : ρ'[s1.length]? = some Dl := G'.ix (by rw [← S1.len, List.getElem?_append_right (Nat.le_refl _)]; simp)
  cases m with
  | zero => cases hl
  | succ m =>
    unfold lcLoop at hl
    obtain ⟨o1, o2⟩ := O H' ρ' st2 (g0.trans G') S' i
    split at hl
    · cases hl
    · rename_i e1
      cases hl
      refine .inl ⟨o1 e1, q _ H' ρ' (G1.trans (g0.trans G')) S' ?_⟩
      unfold Rep
      exact ⟨Dl, rfl, ix⟩
    · rename_i x e1
      obtain ⟨go, yl⟩ := o2 x e1
      split at hl
      · cases hl
      · rename_i env1 e2
        refine .inr ⟨go, fun H2 => ∃ m', m' < m + 1 ∧ ∃ st2 ρ', Grow (upd H1 Dl (.lst [])) (ρ1 ++ [Dl]) H2 ρ' ∧ RepS K H2 ρ' st2 ∧ lcLoop src.at_ ig it ie s1.length (wipeE env vs) m' (i + 1) st2 = some st', fun H2 n => n, fun v H2 y => ?_⟩
        obtain ⟨ρ2, G2, S2, R2⟩ := yl v H2 y
        have Ew : RepE K H2 ρ2 (wipeE env vs) (L2.wipe σ vs) := (E1.wipe vs).grow S1 ((g0.trans G').trans G2)
        refine ⟨wipeE env vs, st2, ρ2, x, env1, Ew, S2, R2, e2, fun σ3 E3 l3 a3 => ⟨?_, ?_⟩⟩
        · rw [L2.wipe_length] at l3
          exact wipe_same l3 fun j hj => a3 j fun z => hj (hT j z)
        · cases e3 : it env1 st2 with
          | none => rw [e3] at hl; cases hl
          | some r =>
            obtain ⟨b, s3⟩ := r
            rw [e3] at hl
            refine ⟨env1, st2, ρ2, b, s3, E3, S2, e3, fun H3 ρ3 G3 S3 => ?_⟩
            cases b with
            | false =>
              rw [if_neg Bool.false_ne_true]
              exact ⟨m, Nat.lt_succ_self m, s3, ρ3, (G'.trans G2).trans G3, S3, hl⟩
            | true =>
              rw [if_pos rfl]
              simp only at hl
              cases e4 : ie env1 s3 with
              | none => rw [e4] at hl; cases hl
              | some r =>
                obtain ⟨y, s4⟩ := r
                rw [e4] at hl
                refine ⟨env1, s3, ρ3, y, s4, E3.grow S2 G3, S3, e4, fun w H4 ρ4 G4 S4 R4 => ?_⟩
                simp only at hl
                split at hl
                · rename_i acc e5
                  split at hl
                  · rename_i hlen
                    have ix4 : ρ4[s1.length]? = some Dl := (G2.trans (G3.trans G4)).ix ix
                    obtain ⟨b, hb, ws, h2, h3⟩ := S4.at_ _ _ e5
                    rw [ix4] at hb; cases hb
                    have gw : Grow H4 ρ4 (upd H4 Dl (.lst (ws ++ [w]))) ρ4 := grow_write h2 (List.mem_of_getElem? ix4)
                    refine ⟨ws, h2, line6 (by rw [← h3.length]; exact hlen), m, Nat.lt_succ_self m, _, ρ4, ((G'.trans G2).trans G3).trans (G4.trans gw), S4.write (so := .lst (acc ++ [y])) ix4 h2 ⟨_, upd_same, ?_⟩, hl⟩
                    exact Reps.grow S4 gw _ _ (Reps.append h3 (by unfold Reps; exact ⟨w, [], rfl, R4, by unfold Reps; rfl⟩))
                  · cases hl
                · cases hl
theorem r_lc {elt tg iter : Expr} {ifs : List Expr} {scope : Scope} {own : List (Str × Nat)} {ii : II} {T : List Nat} {ig : IG} (hc : X.calm = true) (hN : X.N.Nodup) (hi : PI X tg iter (tII X.K ii)) (ok : BlkOk X.N X.env.scope scope own)
    (hT : ∀ i ∈ T, i ∈ own.map (·.2))
    (hg : ∀ (s : Shared) (H : Hp) (C : Addr) (cl : List (Str × Addr)) (fp : List Addr), PG (X.blk s H scope (compEnvC scope cl C X.env) fp) tg (tIG X.K T ig)) (ht : ∀ (s : Shared) (H : Hp) (C : Addr) (cl : List (Str × Addr)) (fp : List Addr), PTs (X.blk s H scope (compEnvC scope cl C X.env) fp) ifs (tIT X.K it))
    (he : ∀ (s : Shared) (H : Hp) (C : Addr) (cl : List (Str × Addr)) (fp : List Addr), PE (X.blk s H scope (compEnvC scope cl C X.env) fp) elt (tI X.K ie)) (hs : ∀ x, foldedSetIterable iter X.env x = pure x := by intro _; rfl) :
    PE X (.ListComp elt [⟨tg, iter, ifs, 0⟩] scope pos) (tI X.K (iLc ii ig it ie (own.map (·.2)))) :=
  PE.imp (pe_lc hc hN hi ok hg ht he hs) fun _ _ _ h => lc_to hT h
theorem s_setLc {i : Nat} {y : Str} {py : Pos} {elt tg iter : Expr} {ifs : List Expr} {scope : Scope} {own : List (Str × Nat)} {spos : Pos} {ii : II} {T : List Nat} {ig : IG} (hy : X.N[i]? = some y) (hyl : X.env.scope.names.lookup y = some .local)
    (hsw : swapsWith (.ListComp elt [⟨tg, iter, ifs, 0⟩] scope pos) (some (.Name y py)) spos.line X.env = pure true) (hc : X.calm = true) (hN : X.N.Nodup) (hi : PI X tg iter (tII X.K ii)) (ok : BlkOk X.N X.env.scope scope own)
    (hT : ∀ i ∈ T, i ∈ own.map (·.2))
    (hg : ∀ (s : Shared) (H : Hp) (C : Addr) (cl : List (Str × Addr)) (fp : List Addr), PG (X.blk s H scope (compEnvC scope cl C X.env) fp) tg (tIG X.K T ig)) (ht : ∀ (s : Shared) (H : Hp) (C : Addr) (cl : List (Str × Addr)) (fp : List Addr), PTs (X.blk s H scope (compEnvC scope cl C X.env) fp) ifs (tIT X.K it))
    (he : ∀ (s : Shared) (H : Hp) (C : Addr) (cl : List (Str × Addr)) (fp : List Addr), PE (X.blk s H scope (compEnvC scope cl C X.env) fp) elt (tI X.K ie)) (hs : ∀ x, foldedSetIterable iter X.env x = pure x := by intro _; rfl) :
    PS X (.Assign [.Name y py] (.ListComp elt [⟨tg, iter, ifs, 0⟩] scope pos) spos) (tIS X.K (iAsg (gN i) (iLc ii ig it ie (own.map (·.2))))) :=
  PS.imp (ps_setLc hc hN hy hyl hsw hi ok hg ht he hs) fun D σ H ⟨env, s, ρ, f, E, S, h, q⟩ => by
    obtain ⟨x, s1, h1, h⟩ := ob_some h
    cases h
    exact lc_to hT ⟨env, s, ρ, x, _, E, S, h1, fun v H1 ρ1 G1 S1 R1 => q _ H1 ρ1 G1 S1 ((E.grow S G1).set R1 i)⟩
/-- x += e of ints -/
def iAugI (g : Int → Int → Int) (i : Nat) (ie : IE) : IS := fun env st => match env[i]? with
  | some (some (.int a)) => ob (ie env st) fun y s => match y with
    | .int b => some (.nx (env.set i (some (.int (g a b)))) s)
    | _ => none
  | _ => none
def iAugAdd : Nat → IE → IS := iAugI (· + ·)
def iAugSub : Nat → IE → IS := iAugI (· - ·)
theorem s_aug {g : Int → Int → Int} {op : Operator} {i : Nat} {x : Str} {pos' : Pos} (hp : PIp X op (ipI g)) (hN : X.N.Nodup) (hi : X.N[i]? = some x) (hx : Loc X.env.scope x) (he : PE X e (tI X.K ie)) (hf : X.fn x = true ∨ X.env.scope.names.lookup x = some .local) :
    PS X (.AugAssign (.Name x pos') op e pos) (tIS X.K (iAugI g i ie)) :=
  PS.imp (ps_aug hN hi hx he hp hf) fun D σ H ⟨env, s, ρ, f, E, S, h, q⟩ => by
    unfold iAugI at h
    split at h
    · rename_i a ea
      obtain ⟨y, s1, h1, h⟩ := ob_some h
      split at h
      · cases h
        obtain ⟨v, hv, rv⟩ := E.at_ _ _ ea
        refine ⟨v, hv, env, s, ρ, _, _, E, S, h1, fun w H1 ρ1 G1 S1 R1 => ?_⟩
        unfold Rep at rv R1
        subst rv R1
        exact ⟨_, _, rfl, rfl, q _ H1 ρ1 G1 S1 ((E.grow S G1).set (by unfold Rep; rfl) i)⟩
      · cases h
    · cases h
theorem s_augAdd {i : Nat} {x : Str} {pos' : Pos} (hN : X.N.Nodup) (hi : X.N[i]? = some x) (hx : Loc X.env.scope x) (he : PE X e (tI X.K ie)) (hf : X.fn x = true ∨ X.env.scope.names.lookup x = some .local := by first | exact .inl rfl | exact .inr rfl | assumption) :
    PS X (.AugAssign (.Name x pos') .Add e pos) (tIS X.K (iAugAdd i ie)) := s_aug ip_add hN hi hx he hf
theorem s_augSub {i : Nat} {x : Str} {pos' : Pos} (hN : X.N.Nodup) (hi : X.N[i]? = some x) (hx : Loc X.env.scope x) (he : PE X e (tI X.K ie)) (hf : X.fn x = true ∨ X.env.scope.names.lookup x = some .local := by first | exact .inl rfl | exact .inr rfl | assumption) :
    PS X (.AugAssign (.Name x pos') .Sub e pos) (tIS X.K (iAugSub i ie)) := s_aug ip_sub hN hi hx he hf
def iYes : IT := fun _ st => some (true, st)
theorem t_yes : PTs X [] (tIT X.K iYes) := ⟨fun pins s σ H Q I h => pts_nil.run pins s σ H Q I (by
  obtain ⟨env, st, ρ, z, st', E, S, h, q⟩ := h
  cases h
  exact q H ρ Grow.refl S)⟩
theorem t_one {c : Expr} (h : PT X c (tIT X.K it)) : PTs X [c] (tIT X.K it) := pts_one h
end

/-! ### defs -/
def iDef (n nN : Nat) (b : IS) : FA := fun xs st => if xs.length = n then (match b (xs.map some ++ List.replicate (nN - n) none) st with
  | some (.nx _ s) => some (.non, s)
  | some (.rt v s) => some (v, s)
  | _ => none) else none
theorem ar_def {n nN : Nat} {b : IS} : Ar n (iDef n nN b) := fun xs st r h => by
  unfold iDef at h
  split at h
  · assumption
  · cases h
theorem repE_start {K : PySem.W.Frag} {H : Hp} {ρ : List Addr} {xs : List PV} {vs : List V} (R : Reps K H ρ xs vs) (N : List Str) : RepE K H ρ (xs.map some ++ List.replicate (N.length - vs.length) none) (L2.start N vs) := by
  unfold L2.start
  refine ⟨by simp [R.length], fun i x h => ?_⟩
  by_cases hi : i < xs.length
  · rw [List.getElem?_append_left (by simpa using hi), List.getElem?_map] at h
    cases e : xs[i]? with
    | none => rw [e] at h; cases h
    | some y =>
      rw [e] at h
      cases h
      obtain ⟨v, hv, r⟩ := R.get e
      refine ⟨v, ?_, r⟩
      rw [List.getElem?_append_left (by simp [← R.length]; exact hi), List.getElem?_map, hv]
      rfl
  · rw [List.getElem?_append_right (by simpa using hi), List.getElem?_replicate] at h
    split at h <;> cases h
theorem hb_of {P : Program} {w : World} {K : PySem.W.Frag} {mg : Str → Option Value} {base : Heap} {x : Str} {scope : Scope} {body : List Stmt} {f : Addr} {N ps : List Str} {k : Nat} {ib : IS}
    (hb : ∀ (cdv : Value) (A : Around) (outer : List PySem.Env) (s : Shared) (H : Hp) (E : XK), Room k (A.deeper (envOfC x scope s.heap.objs.size f cdv)) → PSs (cxOf CX0 P w K mg base N x scope f cdv A outer s H E).nox body (tIS K ib)) :
    ∀ (cdv : Value) (A : Around) (outer : List PySem.Env) (s : Shared) (H : Hp) (vs : List V) (Q : VK) (E : XK), Room k (A.deeper (envOfC x scope s.heap.objs.size f cdv)) → spI K ps.length (iDef ps.length N.length ib) vs H Q E →
      ∃ t, PSs (cxOf CX0 P w K mg base N x scope f cdv A outer s H E).nox body t ∧ t { nx := fun _ H' => Q .non H', rt := Q } (L2.start N vs) H :=
  fun cdv A outer s H vs Q E hr hsp => ⟨tIS K ib, hb cdv A outer s H E hr, by
    obtain ⟨hl, s1, ρ, xs, z, st', S1, R1, h, q⟩ := hsp
    unfold iDef at h
    split at h
    · have E1 := repE_start R1 N
      rw [hl] at E1
      split at h
      · rename_i e1 s2 e
        cases h
        refine ⟨_, s1, ρ, _, E1, S1, e, fun σ' H' ρ' G S' E' => q .non H' ρ' G S' (by unfold Rep; rfl)⟩
      · rename_i v s2 e
        cases h
        exact ⟨_, s1, ρ, _, E1, S1, e, fun v H' ρ' G S' R' => q v H' ρ' G S' R'⟩
      · cases h
    · cases h⟩
theorem cal_def {P : Program} {w : World} {K : PySem.W.Frag} {mg : Str → Option Value} {base : Heap} {x : Str} {st : Stmt} {f : Addr} {fd : FuncData} {N ps : List Str} {k : Nat} {ib : IS} (F : C8.Def K mg x st f fd) (b : Binds K fd ps []) (S : FnScope N ps (C8.fnScope st))
    (hb : ∀ (cdv : Value) (A : Around) (outer : List PySem.Env) (s : Shared) (H : Hp) (E : XK), Room k (A.deeper (envOfC x (C8.fnScope st) s.heap.objs.size f cdv)) →
      PSs (cxOf CX0 P w K mg base N x (C8.fnScope st) f cdv A outer s H E).nox (C8.fnBody st) (tIS K ib)) : CalI P w K mg base (k + 1) x ps.length (iDef ps.length N.length ib) :=
  C8.cal0 F b .nil S (fun vs H Q E h => h.1) (hb_of hb)
end IL

namespace IL
open PySem PySem.Spec PyProof.Rows L2

section
variable {X : Cx}
/-! ### arithmetic, joining -/
def fAdd : F2 := fun x y st => match x, y with
  | .int a, .int b => some (.int (a + b), st)
  | .str a, .str b => if a.length + b.length ≤ 100000 then some (.str (a ++ b), st) else none
  | .tup a, .tup b => if a.length + b.length ≤ 100000 then some (.tup (a ++ b), st) else none
  | .ref n, .ref m => match st[n]?, st[m]? with
    | some (.lst a), some (.lst b) => if a.length + b.length ≤ 100000 then some (alloc (.lst (a ++ b)) st) else none
    | _, _ => none
  | _, _ => none
def rAdd (K : PySem.W.Frag) : R2 := fun x y H Q => (rI0 (fun i j => .int (i + j)) x y H Q) ∨ (∃ i j, x = .str i ∧ y = .str j ∧ i.length + j.length ≤ sizeLine ∧ Q (.str (i ++ j)) H) ∨ rCatA K x y H Q ∨ rCat x y H Q
theorem op_addI : OpR X (binaryOp .Add) (rAdd X.K) := OpR.or op_add (OpR.or op_add_str (OpR.or op_catA op_cat))
theorem f_add {K : PySem.W.Frag} : OpI K (rAdd K) fAdd := by
  intro H ρ st x y vx vy z st' Q S Rx Ry h q
  unfold fAdd at h
  split at h
  · unfold Rep at Rx Ry
    subst Rx Ry
    cases h
    exact .inl ⟨_, _, rfl, rfl, q _ H ρ Grow.refl S (by unfold Rep; rfl)⟩
  · split at h
    · rename_i hl
      unfold Rep at Rx Ry
      subst Rx Ry
      cases h
      exact .inr (.inl ⟨_, _, rfl, rfl, line5 hl, q _ H ρ Grow.refl S (by unfold Rep; rfl)⟩)
    · cases h
  · rename_i a b
    split at h
    · rename_i hl
      unfold Rep at Rx Ry
      obtain ⟨p1, vs1, rfl, t1, r1⟩ := Rx
      obtain ⟨p2, vs2, rfl, t2, r2⟩ := Ry
      cases h
      refine .inr (.inr (.inl ⟨p1, p2, vs1, vs2, rfl, rfl, t1, t2, line5 (by rw [← r1.length, ← r2.length]; exact hl), fun e => ?_, fun _ e => ?_, fun _ _ p hp => ?_⟩))
      · subst e
        have : a = [] := by have := r1.length; cases a; rfl; simp at this
        subst this
        exact q _ H ρ Grow.refl S (by unfold Rep; exact ⟨p2, vs2, rfl, t2, r2⟩)
      · subst e
        have : b = [] := by have := r2.length; cases b; rfl; simp at this
        subst this
        exact q _ H ρ Grow.refl S (by unfold Rep; exact ⟨p1, vs1, rfl, t1, by rw [List.append_nil]; exact r1⟩)
      · exact q _ _ ρ (grow_new hp) (S.new hp) (new_tup S (Reps.append r1 r2) hp)
    · cases h
  · split at h
    · rename_i a b e1 e2
      split at h
      · rename_i hl
        unfold Rep at Rx Ry
        obtain ⟨p1, rfl, i1⟩ := Rx
        obtain ⟨p2, rfl, i2⟩ := Ry
        obtain ⟨b1, hb1, vs1, h1, r1⟩ := S.at_ _ _ e1
        obtain ⟨b2, hb2, vs2, h2, r2⟩ := S.at_ _ _ e2
        rw [i1] at hb1; cases hb1
        rw [i2] at hb2; cases hb2
        refine .inr (.inr (.inr ⟨p1, p2, vs1, vs2, rfl, rfl, h1, h2, line5 (by rw [← r1.length, ← r2.length]; exact hl), fun p hp => ?_⟩))
        obtain ⟨a1, a2, a3⟩ := new_lst S (Reps.append r1 r2) hp
        have e := Option.some.inj h
        rw [e] at a2 a3
        exact q _ _ _ a1 a2 a3
      · cases h
    · cases h
  · cases h
def fInt (C : Int → Int → Bool) (g : Int → Int → Int) : F2 := fun x y st => match x, y with
  | .int a, .int b => if C a b then some (.int (g a b), st) else none
  | _, _ => none
theorem f_int {K : PySem.W.Frag} {C : Int → Int → Prop} {C' : Int → Int → Bool} {g : Int → Int → Int} (hC : ∀ a b, C' a b = true → C a b) : OpI K (rI C fun i j => .int (g i j)) (fInt C' g) := by
  intro H ρ st x y vx vy z st' Q S Rx Ry h q
  unfold fInt at h
  split at h
  · split at h
    · rename_i hc
      unfold Rep at Rx Ry
      subst Rx Ry
      cases h
      exact ⟨_, _, rfl, rfl, hC _ _ hc, q _ H ρ Grow.refl S (by unfold Rep; rfl)⟩
    · cases h
  · cases h
def fSub : F2 := fInt (fun _ _ => true) (· - ·)
theorem op_subI : OpR X (binaryOp .Sub) (rI (fun _ _ => True) fun i j => .int (i - j)) := opI fun _ _ _ _ _ _ _ _ q => sub_int q
theorem f_sub {K : PySem.W.Frag} : OpI K (rI (fun _ _ => True) fun i j => .int (i - j)) fSub := f_int fun _ _ _ => trivial
def cDiv (_ b : Int) : Bool := decide (b ≠ 0) && decide (b.natAbs < 2 ^ 64)
def fDiv : F2 := fInt cDiv Int.fdiv
theorem op_divI : OpR X (binaryOp .FloorDiv) (rI (fun _ j => j ≠ 0 ∧ j.natAbs < 2 ^ 64) fun i j => .int (i.fdiv j)) := opI fun i j _ _ _ _ _ hc q => floordiv_int hc.1 q (.inl (PyProof.noPylong_of_log2 (Nat.lt_of_lt_of_le (PySem.Flt.log2_lt_of (by decide) hc.2) (by decide))))
theorem f_div {K : PySem.W.Frag} : OpI K (rI (fun _ j => j ≠ 0 ∧ j.natAbs < 2 ^ 64) fun i j => .int (i.fdiv j)) fDiv := f_int fun a b h => by
  unfold cDiv at h
  simp only [Bool.and_eq_true, decide_eq_true_eq] at h
  exact h
def fMod : F2 := fInt (fun _ b => decide (b ≠ 0)) Int.fmod
theorem f_mod {K : PySem.W.Frag} : OpI K (rI (fun _ j => j ≠ 0) fun i j => .int (i.fmod j)) fMod := f_int fun a b h => of_decide_eq_true h
def cMul (a b : Int) : Bool := (decide (-(2 ^ 64) < a) && decide (a < 2 ^ 64)) || (decide (-(2 ^ 64) < b) && decide (b < 2 ^ 64))
theorem cMul_of {a b : Int} (h : cMul a b = true) : CMul a b := by
  unfold cMul at h
  simp only [Bool.or_eq_true, Bool.and_eq_true, decide_eq_true_eq] at h
  exact h
/-- * : ints; a text, a list, a tuple and an int from 2 to 1000 -/
def cRep (n : Nat) (k : Int) : Bool := decide (0 < n) && decide (n ≤ 1000) && decide (2 ≤ k) && decide (k ≤ 1000)
theorem cRep_of {n : Nat} {k : Int} (h : cRep n k = true) : 0 < n ∧ n ≤ 1000 ∧ 2 ≤ k ∧ k ≤ 1000 := by
  unfold cRep at h
  simp only [Bool.and_eq_true, decide_eq_true_eq] at h
  omega
def repStr (a : Str) (k : Nat) : Str := ⟨(List.replicate k a.cps.toList).flatten.toArray⟩
theorem rep_fold (c : Array Nat) : ∀ (k : Nat) (acc : Array Nat), (List.replicate k c).foldl (fun x1 x2 => x1 ++ x2) acc = acc ++ (List.replicate k c.toList).flatten.toArray
  | 0, acc => by simp
  | k + 1, acc => by
    rw [List.replicate_succ, List.foldl_cons, rep_fold c k, List.replicate_succ, List.flatten_cons]
    apply Array.ext'
    simp
theorem repStr_eq (a : Str) (k : Nat) : (⟨(List.replicate k a.cps).foldl (fun x1 x2 => x1 ++ x2) #[]⟩ : Str) = repStr a k := by
  rw [rep_fold]
  unfold repStr
  simp
theorem repStr_len (a : Str) (k : Nat) : (repStr a k).length = k * a.length := by
  unfold repStr Str.length
  simp
def fMul : F2 := fun x y st => match x, y with
  | .int a, .int b => if cMul a b then some (.int (a * b), st) else none
  | .str a, .int k => if cRep a.length k then some (.str (repStr a k.toNat), st) else none
  | .tup a, .int k => if cRep a.length k then some (.tup (List.replicate k.toNat a).flatten, st) else none
  | .ref n, .int k => match st[n]? with
    | some (.lst a) => if cRep a.length k then some (alloc (.lst (List.replicate k.toNat a).flatten) st) else none
    | _ => none
  | _, _ => none
def rMulS : R2 := fun x y H Q => ∃ a k, x = .str a ∧ y = .int k ∧ (0 < a.length ∧ a.length ≤ 1000 ∧ 2 ≤ k ∧ k ≤ 1000) ∧ Q (.str (repStr a k.toNat)) H
theorem op_mulS : OpR X (binaryOp .Mult) rMulS := by
  intro pins s σ H x y v u Q I rx ry h
  obtain ⟨a, k, rfl, rfl, ⟨h0, h1, h2, h3⟩, q⟩ := h
  obtain ⟨t, rfl⟩ := rx
  obtain ⟨t', rfl⟩ := ry
  have hs := sizeLine_eq
  have hle : a.length * k.toNat ≤ 1000 * 1000 := Nat.mul_le_mul h1 (by omega)
  have hn : (k == 1 || a.length == 0) = false := by
    rw [Bool.or_eq_false_iff]
    exact ⟨beq_eq_false_iff_ne.mpr (by omega), beq_eq_false_iff_ne.mpr (by omega)⟩
  refine PySem.P.mul_str ?_ (fun _ _ => ?_) (fun _ _ => ?_) ?_
  · rw [decide_eq_false (by omega), decide_eq_false (by omega)]; rfl
  · have h9 : (1000 : Int) ≤ (2 ^ 63 - 1) / k := by
      rw [Int.le_ediv_iff_mul_le (by omega)]
      omega
    omega
  · unfold Builtin.Str.tooLong
    simp only [decide_eq_false_iff_not]
    omega
  · rw [if_neg (by omega), if_neg (by rw [hn]; decide), repStr_eq]
    refine ⟨?_, ⟨.str _, H, I.tok _, ⟨_, rfl⟩, q⟩⟩
    have e := repStr_len a k.toNat
    rw [Nat.mul_comm] at e
    show (repStr a k.toNat).length ≤ sizeLine
    omega
def rMul (K : PySem.W.Frag) : R2 := fun x y H Q => (rI CMul fun i j => .int (i * j)) x y H Q ∨ rMulS x y H Q ∨ rRepT K x y H Q ∨ rRep x y H Q
theorem op_mulI : OpR X (binaryOp .Mult) (rMul X.K) := OpR.or op_mul (OpR.or op_mulS (OpR.or op_repT op_rep))
theorem Reps.rep {K : PySem.W.Frag} {H : Hp} {ρ : List Addr} {xs : List PV} {vs : List V} (R : Reps K H ρ xs vs) : ∀ k : Nat, Reps K H ρ (List.replicate k xs).flatten (List.replicate k vs).flatten
  | 0 => by simp [Reps]
  | k + 1 => by
    rw [List.replicate_succ, List.replicate_succ, List.flatten_cons, List.flatten_cons]
    exact Reps.append R (Reps.rep R k)
theorem f_mul {K : PySem.W.Frag} : OpI K (rMul K) fMul := by
  intro H ρ st x y vx vy z st' Q S Rx Ry h q
  unfold fMul at h
  split at h
  · split at h
    · rename_i hc
      unfold Rep at Rx Ry
      subst Rx Ry
      cases h
      exact .inl ⟨_, _, rfl, rfl, cMul_of hc, q _ H ρ Grow.refl S (by unfold Rep; rfl)⟩
    · cases h
  · split at h
    · rename_i hl
      unfold Rep at Rx Ry
      subst Rx Ry
      cases h
      exact .inr (.inl ⟨_, _, rfl, rfl, cRep_of hl, q _ H ρ Grow.refl S (by unfold Rep; rfl)⟩)
    · cases h
  · rename_i a k
    split at h
    · rename_i hl
      obtain ⟨c1, c2, c3, c4⟩ := cRep_of hl
      unfold Rep at Rx Ry
      subst Ry
      obtain ⟨p1, vs1, rfl, t1, r1⟩ := Rx
      cases h
      have e := r1.length
      refine .inr (.inr (.inl ⟨p1, _, vs1, rfl, rfl, t1, (by intro z; rw [z, List.length_nil] at e; omega), c3, c4, by omega, fun p hp => ?_⟩))
      exact q _ _ ρ (grow_new hp) (S.new hp) (new_tup S (r1.rep _) hp)
    · cases h
  · rename_i n k
    split at h
    · rename_i a e1
      split at h
      · rename_i hl
        obtain ⟨c1, c2, c3, c4⟩ := cRep_of hl
        unfold Rep at Rx Ry
        subst Ry
        obtain ⟨p1, rfl, i1⟩ := Rx
        obtain ⟨b1, hb1, vs1, h1, r1⟩ := S.at_ _ _ e1
        rw [i1] at hb1; cases hb1
        have e := r1.length
        have hle : vs1.length * k.toNat ≤ 1000 * 1000 := Nat.mul_le_mul (by omega) (by omega)
        have hs := sizeLine_eq
        refine .inr (.inr (.inr ⟨p1, _, vs1, rfl, rfl, h1, by omega, by omega, by omega, fun p hp => ?_⟩))
        obtain ⟨a1, a2, a3⟩ := new_lst S (r1.rep k.toNat) hp
        have e := Option.some.inj h
        rw [e] at a2 a3
        exact q _ _ _ a1 a2 a3
      · cases h
    · cases h
  · cases h
def fNeg : F1 := fun x st => match x with
  | .int a => some (.int (-a), st)
  | _ => none
theorem f_neg {K : PySem.W.Frag} : UnI K (rU fun i => .int (-i)) fNeg := by
  intro H ρ st x vx z st' Q S Rx h q
  unfold fNeg at h
  split at h
  · unfold Rep at Rx
    subst Rx
    cases h
    exact ⟨_, rfl, q _ H ρ Grow.refl S (by unfold Rep; rfl)⟩
  · cases h

/-! ### order -/
def ltS (a b : Str) : Bool := decide (a.cps.toList < b.cps.toList)
/-- two ints or two texts: are they the same, is the first less -/
def scal2 : PV → PV → Option (Bool × Bool)
  | .int a, .int b => some (a == b, decide (a < b))
  | .str a, .str b => some (a == b, ltS a b)
  | _, _ => none
def fLt : F2 := fun x y st => match x, y with
  | .int a, .int b => some (.bl (decide (a < b)), st)
  | .str a, .str b => some (.bl (ltS a b), st)
  | .tup [a], .tup [b] => match scal2 a b with
    | some (e, l) => some (.bl (if e then false else l), st)
    | none => none
  | _, _ => none
def fLe : F2 := fun x y st => match x, y with
  | .int a, .int b => some (.bl (decide (a ≤ b)), st)
  | .str a, .str b => some (.bl (!ltS b a), st)
  | .tup [a], .tup [b] => match scal2 a b, scal2 b a with
    | some (e, _), some (_, l) => some (.bl (if e then true else !l), st)
    | _, _ => none
  | _, _ => none
def fGt : F2 := fun x y st => match x, y with
  | .int a, .int b => some (.bl (decide (b < a)), st)
  | .str a, .str b => some (.bl (ltS b a), st)
  | _, _ => none
def fGe : F2 := fun x y st => match x, y with
  | .int a, .int b => some (.bl (decide (b ≤ a)), st)
  | _, _ => none
inductive Sc2 : V → V → Bool → Bool → Prop where
  | int (a b : Int) : Sc2 (.int a) (.int b) (a == b) (decide (a < b))
  | str (a b : Str) : Sc2 (.str a) (.str b) (a == b) (ltS a b)
theorem sc2_rep {K : PySem.W.Frag} {H : Hp} {ρ : List Addr} {x y : PV} {v w : V} {e l : Bool} (h : scal2 x y = some (e, l)) (Rx : Rep K H ρ x v) (Ry : Rep K H ρ y w) : Sc2 v w e l := by
  unfold scal2 at h
  split at h
  · unfold Rep at Rx Ry
    subst Rx Ry
    cases h
    exact .int _ _
  · unfold Rep at Rx Ry
    subst Rx Ry
    cases h
    exact .str _ _
  · cases h
def rLt1 (K : PySem.W.Frag) : R2 := fun x y H Q => ∃ p q v w e l, x = .ref p ∧ y = .ref q ∧ SqT K H p [v] ∧ SqT K H q [w] ∧ Sc2 v w e l ∧ Q (.bl (if e then false else l)) H
def rLe1 (K : PySem.W.Frag) : R2 := fun x y H Q => ∃ p q v w e l e', x = .ref p ∧ y = .ref q ∧ SqT K H p [v] ∧ SqT K H q [w] ∧ Sc2 v w e e' ∧ (∃ e2, Sc2 w v e2 l) ∧ Q (.bl (if e then true else !l)) H
theorem Sc2.flat {v w : V} {e l : Bool} (h : Sc2 v w e l) : flatV v = true ∧ flatV w = true ∧ eqV v w = e := by
  cases h
  · exact ⟨rfl, rfl, rfl⟩
  · exact ⟨rfl, rfl, rfl⟩
theorem op_lt1 (hu : X.A.units < cLine) : OpR X (compareOp .Lt) (rLt1 X.K) := by
  intro pins s σ H x y v u Q I rx ry h
  obtain ⟨p, q, v1, w1, e, l, rfl, rfl, ha, hb, sc, hq⟩ := h
  cases rx
  cases ry
  obtain ⟨its, r1, p1, _⟩ := I.tuple ha
  obtain ⟨its2, r2, p2, _⟩ := I.tuple hb
  obtain ⟨u1, rfl, ru⟩ := vals1 r1
  obtain ⟨u2, rfl, rw2⟩ := vals1 r2
  obtain ⟨f1, f2, fe⟩ := sc.flat
  have R := Ob.RcOp.tuples_lt (A := X.A) (s := s) (e := fun _ => e) (r := fun _ => l) p1 p2 hu (fun j h1 h2 => by
    have hj : j = 0 := by simp at h1; omega
    subst hj
    show SeqAt.EqAt _ _ u1 u2 e
    rw [← fe]
    exact eqAt_V ru rw2 f1 f2) (fun j h1 h2 _ => by
    have hj : j = 0 := by simp at h1; omega
    subst hj
    show Ob.RcOp .Lt _ _ u1 u2 l
    cases sc with
    | int a b =>
      obtain ⟨t, rfl⟩ := ru
      obtain ⟨t', rfl⟩ := rw2
      exact Ob.RcOp.lt_int a b t t'
    | str a b =>
      obtain ⟨t, rfl⟩ := ru
      obtain ⟨t', rfl⟩ := rw2
      exact fun prog w E Q h => PyProof.Rows.lt_str h)
  refine R X.prog X.w _ _ ?_
  have z : Ob.lexAt (fun _ => e) (fun _ => l) (decide ([u1].toArray.size < [u2].toArray.size)) 0 (min [u1].toArray.size [u2].toArray.size) = (if e then false else l) := by
    show Ob.lexAt (fun _ => e) (fun _ => l) (decide (1 < 1)) 0 1 = _
    rw [Ob.lexAt_succ, Ob.lexAt_zero]
    cases e <;> rfl
  rw [z]
  exact ⟨.bl _, H, I, rfl, hq⟩
theorem op_le1 (hu : X.A.units < cLine) : OpR X (compareOp .LtE) (rLe1 X.K) := by
  intro pins s σ H x y v u Q I rx ry h
  obtain ⟨p, q, v1, w1, e, l, e', rfl, rfl, ha, hb, sc, ⟨e2, sc2⟩, hq⟩ := h
  cases rx
  cases ry
  obtain ⟨its, r1, p1, _⟩ := I.tuple ha
  obtain ⟨its2, r2, p2, _⟩ := I.tuple hb
  obtain ⟨u1, rfl, ru⟩ := vals1 r1
  obtain ⟨u2, rfl, rw2⟩ := vals1 r2
  obtain ⟨f1, f2, fe⟩ := sc.flat
  have R := Ob.RcOp.tuples_le (A := X.A) (s := s) (e := fun _ => e) (r := fun _ => !l) p1 p2 hu (fun j h1 h2 => by
    have hj : j = 0 := by simp at h1; omega
    subst hj
    show SeqAt.EqAt _ _ u1 u2 e
    rw [← fe]
    exact eqAt_V ru rw2 f1 f2) (fun j h1 h2 _ => by
    have hj : j = 0 := by simp at h1; omega
    subst hj
    show Ob.RcOp .LtE _ _ u1 u2 (!l)
    cases sc2 with
    | int a b =>
      obtain ⟨t, rfl⟩ := ru
      obtain ⟨t', rfl⟩ := rw2
      have := Ob.RcOp.le_int (A := X.A.in1) (s := s) b a t t'
      have ez : decide (b ≤ a) = !decide (a < b) := by
        by_cases hz : a < b
        · rw [decide_eq_true hz, decide_eq_false (by omega)]; rfl
        · rw [decide_eq_false hz, decide_eq_true (by omega)]; rfl
      rw [← ez]
      exact this
    | str a b =>
      obtain ⟨t, rfl⟩ := ru
      obtain ⟨t', rfl⟩ := rw2
      exact fun prog w E Q h => PySem.P.le_str h)
  refine R X.prog X.w _ _ ?_
  have z : Ob.lexAt (fun _ => e) (fun _ => !l) (decide ([u1].toArray.size ≤ [u2].toArray.size)) 0 (min [u1].toArray.size [u2].toArray.size) = (if e then true else !l) := by
    show Ob.lexAt (fun _ => e) (fun _ => !l) (decide (1 ≤ 1)) 0 1 = _
    rw [Ob.lexAt_succ, Ob.lexAt_zero]
    cases e <;> rfl
  rw [z]
  exact ⟨.bl _, H, I, rfl, hq⟩
def rSt (g : Str → Str → Bool) : R2 := fun x y H Q => ∃ i j, x = .str i ∧ y = .str j ∧ Q (.bl (g i j)) H
def rLtA (K : PySem.W.Frag) : R2 := fun x y H Q => (rI0 fun i j => .bl (decide (i < j))) x y H Q ∨ rSt ltS x y H Q ∨ rLt1 K x y H Q
def rLeA (K : PySem.W.Frag) : R2 := fun x y H Q => (rI0 fun i j => .bl (decide (i ≤ j))) x y H Q ∨ rSt (fun i j => !ltS j i) x y H Q ∨ rLe1 K x y H Q
def rGtA : R2 := fun x y H Q => (rI0 fun i j => .bl (decide (j < i))) x y H Q ∨ rSt (fun i j => ltS j i) x y H Q
theorem op_ltA (hu : X.A.units < cLine) : OpR X (compareOp .Lt) (rLtA X.K) := OpR.or op_lt (OpR.or op_lt_str (op_lt1 hu))
theorem op_leA (hu : X.A.units < cLine) : OpR X (compareOp .LtE) (rLeA X.K) := OpR.or op_le (OpR.or op_le_str (op_le1 hu))
theorem op_gtA : OpR X (compareOp .Gt) rGtA := OpR.or op_gt op_gt_str
theorem one_rep {K : PySem.W.Frag} {H : Hp} {ρ : List Addr} {x : PV} {v : V} (R : Rep K H ρ (.tup [x]) v) : ∃ p w, v = .ref p ∧ SqT K H p [w] ∧ Rep K H ρ x w := by
  unfold Rep at R
  obtain ⟨p, vs, rfl, t, r⟩ := R
  unfold Reps at r
  obtain ⟨w, r, rfl, r1, r2⟩ := r
  unfold Reps at r2
  subst r2
  exact ⟨p, w, rfl, t, r1⟩
theorem f_lt {K : PySem.W.Frag} : OpI K (rLtA K) fLt := by
  intro H ρ st x y vx vy z st' Q S Rx Ry h q
  unfold fLt at h
  split at h
  · unfold Rep at Rx Ry
    subst Rx Ry
    cases h
    exact .inl ⟨_, _, rfl, rfl, q _ H ρ Grow.refl S (by unfold Rep; rfl)⟩
  · unfold Rep at Rx Ry
    subst Rx Ry
    cases h
    exact .inr (.inl ⟨_, _, rfl, rfl, q _ H ρ Grow.refl S (by unfold Rep; rfl)⟩)
  · split at h
    · rename_i e l hs
      cases h
      obtain ⟨p1, w1, rfl, t1, r1⟩ := one_rep Rx
      obtain ⟨p2, w2, rfl, t2, r2⟩ := one_rep Ry
      exact .inr (.inr ⟨p1, p2, w1, w2, e, l, rfl, rfl, t1, t2, sc2_rep hs r1 r2, q _ H ρ Grow.refl S (by unfold Rep; rfl)⟩)
    · cases h
  · cases h
theorem f_le {K : PySem.W.Frag} : OpI K (rLeA K) fLe := by
  intro H ρ st x y vx vy z st' Q S Rx Ry h q
  unfold fLe at h
  split at h
  · unfold Rep at Rx Ry
    subst Rx Ry
    cases h
    exact .inl ⟨_, _, rfl, rfl, q _ H ρ Grow.refl S (by unfold Rep; rfl)⟩
  · unfold Rep at Rx Ry
    subst Rx Ry
    cases h
    exact .inr (.inl ⟨_, _, rfl, rfl, q _ H ρ Grow.refl S (by unfold Rep; rfl)⟩)
  · split at h
    · rename_i e e' e2 l hs hs2
      cases h
      obtain ⟨p1, w1, rfl, t1, r1⟩ := one_rep Rx
      obtain ⟨p2, w2, rfl, t2, r2⟩ := one_rep Ry
      exact .inr (.inr ⟨p1, p2, w1, w2, e, l, e', rfl, rfl, t1, t2, sc2_rep hs r1 r2, ⟨_, sc2_rep hs2 r2 r1⟩, q _ H ρ Grow.refl S (by unfold Rep; rfl)⟩)
    · cases h
  · cases h
theorem f_gt {K : PySem.W.Frag} : OpI K rGtA fGt := by
  intro H ρ st x y vx vy z st' Q S Rx Ry h q
  unfold fGt at h
  split at h
  · unfold Rep at Rx Ry
    subst Rx Ry
    cases h
    exact .inl ⟨_, _, rfl, rfl, q _ H ρ Grow.refl S (by unfold Rep; rfl)⟩
  · unfold Rep at Rx Ry
    subst Rx Ry
    cases h
    exact .inr ⟨_, _, rfl, rfl, q _ H ρ Grow.refl S (by unfold Rep; rfl)⟩
  · cases h
theorem f_ge {K : PySem.W.Frag} : OpI K (rI0 fun i j => .bl (decide (j ≤ i))) fGe := by
  intro H ρ st x y vx vy z st' Q S Rx Ry h q
  unfold fGe at h
  split at h
  · unfold Rep at Rx Ry
    subst Rx Ry
    cases h
    exact ⟨_, _, rfl, rfl, q _ H ρ Grow.refl S (by unfold Rep; rfl)⟩
  · cases h

/-! ### == of data -/
def mapO {α β : Type} (f : α → Option β) : List α → Option (List β)
  | [] => some []
  | x :: xs => match f x, mapO f xs with
    | some y, some ys => some (y :: ys)
    | _, _ => none
def toD (st : Sto) : Nat → PV → Option PyData
  | 0, _ => none
  | f + 1, x => match x with
    | .non => some .none
    | .bl b => some (.bool b)
    | .int i => some (.int i)
    | .str y => some (.str y)
    | .tup xs => (mapO (toD st f) xs).map .tuple
    | .frz xs => (mapO (toD st f) xs).map .list
    | .ref n => match st[n]? with
      | some (.lst xs) => (mapO (toD st f) xs).map .list
      | _ => none
    | .ty _ => none
theorem mapO_dp {K : PySem.W.Frag} {H : Hp} {ρ : List Addr} {f : PV → Option PyData} (hf : ∀ x v d, Rep K H ρ x v → f x = some d → Dp K H v d) : ∀ {xs : List PV} {vs : List V} {ds : List PyData}, Reps K H ρ xs vs → mapO f xs = some ds → DpAll K H vs ds
  | [], vs, ds, R, h => by
    unfold Reps at R
    subst R
    cases h
    exact .nil
  | x :: xs, vs, ds, R, h => by
    unfold Reps at R
    obtain ⟨v, r, rfl, r1, r2⟩ := R
    unfold mapO at h
    split at h
    · rename_i e1 e2
      cases h
      exact .cons (hf _ _ _ r1 e1) (mapO_dp hf r2 e2)
    · cases h
theorem map_some {α β : Type} {o : Option α} {g : α → β} {r : β} (h : o.map g = some r) : ∃ a, o = some a ∧ g a = r := by
  cases o with
  | none => cases h
  | some a => cases h; exact ⟨a, rfl, rfl⟩
theorem toD_dp {K : PySem.W.Frag} {H : Hp} {ρ : List Addr} {st : Sto} (S : RepS K H ρ st) : ∀ (f : Nat) (x : PV) (v : V) (d : PyData), Rep K H ρ x v → toD st f x = some d → Dp K H v d
  | 0, _, _, _, _, h => by cases h
  | f + 1, x, v, d, R, h => by
    cases x with
    | non => unfold Rep at R; subst R; cases h; exact .non
    | bl b => unfold Rep at R; subst R; cases h; exact .bl b
    | int i => unfold Rep at R; subst R; cases h; exact .int i
    | str y => unfold Rep at R; subst R; cases h; exact .str y
    | ty n => cases h
    | tup xs =>
      unfold Rep at R
      obtain ⟨a, vs, rfl, t, r⟩ := R
      obtain ⟨ds, e, rfl⟩ := map_some (show (mapO (toD st f) xs).map .tuple = some d from h)
      exact .tup t (mapO_dp (toD_dp S f) r e)
    | frz xs =>
      unfold Rep at R
      obtain ⟨a, vs, rfl, t, r⟩ := R
      obtain ⟨ds, e, rfl⟩ := map_some (show (mapO (toD st f) xs).map .list = some d from h)
      exact .lst t.sq (mapO_dp (toD_dp S f) r e)
    | ref n =>
      unfold Rep at R
      obtain ⟨a, rfl, i1⟩ := R
      simp only [toD] at h
      split at h
      · rename_i xs e1
        obtain ⟨b1, hb1, vs1, h1, r1⟩ := S.at_ _ _ e1
        rw [i1] at hb1; cases hb1
        obtain ⟨ds, e, rfl⟩ := map_some h
        exact .lst (.of h1) (mapO_dp (toD_dp S f) r1 e)
      · cases h
def eqP (st : Sto) (x y : PV) : Option Bool := match toD st 70 x, toD st 70 y with
  | some d, some e => if SeqAt.shaped d && SeqAt.shaped e then some (PyData.eqv d e) else none
  | _, _ => none
def fEq : F2 := fun x y st => (eqP st x y).map fun b => (.bl b, st)
def fNe : F2 := fun x y st => (eqP st x y).map fun b => (.bl (!b), st)
theorem eqP_dp {K : PySem.W.Frag} {H : Hp} {ρ : List Addr} {st : Sto} (S : RepS K H ρ st) {x y : PV} {v w : V} {b : Bool} (Rx : Rep K H ρ x v) (Ry : Rep K H ρ y w) (h : eqP st x y = some b) :
    ∃ d e, Dp K H v d ∧ Dp K H w e ∧ SeqAt.shaped d = true ∧ SeqAt.shaped e = true ∧ PyData.eqv d e = b := by
  unfold eqP at h
  split at h
  · rename_i d e e1 e2
    split at h
    · rename_i hs
      rw [Bool.and_eq_true] at hs
      cases h
      exact ⟨d, e, toD_dp S _ _ _ _ Rx e1, toD_dp S _ _ _ _ Ry e2, hs.1, hs.2, rfl⟩
    · cases h
  · cases h
theorem f_eq {K : PySem.W.Frag} : OpI K (rEqD K) fEq := by
  intro H ρ st x y vx vy z st' Q S Rx Ry h q
  obtain ⟨b, e0, hz⟩ := map_some h
  cases hz
  obtain ⟨d, e, h1, h2, h3, h4, rfl⟩ := eqP_dp S Rx Ry e0
  exact ⟨d, e, h1, h2, h3, h4, q _ H ρ Grow.refl S (by unfold Rep; rfl)⟩
theorem f_ne {K : PySem.W.Frag} : OpI K (rNeD K) fNe := by
  intro H ρ st x y vx vy z st' Q S Rx Ry h q
  obtain ⟨b, e0, hz⟩ := map_some h
  cases hz
  obtain ⟨d, e, h1, h2, h3, h4, rfl⟩ := eqP_dp S Rx Ry e0
  exact ⟨d, e, h1, h2, h3, h4, q _ H ρ Grow.refl S (by unfold Rep; rfl)⟩

/-! ### is -/
def isNone : PV → Bool
  | .non => true
  | _ => false
def isBool (b : Bool) : PV → Bool
  | .bl c => c == b
  | _ => false
def fIs : F2 := fun x y st => match y with
  | .non => some (.bl (isNone x), st)
  | .bl b => some (.bl (isBool b x), st)
  | _ => none
def fIsNot : F2 := fun x y st => match y with
  | .non => some (.bl (!isNone x), st)
  | .bl b => some (.bl (!isBool b x), st)
  | _ => none
theorem isNone_rep {K : PySem.W.Frag} {H : Hp} {ρ : List Addr} {x : PV} {v : V} (R : Rep K H ρ x v) : decide (v = .non) = isNone x := by
  cases x <;> unfold Rep at R <;> first | (subst R; simp [isNone]) | (obtain ⟨a, vs, rfl, _⟩ := R; simp [isNone]) | (obtain ⟨a, rfl, _⟩ := R; simp [isNone])
theorem isBool_rep {K : PySem.W.Frag} {H : Hp} {ρ : List Addr} {x : PV} {v : V} {b : Bool} (R : Rep K H ρ x v) : decide (v = .bl b) = isBool b x := by
  cases x <;> unfold Rep at R <;> first | (subst R; simp [isBool]; done) | (obtain ⟨a, vs, rfl, _⟩ := R; simp [isBool]; done) | (obtain ⟨a, rfl, _⟩ := R; simp [isBool]; done) | skip
  · subst R
    rename_i c
    cases b <;> cases c <;> rfl
def rIsB1 : R2 := fun x y H Q => ∃ b : Bool, y = .bl b ∧ Q (.bl (decide (x = .bl b))) H
def rIsNotB1 : R2 := fun x y H Q => ∃ b : Bool, y = .bl b ∧ Q (.bl (!decide (x = .bl b))) H
theorem relV_bool {x : V} {v : Value} {b : Bool} (r : RelV x v) : (v == Value.bool b) = decide (x = .bl b) := by
  cases x with
  | bl c => cases r; cases b <;> cases c <;> rfl
  | non => cases r; rfl
  | int _ => obtain ⟨t, rfl⟩ := r; rfl
  | str _ => obtain ⟨t, rfl⟩ := r; rfl
  | byt _ => obtain ⟨t, rfl⟩ := r; rfl
  | flt _ => obtain ⟨t, rfl⟩ := r; rfl
  | ref _ => cases r; rfl
  | ty _ => cases r; rfl
theorem op_isB1 : OpR X (compareOp .Is) rIsB1 := by
  intro pins s σ H x y v u Q I rx ry h
  obtain ⟨b, rfl, q⟩ := h
  cases (show u = Value.bool b from ry)
  have g : EP X pins σ Q (.bool (v == Value.bool b)) s := ⟨.bl _, H, I, by rw [relV_bool rx]; rfl, q⟩
  cases x <;> first | (cases rx; exact wpAny_pure g) | (obtain ⟨t, rfl⟩ := rx; exact wpAny_pure g)
theorem op_isNotB1 : OpR X (compareOp .IsNot) rIsNotB1 := by
  intro pins s σ H x y v u Q I rx ry h
  obtain ⟨b, rfl, q⟩ := h
  cases (show u = Value.bool b from ry)
  have g : EP X pins σ Q (.bool (!(v == Value.bool b))) s := ⟨.bl _, H, I, by rw [relV_bool rx]; rfl, q⟩
  cases x <;> first | (cases rx; exact wpAny_pure g) | (obtain ⟨t, rfl⟩ := rx; exact wpAny_pure g)
def rIsA : R2 := fun x y H Q => (y = .non ∧ Q (.bl (decide (x = .non))) H) ∨ rIsB1 x y H Q
def rIsNotA : R2 := fun x y H Q => (y = .non ∧ Q (.bl (!decide (x = .non))) H) ∨ rIsNotB1 x y H Q
theorem op_isA : OpR X (compareOp .Is) rIsA := OpR.or op_isN op_isB1
theorem op_isNotA : OpR X (compareOp .IsNot) rIsNotA := OpR.or op_notN op_isNotB1
theorem f_is {K : PySem.W.Frag} : OpI K rIsA fIs := by
  intro H ρ st x y vx vy z st' Q S Rx Ry h q
  unfold fIs at h
  split at h
  · unfold Rep at Ry
    subst Ry
    cases h
    exact .inl ⟨rfl, q _ H ρ Grow.refl S (by unfold Rep; rw [isNone_rep Rx])⟩
  · unfold Rep at Ry
    subst Ry
    cases h
    exact .inr ⟨_, rfl, q _ H ρ Grow.refl S (by unfold Rep; rw [isBool_rep Rx])⟩
  · cases h
theorem f_isNot {K : PySem.W.Frag} : OpI K rIsNotA fIsNot := by
  intro H ρ st x y vx vy z st' Q S Rx Ry h q
  unfold fIsNot at h
  split at h
  · unfold Rep at Ry
    subst Ry
    cases h
    exact .inl ⟨rfl, q _ H ρ Grow.refl S (by unfold Rep; rw [isNone_rep Rx])⟩
  · unfold Rep at Ry
    subst Ry
    cases h
    exact .inr ⟨_, rfl, q _ H ρ Grow.refl S (by unfold Rep; rw [isBool_rep Rx])⟩
  · cases h

/-! ### in a list, a tuple of flat things -/
def flatP : PV → Option V
  | .non => some .non
  | .bl b => some (.bl b)
  | .int i => some (.int i)
  | .str x => some (.str x)
  | _ => none
theorem flatP_rep {K : PySem.W.Frag} {H : Hp} {ρ : List Addr} {x : PV} {v w : V} (R : Rep K H ρ x v) (h : flatP x = some w) : v = w ∧ flatV w = true := by
  cases x <;> simp only [flatP, Option.some.injEq, reduceCtorEq] at h <;> (unfold Rep at R; subst R; subst h; exact ⟨rfl, rfl⟩)
theorem flatP_reps {K : PySem.W.Frag} {H : Hp} {ρ : List Addr} : ∀ {xs : List PV} {vs ws : List V}, Reps K H ρ xs vs → mapO flatP xs = some ws → vs = ws ∧ ws.all flatV = true
  | [], vs, ws, R, h => by
    unfold Reps at R
    subst R
    cases h
    exact ⟨rfl, rfl⟩
  | x :: xs, vs, ws, R, h => by
    unfold Reps at R
    obtain ⟨v, r, rfl, r1, r2⟩ := R
    unfold mapO at h
    split at h
    · rename_i e1 e2
      cases h
      obtain ⟨rfl, f1⟩ := flatP_rep r1 e1
      obtain ⟨rfl, f2⟩ := flatP_reps r2 e2
      exact ⟨rfl, by rw [List.all_cons, f1, f2]; rfl⟩
    · cases h
def itemsOf (st : Sto) : PV → Option (List PV)
  | .tup xs => some xs
  | .frz xs => some xs
  | .ref n => match st[n]? with
    | some (.lst xs) => some xs
    | _ => none
  | _ => none
theorem items_rep {K : PySem.W.Frag} {H : Hp} {ρ : List Addr} {st : Sto} (S : RepS K H ρ st) {x : PV} {v : V} {xs : List PV} (R : Rep K H ρ x v) (h : itemsOf st x = some xs) : ∃ a vs, v = .ref a ∧ (SqL K H a vs ∨ SqT K H a vs) ∧ Reps K H ρ xs vs := by
  cases x with
  | tup ys =>
    unfold Rep at R
    obtain ⟨a, vs, rfl, t, r⟩ := R
    cases h
    exact ⟨a, vs, rfl, .inr t, r⟩
  | frz ys =>
    unfold Rep at R
    obtain ⟨a, vs, rfl, t, r⟩ := R
    cases h
    exact ⟨a, vs, rfl, .inl t.sq, r⟩
  | ref n =>
    unfold Rep at R
    obtain ⟨a, rfl, i1⟩ := R
    simp only [itemsOf] at h
    split at h
    · rename_i ys e1
      obtain ⟨b1, hb1, vs1, h1, r1⟩ := S.at_ _ _ e1
      rw [i1] at hb1; cases hb1
      cases h
      exact ⟨a, vs1, rfl, .inl (.of h1), r1⟩
    · cases h
  | _ => cases h
def listOf (st : Sto) : PV → Option (List PV)
  | .frz xs => some xs
  | .ref n => match st[n]? with
    | some (.lst xs) => some xs
    | _ => none
  | _ => none
theorem list_rep {K : PySem.W.Frag} {H : Hp} {ρ : List Addr} {st : Sto} (S : RepS K H ρ st) {x : PV} {v : V} {xs : List PV} (R : Rep K H ρ x v) (h : listOf st x = some xs) : ∃ a vs, v = .ref a ∧ SqL K H a vs ∧ Reps K H ρ xs vs := by
  cases x with
  | frz ys =>
    unfold Rep at R
    obtain ⟨a, vs, rfl, t, r⟩ := R
    cases h
    exact ⟨a, vs, rfl, t.sq, r⟩
  | ref n =>
    unfold Rep at R
    obtain ⟨a, rfl, i1⟩ := R
    simp only [listOf] at h
    split at h
    · rename_i ys e1
      obtain ⟨b1, hb1, vs1, h1, r1⟩ := S.at_ _ _ e1
      rw [i1] at hb1; cases hb1
      cases h
      exact ⟨a, vs1, rfl, .of h1, r1⟩
    · cases h
  | _ => cases h
def inP (st : Sto) (x y : PV) : Option Bool := match flatP x, itemsOf st y with
  | some v, some ys => (mapO flatP ys).map fun ws => inV v ws
  | _, _ => none
def fIn : F2 := fun x y st => (inP st x y).map fun b => (.bl b, st)
def fNotIn : F2 := fun x y st => (inP st x y).map fun b => (.bl (!b), st)
theorem inP_rep {K : PySem.W.Frag} {H : Hp} {ρ : List Addr} {st : Sto} (S : RepS K H ρ st) {x y : PV} {v w : V} {b : Bool} (Rx : Rep K H ρ x v) (Ry : Rep K H ρ y w) (h : inP st x y = some b) :
    ∃ p xs, w = .ref p ∧ (SqL K H p xs ∨ SqT K H p xs) ∧ flatV v = true ∧ xs.all flatV = true ∧ inV v xs = b := by
  unfold inP at h
  split at h
  · rename_i e1 e2
    obtain ⟨ws, e3, rfl⟩ := map_some h
    obtain ⟨rfl, f1⟩ := flatP_rep Rx e1
    obtain ⟨a, vs, rfl, t, r⟩ := items_rep S Ry e2
    obtain ⟨rfl, f2⟩ := flatP_reps r e3
    exact ⟨a, vs, rfl, t, f1, f2, rfl⟩
  · cases h
theorem f_in {K : PySem.W.Frag} : OpI K (rIn K false) fIn := by
  intro H ρ st x y vx vy z st' Q S Rx Ry h q
  obtain ⟨b, e, hz⟩ := map_some h
  cases hz
  obtain ⟨p, xs, h1, h2, h3, h4, rfl⟩ := inP_rep S Rx Ry e
  exact ⟨p, xs, h1, h2, h3, h4, q _ H ρ Grow.refl S (by unfold Rep; rfl)⟩
theorem f_notIn {K : PySem.W.Frag} : OpI K (rIn K true) fNotIn := by
  intro H ρ st x y vx vy z st' Q S Rx Ry h q
  obtain ⟨b, e, hz⟩ := map_some h
  cases hz
  obtain ⟨p, xs, h1, h2, h3, h4, rfl⟩ := inP_rep S Rx Ry e
  exact ⟨p, xs, h1, h2, h3, h4, q _ H ρ Grow.refl S (by unfold Rep; rfl)⟩

/-! ### subscripts -/
def fIx : F2 := fun x y st => match y with
  | .int i => match x with
    | .str z => if z.length ≤ 100000 then (atI z.cps.toList i).map fun c => (.str ⟨#[c]⟩, st) else none
    | _ => match itemsOf st x with
      | some xs => (atI xs i).map fun v => (v, st)
      | none => none
  | _ => none
theorem atI_rep {K : PySem.W.Frag} {H : Hp} {ρ : List Addr} {xs : List PV} {vs : List V} {i : Int} {x : PV} (R : Reps K H ρ xs vs) (h : atI xs i = some x) : ∃ v, atI vs i = some v ∧ Rep K H ρ x v := by
  unfold atI at h ⊢
  rw [← R.length]
  cases e : ixN xs.length i with
  | none => rw [e] at h; cases h
  | some j =>
    rw [e] at h
    exact R.get h
def rIxA (K : PySem.W.Frag) : R2 := fun x y H Q => rIxL K x y H Q ∨ rIxT K x y H Q ∨ rIxS x y H Q
theorem ix_any : IxR X (rIxA X.K) := ix_list.or (ix_tup.or ix_str)
theorem f_ix {K : PySem.W.Frag} : OpI K (rIxA K) fIx := by
  intro H ρ st x y vx vy z st' Q S Rx Ry h q
  unfold fIx at h
  split at h
  · rename_i i
    unfold Rep at Ry
    subst Ry
    split at h
    · rename_i w
      split at h
      · rename_i hl
        obtain ⟨c, e, hz⟩ := map_some h
        cases hz
        unfold Rep at Rx
        subst Rx
        exact .inr (.inr ⟨_, _, c, rfl, rfl, line5 hl, e, q _ H ρ Grow.refl S (by unfold Rep; rfl)⟩)
      · cases h
    · split at h
      · rename_i xs e1
        obtain ⟨w, e, hz⟩ := map_some h
        cases hz
        obtain ⟨a, vs, rfl, t, r⟩ := items_rep S Rx e1
        obtain ⟨v, hv, rv⟩ := atI_rep r e
        rcases t with t | t
        · exact .inl ⟨a, vs, i, v, rfl, rfl, t, hv, q _ H ρ Grow.refl S rv⟩
        · exact .inr (.inl ⟨a, vs, i, v, rfl, rfl, t, hv, q _ H ρ Grow.refl S rv⟩)
      · cases h
  · cases h
/-! ### slices -/
def cutP (xs : List PV) (lo hi : Option Int) : List PV := (xs.drop (HT.sIx xs.length 0 lo)).take (HT.sIx xs.length xs.length hi - HT.sIx xs.length 0 lo)
def fSl : FSl := fun x lo hi st => match x with
  | .str z => if z.length ≤ 100000 then some (.str (cutS z lo hi), st) else none
  | .tup xs => some (.tup (cutP xs lo hi), st)
  | _ => match listOf st x with
    | some xs => some (alloc (.lst (cutP xs lo hi)) st)
    | none => none
def rSlAny (K : PySem.W.Frag) : V → Option Int → Option Int → Hp → VK → Prop := fun x lo hi H Q => rSlL K x lo hi H Q ∨ rSlA K x lo hi H Q ∨ rSlS x lo hi H Q
theorem sl_any : SlR X (rSlAny X.K) := SlR.or sl_list (SlR.or sl_tupA sl_str)
theorem cut_rep {K : PySem.W.Frag} {H : Hp} {ρ : List Addr} {xs : List PV} {vs : List V} {lo hi : Option Int} (R : Reps K H ρ xs vs) : Reps K H ρ (cutP xs lo hi) (cutV vs lo hi) := by
  unfold cutP cutV
  rw [R.length]
  exact Reps.take _ (Reps.drop _ R)
theorem f_sl {K : PySem.W.Frag} : SlI K (rSlAny K) fSl := by
  intro H ρ st x vx lo hi z st' Q S Rx h q
  unfold fSl at h
  split at h
  · rename_i w
    split at h
    · rename_i hl
      cases h
      unfold Rep at Rx
      subst Rx
      exact .inr (.inr ⟨_, rfl, line5 hl, q _ H ρ Grow.refl S (by unfold Rep; rfl)⟩)
    · cases h
  · rename_i xs
    cases h
    unfold Rep at Rx
    obtain ⟨a, vs, rfl, t, r⟩ := Rx
    refine .inr (.inl ⟨a, vs, rfl, t, fun ⟨e1, e2⟩ => ?_, fun _ p hp => ?_⟩)
    · have e : cutP xs lo hi = xs := by
        unfold cutP
        rw [r.length, e1, e2, List.drop_zero, Nat.sub_zero, ← r.length, List.take_length]
      rw [e] at q
      exact q _ H ρ Grow.refl S (by unfold Rep; exact ⟨a, vs, rfl, t, r⟩)
    · exact q _ _ ρ (grow_new hp) (S.new hp) (new_tup S (cut_rep r) hp)
  · rename_i n1 n2
    split at h
    · rename_i xs e1
      obtain ⟨a, vs, rfl, t, r⟩ := list_rep S Rx e1
      refine .inl ⟨a, vs, rfl, t, fun p hp => ?_⟩
      obtain ⟨a1, a2, a3⟩ := new_lst S (cut_rep (lo := lo) (hi := hi) r) hp
      have e := Option.some.inj h
      rw [e] at a2 a3
      exact q _ _ _ a1 a2 a3
    · cases h
end
end IL

namespace IL
open PySem PySem.Spec PyProof.Rows L2

section
variable {X : Cx}
theorem one_arg {K : PySem.W.Frag} {H : Hp} {ρ : List Addr} {x : PV} {vs : List V} (R : Reps K H ρ [x] vs) : ∃ v, vs = [v] ∧ Rep K H ρ x v := by
  unfold Reps at R
  obtain ⟨v, r, rfl, r1, r2⟩ := R
  unfold Reps at r2
  subst r2
  exact ⟨v, rfl, r1⟩
theorem two_args {K : PySem.W.Frag} {H : Hp} {ρ : List Addr} {x y : PV} {vs : List V} (R : Reps K H ρ [x, y] vs) : ∃ v w, vs = [v, w] ∧ Rep K H ρ x v ∧ Rep K H ρ y w := by
  unfold Reps at R
  obtain ⟨v, r, rfl, r1, r2⟩ := R
  obtain ⟨w, rfl, r3⟩ := one_arg r2
  exact ⟨v, w, rfl, r1, r3⟩
/-- a function of one value -/
def a1 (f : F1) : FA := fun xs st => match xs with
  | [x] => f x st
  | _ => none
def a2 (f : F2) : FA := fun xs st => match xs with
  | [x, y] => f x y st
  | _ => none
theorem call1 {K : PySem.W.Frag} {r : List V → Hp → VK → Prop} {f : F1} (hf : ∀ H ρ st x vx z st' (Q : VK), RepS K H ρ st → Rep K H ρ x vx → f x st = some (z, st') → (∀ v H' ρ', Grow H ρ H' ρ' → RepS K H' ρ' st' → Rep K H' ρ' z v → Q v H') → r [vx] H Q) : CallI K r (a1 f) := by
  intro H ρ st xs vs z st' Q S R h q
  unfold a1 at h
  split at h
  · obtain ⟨v, rfl, r1⟩ := one_arg R
    exact hf H ρ st _ v z st' Q S r1 h q
  · cases h
theorem call2 {K : PySem.W.Frag} {r : List V → Hp → VK → Prop} {f : F2} (hf : ∀ H ρ st x y vx vy z st' (Q : VK), RepS K H ρ st → Rep K H ρ x vx → Rep K H ρ y vy → f x y st = some (z, st') → (∀ v H' ρ', Grow H ρ H' ρ' → RepS K H' ρ' st' → Rep K H' ρ' z v → Q v H') → r [vx, vy] H Q) : CallI K r (a2 f) := by
  intro H ρ st xs vs z st' Q S R h q
  unfold a2 at h
  split at h
  · obtain ⟨v, w, rfl, r1, r2⟩ := two_args R
    exact hf H ρ st _ _ v w z st' Q S r1 r2 h q
  · cases h
/-- len -/
def lenP (st : Sto) : PV → Option Nat
  | .str x => if x.length ≤ 100000 then some x.length else none
  | .tup xs => some xs.length
  | .frz xs => some xs.length
  | .ref n => match st[n]? with
    | some (.lst xs) => some xs.length
    | some (.dK kvs) => some kvs.length
    | _ => none
  | _ => none
def fLen : F1 := fun x st => (lenP st x).map fun n : Nat => (.int (n : Int), st)
def rLenA (K : PySem.W.Frag) : List V → Hp → VK → Prop := fun xs H Q => (∃ x n, xs = [x] ∧ LenV K x H n ∧ Q (.int n) H) ∨ ∃ (p : Addr) (kvs : List (Key × V)), xs = [.ref p] ∧ H p = some (.dK kvs) ∧ Q (.int ((kvs.length : Nat) : Int)) H
theorem cr_len : CallR X (.builtin "len") (rLenA X.K) := CallR.or call_len call_lenD
theorem f_len {K : PySem.W.Frag} : CallI K (rLenA K) (a1 fLen) := call1 fun H ρ st x vx z st' Q S R h q => by
  obtain ⟨n, e, hz⟩ := map_some h
  cases hz
  have fin := q (.int n) H ρ Grow.refl S (by unfold Rep; rfl)
  cases x with
  | str y =>
    simp only [lenP] at e
    split at e
    · rename_i hl
      unfold Rep at R
      subst R
      cases e
      exact .inl ⟨_, _, rfl, ⟨line5 hl, rfl⟩, fin⟩
    · cases e
  | tup xs =>
    unfold Rep at R
    obtain ⟨a, vs, rfl, t, r⟩ := R
    cases e
    exact .inl ⟨_, _, rfl, .inr ⟨vs, t, r.length⟩, fin⟩
  | frz xs =>
    unfold Rep at R
    obtain ⟨a, vs, rfl, t, r⟩ := R
    cases e
    exact .inl ⟨_, _, rfl, .inl ⟨vs, t.sq, r.length⟩, fin⟩
  | ref m =>
    unfold Rep at R
    obtain ⟨a, rfl, i1⟩ := R
    simp only [lenP] at e
    split at e
    · rename_i ys e1
      obtain ⟨b1, hb1, vs1, h1, r1⟩ := S.at_ _ _ e1
      rw [i1] at hb1; cases hb1
      cases e
      exact .inl ⟨_, _, rfl, .inl ⟨vs1, .of h1, r1.length⟩, fin⟩
    · rename_i ys e1
      obtain ⟨b1, hb1, vs1, h1, r1⟩ := S.at_ _ _ e1
      rw [i1] at hb1; cases hb1
      cases e
      refine .inr ⟨a, vs1, rfl, h1, ?_⟩
      rw [← r1.length]
      exact fin
    · cases e
  | _ => cases e
/-- tuple(xs), list(xs) -/
def fTuple : F1 := fun x st => (itemsOf st x).map fun xs => (.tup xs, st)
def fList : F1 := fun x st => (itemsOf st x).map fun xs => alloc (.lst xs) st
theorem f_tuple {K : PySem.W.Frag} : CallI K (fun xs H Q => ∃ p ys, xs = [.ref p] ∧ ((SqL K H p ys ∧ ∀ l, H l = none → Q (.ref l) (upd H l (.tup ys))) ∨ (SqT K H p ys ∧ Q (.ref p) H))) (a1 fTuple) := call1 fun H ρ st x vx z st' Q S R h q => by
  obtain ⟨xs, e, hz⟩ := map_some h
  cases hz
  obtain ⟨a, vs, rfl, t, r⟩ := items_rep S R e
  refine ⟨a, vs, rfl, ?_⟩
  rcases t with t | t
  · exact .inl ⟨t, fun p hp => q _ _ ρ (grow_new hp) (S.new hp) (new_tup S r hp)⟩
  · exact .inr ⟨t, q _ H ρ Grow.refl S (by unfold Rep; exact ⟨a, vs, rfl, t, r⟩)⟩
theorem f_list {K : PySem.W.Frag} : CallI K (fun xs H Q => ∃ p ys, xs = [.ref p] ∧ (SqL K H p ys ∨ SqT K H p ys) ∧ ∀ l, H l = none → Q (.ref l) (upd H l (.lst ys))) (a1 fList) := call1 fun H ρ st x vx z st' Q S R h q => by
  obtain ⟨xs, e, hz⟩ := map_some h
  obtain ⟨a, vs, rfl, t, r⟩ := items_rep S R e
  refine ⟨a, vs, rfl, t, fun p hp => ?_⟩
  obtain ⟨b1, b2, b3⟩ := new_lst S r hp
  rw [hz] at b2 b3
  exact q _ _ _ b1 b2 b3
/-- str(n) -/
def fStr : F1 := fun x st => match x with
  | .int i => if i.natAbs < 2 ^ 1000 then some (.str (toString i), st) else none
  | _ => none
theorem f_str {K : PySem.W.Frag} : CallI K (fun xs H Q => ∃ i : Int, xs = [.int i] ∧ i.natAbs.log2 < 1920 ∧ Q (.str (toString i)) H) (a1 fStr) := call1 fun H ρ st x vx z st' Q S R h q => by
  unfold fStr at h
  split at h
  · split at h
    · rename_i hl
      unfold Rep at R
      subst R
      cases h
      exact ⟨_, rfl, Nat.lt_of_lt_of_le (PySem.Flt.log2_lt_of (by decide) hl) (by decide), q _ H ρ Grow.refl S (by unfold Rep; rfl)⟩
    · cases h
  · cases h
/-- int(n), int(b); abs -/
def fInt1 : F1 := fun x st => match x with
  | .int i => some (.int i, st)
  | .bl b => some (.int (if b then 1 else 0), st)
  | _ => none
theorem f_int1 {K : PySem.W.Frag} : CallI K (fun xs H Q => (∃ i, xs = [.int i] ∧ Q (.int i) H) ∨ ∃ k : Bool, xs = [.bl k] ∧ Q (.int (if k then 1 else 0)) H) (a1 fInt1) := call1 fun H ρ st x vx z st' Q S R h q => by
  unfold fInt1 at h
  split at h
  · unfold Rep at R
    subst R
    cases h
    exact .inl ⟨_, rfl, q _ H ρ Grow.refl S (by unfold Rep; rfl)⟩
  · unfold Rep at R
    subst R
    cases h
    exact .inr ⟨_, rfl, q _ H ρ Grow.refl S (by unfold Rep; rfl)⟩
  · cases h
def fAbs : F1 := fun x st => match x with
  | .int i => some (.int (if i < 0 then -i else i), st)
  | _ => none
theorem f_abs {K : PySem.W.Frag} : CallI K (fun xs H Q => ∃ i : Int, xs = [.int i] ∧ Q (.int (if i < 0 then -i else i)) H) (a1 fAbs) := call1 fun H ρ st x vx z st' Q S R h q => by
  unfold fAbs at h
  split at h
  · unfold Rep at R
    subst R
    cases h
    exact ⟨_, rfl, q _ H ρ Grow.refl S (by unfold Rep; rfl)⟩
  · cases h
/-- isinstance -/
def tyName (st : Sto) : PV → Option String
  | .non => some "NoneType"
  | .bl _ => some "bool"
  | .int _ => some "int"
  | .str _ => some "str"
  | .tup _ => some "tuple"
  | .frz _ => some "list"
  | .ref n => match st[n]? with
    | some (.lst _) => some "list"
    | some (.dK _) => some "dict"
    | none => none
  | .ty _ => none
theorem tyName_rep {K : PySem.W.Frag} {H : Hp} {ρ : List Addr} {st : Sto} (S : RepS K H ρ st) {x : PV} {v : V} {n : String} (R : Rep K H ρ x v) (h : tyName st x = some n) : TyX K H v (.type n) := by
  cases x with
  | non => unfold Rep at R; subst R; cases h; exact .base .non
  | bl b => unfold Rep at R; subst R; cases h; exact .base (.bl b)
  | int b => unfold Rep at R; subst R; cases h; exact .base (.int b)
  | str b => unfold Rep at R; subst R; cases h; exact .base (.str b)
  | tup xs =>
    unfold Rep at R
    obtain ⟨a, vs, rfl, t, r⟩ := R
    cases h
    rcases t with (t | ⟨o, t⟩) | ⟨o, its, m, t, c, _⟩
    · exact .base (.tup t)
    · exact .fTuple t
    · exact .kTuple t c
  | frz xs =>
    unfold Rep at R
    obtain ⟨a, vs, rfl, t, r⟩ := R
    cases h
    rcases t.sq with (t | ⟨o, t⟩) | ⟨o, its, m, t, c, _⟩
    · exact .base (.lst t)
    · exact .base (.frz t)
    · exact .kList t c
  | ref m =>
    unfold Rep at R
    obtain ⟨a, rfl, i1⟩ := R
    simp only [tyName] at h
    split at h
    · rename_i ys e1
      obtain ⟨b1, hb1, vs1, h1, r1⟩ := S.at_ _ _ e1
      rw [i1] at hb1; cases hb1
      cases h
      exact .base (.lst h1)
    · rename_i ys e1
      obtain ⟨b1, hb1, vs1, h1, r1⟩ := S.at_ _ _ e1
      rw [i1] at hb1; cases hb1
      cases h
      exact .base (.dK h1)
    · cases h
  | ty n => cases h
def isP (st : Sto) (x y : PV) : Option Bool := match y with
  | .ty m => match tyName st x with
    | some n => kitB n m
    | none => none
  | _ => none
def fIsi : F2 := fun x y st => (isP st x y).map fun b => (.bl b, st)
theorem f_isi {K : PySem.W.Frag} : CallI K (rIsi K) (a2 fIsi) := call2 fun H ρ st x y vx vy z st' Q S Rx Ry h q => by
  obtain ⟨b, e, hz⟩ := map_some h
  cases hz
  unfold isP at e
  split at e
  · split at e
    · rename_i n e1
      unfold Rep at Ry
      subst Ry
      exact ⟨_, _, _, _, b, rfl, .ty _, tyName_rep S Rx e1, kit_ty e, q _ H ρ Grow.refl S (by unfold Rep; rfl)⟩
    · cases e
  · cases e
/-- all, any of a list of truths -/
theorem bls_reps {K : PySem.W.Frag} {H : Hp} {ρ : List Addr} : ∀ {xs : List PV} {vs : List V} {bs : List Bool}, Reps K H ρ xs vs → mapO isBl xs = some bs → vs = bs.map V.bl
  | [], vs, bs, R, h => by
    unfold Reps at R
    subst R
    cases h
    rfl
  | x :: xs, vs, bs, R, h => by
    unfold Reps at R
    obtain ⟨v, r, rfl, r1, r2⟩ := R
    unfold mapO at h
    split at h
    · rename_i e1 e2
      cases h
      cases x <;> simp only [isBl, Option.some.injEq, reduceCtorEq] at e1
      subst e1
      unfold Rep at r1
      rw [r1, bls_reps r2 e2]
      rfl
    · cases h
def blsOf (st : Sto) (x : PV) : Option (List Bool) := match listOf st x with
  | some xs => mapO isBl xs
  | none => none
def fAll : F1 := fun x st => (blsOf st x).map fun bs => (.bl (bs.all id), st)
def fAny : F1 := fun x st => (blsOf st x).map fun bs => (.bl (bs.any id), st)
theorem bls_rep {K : PySem.W.Frag} {H : Hp} {ρ : List Addr} {st : Sto} (S : RepS K H ρ st) {x : PV} {v : V} {bs : List Bool} (R : Rep K H ρ x v) (h : blsOf st x = some bs) : ∃ a, v = .ref a ∧ SqL K H a (bs.map V.bl) := by
  unfold blsOf at h
  split at h
  · rename_i xs e
    obtain ⟨a, vs, rfl, t, r⟩ := list_rep S R e
    rw [bls_reps r h] at t
    exact ⟨a, rfl, t⟩
  · cases h
theorem f_all {K : PySem.W.Frag} : CallI K (rAll K) (a1 fAll) := call1 fun H ρ st x vx z st' Q S R h q => by
  obtain ⟨bs, e, hz⟩ := map_some h
  cases hz
  obtain ⟨a, rfl, t⟩ := bls_rep S R e
  exact ⟨a, bs, rfl, t, q _ H ρ Grow.refl S (by unfold Rep; rfl)⟩
theorem f_any {K : PySem.W.Frag} : CallI K (rAny K) (a1 fAny) := call1 fun H ρ st x vx z st' Q S R h q => by
  obtain ⟨bs, e, hz⟩ := map_some h
  cases hz
  obtain ⟨a, rfl, t⟩ := bls_rep S R e
  exact ⟨a, bs, rfl, t, q _ H ρ Grow.refl S (by unfold Rep; rfl)⟩
/-- repr of a truth -/
def fRepr : F1 := fun x st => match x with
  | .bl b => some (.str (if b then "True" else "False"), st)
  | _ => none
def rReprB : List V → Hp → VK → Prop := fun xs H Q => ∃ b : Bool, xs = [.bl b] ∧ Q (.str (if b then "True" else "False")) H
theorem cr_reprB : CallR X (.builtin "repr") rReprB := by
  intro pins s σ H xs us Q I r h
  obtain ⟨b, rfl, q⟩ := h
  obtain ⟨u, rfl, e⟩ := vals1 r
  cases (show u = Value.bool b from e)
  exact PySem.P.repr_of_bool ⟨.str _, H, I.tok _, ⟨_, rfl⟩, q⟩
theorem f_repr {K : PySem.W.Frag} : CallI K rReprB (a1 fRepr) := call1 fun H ρ st x vx z st' Q S R h q => by
  unfold fRepr at h
  split at h
  · unfold Rep at R
    subst R
    cases h
    exact ⟨_, rfl, q _ H ρ Grow.refl S (by unfold Rep; rfl)⟩
  · cases h
/-- max(xs, default=d), max(xs) of ints -/
def maxI : List Int → Int → Int
  | [], d => d
  | y :: ys, _ => ys.foldl (fun a z => if a < z then z else a) y
def rMaxDef (K : PySem.W.Frag) : List V → List V → Hp → VK → Prop := fun vs zs H Q => ∃ (a : Addr) (ns : List Int) (d : Int), vs = [.ref a] ∧ zs = [.int d] ∧ SqL K H a (ns.map V.int) ∧ Q (.int (maxI ns d)) H
theorem hold_ints {h : Heap} : ∀ {us : List Value} {ns : List Int}, IntsAre us ns → PySem.W.HoldAll h us ns
  | _, _, .nil => PySem.W.HoldAll.nil
  | _, _, .cons _ _ r => PySem.W.HoldAll.cons (PySem.W.holds_int _ _) (hold_ints r)
theorem maxOf_int (y : Int) (ys : List Int) : PySem.W.maxOf y ys = maxI (y :: ys) 0 := by
  unfold PySem.W.maxOf maxI
  congr 1
  funext a z
  show (if decide (a < z) = true then z else a) = _
  by_cases h : a < z
  · rw [if_pos (decide_eq_true h), if_pos h]
  · rw [if_neg (by simpa using h), if_neg h]
theorem cr_maxDef (hc : X.calm = true) (hu : X.A.units + 64 < cLine) : CallRK X (.builtin "max") [Str.ofString "default"] (rMaxDef X.K) := by
  intro pins s σ H vs zs us ws Q I r rz h
  obtain ⟨a, ns, d, rfl, rfl, hs, q⟩ := h
  obtain rfl := Vals.ref1 r
  obtain ⟨w1, rfl, e1⟩ := vals1 rz
  obtain ⟨its, rv, pl, _⟩ := I.list hs
  refine PySem.W.max_list_datum_default (α := Int) (xs := ns) (I.ok.hd hc) pl.isList (hold_ints (by simpa using rv.ints)) (by show X.A.units + 1 + 0 < cLine; omega) (fun e h' tk hk => ?_) fun y ys i v h' tk e hi hm hk => ?_
  · subst e
    obtain ⟨t, rfl⟩ := e1
    exact ⟨.int d, H, I.kept hk, ⟨t, rfl⟩, q⟩
  · subst e
    obtain ⟨as, hr⟩ := hm
    rw [maxOf_int] at hr
    have : ∃ t, v = .int (maxI (y :: ys) 0) t := by
      cases hr
      exact ⟨_, rfl⟩
    obtain ⟨t, rfl⟩ := this
    exact ⟨.int (maxI (y :: ys) 0), H, I.kept hk, ⟨t, rfl⟩, q⟩
def isInt : PV → Option Int
  | .int i => some i
  | _ => none
theorem ints_reps {K : PySem.W.Frag} {H : Hp} {ρ : List Addr} : ∀ {xs : List PV} {vs : List V} {bs : List Int}, Reps K H ρ xs vs → mapO isInt xs = some bs → vs = bs.map V.int
  | [], vs, bs, R, h => by
    unfold Reps at R
    subst R
    cases h
    rfl
  | x :: xs, vs, bs, R, h => by
    unfold Reps at R
    obtain ⟨v, r, rfl, r1, r2⟩ := R
    unfold mapO at h
    split at h
    · rename_i e1 e2
      cases h
      cases x <;> simp only [isInt, Option.some.injEq, reduceCtorEq] at e1
      subst e1
      unfold Rep at r1
      rw [r1, ints_reps r2 e2]
      rfl
    · cases h
def intsOf (st : Sto) (x : PV) : Option (List Int) := match listOf st x with
  | some xs => mapO isInt xs
  | none => none
def iMaxDef (ir ik : IA) : IE := fun env st => ob (ir env st) fun xs s1 => ob (ik env s1) fun zs s2 => match xs, zs with
  | [x], [.int d] => (intsOf s2 x).map fun ns => (.int (maxI ns d), s2)
  | _, _ => none
theorem k_one {e : Expr} {ie : IE} {nm : Option Str} {kpos : Pos} (ha : PE X e (tI X.K ie)) : PK X [⟨nm, e, kpos⟩] (tIA X.K (iCons ie iNil)) := by
  refine ⟨fun pos pins s σ H Q I h => (pk_cons (nm := nm) (kpos := kpos) ha pk_nil).run pos pins s σ H Q I ?_⟩
  obtain ⟨env, st, ρ, z, st', E, S, h, q⟩ := h
  obtain ⟨x, s1, h1, h⟩ := ob_some h
  obtain ⟨xs, s2, h2, h⟩ := ob_some h
  cases h2
  cases h
  exact ⟨env, st, ρ, x, _, E, S, h1, fun v H1 ρ1 G1 S1 R1 => q [v] H1 ρ1 G1 S1 (by unfold Reps; exact ⟨v, [], rfl, R1, by unfold Reps; rfl⟩)⟩
theorem r_maxDef {e : Expr} {es : List Expr} {kws : List Keyword} {p pos : Pos} {ir ik : IA} (hc : X.calm = true) (hu : X.A.units + 64 < cLine) (hg : Gl X "max") (hm : X.mg "max" = none) (hv : bootBuiltins "max" = some (.builtin "max")) (ha : PA X (e :: es) (tIA X.K ir)) (hk : PK X kws (tIA X.K ik))
    (he : backTo pos (starEach (e :: es) X.env) = (false, eval e X.env) :: backTo pos (starEach es X.env) := by rfl) (hpl : (backTo pos (starEach (e :: es) X.env)).any (·.1) = false := by rfl)
    (hall : (backToKw pos (keywordEach kws X.env)).all (·.1.isSome) = true := by rfl) (hnone : (backToKw pos (keywordEach kws X.env)).any (·.1.isNone) = false := by rfl) (hks : (backToKw pos (keywordEach kws X.env)).filterMap (·.1) = [Str.ofString "default"] := by rfl) :
    PE X (.Call (.Name "max" p) (e :: es) kws pos) (tI X.K (iMaxDef ir ik)) :=
  PE.imp (pe_callBK (cr_maxDef hc hu) hg hm hv ha hk (by decide) (by decide) he hpl hall hnone hks) fun σ H Q ⟨env, st, ρ, z, st', E, S, h, q⟩ => by
    obtain ⟨xs, s1, h1, h⟩ := ob_some h
    obtain ⟨zs, s2, h2, h⟩ := ob_some h
    refine ⟨env, st, ρ, xs, s1, E, S, h1, fun vs H1 ρ1 G1 S1 R1 => ⟨env, s1, ρ1, zs, s2, E.grow S G1, S1, h2, fun ws H2 ρ2 G2 S2 R2 => ?_⟩⟩
    split at h
    · rename_i x d hh
      obtain ⟨ns, e, hz⟩ := map_some h
      cases hz
      obtain ⟨v, rfl, r1⟩ := one_arg (Reps.grow S1 G2 _ _ R1)
      obtain ⟨w, rfl, r2⟩ := one_arg R2
      unfold Rep at r2
      subst r2
      unfold intsOf at e
      split at e
      · rename_i ys e1
        obtain ⟨a, us, rfl, t, r⟩ := list_rep S2 r1 e1
        rw [ints_reps r e] at t
        exact ⟨a, ns, d, rfl, rfl, t, q _ H2 ρ2 (G1.trans G2) S2 (by unfold Rep; rfl)⟩
      · cases e
    · cases h
/-- xs[i] = v of a list -/
def fSetL : FSet := fun o i v st => match o, i with
  | .ref n, .int k => match st[n]? with
    | some (.lst xs) => (ixN xs.length k).map fun j => st.set n (.lst (xs.set j v))
    | _ => none
  | _, _ => none
theorem f_setL {K : PySem.W.Frag} : SetI K rSetL fSetL := by
  intro H ρ st o i x vo vi vx st' Q S Ro Ri Rx h q
  unfold fSetL at h
  split at h
  · rename_i n k
    split at h
    · rename_i xs e1
      obtain ⟨j, e, hz⟩ := map_some h
      subst hz
      unfold Rep at Ro Ri
      obtain ⟨a, rfl, i1⟩ := Ro
      subst Ri
      obtain ⟨b1, hb1, vs1, h1, r1⟩ := S.at_ _ _ e1
      rw [i1] at hb1; cases hb1
      have g : Grow H ρ (upd H a (.lst (vs1.set j vx))) ρ := grow_write h1 (List.mem_of_getElem? i1)
      exact ⟨a, vs1, k, j, rfl, rfl, h1, by rw [← r1.length]; exact e, q _ ρ g (S.write (so := .lst (xs.set j x)) i1 h1 ⟨_, upd_same, Reps.grow S g _ _ (Reps.set Rx j r1)⟩)⟩
    · cases h
  · cases h
/-- xs.append(v) -/
def iAppend (io ie : IE) : IE := fun env st => ob (io env st) fun o s1 => match o with
  | .ref n => match s1[n]? with
    | some (.lst _) => ob (ie env s1) fun x s2 => match s2[n]? with
      | some (.lst xs) => if xs.length < 100000 then some (.non, s2.set n (.lst (xs ++ [x]))) else none
      | _ => none
    | _ => none
  | _ => none
end
end IL

namespace IL
open PySem PySem.Spec PyProof.Rows L2

section
variable {X : Cx}
theorem PE.or {e : Expr} {t t' : TE} (h : PE X e t) (h' : PE X e t') : PE X e (fun σ H Q => t σ H Q ∨ t' σ H Q) := ⟨fun pins s σ H Q I q => q.elim (h.run pins s σ H Q I) (h'.run pins s σ H Q I)⟩
/-! ### dicts whose keys are ints and texts -/
def keyP : PV → Option Key
  | .int i => some (.inl i)
  | .str x => some (.inr x)
  | _ => none
theorem key_rep {K : PySem.W.Frag} {H : Hp} {ρ : List Addr} {x : PV} {v : V} {k : Key} (R : Rep K H ρ x v) (h : keyP x = some k) : v = kV k := by
  cases x <;> simp only [keyP, Option.some.injEq, reduceCtorEq] at h <;> (unfold Rep at R; subst R; subst h; rfl)
def findP : List (Key × PV) → Key → Option PV
  | [], _ => none
  | (k', v) :: r, k => if k' = k then some v else findP r k
def putP : List (Key × PV) → Key → PV → List (Key × PV)
  | [], k, v => [(k, v)]
  | (k', w) :: r, k, v => if k' = k then (k', v) :: r else (k', w) :: putP r k v
theorem find_rep {K : PySem.W.Frag} {H : Hp} {ρ : List Addr} {k : Key} : ∀ {xs : List (Key × PV)} {vs : List (Key × V)}, RepK K H ρ xs vs → (∀ x, findP xs k = some x → ∃ v, valV vs k = some v ∧ Rep K H ρ x v) ∧ (findP xs k = none → valV vs k = none)
  | [], vs, R => by
    subst R
    exact ⟨fun x h => (by cases h), fun _ => rfl⟩
  | (k', y) :: xs, vs, R => by
    obtain ⟨v, r, rfl, r1, r2⟩ := R
    obtain ⟨i1, i2⟩ := find_rep (k := k) r2
    unfold findP
    by_cases e : k' = k
    · rw [if_pos e, valV_pos (p := (k', v)) e]
      exact ⟨fun x h => (by cases h; exact ⟨v, rfl, r1⟩), fun h => (by cases h)⟩
    · rw [if_neg e, valV_neg (p := (k', v)) e]
      exact ⟨i1, i2⟩
theorem find_some {K : PySem.W.Frag} {H : Hp} {ρ : List Addr} {k : Key} {xs : List (Key × PV)} {vs : List (Key × V)} (R : RepK K H ρ xs vs) : (findP xs k).isSome = (valV vs k).isSome := by
  obtain ⟨i1, i2⟩ := find_rep (k := k) R
  cases e : findP xs k with
  | none => rw [i2 e]; rfl
  | some x =>
    obtain ⟨v, e2, _⟩ := i1 x e
    rw [e2]; rfl
theorem putK_cons {k' k : Key} {w v : V} {r : List (Key × V)} (nd : ((k', w) :: r).map (·.1) |>.Nodup) : putK ((k', w) :: r) k v = if k' = k then (k', v) :: r else (k', w) :: putK r k v := by
  by_cases e : k' = k
  · subst e
    rw [if_pos rfl]
    unfold putK
    rw [if_pos (by simp)]
    rw [List.map_cons, if_pos rfl]
    congr 1
    have : ∀ p ∈ r, ¬ p.1 = k' := fun p hp z => by
      rw [List.map_cons, List.nodup_cons] at nd
      exact nd.1 (List.mem_map.mpr ⟨p, hp, z⟩)
    conv => rhs; rw [← List.map_id r]
    exact List.map_congr_left fun p hp => if_neg (this p hp)
  · rw [if_neg e]
    unfold putK
    rw [List.any_cons, decide_eq_false e, Bool.false_or]
    by_cases h : (r.any fun kv => decide (kv.1 = k)) = true
    · rw [if_pos h, if_pos h, List.map_cons, if_neg e]
    · rw [if_neg h, if_neg h]; rfl
theorem keys_rep {K : PySem.W.Frag} {H : Hp} {ρ : List Addr} : ∀ {xs : List (Key × PV)} {vs : List (Key × V)}, RepK K H ρ xs vs → vs.map (·.1) = xs.map (·.1)
  | [], vs, R => by subst R; rfl
  | x :: xs, vs, R => by
    obtain ⟨v, r, rfl, _, r2⟩ := R
    rw [List.map_cons, List.map_cons, keys_rep r2]
theorem put_rep {K : PySem.W.Frag} {H : Hp} {ρ : List Addr} {k : Key} {y : PV} {w : V} (Ry : Rep K H ρ y w) : ∀ {xs : List (Key × PV)} {vs : List (Key × V)}, (xs.map (·.1)).Nodup → RepK K H ρ xs vs → RepK K H ρ (putP xs k y) (putK vs k w)
  | [], vs, nd, R => by
    subst R
    exact ⟨w, [], rfl, Ry, rfl⟩
  | (k', z) :: xs, vs, nd, R => by
    have kr := keys_rep R
    obtain ⟨v, r, rfl, r1, r2⟩ := R
    rw [putK_cons (by rw [kr]; exact nd)]
    unfold putP
    by_cases e : k' = k
    · rw [if_pos e, if_pos e]
      exact ⟨w, r, rfl, Ry, r2⟩
    · rw [if_neg e, if_neg e]
      rw [List.map_cons, List.nodup_cons] at nd
      exact ⟨v, _, rfl, r1, put_rep Ry nd.2 r2⟩
def dictOf (st : Sto) : PV → Option (List (Key × PV))
  | .ref n => match st[n]? with
    | some (.dK kvs) => some kvs
    | _ => none
  | _ => none
theorem dict_rep {K : PySem.W.Frag} {H : Hp} {ρ : List Addr} {st : Sto} (S : RepS K H ρ st) {x : PV} {v : V} {kvs : List (Key × PV)} (R : Rep K H ρ x v) (h : dictOf st x = some kvs) : ∃ a vs, v = .ref a ∧ H a = some (.dK vs) ∧ RepK K H ρ kvs vs := by
  cases x with
  | ref n =>
    unfold Rep at R
    obtain ⟨a, rfl, i1⟩ := R
    simp only [dictOf] at h
    split at h
    · rename_i ys e1
      obtain ⟨b1, hb1, vs1, h1, r1⟩ := S.at_ _ _ e1
      rw [i1] at hb1; cases hb1
      cases h
      exact ⟨a, vs1, rfl, h1, r1⟩
    · cases h
  | _ => cases h
/-- o[i]: a list, a tuple, a text, a dict -/
def fSubA : F2 := fun x y st => match dictOf st x with
  | some kvs => match keyP y with
    | some k => (findP kvs k).map fun v => (v, st)
    | none => none
  | none => fIx x y st
variable {a b e i o : Expr} {es rest : List Expr} {pos : Pos} {ia ib ie : IE}
theorem r_sub (hu : X.A.units + 1 < cLine) (ha : PE X a (tI X.K ia)) (hb : PE X b (tI X.K ib)) (hs : PlainIx b) : PE X (.Subscript a b pos) (tI X.K (iBin fSubA ia ib)) :=
  PE.imp (PE.or (pe_ix ix_any ha hb hs) (pe_dget hu ha hb hs)) fun σ H Q ⟨env, st, ρ, z, st', E, S, h, q⟩ => by
    obtain ⟨x, s1, h1, h⟩ := ob_some h
    obtain ⟨y, s2, h2, h⟩ := ob_some h
    unfold fSubA at h
    cases e : dictOf s2 x with
    | none =>
      rw [e] at h
      exact .inl (bin_to (f := fIx) f_ix ⟨env, st, ρ, z, st', E, S, by unfold iBin; rw [h1]; simp only [ob]; rw [h2]; exact h, q⟩)
    | some kvs =>
      rw [e] at h
      simp only at h
      split at h
      · rename_i k e2
        obtain ⟨v, e3, hz⟩ := map_some h
        cases hz
        refine .inr ⟨env, st, ρ, x, s1, E, S, h1, fun vx H1 ρ1 G1 S1 R1 => ⟨env, s1, ρ1, y, _, E.grow S G1, S1, h2, fun vy H2 ρ2 G2 S2 R2 => ?_⟩⟩
        obtain ⟨p, vs, rfl, hp, r⟩ := dict_rep S2 (Rep.grow S1 G2 _ _ R1) e
        obtain ⟨w, hw, rw'⟩ := (find_rep (k := k) r).1 _ e3
        have hk := key_rep R2 e2
        subst hk
        exact ⟨p, w, rfl, by rw [← hw]; exact DGet.k hp, q w H2 ρ2 (G1.trans G2) S2 rw'⟩
      · cases h
/-- in, not in: a list or a tuple of flat things, a dict, a text -/
def inA (st : Sto) (x y : PV) : Option Bool := match dictOf st y with
  | some kvs => match keyP x with
    | some k => some (findP kvs k).isSome
    | none => none
  | none => match x, y with
    | .str i, .str j => some (!(Builtin.Str.occurrences j i 0 j.length 1).isEmpty)
    | _, _ => inP st x y
def fInA : F2 := fun x y st => (inA st x y).map fun b => (.bl b, st)
def fNotInA : F2 := fun x y st => (inA st x y).map fun b => (.bl (!b), st)
def rInS : R2 := fun x y H Q => ∃ i j, x = .str i ∧ y = .str j ∧ Q (.bl (!(Builtin.Str.occurrences j i 0 j.length 1).isEmpty)) H
def rNotInS : R2 := fun x y H Q => ∃ i j, x = .str i ∧ y = .str j ∧ Q (.bl (!(!(Builtin.Str.occurrences j i 0 j.length 1).isEmpty))) H
def rInD2 : R2 := fun y x H Q => ∃ a o, x = .ref a ∧ DGet H a y o ∧ Q (.bl o.isSome) H
def rNotInD2 : R2 := fun y x H Q => ∃ a o, x = .ref a ∧ DGet H a y o ∧ Q (.bl (!o.isSome)) H
theorem op_inD2 (hu : X.A.units + 1 < cLine) : OpR X (compareOp .In) rInD2 := by
  intro pins s σ H x y v u Q I rx ry h
  obtain ⟨a, o, rfl, g, q⟩ := h
  cases ry
  exact d_in hu I g rx fun s3 I3 => ⟨.bl o.isSome, H, I3, rfl, q⟩
theorem op_notInD2 (hu : X.A.units + 1 < cLine) : OpR X (compareOp .NotIn) rNotInD2 := by
  intro pins s σ H x y v u Q I rx ry h
  obtain ⟨a, o, rfl, g, q⟩ := h
  cases ry
  exact d_notIn hu I g rx fun s3 I3 => ⟨.bl (!o.isSome), H, I3, rfl, q⟩
def rInAll (K : PySem.W.Frag) : R2 := fun x y H Q => rIn K false x y H Q ∨ rInD2 x y H Q ∨ rInS x y H Q
def rNotInAll (K : PySem.W.Frag) : R2 := fun x y H Q => rIn K true x y H Q ∨ rNotInD2 x y H Q ∨ rNotInS x y H Q
theorem op_inAll (hu : X.A.units + 1 < cLine) : OpR X (compareOp .In) (rInAll X.K) := OpR.or op_in_seq (OpR.or (op_inD2 hu) op_in_str)
theorem op_notInAll (hu : X.A.units + 1 < cLine) : OpR X (compareOp .NotIn) (rNotInAll X.K) := OpR.or op_notIn_seq (OpR.or (op_notInD2 hu) op_notIn_str)
theorem inA_rep {K : PySem.W.Frag} {H : Hp} {ρ : List Addr} {st : Sto} (S : RepS K H ρ st) {x y : PV} {v w : V} {b : Bool} (Rx : Rep K H ρ x v) (Ry : Rep K H ρ y w) (h : inA st x y = some b) :
    (∃ p xs, w = .ref p ∧ (SqL K H p xs ∨ SqT K H p xs) ∧ flatV v = true ∧ xs.all flatV = true ∧ inV v xs = b) ∨ (∃ a o, w = .ref a ∧ DGet H a v o ∧ o.isSome = b) ∨ ∃ i j, v = .str i ∧ w = .str j ∧ (!(Builtin.Str.occurrences j i 0 j.length 1).isEmpty) = b := by
  unfold inA at h
  split at h
  · rename_i kvs e
    split at h
    · rename_i k e2
      cases h
      obtain ⟨p, vs, rfl, hp, r⟩ := dict_rep S Ry e
      have hk := key_rep Rx e2
      subst hk
      exact .inr (.inl ⟨p, _, rfl, DGet.k hp, (find_some r).symm⟩)
    · cases h
  · split at h
    · cases h
      unfold Rep at Rx Ry
      subst Rx Ry
      exact .inr (.inr ⟨_, _, rfl, rfl, rfl⟩)
    · exact .inl (inP_rep S Rx Ry h)
theorem f_inA {K : PySem.W.Frag} : OpI K (rInAll K) fInA := by
  intro H ρ st x y vx vy z st' Q S Rx Ry h q
  obtain ⟨b, e, hz⟩ := map_some h
  cases hz
  have fin := q (.bl b) H ρ Grow.refl S (by unfold Rep; rfl)
  rcases inA_rep S Rx Ry e with ⟨p, xs, h1, h2, h3, h4, rfl⟩ | ⟨a, o, h1, h2, rfl⟩ | ⟨i, j, h1, h2, rfl⟩
  · exact .inl ⟨p, xs, h1, h2, h3, h4, fin⟩
  · exact .inr (.inl ⟨a, o, h1, h2, fin⟩)
  · exact .inr (.inr ⟨i, j, h1, h2, fin⟩)
theorem f_notInA {K : PySem.W.Frag} : OpI K (rNotInAll K) fNotInA := by
  intro H ρ st x y vx vy z st' Q S Rx Ry h q
  obtain ⟨b, e, hz⟩ := map_some h
  cases hz
  have fin := q (.bl (!b)) H ρ Grow.refl S (by unfold Rep; rfl)
  rcases inA_rep S Rx Ry e with ⟨p, xs, h1, h2, h3, h4, rfl⟩ | ⟨a, o, h1, h2, rfl⟩ | ⟨i, j, h1, h2, rfl⟩
  · exact .inl ⟨p, xs, h1, h2, h3, h4, fin⟩
  · exact .inr (.inl ⟨a, o, h1, h2, fin⟩)
  · exact .inr (.inr ⟨i, j, h1, h2, fin⟩)
/-- o[i] = v: a list, a dict -/
def nodupK (kvs : List (Key × PV)) : Bool := decide (kvs.map (·.1)).Nodup
def fSetA : FSet := fun o i v st => match o with
  | .ref n => match st[n]? with
    | some (.dK kvs) => match keyP i with
      | some k => if nodupK kvs && decide (kvs.length < 100000) then some (st.set n (.dK (putP kvs k v))) else none
      | none => none
    | _ => fSetL o i v st
  | _ => none
def rSetD : TSet := fun o i v H Q => ∃ a H', o = .ref a ∧ DPut H a i v H' ∧ Q H'
theorem set_dict (hu : X.A.units + 1 < cLine) : PSet X rSetD := by
  intro pins s σ H o i v ov iv u Q I ro ri rv h
  obtain ⟨a, H', rfl, g, q⟩ := h
  cases ro
  exact d_setItem hu I g ri rv fun s4 I4 => ⟨H', I4, q⟩
theorem PSet.or {t t' : TSet} (h : PSet X t) (h' : PSet X t') : PSet X (fun o i v H Q => t o i v H Q ∨ t' o i v H Q) := fun pins s σ H o i v ov iv u Q I ro ri rv q =>
  q.elim (h pins s σ H o i v ov iv u Q I ro ri rv) (h' pins s σ H o i v ov iv u Q I ro ri rv)
def rSetA : TSet := fun o i v H Q => rSetL o i v H Q ∨ rSetD o i v H Q
theorem set_any (hu : X.A.units + 1 < cLine) : PSet X rSetA := PSet.or set_list (set_dict hu)
theorem f_setA {K : PySem.W.Frag} : SetI K rSetA fSetA := by
  intro H ρ st o i x vo vi vx st' Q S Ro Ri Rx h q
  unfold fSetA at h
  split at h
  · rename_i n
    split at h
    · rename_i kvs e1
      split at h
      · rename_i k e2
        split at h
        · rename_i hc
          rw [Bool.and_eq_true] at hc
          have nd : (kvs.map (·.1)).Nodup := of_decide_eq_true hc.1
          have hl : kvs.length < 100000 := of_decide_eq_true hc.2
          cases h
          unfold Rep at Ro
          obtain ⟨a, rfl, i1⟩ := Ro
          obtain ⟨b1, hb1, vs1, h1, r1⟩ := S.at_ _ _ e1
          rw [i1] at hb1; cases hb1
          have hk := key_rep Ri e2
          subst hk
          have g : Grow H ρ (upd H a (.dK (putK vs1 k vx))) ρ := grow_write h1 (List.mem_of_getElem? i1)
          exact .inr ⟨a, _, rfl, .inl ⟨vs1, k, h1, rfl, line6 (by rw [← r1.length]; exact hl), rfl⟩, q _ ρ g (S.write (so := .dK (putP kvs k x)) i1 h1 ⟨_, upd_same, RepK.grow S g _ _ (put_rep Rx nd r1)⟩)⟩
        · cases h
      · cases h
    · exact .inl (f_setL H ρ st _ i x vo vi vx st' Q S Ro Ri Rx h q)
  · cases h
/-- {k: v, ..} -/
abbrev IP := PEnv → Sto → Option (List (PV × PV) × Sto)
def iPNil : IP := fun _ st => some ([], st)
def iPCons (ik iv : IE) (ip : IP) : IP := fun env st => ob (ik env st) fun k s1 => ob (iv env s1) fun v s2 => ob (ip env s2) fun ps s3 => some ((k, v) :: ps, s3)
def keysP : List (PV × PV) → Option (List (Key × PV))
  | [] => some []
  | (k, v) :: r => match keyP k, keysP r with
    | some k', some r' => some ((k', v) :: r')
    | _, _ => none
def mergeP (kvs more : List (Key × PV)) : List (Key × PV) := more.foldl (fun acc kv => putP acc kv.1 kv.2) kvs
def iDict (ip : IP) : IE := fun env st => ob (ip env (st ++ [.dK []])) fun ps s1 => match keysP ps, s1[st.length]? with
  | some kvs, some (.dK []) => if kvs.length ≤ 15 then some (.ref st.length, s1.set st.length (.dK (mergeP [] kvs))) else none
  | _, _ => none
/-- the pairs' readings -/
inductive TPs (K : PySem.W.Frag) : List (TE × TE) → IP → Prop where
  | nil : TPs K [] iPNil
  | cons {ik iv : IE} {r : List (TE × TE)} {ip : IP} (h : TPs K r ip) : TPs K ((tI K ik, tI K iv) :: r) (iPCons ik iv ip)
def RepPs (K : PySem.W.Frag) (H : Hp) (ρ : List Addr) : List (PV × PV) → List (V × V) → Prop
  | [], vs => vs = []
  | x :: xs, vs => ∃ v w r, vs = (v, w) :: r ∧ Rep K H ρ x.1 v ∧ Rep K H ρ x.2 w ∧ RepPs K H ρ xs r
theorem RepPs.grow {K : PySem.W.Frag} {H H' : Hp} {ρ ρ' : List Addr} {st : Sto} (S : RepS K H ρ st) (g : Grow H ρ H' ρ') : ∀ {xs : List (PV × PV)} {vs : List (V × V)}, RepPs K H ρ xs vs → RepPs K H' ρ' xs vs
  | [], _, h => h
  | x :: xs, _, h => by
    obtain ⟨v, w, r, e, h1, h2, h3⟩ := h
    exact ⟨v, w, r, e, Rep.grow S g _ _ h1, Rep.grow S g _ _ h2, RepPs.grow S g h3⟩
theorem tps_to {K : PySem.W.Frag} {trs : List (TE × TE)} {ip : IP} (T : TPs K trs ip) : ∀ {σ : L2.St} {H : Hp} {ρ : List Addr} {env : PEnv} {st st' : Sto} {ps : List (PV × PV)} {Q : List (V × V) → Hp → Prop}, RepE K H ρ env σ → RepS K H ρ st → ip env st = some (ps, st') →
    (∀ vs H' ρ', Grow H ρ H' ρ' → RepS K H' ρ' st' → RepPs K H' ρ' ps vs → Q vs H') → tPairs trs σ H Q := by
  induction T with
  | nil =>
    intro σ H ρ env st st' ps Q E S h q
    cases h
    exact q [] H ρ Grow.refl S rfl
  | cons T ih =>
    intro σ H ρ env st st' ps Q E S h q
    obtain ⟨k, s1, h1, h⟩ := ob_some h
    obtain ⟨v, s2, h2, h⟩ := ob_some h
    obtain ⟨r, s3, h3, h⟩ := ob_some h
    cases h
    refine ⟨env, st, ρ, k, s1, E, S, h1, fun vk H1 ρ1 G1 S1 R1 => ⟨env, s1, ρ1, v, s2, E.grow S G1, S1, h2, fun vv H2 ρ2 G2 S2 R2 => ?_⟩⟩
    refine ih ((E.grow S G1).grow S1 G2) S2 h3 fun vs H3 ρ3 G3 S3 R3 => q _ H3 ρ3 ((G1.trans G2).trans G3) S3 ⟨vk, vv, vs, rfl, Rep.grow S2 G3 _ _ (Rep.grow S1 G2 _ _ R1), Rep.grow S2 G3 _ _ R2, R3⟩
theorem keysP_rep {K : PySem.W.Frag} {H : Hp} {ρ : List Addr} : ∀ {ps : List (PV × PV)} {vs : List (V × V)} {kvs : List (Key × PV)}, RepPs K H ρ ps vs → keysP ps = some kvs → ∃ ws, vs = ws.map (fun kv => (kV kv.1, kv.2)) ∧ RepK K H ρ kvs ws
  | [], vs, kvs, R, h => by
    cases h
    exact ⟨[], R, rfl⟩
  | (k, v) :: ps, vs, kvs, R, h => by
    obtain ⟨vk, w, r, rfl, r1, r2, r3⟩ := R
    unfold keysP at h
    split at h
    · rename_i k' r' e1 e2
      cases h
      obtain ⟨ws, rfl, r4⟩ := keysP_rep r3 e2
      have := key_rep r1 e1
      subst this
      exact ⟨(k', w) :: ws, rfl, w, ws, rfl, r2, r4⟩
    · cases h
theorem putP_keys (k : Key) (v : PV) : ∀ kvs : List (Key × PV), (kvs.map (·.1)).Nodup → ((putP kvs k v).map (·.1)).Nodup ∧ ∀ z, z ∈ (putP kvs k v).map (·.1) → z = k ∨ z ∈ kvs.map (·.1)
  | [], _ => ⟨by simp [putP], fun z h => by simp [putP] at h; exact .inl h⟩
  | (k', w) :: r, nd => by
    unfold putP
    rw [List.map_cons, List.nodup_cons] at nd
    by_cases e : k' = k
    · rw [if_pos e]
      exact ⟨by rw [List.map_cons, List.nodup_cons]; exact nd, fun z h => .inr h⟩
    · rw [if_neg e]
      obtain ⟨i1, i2⟩ := putP_keys k v r nd.2
      refine ⟨?_, fun z h => ?_⟩
      · rw [List.map_cons, List.nodup_cons]
        exact ⟨fun h => by
          rcases i2 _ h with z | z
          · exact e z
          · exact nd.1 z, i1⟩
      · rw [List.map_cons, List.mem_cons] at h
        rcases h with h | h
        · exact .inr (by rw [h]; exact List.mem_cons_self)
        · rcases i2 z h with z1 | z1
          · exact .inl z1
          · exact .inr (List.mem_cons_of_mem _ z1)
theorem merge_rep {K : PySem.W.Frag} {H : Hp} {ρ : List Addr} : ∀ {more kvs : List (Key × PV)} {ms ws : List (Key × V)}, (kvs.map (·.1)).Nodup → RepK K H ρ more ms → RepK K H ρ kvs ws → RepK K H ρ (mergeP kvs more) (mergeK ws ms)
  | [], _, _, _, _, Rm, R => by subst Rm; exact R
  | x :: more, kvs, _, ws, nd, Rm, R => by
    obtain ⟨v, r, rfl, r1, r2⟩ := Rm
    show RepK K H ρ (mergeP (putP kvs x.1 x.2) more) (mergeK (putK ws x.1 v) r)
    exact merge_rep (more := more) (ms := r) (putP_keys _ _ _ nd).1 r2 (put_rep r1 nd R)
theorem r_dict {keys : List (Option Expr)} {values : List Expr} {trs : List (TE × TE)} {ip : IP} (T : TPs X.K trs ip) (h : PPs X pos keys values trs) (hall : keys.all (·.isSome) = true) (hl : keys.length = values.length) (h0 : keys ≠ []) (h15 : keys.length ≤ 15) :
    PE X (.Dict keys values pos) (tI X.K (iDict ip)) := PE.imp (pe_disp h hall hl h0 h15) fun σ H Q ⟨env, st, ρ, z, st', E, S, h, q⟩ p hp => by
  obtain ⟨ps, s1, h1, h⟩ := ob_some h
  split at h
  · rename_i kvs e1 e2
    split at h
    · rename_i h15
      cases h
      have g0 : Grow H ρ (upd H p (.dK [])) (ρ ++ [p]) := grow_alloc hp
      have S0 : RepS X.K (upd H p (.dK [])) (ρ ++ [p]) (st ++ [.dK []]) := S.alloc (so := .dK []) hp ⟨[], upd_same, rfl⟩
      refine tps_to T (E.grow S g0) S0 h1 fun vs H2 ρ2 G2 S2 R2 => ?_
      have ix : ρ2[st.length]? = some p := G2.ix (by rw [← S.len, List.getElem?_append_right (Nat.le_refl _)]; simp)
      obtain ⟨b1, hb1, us, h2, r2⟩ := S2.at_ _ _ e2
      rw [ix] at hb1; cases hb1
      have hus : us = [] := r2
      subst hus
      obtain ⟨ws, rfl, r4⟩ := keysP_rep R2 e1
      have gw : Grow H2 ρ2 (upd H2 p (.dK (mergeK [] ws))) ρ2 := grow_write h2 (List.mem_of_getElem? ix)
      refine ⟨h2, ws, rfl, by rw [← r4.length]; exact h15, q _ _ ρ2 (g0.trans (G2.trans gw)) (S2.write (so := .dK (mergeP [] kvs)) ix h2 ⟨_, upd_same, RepK.grow S2 gw _ _ (merge_rep (by simp) r4 rfl)⟩) ?_⟩
      unfold Rep
      exact ⟨p, rfl, ix⟩
    · cases h
  · cases h
theorem r_dict0 : PE X (.Dict [] [] pos) (tI X.K (fun _ st => some (alloc (.dK []) st))) := PE.imp pe_dnewK fun σ H Q ⟨env, st, ρ, z, st', E, S, h, q⟩ p hp => by
  have e := Option.some.inj h
  have g0 : Grow H ρ (upd H p (.dK [])) (ρ ++ [p]) := grow_alloc hp
  have S0 : RepS X.K (upd H p (.dK [])) (ρ ++ [p]) (st ++ [.dK []]) := S.alloc (so := .dK []) hp ⟨[], upd_same, rfl⟩
  unfold alloc at e
  cases e
  refine q _ _ _ g0 S0 ?_
  unfold Rep
  exact ⟨p, rfl, by rw [← S.len, List.getElem?_append_right (Nat.le_refl _)]; simp⟩
/-- xs.append(v) -/
theorem r_append {apos cpos : Pos} (ho : PE X o (tI X.K ia)) (he : PE X e (tI X.K ib))
    (hbase : attributeBase o "append" X.env (eval o X.env) = eval o X.env := by rfl)
    (hfew : ((backTo cpos (starEach (e :: []) X.env)).all (fun x => !x.1) && (backToKw cpos (keywordEach [] X.env)).all (fun x => x.1.isSome)
      && decide ((e :: []).length + ([] : List Keyword).length + (if ([] : List Keyword).isEmpty then 0 else 1) < 30)) = true := by rfl)
    (hline : (apos.endLine == cpos.line) = true := by rfl) (hs : starEach (e :: []) X.env = (false, eval e X.env) :: starEach [] X.env := by rfl) (hplain : (backTo cpos (starEach [] X.env)).any (·.1) = false := by rfl) :
    PE X (.Call (.Attribute o "append" apos) [e] [] cpos) (tI X.K (iAppend ia ib)) :=
  PE.imp (pe_bm PySem.F.plainAttrs_list PySem.F.slot_list_append PySem.F.type_list_append mt_append ho (pa_cons he pa_nil hs) hbase hfew hline hs hplain) fun σ H Q ⟨env, st, ρ, z, st', E, S, h, q⟩ => by
    obtain ⟨x, s1, h1, h⟩ := ob_some h
    refine ⟨env, st, ρ, x, s1, E, S, h1, fun vx H1 ρ1 G1 S1 R1 => ?_⟩
    split at h
    · rename_i n
      split at h
      · rename_i ws e0
        obtain ⟨y, s2, h2, h⟩ := ob_some h
        split at h
        · rename_i xs e1
          split at h
          · rename_i hl
            cases h
            unfold Rep at R1
            obtain ⟨a, rfl, i1⟩ := R1
            refine ⟨?_, env, s1, ρ1, y, s2, E.grow S G1, S1, h2, fun vy H2 ρ2 G2 S2 R2 => ?_⟩
            · obtain ⟨b1, hb1, vs1, h3, r1⟩ := S1.at_ _ _ e0
              rw [i1] at hb1; cases hb1
              exact .inl ⟨rfl, vs1, .of h3⟩
            · have i2 := G2.ix i1
              obtain ⟨b1, hb1, vs1, h3, r1⟩ := S2.at_ _ _ e1
              rw [i2] at hb1; cases hb1
              have g : Grow H2 ρ2 (upd H2 a (.lst (vs1 ++ [vy]))) ρ2 := grow_write h3 (List.mem_of_getElem? i2)
              refine ⟨a, vs1, vy, rfl, rfl, h3, line6 (by rw [← r1.length]; exact hl), q .non _ ρ2 ((G1.trans G2).trans g) (S2.write (so := .lst (xs ++ [y])) i2 h3 ⟨_, upd_same, Reps.grow S2 g _ _ (Reps.append r1 (by unfold Reps; exact ⟨vy, [], rfl, R2, by unfold Reps; rfl⟩))⟩) (by unfold Rep; rfl)⟩
          · cases h
        · cases h
      · cases h
    · cases h
end
end IL

/-! What the plain functions compute, as rules for simp. -/
namespace IL
open PySem PySem.Spec PyProof.Rows L2

section
variable {α β : Type} {a : α} {s s1 s2 st : Sto} {k : α → Sto → Option β} {env : PEnv} {x y z v : PV} {xs ys : List PV} {ia ib ic ie : IE} {ir ir' : IA} {t u : IT} {i j : Nat} {f g : F2} {p q : IS} {m n : Int}
@[simp] theorem ob_s : ob (some (a, s)) k = k a s := rfl
@[simp] theorem ob_n : ob (none : Option (α × Sto)) k = none := rfl
@[simp] theorem iVar_e : iVar i env st = match env[i]? with
  | some (some v) => some (v, st)
  | _ => none := rfl
@[simp] theorem iC_e : iC v env st = some (v, st) := rfl
@[simp] theorem iBin_e : iBin f ia ib env st = ob (ia env st) fun x s1 => ob (ib env s1) fun y s2 => f x y s2 := rfl
@[simp] theorem iUn_e {f : F1} : iUn f ia env st = ob (ia env st) fun x s1 => f x s1 := rfl
@[simp] theorem iChain_e : iChain f g ia ib ic env st = ob (ia env st) fun x s1 => ob (ib env s1) fun y s2 => ob (f x y s2) fun z s3 => match z with
  | .bl true => ob (ic env s3) fun w s4 => g y w s4
  | .bl false => some (.bl false, s3)
  | _ => none := rfl
@[simp] theorem iTest_e : iTest ia env st = ob (ia env st) fun x s1 => (tru s1 x).map fun k => (k, s1) := rfl
@[simp] theorem iTestB_e : iTestB ia env st = ob (ia env st) fun x s1 => (isBl x).map fun k => (k, s1) := rfl
@[simp] theorem isBl_e {b : Bool} : isBl (.bl b) = some b := rfl
@[simp] theorem tru_bl {b : Bool} : tru st (.bl b) = some b := rfl
@[simp] theorem tru_int : tru st (.int m) = some (m != 0) := rfl
@[simp] theorem tru_tup : tru st (.tup xs) = some (!xs.isEmpty) := rfl
@[simp] theorem tru_non : tru st .non = some false := rfl
@[simp] theorem iAnd_e : iAnd t u env st = ob (t env st) fun k s1 => match k with
  | true => u env s1
  | false => some (false, s1) := rfl
@[simp] theorem iOr_e : iOr t u env st = ob (t env st) fun k s1 => match k with
  | true => some (true, s1)
  | false => u env s1 := rfl
@[simp] theorem iNot_e : iNot t env st = ob (t env st) fun k s1 => some (!k, s1) := rfl
@[simp] theorem iAndV_e : iAndV ia ib env st = ob (ia env st) fun x s1 => match tru s1 x with
  | some true => ib env s1
  | some false => some (x, s1)
  | none => none := rfl
@[simp] theorem iOrV_e : iOrV ia ib env st = ob (ia env st) fun x s1 => match tru s1 x with
  | some true => some (x, s1)
  | some false => ib env s1
  | none => none := rfl
@[simp] theorem iNotV_e : iNotV ia env st = ob (ia env st) fun x s1 => (tru s1 x).map fun k => (.bl (!k), s1) := rfl
@[simp] theorem iIf_e : iIf t ia ib env st = ob (t env st) fun k s1 => match k with
  | true => ia env s1
  | false => ib env s1 := rfl
@[simp] theorem iNil_e : iNil env st = some ([], st) := rfl
@[simp] theorem iCons_e : iCons ia ir env st = ob (ia env st) fun x s1 => ob (ir env s1) fun xs s2 => some (x :: xs, s2) := rfl
@[simp] theorem iTup_e : iTup ir env st = ob (ir env st) fun xs s1 => if xs.length ≤ 100000 then some (.tup xs, s1) else none := rfl
@[simp] theorem iLst_e : iLst ir env st = ob (ir env st) fun xs s1 => if xs.length ≤ 100000 then some (.ref s1.length, s1 ++ [.lst xs]) else none := rfl
@[simp] theorem iNo_e : iNo env st = some (none, st) := rfl
@[simp] theorem iPart_e : iPart ia env st = ob (ia env st) fun x s1 => match x with
  | .int i => some (some i, s1)
  | _ => none := rfl
@[simp] theorem iSl_e {h : FSl} {lo hi : IO} : iSl h ia lo hi env st = ob (ia env st) fun x s1 => ob (lo env s1) fun l s2 => ob (hi env s2) fun u s3 => h x l u s3 := rfl
@[simp] theorem iCall_e {h : FA} : iCall h ir env st = ob (ir env st) fun xs s1 => h xs s1 := rfl
@[simp] theorem iSkip_e : iSkip env st = some (.nx env st) := rfl
@[simp] theorem iSeq_e : iSeq p q env st = match p env st with
  | some (.nx e s) => q e s
  | o => o := rfl
@[simp] theorem iDrop_e : iDrop ie env st = ob (ie env st) fun _ s => some (.nx env s) := rfl
@[simp] theorem iRet_e : iRet ie env st = ob (ie env st) fun x s => some (.rt x s) := rfl
@[simp] theorem iIfS_e : iIfS t p q env st = ob (t env st) fun k s => match k with
  | true => p env s
  | false => q env s := rfl
@[simp] theorem iAsg_e {h : IG} : iAsg h ie env st = ob (ie env st) fun x s => match h x env s with
  | some env' => some (.nx env' s)
  | none => none := rfl
@[simp] theorem gN_e : gN i x env st = some (env.set i (some x)) := rfl
@[simp] theorem gNs_e : gNs [] env st = some env := rfl
@[simp] theorem gCs_e {h : IG} {hs : IGs} : gCs h hs (x :: xs) env st = match h x env st with
  | some env1 => hs xs env1 st
  | none => none := rfl
@[simp] theorem gT_e {hs : IGs} {n : Nat} : gT n hs (.tup xs) env st = if xs.length = n then hs xs env st else none := rfl
@[simp] theorem iPar_e : iPar i j ir env st = ob (ir env st) fun xs s => match xs with
  | [x, y] => some (.nx ((env.set i (some x)).set j (some y)) s)
  | _ => none := rfl
@[simp] theorem iSetIx_e {h : FSet} : iSetIx h ia ib ie env st = ob (ie env st) fun x s1 => ob (ia env s1) fun o s2 => ob (ib env s2) fun i s3 => (h o i x s3).map fun s4 => .nx env s4 := rfl
@[simp] theorem iWalk_e : iWalk ie env st = ob (ie env st) fun x s => match x with
  | .str y => some (srcS y, s)
  | .tup xs => some (srcT xs, s)
  | .frz xs => some (srcT xs, s)
  | .ref n => match s[n]? with
    | some (.lst xs) => some (srcL n xs.length, s)
    | _ => none
  | _ => none := rfl
@[simp] theorem iFor_e {ii : II} {h : IG} : iFor ii h p env st = ob (ii env st) fun src s => loop src.at_ h p (src.n + 1) 0 env s := rfl
@[simp] theorem iAugAdd_e : iAugAdd i ie env st = match env[i]? with
  | some (some (.int a)) => ob (ie env st) fun y s => match y with
    | .int b => some (.nx (env.set i (some (.int (a + b)))) s)
    | _ => none
  | _ => none := rfl
@[simp] theorem iYes_e : iYes env st = some (true, st) := rfl
@[simp] theorem a1_e {h : F1} : a1 h [x] st = h x st := rfl
@[simp] theorem a2_e {h : F2} : a2 h [x, y] st = h x y st := rfl
/-! ### operations -/
@[simp] theorem fAdd_i : fAdd (.int m) (.int n) st = some (.int (m + n), st) := rfl
@[simp] theorem fAdd_t : fAdd (.tup xs) (.tup ys) st = if xs.length + ys.length ≤ 100000 then some (.tup (xs ++ ys), st) else none := rfl
@[simp] theorem fAdd_s {a b : Str} : fAdd (.str a) (.str b) st = if a.length + b.length ≤ 100000 then some (.str (a ++ b), st) else none := rfl
@[simp] theorem fSub_i : fSub (.int m) (.int n) st = some (.int (m - n), st) := rfl
@[simp] theorem fMul_i : fMul (.int m) (.int n) st = if cMul m n then some (.int (m * n), st) else none := rfl
@[simp] theorem fDiv_i : fDiv (.int m) (.int n) st = if cDiv m n then some (.int (m.fdiv n), st) else none := rfl
@[simp] theorem fMod_i : fMod (.int m) (.int n) st = if decide (n ≠ 0) then some (.int (m.fmod n), st) else none := rfl
@[simp] theorem fNeg_i : fNeg (.int m) st = some (.int (-m), st) := rfl
@[simp] theorem fLt_i : fLt (.int m) (.int n) st = some (.bl (decide (m < n)), st) := rfl
@[simp] theorem fLe_i : fLe (.int m) (.int n) st = some (.bl (decide (m ≤ n)), st) := rfl
@[simp] theorem fGt_i : fGt (.int m) (.int n) st = some (.bl (decide (n < m)), st) := rfl
@[simp] theorem fGe_i : fGe (.int m) (.int n) st = some (.bl (decide (n ≤ m)), st) := rfl
@[simp] theorem fLt_s {a b : Str} : fLt (.str a) (.str b) st = some (.bl (ltS a b), st) := rfl
@[simp] theorem fLe_s {a b : Str} : fLe (.str a) (.str b) st = some (.bl (!ltS b a), st) := rfl
@[simp] theorem fEq_e : fEq x y st = (eqP st x y).map fun b => (.bl b, st) := rfl
@[simp] theorem fNe_e : fNe x y st = (eqP st x y).map fun b => (.bl (!b), st) := rfl
@[simp] theorem fIs_n : fIs x .non st = some (.bl (isNone x), st) := rfl
@[simp] theorem fIs_b {b : Bool} : fIs x (.bl b) st = some (.bl (isBool b x), st) := rfl
@[simp] theorem fIsNot_n : fIsNot x .non st = some (.bl (!isNone x), st) := rfl
@[simp] theorem fIsNot_b {b : Bool} : fIsNot x (.bl b) st = some (.bl (!isBool b x), st) := rfl
@[simp] theorem isBool_b {b c : Bool} : isBool b (.bl c) = (c == b) := rfl
@[simp] theorem isBool_t {b : Bool} : isBool b (.tup xs) = false := rfl
@[simp] theorem isBool_s {b : Bool} {a : Str} : isBool b (.str a) = false := rfl
@[simp] theorem isBool_n {b : Bool} : isBool b .non = false := rfl
@[simp] theorem isNone_n : isNone .non = true := rfl
@[simp] theorem isNone_t : isNone (.tup xs) = false := rfl
@[simp] theorem isNone_s {a : Str} : isNone (.str a) = false := rfl
@[simp] theorem isNone_b {b : Bool} : isNone (.bl b) = false := rfl
theorem eqP_s {a b : Str} : eqP st (.str a) (.str b) = if PyData.strOk a && PyData.strOk b then some (a == b) else none := by
  show (if SeqAt.shaped (.str a) && SeqAt.shaped (.str b) then some (PyData.eqv (.str a) (.str b)) else none) = _
  have e : ∀ c : Str, SeqAt.shaped (.str c) = PyData.strOk c := fun c => by
    unfold SeqAt.shaped
    show (PyData.canLay0 (.str c) && decide (PyData.depth (.str c) ≤ 64)) = _
    have h1 : PyData.canLay0 (.str c) = PyData.strOk c := by simp [PyData.canLay0]
    have h2 : PyData.depth (.str c) = 0 := by simp [PyData.depth]
    rw [h1, h2]
    simp
  rw [e, e]
  have h3 : PyData.eqv (.str a) (.str b) = (a == b) := by simp [PyData.eqv]
  rw [h3]
@[simp] theorem eqP_i : eqP st (.int m) (.int n) = some (m == n) := by
  show (if SeqAt.shaped (.int m) && SeqAt.shaped (.int n) then some (PyData.eqv (.int m) (.int n)) else none) = _
  have e : ∀ c : Int, SeqAt.shaped (.int c) = true := fun c => by simp [SeqAt.shaped, PyData.canLay0, PyData.depth]
  have h3 : PyData.eqv (.int m) (.int n) = (m == n) := by simp [PyData.eqv]
  rw [e, e, h3]; rfl
@[simp] theorem eqP_b {a b : Bool} : eqP st (.bl a) (.bl b) = some (a == b) := by
  show (if SeqAt.shaped (.bool a) && SeqAt.shaped (.bool b) then some (PyData.eqv (.bool a) (.bool b)) else none) = _
  have e : ∀ c : Bool, SeqAt.shaped (.bool c) = true := fun c => by simp [SeqAt.shaped, PyData.canLay0, PyData.depth]
  have h3 : PyData.eqv (.bool a) (.bool b) = (a == b) := by simp [PyData.eqv]
  rw [e, e, h3]; rfl
@[simp] theorem fLen_t : fLen (.tup xs) st = some (.int xs.length, st) := rfl
@[simp] theorem fLen_f : fLen (.frz xs) st = some (.int xs.length, st) := rfl
@[simp] theorem fLen_s {a : Str} : fLen (.str a) st = (if a.length ≤ 100000 then some (.int (a.length : Int), st) else none) := by
  unfold fLen lenP
  by_cases h : a.length ≤ 100000
  · simp only [if_pos h]; rfl
  · simp only [if_neg h]; rfl
theorem fLen_l {n : Nat} (h : st[n]? = some (.lst xs)) : fLen (.ref n) st = some (.int xs.length, st) := by
  unfold fLen lenP
  simp only [h]
  rfl
theorem fLen_d {n : Nat} {kvs : List (Key × PV)} (h : st[n]? = some (.dK kvs)) : fLen (.ref n) st = some (.int kvs.length, st) := by
  unfold fLen lenP
  simp only [h]
  rfl
@[simp] theorem fTuple_e : fTuple x st = (itemsOf st x).map fun xs => (.tup xs, st) := rfl
@[simp] theorem fList_e : fList x st = (itemsOf st x).map fun xs => (.ref st.length, st ++ [.lst xs]) := rfl
@[simp] theorem itemsOf_t : itemsOf st (.tup xs) = some xs := rfl
@[simp] theorem itemsOf_f : itemsOf st (.frz xs) = some xs := rfl
@[simp] theorem itemsOf_r {n : Nat} : itemsOf st (.ref n) = match st[n]? with
    | some (.lst xs) => some xs
    | _ => none := rfl
@[simp] theorem listOf_r {n : Nat} : listOf st (.ref n) = match st[n]? with
    | some (.lst xs) => some xs
    | _ => none := rfl
@[simp] theorem dictOf_t : dictOf st (.tup xs) = none := rfl
@[simp] theorem dictOf_f : dictOf st (.frz xs) = none := rfl
@[simp] theorem dictOf_s {a : Str} : dictOf st (.str a) = none := rfl
@[simp] theorem dictOf_r {n : Nat} : dictOf st (.ref n) = match st[n]? with
    | some (.dK kvs) => some kvs
    | _ => none := rfl
@[simp] theorem fInt1_i : fInt1 (.int m) st = some (.int m, st) := rfl
@[simp] theorem fInt1_b {b : Bool} : fInt1 (.bl b) st = some (.int (if b then 1 else 0), st) := rfl
@[simp] theorem fAbs_i : fAbs (.int m) st = some (.int (if m < 0 then -m else m), st) := rfl
@[simp] theorem fStr_i : fStr (.int m) st = if m.natAbs < 2 ^ 1000 then some (.str (toString m), st) else none := rfl
@[simp] theorem fRepr_b {b : Bool} : fRepr (.bl b) st = some (.str (if b then "True" else "False"), st) := rfl
@[simp] theorem fSubA_t : fSubA (.tup xs) (.int m) st = (atI xs m).map fun v => (v, st) := rfl
theorem fSubA_l {n : Nat} (h : st[n]? = some (.lst xs)) : fSubA (.ref n) (.int m) st = (atI xs m).map fun v => (v, st) := by
  have e1 : dictOf st (.ref n) = none := by simp only [dictOf_r, h]
  unfold fSubA
  rw [e1]
  show (match itemsOf st (.ref n) with
      | some xs => (atI xs m).map fun v => (v, st)
      | none => none) = _
  rw [itemsOf_r, h]
theorem fSubA_d {n : Nat} {kvs : List (Key × PV)} (h : st[n]? = some (.dK kvs)) {k : Key} (hk : keyP y = some k) : fSubA (.ref n) y st = (findP kvs k).map fun v => (v, st) := by
  have e1 : dictOf st (.ref n) = some kvs := by simp only [dictOf_r, h]
  unfold fSubA
  rw [e1, hk]
theorem at_nat {α : Type} {xs : List α} {i : Nat} {x : α} (h : xs[i]? = some x) : atI xs (i : Int) = some x := atI_nat h
@[simp] theorem atI_0 {α : Type} {x : α} {xs : List α} : atI (x :: xs) 0 = some x := at_nat (i := 0) rfl
@[simp] theorem atI_1 {α : Type} {x y : α} {xs : List α} : atI (x :: y :: xs) 1 = some y := at_nat (i := 1) rfl
@[simp] theorem atI_2 {α : Type} {x y z : α} {xs : List α} : atI (x :: y :: z :: xs) 2 = some z := at_nat (i := 2) rfl
@[simp] theorem atI_3 {α : Type} {x y z w : α} {xs : List α} : atI (x :: y :: z :: w :: xs) 3 = some w := at_nat (i := 3) rfl
theorem atI_in {α : Type} {xs : List α} {i : Int} (h0 : 0 ≤ i) (h1 : i < xs.length) : ∃ x, x ∈ xs ∧ atI xs i = some x := by
  obtain ⟨k, rfl⟩ := Int.eq_ofNat_of_zero_le h0
  have hk : k < xs.length := by omega
  exact ⟨xs[k], List.getElem_mem hk, at_nat (List.getElem?_eq_getElem hk)⟩
theorem atI_out {α : Type} {xs : List α} {i : Int} (h : ¬ (-(xs.length : Int) ≤ i ∧ i < xs.length)) : atI xs i = none := by
  unfold atI ixN
  split
  · rw [if_neg (by omega)]; rfl
  · rw [if_neg (by omega)]; rfl
@[simp] theorem iMaxDef_e : iMaxDef ir ir' env st = ob (ir env st) fun xs s1 => ob (ir' env s1) fun zs s2 => match xs, zs with
  | [x], [.int d] => (intsOf s2 x).map fun ns => (.int (maxI ns d), s2)
  | _, _ => none := rfl
@[simp] theorem fIsi_e : fIsi x y st = (isP st x y).map fun b => (.bl b, st) := rfl
theorem kb_tt : kitB "tuple" "tuple" = some true := by decide +kernel
theorem kb_st : kitB "str" "tuple" = some false := by decide +kernel
theorem kb_nt : kitB "NoneType" "tuple" = some false := by decide +kernel
theorem kb_bt : kitB "bool" "tuple" = some false := by decide +kernel
theorem kb_it : kitB "int" "tuple" = some false := by decide +kernel
@[simp] theorem isP_tt : isP st (.tup xs) (.ty "tuple") = some true := kb_tt
@[simp] theorem isP_st {a : Str} : isP st (.str a) (.ty "tuple") = some false := kb_st
@[simp] theorem isP_nt : isP st .non (.ty "tuple") = some false := kb_nt
@[simp] theorem isP_bt {b : Bool} : isP st (.bl b) (.ty "tuple") = some false := kb_bt
@[simp] theorem isP_it : isP st (.int m) (.ty "tuple") = some false := kb_it
@[simp] theorem fAll_e : fAll x st = (blsOf st x).map fun bs => (.bl (bs.all id), st) := rfl
@[simp] theorem fSl_t {lo hi : Option Int} : fSl (.tup xs) lo hi st = some (.tup (cutP xs lo hi), st) := rfl
@[simp] theorem fSl_f {lo hi : Option Int} : fSl (.frz xs) lo hi st = some (.ref st.length, st ++ [.lst (cutP xs lo hi)]) := rfl
@[simp] theorem fInA_e : fInA x y st = (inA st x y).map fun b => (.bl b, st) := rfl
@[simp] theorem inA_st {a : Str} : inA st (.str a) (.tup ys) = (mapO flatP ys).map fun ws => inV (.str a) ws := by
  unfold inA
  rfl
end
/-! ### the store -/
@[simp] theorem new_at {st : Sto} {o : SO} : (st ++ [o])[st.length]? = some o := by
  rw [List.getElem?_append_right (Nat.le_refl _)]; simp
theorem old_at {st l : Sto} {n : Nat} {o : SO} (h : st[n]? = some o) : (st ++ l)[n]? = some o := by
  rw [List.getElem?_append_left (List.getElem?_eq_some_iff.mp h).1]; exact h
theorem lt_of_at {st : Sto} {n : Nat} {o : SO} (h : st[n]? = some o) : n < st.length := (List.getElem?_eq_some_iff.mp h).1
/-! ### equal data -/
/-- data without a store -/
def pureP : PV → Prop := fun x => ∀ st, ∃ d, toD st 70 x = some d ∧ SeqAt.shaped d = true
theorem eqP_self {st : Sto} {x : PV} (h : pureP x) : eqP st x x = some true := by
  obtain ⟨d, e, hs⟩ := h st
  unfold eqP
  rw [e]
  simp only [hs, Bool.and_self, if_true]
  have hc : d.canLay0 = true := SeqAt.canLay_of_shaped hs
  rw [SeqAt.eqv_refl d hc]
end IL

/-! Data without a store; loops by what holds between turns. -/
namespace IL
open PySem PySem.Spec PyProof.Rows L2

mutual
def datP : PV → PyData
  | .non => .none
  | .bl b => .bool b
  | .int i => .int i
  | .str x => .str x
  | .tup xs => .tuple (datPs xs)
  | .frz xs => .list (datPs xs)
  | .ref _ => .none
  | .ty _ => .none
def datPs : List PV → List PyData
  | [] => []
  | x :: xs => datP x :: datPs xs
end
mutual
/-- data, at most so deep -/
def gd : PV → Nat → Bool
  | .non, _ => true
  | .bl _, _ => true
  | .int _, _ => true
  | .str x, _ => PyData.strOk x
  | .tup xs, n => decide (0 < n) && gds xs (n - 1)
  | .frz xs, n => decide (0 < n) && gds xs (n - 1)
  | .ref _, _ => false
  | .ty _, _ => false
def gds : List PV → Nat → Bool
  | [], _ => true
  | x :: xs, n => gd x n && gds xs n
end
mutual
theorem gd_dat {st : Sto} : ∀ (x : PV) (n f : Nat), gd x n = true → n < f → toD st f x = some (datP x) ∧ (datP x).canLay0 = true ∧ (datP x).depth ≤ n
  | .non, n, 0, _, hf => absurd hf (by omega)
  | .bl b, n, 0, _, hf => absurd hf (by omega)
  | .int i, n, 0, _, hf => absurd hf (by omega)
  | .str x, n, 0, _, hf => absurd hf (by omega)
  | .tup xs, n, 0, _, hf => absurd hf (by omega)
  | .frz xs, n, 0, _, hf => absurd hf (by omega)
  | .ref _, n, _, h, _ => by simp [gd] at h
  | .ty _, n, _, h, _ => by simp [gd] at h
  | .non, n, f + 1, _, _ => ⟨rfl, by simp [datP, PyData.canLay0], by simp [datP, PyData.depth]⟩
  | .bl b, n, f + 1, _, _ => ⟨rfl, by simp [datP, PyData.canLay0], by simp [datP, PyData.depth]⟩
  | .int i, n, f + 1, _, _ => ⟨rfl, by simp [datP, PyData.canLay0], by simp [datP, PyData.depth]⟩
  | .str x, n, f + 1, h, _ => ⟨rfl, by unfold gd at h; simp only [datP, PyData.canLay0]; exact h, by simp [datP, PyData.depth]⟩
  | .tup xs, n, f + 1, h, hf => by
    unfold gd at h
    rw [Bool.and_eq_true, decide_eq_true_eq] at h
    obtain ⟨h1, h2, h3⟩ := gds_dat (st := st) xs (n - 1) f h.2 (by omega)
    refine ⟨?_, ?_, ?_⟩
    · show (mapO (toD st f) xs).map PyData.tuple = _
      rw [h1]; rfl
    · simp only [datP, PyData.canLay0]; exact h2
    · simp only [datP, PyData.depth]; omega
  | .frz xs, n, f + 1, h, hf => by
    unfold gd at h
    rw [Bool.and_eq_true, decide_eq_true_eq] at h
    obtain ⟨h1, h2, h3⟩ := gds_dat (st := st) xs (n - 1) f h.2 (by omega)
    refine ⟨?_, ?_, ?_⟩
    · show (mapO (toD st f) xs).map PyData.list = _
      rw [h1]; rfl
    · simp only [datP, PyData.canLay0]; exact h2
    · simp only [datP, PyData.depth]; omega
theorem gds_dat {st : Sto} : ∀ (xs : List PV) (n f : Nat), gds xs n = true → n < f → mapO (toD st f) xs = some (datPs xs) ∧ PyData.canLayAll0 (datPs xs) = true ∧ PyData.depthAll (datPs xs) ≤ n
  | [], n, f, _, _ => ⟨rfl, by simp [datPs, PyData.canLayAll0], by simp [datPs, PyData.depthAll]⟩
  | x :: xs, n, f, h, hf => by
    unfold gds at h
    rw [Bool.and_eq_true] at h
    obtain ⟨a1, a2, a3⟩ := gd_dat (st := st) x n f h.1 hf
    obtain ⟨b1, b2, b3⟩ := gds_dat (st := st) xs n f h.2 hf
    refine ⟨?_, ?_, ?_⟩
    · unfold mapO
      rw [a1, b1]; rfl
    · simp only [datPs, PyData.canLayAll0, a2, b2]; rfl
    · simp only [datPs, PyData.depthAll]; omega
end
theorem gd_shaped {x : PV} (h : gd x 60 = true) : SeqAt.shaped (datP x) = true := by
  obtain ⟨_, h2, h3⟩ := gd_dat (st := []) x 60 61 h (by omega)
  unfold SeqAt.shaped
  rw [h2, decide_eq_true (by omega)]; rfl
theorem eqP_gd {st : Sto} {x y : PV} (hx : gd x 60 = true) (hy : gd y 60 = true) : eqP st x y = some (PyData.eqv (datP x) (datP y)) := by
  unfold eqP
  rw [(gd_dat (st := st) x 60 70 hx (by omega)).1, (gd_dat (st := st) y 60 70 hy (by omega)).1]
  simp only [gd_shaped hx, gd_shaped hy, Bool.and_self, if_true]
theorem eqP_gd_self {st : Sto} {x : PV} (hx : gd x 60 = true) : eqP st x x = some true := by
  rw [eqP_gd hx hx, SeqAt.eqv_refl _ (SeqAt.canLay_of_shaped (gd_shaped hx))]
theorem gds_all {xs : List PV} {n : Nat} : (∀ x ∈ xs, gd x n = true) → gds xs n = true := by
  induction xs with
  | nil => intro _; rfl
  | cons x xs ih =>
    intro h
    unfold gds
    rw [h x List.mem_cons_self, ih fun y hy => h y (List.mem_cons_of_mem _ hy)]; rfl

/-! ### a list made item by item, each of its values data, the store grown by what nobody needs -/
theorem set_mid {α : Type} {a l : List α} {o o' : α} : (a ++ [o] ++ l).set a.length o' = a ++ [o'] ++ l := by
  rw [List.append_assoc, List.append_assoc, List.set_append_right _ _ (Nat.le_refl _), Nat.sub_self]; rfl
theorem at_mid {α : Type} {a l : List α} {o : α} : (a ++ [o] ++ l)[a.length]? = some o := by
  rw [List.append_assoc, List.getElem?_append_right (Nat.le_refl _), Nat.sub_self]; rfl
theorem lc_gar {all : List PV} {ig : IG} {t : IT} {e : IE} {st : Sto} {envw : PEnv} (g : PV → PV) (hl : all.length < 100000)
    (h : ∀ x ∈ all, ∀ s : Sto, ∃ env1 l, ig x envw s = some env1 ∧ t env1 s = some (true, s) ∧ e env1 s = some (g x, s ++ l)) :
    ∀ (ys pre : List PV) (l : Sto), all = pre ++ ys → ∃ l', lcLoop (srcT all).at_ ig t e st.length envw (ys.length + 1) pre.length (st ++ [.lst (pre.map g)] ++ l) = some (st ++ [.lst (all.map g)] ++ l')
  | [], pre, l, he => by
    rw [List.append_nil] at he
    subst he
    refine ⟨l, ?_⟩
    unfold lcLoop
    simp [srcT]
  | y :: ys, pre, l, he => by
    obtain ⟨env1, l1, h1, h2, h3⟩ := h y (by rw [he]; simp) (st ++ [.lst (pre.map g)] ++ l)
    have hat : (srcT all).at_ (st ++ [.lst (pre.map g)] ++ l) pre.length = some (some y) := by
      simp only [srcT]
      rw [he, List.getElem?_append_right (Nat.le_refl _), Nat.sub_self]; rfl
    have hs : (st ++ [.lst (pre.map g)] ++ l ++ l1)[st.length]? = some (.lst (pre.map g)) := by
      rw [List.append_assoc (st ++ [_])]
      exact at_mid
    have hlen : (pre.map g).length < 100000 := by
      rw [List.length_map]
      have := congrArg List.length he
      rw [List.length_append] at this
      omega
    obtain ⟨l', hr⟩ := lc_gar (t := t) (st := st) g hl h ys (pre ++ [y]) (l ++ l1) (by rw [he]; simp)
    refine ⟨l', ?_⟩
    rw [← hr]
    show lcLoop _ _ _ _ _ _ (ys.length + 1 + 1) _ _ = _
    conv => lhs; unfold lcLoop
    simp only [hat, h1, h2, h3, hs, hlen, if_true]
    have e2 : (st ++ [SO.lst (pre.map g)] ++ l ++ l1).set st.length (.lst (pre.map g ++ [g y])) = st ++ [SO.lst ((pre ++ [y]).map g)] ++ (l ++ l1) := by
      rw [List.append_assoc (st ++ [_]), set_mid]
      simp
    rw [e2, List.length_append]
    rfl
/-- [e for x in a tuple] -/
theorem iLc_tup {ie e : IE} {ig : IG} {t : IT} {vs : List Nat} {env : PEnv} {st s1 : Sto} {xs : List PV} (g : PV → PV) (hi : ie env st = some (.tup xs, s1)) (hl : xs.length < 100000)
    (h : ∀ x ∈ xs, ∀ s : Sto, ∃ env1 l, ig x (wipeE env vs) s = some env1 ∧ t env1 s = some (true, s) ∧ e env1 s = some (g x, s ++ l)) :
    ∃ l, iLc (iWalk ie) ig t e vs env st = some (.ref s1.length, s1 ++ [.lst (xs.map g)] ++ l) := by
  obtain ⟨l, hr⟩ := lc_gar (t := t) (e := e) (st := s1) g hl h xs [] [] rfl
  refine ⟨l, ?_⟩
  unfold iLc
  simp only [iWalk_e, hi, ob_s]
  have e3 : (srcT xs).n = xs.length := rfl
  rw [e3]
  simp only [List.map_nil, List.append_nil, List.length_nil] at hr
  rw [hr]; rfl
theorem srcS_eq (x : Str) : srcS x = srcT (x.cps.toList.map fun c => .str ⟨#[c]⟩) := by
  unfold srcS srcT
  congr 1
  · simp [Str.length]
  · funext st i
    simp
/-- [e for x in a text] -/
theorem iLc_str {ie e : IE} {ig : IG} {t : IT} {vs : List Nat} {env : PEnv} {st s1 : Sto} {x : Str} (g : PV → PV) (hi : ie env st = some (.str x, s1)) (hl : x.length < 100000)
    (h : ∀ c ∈ x.cps.toList, ∀ s : Sto, ∃ env1 l, ig (.str ⟨#[c]⟩) (wipeE env vs) s = some env1 ∧ t env1 s = some (true, s) ∧ e env1 s = some (g (.str ⟨#[c]⟩), s ++ l)) :
    ∃ l, iLc (iWalk ie) ig t e vs env st = some (.ref s1.length, s1 ++ [.lst ((x.cps.toList.map fun c => .str ⟨#[c]⟩).map g)] ++ l) := by
  have hn : (x.cps.toList.map fun c => PV.str ⟨#[c]⟩).length = x.length := by simp [Str.length]
  obtain ⟨l, hr⟩ := lc_gar (t := t) (e := e) (ig := ig) (envw := wipeE env vs) (st := s1) (all := x.cps.toList.map fun c => .str ⟨#[c]⟩) g (by rw [hn]; exact hl) (fun y hy s => by
    obtain ⟨c, hc, rfl⟩ := List.mem_map.mp hy
    exact h c hc s) (x.cps.toList.map fun c => .str ⟨#[c]⟩) [] [] rfl
  refine ⟨l, ?_⟩
  unfold iLc
  simp only [iWalk_e, hi, ob_s, srcS_eq]
  have e3 : (srcT (x.cps.toList.map fun c => PV.str ⟨#[c]⟩)).n = (x.cps.toList.map fun c => PV.str ⟨#[c]⟩).length := rfl
  rw [e3]
  simp only [List.map_nil, List.append_nil, List.length_nil] at hr
  rw [hr]; rfl
/-! ### loops by what holds between turns -/
theorem loop_inv {at_ : Sto → Nat → Option (Option PV)} {ig : IG} {body : IS} (I : Nat → PEnv → Sto → Prop) (N : Nat) (hstop : ∀ e s, I N e s → at_ s N = some none)
    (hstep : ∀ i e s, i < N → I i e s → ∃ x e1 e2 s2, at_ s i = some (some x) ∧ ig x e s = some e1 ∧ (body e1 s = some (.nx e2 s2) ∨ body e1 s = some (.ct e2 s2)) ∧ I (i + 1) e2 s2) :
    ∀ (m i : Nat) (e : PEnv) (s : Sto), I i e s → i ≤ N → N - i < m → ∃ e' s', loop at_ ig body m i e s = some (.nx e' s') ∧ I N e' s'
  | 0, i, e, s, _, _, hm => absurd hm (by omega)
  | m + 1, i, e, s, hI, hi, hm => by
    by_cases hN : i = N
    · subst hN
      refine ⟨e, s, ?_, hI⟩
      unfold loop
      rw [hstop e s hI]
    · obtain ⟨x, e1, e2, s2, h1, h2, h3, h4⟩ := hstep i e s (by omega) hI
      obtain ⟨e', s', h5, h6⟩ := loop_inv I N hstop hstep m (i + 1) e2 s2 h4 (by omega) (by omega)
      refine ⟨e', s', ?_, h6⟩
      unfold loop
      simp only [h1, h2]
      rcases h3 with h3 | h3 <;> simp only [h3] <;> exact h5
theorem lc_inv {at_ : Sto → Nat → Option (Option PV)} {ig : IG} {t : IT} {e : IE} {d : Nat} {envw : PEnv} (I : Nat → List PV → Sto → Prop) (N : Nat) (hstop : ∀ acc s, I N acc s → at_ s N = some none)
    (hstep : ∀ i acc s, i < N → I i acc s → ∃ x env1 y s2, at_ s i = some (some x) ∧ ig x envw s = some env1 ∧ t env1 s = some (true, s) ∧ e env1 s = some (y, s2) ∧ s2[d]? = some (.lst acc) ∧ acc.length < 100000 ∧ I (i + 1) (acc ++ [y]) (s2.set d (.lst (acc ++ [y])))) :
    ∀ (m i : Nat) (acc : List PV) (s : Sto), I i acc s → i ≤ N → N - i < m → ∃ acc' s', lcLoop at_ ig t e d envw m i s = some s' ∧ I N acc' s'
  | 0, i, acc, s, _, _, hm => absurd hm (by omega)
  | m + 1, i, acc, s, hI, hi, hm => by
    by_cases hN : i = N
    · subst hN
      refine ⟨acc, s, ?_, hI⟩
      unfold lcLoop
      rw [hstop acc s hI]
    · obtain ⟨x, env1, y, s2, h1, h2, h3, h4, h5, h6, h7⟩ := hstep i acc s (by omega) hI
      obtain ⟨acc', s', h8, h9⟩ := lc_inv I N hstop hstep m (i + 1) (acc ++ [y]) _ h7 (by omega) (by omega)
      refine ⟨acc', s', ?_, h9⟩
      unfold lcLoop
      simp only [h1, h2, h3, h4, h5, h6, if_true]
      exact h8
/-! ### truth of membership in written tuples -/
@[simp] theorem mapO_nil {α β : Type} {f : α → Option β} : mapO f [] = some [] := rfl
@[simp] theorem mapO_cons {α β : Type} {f : α → Option β} {x : α} {xs : List α} : mapO f (x :: xs) = match f x, mapO f xs with
    | some y, some ys => some (y :: ys)
    | _, _ => none := rfl
@[simp] theorem flatP_s {a : Str} : flatP (.str a) = some (.str a) := rfl
@[simp] theorem flatP_i {a : Int} : flatP (.int a) = some (.int a) := rfl
@[simp] theorem flatP_n : flatP .non = some .non := rfl
@[simp] theorem inV_nil {x : V} : inV x [] = false := rfl
@[simp] theorem inV_cons {x y : V} {ys : List V} : inV x (y :: ys) = (eqV y x || inV x ys) := rfl
@[simp] theorem eqV_ss {a b : Str} : eqV (.str a) (.str b) = (a == b) := rfl
@[simp] theorem eqV_ns {b : Str} : eqV .non (.str b) = false := rfl
@[simp] theorem eqV_sn {b : Str} : eqV (.str b) .non = false := rfl
@[simp] theorem eqV_nn : eqV .non .non = true := rfl
end IL

/-! Powers, greatest of a list, the first item taken out. -/
namespace IL
open PySem PySem.Spec PyProof.Rows L2
section
variable {X : Cx} {o e : Expr} {ia ib ie : IE} {pos : Pos}
def cPow (a b : Int) : Bool := decide (0 ≤ b) && decide (b ≤ 1000000) && decide (a.natAbs < 2 ^ 64)
def fPow : F2 := fInt cPow fun i j => i ^ j.toNat
theorem f_pow {K : PySem.W.Frag} : OpI K (rI CPow fun i j => .int (i ^ j.toNat)) fPow := f_int fun a b h => by
  unfold cPow at h
  simp only [Bool.and_eq_true, decide_eq_true_eq] at h
  exact ⟨h.1.1, h.1.2, h.2⟩
/-- max of a list of ints -/
def fMax : F1 := fun x st => match intsOf st x with
  | some (n :: ns) => some (.int (maxI (n :: ns) 0), st)
  | _ => none
theorem foldl_max : ∀ (ys : List Int) (y : Int), (∀ z ∈ y :: ys, z ≤ ys.foldl (fun a z => if a < z then z else a) y) ∧ ys.foldl (fun a z => if a < z then z else a) y ∈ y :: ys
  | [], y => ⟨by simp, by simp⟩
  | x :: ys, y => by
    obtain ⟨h1, h2⟩ := foldl_max ys (if y < x then x else y)
    rw [List.foldl_cons]
    have h0 := h1 (if y < x then x else y) List.mem_cons_self
    have h3 : y ≤ (if y < x then x else y) ∧ x ≤ (if y < x then x else y) := by split <;> omega
    refine ⟨fun z hz => ?_, ?_⟩
    · rcases List.mem_cons.mp hz with rfl | hz
      · exact Int.le_trans h3.1 h0
      · rcases List.mem_cons.mp hz with rfl | hz
        · exact Int.le_trans h3.2 h0
        · exact h1 z (List.mem_cons_of_mem _ hz)
    · rcases List.mem_cons.mp h2 with h | h
      · rw [h]
        split
        · exact List.mem_cons_of_mem _ List.mem_cons_self
        · exact List.mem_cons_self
      · exact List.mem_cons_of_mem _ (List.mem_cons_of_mem _ h)
theorem f_max {K : PySem.W.Frag} : CallI K (rMax K) (a1 fMax) := call1 fun H ρ st x vx z st' Q S R h q => by
  unfold fMax at h
  split at h
  · rename_i n ns e
    cases h
    unfold intsOf at e
    split at e
    · rename_i xs e1
      obtain ⟨a, vs, rfl, t, r⟩ := list_rep S R e1
      rw [ints_reps r e] at t
      obtain ⟨g1, g2⟩ := foldl_max ns n
      refine ⟨a, n :: ns, rfl, t, by simp, fun m hm hle => ?_⟩
      have hmm : m = maxI (n :: ns) 0 := by
        have k1 := hle _ g2
        have k2 := g1 m hm
        show m = List.foldl _ _ _
        omega
      rw [hmm]
      exact q _ H ρ Grow.refl S (by unfold Rep; rfl)
    · cases e
  · cases h
/-- xs.pop(0) -/
def iPop0 (io ie : IE) : IE := fun env st => ob (io env st) fun o s1 => match o with
  | .ref n => match s1[n]? with
    | some (.lst _) => ob (ie env s1) fun x s2 => match s2[n]?, x with
      | some (.lst (y :: ys)), .int 0 => some (y, s2.set n (.lst ys))
      | _, _ => none
    | _ => none
  | _ => none
theorem r_pop0 {apos cpos : Pos} (ho : PE X o (tI X.K ia)) (he : PE X e (tI X.K ib))
    (hbase : attributeBase o "pop" X.env (eval o X.env) = eval o X.env := by rfl)
    (hfew : ((backTo cpos (starEach (e :: []) X.env)).all (fun x => !x.1) && (backToKw cpos (keywordEach [] X.env)).all (fun x => x.1.isSome)
      && decide ((e :: []).length + ([] : List Keyword).length + (if ([] : List Keyword).isEmpty then 0 else 1) < 30)) = true := by rfl)
    (hline : (apos.endLine == cpos.line) = true := by rfl) (hs : starEach (e :: []) X.env = (false, eval e X.env) :: starEach [] X.env := by rfl) (hplain : (backTo cpos (starEach [] X.env)).any (·.1) = false := by rfl) :
    PE X (.Call (.Attribute o "pop" apos) [e] [] cpos) (tI X.K (iPop0 ia ib)) :=
  PE.imp (pe_bm PySem.F.plainAttrs_list PySem.F.slot_list_pop PySem.F.type_list_pop mt_popAt ho (pa_cons he pa_nil hs) hbase hfew hline hs hplain) fun σ H Q ⟨env, st, ρ, z, st', E, S, h, q⟩ => by
    obtain ⟨x, s1, h1, h⟩ := ob_some h
    refine ⟨env, st, ρ, x, s1, E, S, h1, fun vx H1 ρ1 G1 S1 R1 => ?_⟩
    split at h
    · rename_i n
      split at h
      · rename_i ws e0
        obtain ⟨y, s2, h2, h⟩ := ob_some h
        split at h
        · rename_i w xs e1
          cases h
          unfold Rep at R1
          obtain ⟨a, rfl, i1⟩ := R1
          refine ⟨?_, env, s1, ρ1, .int 0, s2, E.grow S G1, S1, h2, fun vy H2 ρ2 G2 S2 R2 => ?_⟩
          · obtain ⟨b1, hb1, vs1, h3, r1⟩ := S1.at_ _ _ e0
            rw [i1] at hb1; cases hb1
            exact .inl ⟨rfl, vs1, .of h3⟩
          · have i2 := G2.ix i1
            obtain ⟨b1, hb1, vs1, h3, r1⟩ := S2.at_ _ _ e1
            rw [i2] at hb1; cases hb1
            unfold Rep at R2
            subst R2
            unfold Reps at r1
            obtain ⟨v0, vr, rfl, r2, r3⟩ := r1
            have g : Grow H2 ρ2 (upd H2 a (.lst vr)) ρ2 := grow_write h3 (List.mem_of_getElem? i2)
            exact ⟨a, v0 :: vr, 0, 0, v0, rfl, rfl, h3, by decide, by decide, by simp [seqIndex?], rfl, q v0 _ ρ2 ((G1.trans G2).trans g) (S2.write (so := .lst xs) i2 h3 ⟨_, upd_same, Reps.grow S2 g _ _ r3⟩) (Rep.grow S2 g _ _ r2)⟩
        · cases h
      · cases h
    · cases h
@[simp] theorem fPow_i {m n : Int} {st : Sto} : fPow (.int m) (.int n) st = if cPow m n then some (.int (m ^ n.toNat), st) else none := rfl
@[simp] theorem fGt_s {a b : Str} {st : Sto} : fGt (.str a) (.str b) st = some (.bl (ltS b a), st) := rfl
@[simp] theorem fMax_e {x : PV} {st : Sto} : fMax x st = match intsOf st x with
  | some (n :: ns) => some (.int (maxI (n :: ns) 0), st)
  | _ => none := rfl
@[simp] theorem fNotInA_e {x y : PV} {st : Sto} : fNotInA x y st = (inA st x y).map fun b => (.bl (!b), st) := rfl
end
end IL

/-! What statements and calls lead to, where they only add to the store. -/
namespace IL
open PySem PySem.Spec PyProof.Rows L2
def Ext (a b : Sto) : Prop := ∃ l, b = a ++ l
theorem Ext.refl {a : Sto} : Ext a a := ⟨[], by simp⟩
theorem Ext.trans {a b c : Sto} (h : Ext a b) (k : Ext b c) : Ext a c := by
  obtain ⟨l, rfl⟩ := h
  obtain ⟨m, rfl⟩ := k
  exact ⟨l ++ m, by simp⟩
theorem Ext.app {a b l : Sto} (h : Ext a b) : Ext a (b ++ l) := h.trans ⟨l, rfl⟩
theorem Ext.at {a b : Sto} {n : Nat} {o : SO} (h : Ext a b) (e : a[n]? = some o) : b[n]? = some o := by
  obtain ⟨l, rfl⟩ := h
  exact old_at e
def Pu (F : FA) (as : List PV) (v : PV) : Prop := ∃ g : Sto → Sto, (∀ st, F as st = some (v, g st)) ∧ ∀ st, Ext st (g st)
theorem pu {F : FA} {as : List PV} {v : PV} (h : ∀ st : Sto, ∃ l, F as st = some (v, st ++ l)) : Pu F as v :=
  ⟨fun st => st ++ Classical.choose (h st), fun st => Classical.choose_spec (h st), fun st => ⟨_, rfl⟩⟩
theorem pu0 {F : FA} {as : List PV} {v : PV} (h : ∀ st : Sto, F as st = some (v, st)) : Pu F as v := ⟨id, h, fun _ => Ext.refl⟩
theorem for_go {n : Nat} {ig : IG} {body : IS} (I : PEnv → Prop) (all : List PV) (h : ∀ x ∈ all, ∀ e, I e → ∀ s, ∃ e1 e2 s2, ig x e s = some e1 ∧ body e1 s = some (.nx e2 s2) ∧ Ext s s2 ∧ I e2) :
    ∀ (ys pre : List PV) (e : PEnv) (s : Sto), all = pre ++ ys → s[n]? = some (.lst all) → I e → ∃ e2 s2, loop (srcL n all.length).at_ ig body (ys.length + 1) pre.length e s = some (.nx e2 s2) ∧ Ext s s2 ∧ I e2
  | [], pre, e, s, he, hs, hI => by
    rw [List.append_nil] at he
    subst he
    refine ⟨e, s, ?_, Ext.refl, hI⟩
    unfold loop
    simp [srcL, hs]
  | y :: ys, pre, e, s, he, hs, hI => by
    obtain ⟨e1, e2, s2, h1, h2, h3, h4⟩ := h y (by rw [he]; simp) e hI s
    obtain ⟨e3, s3, h5, h6, h7⟩ := for_go (n := n) I all h ys (pre ++ [y]) e2 s2 (by rw [he]; simp) (h3.at hs) h4
    refine ⟨e3, s3, ?_, h3.trans h6, h7⟩
    have hat : (srcL n all.length).at_ s pre.length = some (some y) := by
      simp only [srcL, hs]
      rw [he, List.getElem?_append_right (Nat.le_refl _), Nat.sub_self]; rfl
    show loop _ _ _ (ys.length + 1 + 1) _ _ _ = _
    conv => lhs; unfold loop
    simp only [hat, h1, h2]
    rw [List.length_append] at h5
    exact h5
/-- for x in [..] -/
theorem for_list {ir : IA} {ig : IG} {body : IS} {env : PEnv} {st : Sto} {xs : List PV} (I : PEnv → Prop) (hir : ir env st = some (xs, st)) (hl : xs.length ≤ 100000) (hI : I env)
    (h : ∀ x ∈ xs, ∀ e, I e → ∀ s, ∃ e1 e2 s2, ig x e s = some e1 ∧ body e1 s = some (.nx e2 s2) ∧ Ext s s2 ∧ I e2) :
    ∃ e2 s2, iFor (iWalk (iLst ir)) ig body env st = some (.nx e2 s2) ∧ Ext st s2 ∧ I e2 := by
  obtain ⟨e2, s2, h1, h2, h3⟩ := for_go (n := st.length) I xs h xs [] env (st ++ [.lst xs]) rfl new_at hI
  refine ⟨e2, s2, ?_, Ext.trans ⟨_, rfl⟩ h2, h3⟩
  simp only [iFor_e, iWalk_e, iLst_e, hir, ob_s, if_pos hl, new_at]
  exact h1
def Goes (p : IS) (env : PEnv) (st : Sto) (Q : PEnv → Sto → Prop) : Prop := ∃ e s, p env st = some (.nx e s) ∧ Q e s
def Ends (p : IS) (env : PEnv) (st : Sto) (v : PV) (Q : Sto → Prop) : Prop := ∃ s, p env st = some (.rt v s) ∧ Q s
section
variable {p q : IS} {env : PEnv} {st : Sto} {v : PV}
theorem ends_seq {R : Sto → Prop} (Q : PEnv → Sto → Prop) (h : Goes p env st Q) (k : ∀ e s, Q e s → Ends q e s v R) : Ends (iSeq p q) env st v R := by
  obtain ⟨e, s, h1, h2⟩ := h
  obtain ⟨s2, h3, h4⟩ := k e s h2
  exact ⟨s2, by rw [iSeq_e, h1]; exact h3, h4⟩
theorem goes_seq {R : PEnv → Sto → Prop} (Q : PEnv → Sto → Prop) (h : Goes p env st Q) (k : ∀ e s, Q e s → Goes q e s R) : Goes (iSeq p q) env st R := by
  obtain ⟨e, s, h1, h2⟩ := h
  obtain ⟨e2, s2, h3, h4⟩ := k e s h2
  exact ⟨e2, s2, by rw [iSeq_e, h1]; exact h3, h4⟩
theorem goes_list {ir : IA} {ig : IG} {body : IS} {xs : List PV} (I : PEnv → Prop) (hir : ir env st = some (xs, st)) (hl : xs.length ≤ 100000) (hI : I env)
    (h : ∀ x ∈ xs, ∀ e, I e → ∀ s, ∃ e1, ig x e s = some e1 ∧ Goes body e1 s fun e2 s2 => Ext s s2 ∧ I e2) : Goes (iFor (iWalk (iLst ir)) ig body) env st fun e2 s2 => Ext st s2 ∧ I e2 :=
  for_list I hir hl hI fun x hx e he s => by
    obtain ⟨e1, h1, e2, s2, h2, h3⟩ := h x hx e he s
    exact ⟨e1, e2, s2, h1, h2, h3⟩
end
theorem rT {st : Sto} : eqP st (.str ("True" : Str)) (.str ("True" : Str)) = some true := by
  rw [eqP_s, if_pos (by decide +kernel)]
  simp
theorem rF {st : Sto} : eqP st (.str ("False" : Str)) (.str ("False" : Str)) = some true := by
  rw [eqP_s, if_pos (by decide +kernel)]
  simp
theorem Goes.mono {p : IS} {env : PEnv} {st : Sto} {Q R : PEnv → Sto → Prop} (h : Goes p env st Q) (k : ∀ e s, Q e s → R e s) : Goes p env st R := by
  obtain ⟨e, s, h1, h2⟩ := h
  exact ⟨e, s, h1, k e s h2⟩
def Vl (A : IE) (env : PEnv) (v : PV) : Prop := ∀ st, ∃ s, A env st = some (v, s) ∧ Ext st s
def Tl (t : IT) (env : PEnv) (b : Bool) : Prop := ∀ st, ∃ s, t env st = some (b, s) ∧ Ext st s
section
variable {env : PEnv} {v w : PV} {A B : IE} {t u : IT} {p q : IS} {st : Sto}
theorem vl_pure (h : ∀ st, A env st = some (v, st)) : Vl A env v := fun st => ⟨st, h st, Ext.refl⟩
theorem vl_call {F : FA} {ir : IA} {as : List PV} (hir : ∀ st, ir env st = some (as, st)) (h : Pu F as v) : Vl (iCall F ir) env v := fun st => by
  obtain ⟨g, h1, h2⟩ := h
  exact ⟨g st, by rw [iCall_e, hir]; exact h1 st, h2 st⟩
theorem vl_sh {F : FA} {ir : IA} {k : PV} {as : List PV} (hir : ∀ st, ir env st = some (as, st)) (hl : as.length ≤ 100000) (h : ∀ (st : Sto) (p : Nat), st[p]? = some (.lst as) → ∃ l, F [k, .ref p] st = some (v, st ++ l)) : Vl (iCall F (iCons (iC k) (iCons (iLst ir) iNil))) env v := fun st => by
  obtain ⟨l, e⟩ := h (st ++ [.lst as]) st.length new_at
  refine ⟨st ++ [.lst as] ++ l, ?_, Ext.app ⟨_, rfl⟩⟩
  simp only [iCall_e, iCons_e, iC_e, iLst_e, iNil_e, hir, ob_s, if_pos hl]
  exact e
theorem tl_ne (h1 : Vl A env v) (h2 : Vl B env v) (hg : gd v 60 = true) : Tl (iTestB (iBin fNe A B)) env false := fun st => by
  obtain ⟨s1, a1, a2⟩ := h1 st
  obtain ⟨s2, b1, b2⟩ := h2 s1
  refine ⟨s2, ?_, a2.trans b2⟩
  simp [a1, b1, eqP_gd_self (st := s2) hg]
theorem tl_or (h1 : Tl t env false) (h2 : Tl u env false) : Tl (iOr t u) env false := fun st => by
  obtain ⟨s1, a1, a2⟩ := h1 st
  obtain ⟨s2, b1, b2⟩ := h2 s1
  exact ⟨s2, by simp [a1, b1], a2.trans b2⟩
theorem tl_not (h : Vl A env (.bl true)) : Tl (iNot (iTest A)) env false := fun st => by
  obtain ⟨s1, a1, a2⟩ := h st
  exact ⟨s1, by simp [a1], a2⟩
theorem goes_if (h : Tl t env false) : Goes (iIfS t p iSkip) env st fun e s => e = env ∧ Ext st s := by
  obtain ⟨s1, a1, a2⟩ := h st
  exact ⟨env, s1, by simp [a1], rfl, a2⟩
end
section
variable {st : Sto}
theorem goes_par {i j : Nat} {ir : IA} {env : PEnv} {x y : PV} {s2 : Sto} (h : ir env st = some ([x, y], s2)) {Q : PEnv → Sto → Prop} (q : Q ((env.set i (some x)).set j (some y)) s2) : Goes (iPar i j ir) env st Q :=
  ⟨_, s2, by simp [h], q⟩
theorem goes_asg {i : Nat} {ie : IE} {env : PEnv} {x : PV} {s2 : Sto} (h : ie env st = some (x, s2)) {Q : PEnv → Sto → Prop} (q : Q (env.set i (some x)) s2) : Goes (iAsg (gN i) ie) env st Q :=
  ⟨_, s2, by simp [h], q⟩
end
/-! ### the frame of the law's state -/
structure Fm (s c : Nat) (st st' : Sto) : Prop where
  len : st.length ≤ st'.length
  old : ∀ i, i < st.length → i ≠ s → i ≠ c → st'[i]? = st[i]?
theorem Fm.refl {s c : Nat} {st : Sto} : Fm s c st st := ⟨Nat.le_refl _, fun _ _ _ _ => rfl⟩
theorem Fm.trans {s c : Nat} {a b d : Sto} (h : Fm s c a b) (k : Fm s c b d) : Fm s c a d :=
  ⟨Nat.le_trans h.len k.len, fun i hi h1 h2 => by rw [k.old i (Nat.lt_of_lt_of_le hi h.len) h1 h2, h.old i hi h1 h2]⟩
theorem Fm.app {s c : Nat} {a l : Sto} : Fm s c a (a ++ l) := ⟨by simp, fun i hi _ _ => List.getElem?_append_left hi⟩
theorem Fm.ext {s c : Nat} {a b : Sto} (h : Ext a b) : Fm s c a b := by
  obtain ⟨l, rfl⟩ := h
  exact Fm.app
theorem Fm.set {s c d : Nat} {st : Sto} {o : SO} (h : d = s ∨ d = c) : Fm s c st (st.set d o) :=
  ⟨by simp, fun i hi h1 h2 => List.getElem?_set_ne (by omega)⟩
theorem fSetA_l {n : Nat} {st : Sto} {xs : List PV} {k : Int} {j : Nat} {v : PV} (h : st[n]? = some (.lst xs)) (hj : ixN xs.length k = some j) : fSetA (.ref n) (.int k) v st = some (st.set n (.lst (xs.set j v))) := by
  unfold fSetA fSetL
  simp only [h, hj]
  rfl
theorem ixN_in {n : Nat} {i : Int} (h0 : 0 ≤ i) (h1 : i < n) : ixN n i = some i.toNat := by
  unfold ixN
  rw [if_pos h0, if_pos h1]
theorem fmod_b {a b : Int} (hb : 0 < b) : 0 ≤ a.fmod b ∧ a.fmod b < b := by
  rw [Int.fmod_eq_emod_of_nonneg a (by omega)]
  exact ⟨Int.emod_nonneg _ (by omega), Int.emod_lt_of_pos _ hb⟩
theorem mapO_bls {α : Type} (f : α → Bool) : ∀ xs : List α, mapO isBl (xs.map fun x => .bl (f x)) = some (xs.map f)
  | [] => rfl
  | x :: xs => by
    rw [List.map_cons, mapO_cons, mapO_bls f xs]
    rfl
theorem mapO_intsf {α : Type} (f : α → Int) : ∀ xs : List α, mapO isInt (xs.map fun x => .int (f x)) = some (xs.map f)
  | [] => rfl
  | x :: xs => by
    rw [List.map_cons, mapO_cons, mapO_intsf f xs]
    rfl
theorem mapO_flatbl {α : Type} (f : α → Bool) : ∀ xs : List α, mapO flatP (xs.map fun x => .bl (f x)) = some (xs.map fun x => V.bl (f x))
  | [] => rfl
  | x :: xs => by
    rw [List.map_cons, mapO_cons, mapO_flatbl f xs]
    rfl
theorem inV_bls {α : Type} (f : α → Bool) : ∀ xs : List α, inV (.bl false) (xs.map fun x => V.bl (f x)) = !xs.all f
  | [] => rfl
  | x :: xs => by
    rw [List.map_cons, inV_cons, inV_bls f xs, List.all_cons]
    cases h : f x <;> rfl
/-! ### loops over tuples -/
def foldT (ig : IG) (body : IS) : List PV → PEnv → Sto → Option Fl
  | [], e, s => some (.nx e s)
  | y :: ys, e, s => match ig y e s with
    | some e1 => match body e1 s with
      | some (.nx e2 s2) => foldT ig body ys e2 s2
      | some (.ct e2 s2) => foldT ig body ys e2 s2
      | some (.bk e2 s2) => some (.nx e2 s2)
      | r => r
    | none => none
theorem loop_foldT {ig : IG} {body : IS} {all : List PV} : ∀ (ys pre : List PV) (e : PEnv) (s : Sto), all = pre ++ ys → loop (srcT all).at_ ig body (ys.length + 1) pre.length e s = foldT ig body ys e s
  | [], pre, e, s, he => by
    rw [List.append_nil] at he
    subst he
    unfold loop
    simp [srcT, foldT]
  | y :: ys, pre, e, s, he => by
    have hat : (srcT all).at_ s pre.length = some (some y) := by
      simp only [srcT]
      rw [he, List.getElem?_append_right (Nat.le_refl _), Nat.sub_self]; rfl
    have ih := loop_foldT (ig := ig) (body := body) (all := all) ys (pre ++ [y])
    show loop _ _ _ (ys.length + 1 + 1) _ _ _ = _
    conv => lhs; unfold loop
    conv => rhs; unfold foldT
    simp only [hat]
    rw [List.length_append] at ih
    cases ig y e s with
    | none => rfl
    | some e1 =>
      simp only
      cases body e1 s with
      | none => rfl
      | some r => cases r <;> first | rfl | exact ih _ _ (by rw [he]; simp)
theorem iFor_tup {ie : IE} {ig : IG} {body : IS} {env : PEnv} {st s1 : Sto} {xs : List PV} (h : ie env st = some (.tup xs, s1)) : iFor (iWalk ie) ig body env st = foldT ig body xs env s1 := by
  simp only [iFor_e, iWalk_e, h, ob_s]
  exact loop_foldT xs [] env s1 rfl
theorem iWhile_at (m : Nat) (h : m ≤ 100000) : ∃ k : Nat, ∀ (t : IT) (body : IS) (env : PEnv) (st : Sto), iWhile t body env st = wloop t body (k + m) env st := ⟨1000000 - m, fun t body env st => by
  unfold iWhile bigN
  congr 1
  omega⟩
/-! ### comprehensions over mapped items, with a filter -/
theorem lc_garm {α : Type} {all : List α} {f g : α → PV} {p : α → Bool} {ig : IG} {t : IT} {e : IE} {st : Sto} {envw : PEnv} (hl : all.length < 100000)
    (h : ∀ x ∈ all, ∀ s : Sto, ∃ env1, ig (f x) envw s = some env1 ∧ t env1 s = some (p x, s) ∧ (p x = true → ∃ l, e env1 s = some (g x, s ++ l))) :
    ∀ (ys pre : List α) (l : Sto), all = pre ++ ys → ∃ l', lcLoop (srcT (all.map f)).at_ ig t e st.length envw (ys.length + 1) pre.length (st ++ [.lst ((pre.filter p).map g)] ++ l) = some (st ++ [.lst ((all.filter p).map g)] ++ l')
  | [], pre, l, he => by
    rw [List.append_nil] at he
    subst he
    refine ⟨l, ?_⟩
    unfold lcLoop
    simp [srcT]
  | y :: ys, pre, l, he => by
    obtain ⟨env1, h1, h2, h3⟩ := h y (by rw [he]; simp) (st ++ [.lst ((pre.filter p).map g)] ++ l)
    have hat : (srcT (all.map f)).at_ (st ++ [.lst ((pre.filter p).map g)] ++ l) pre.length = some (some (f y)) := by
      simp only [srcT]
      rw [he, List.map_append, List.getElem?_append_right (by simp)]
      simp
    cases hp : p y with
    | false =>
      rw [hp] at h2
      obtain ⟨l', hr⟩ := lc_garm (t := t) (st := st) hl h ys (pre ++ [y]) l (by rw [he]; simp)
      refine ⟨l', ?_⟩
      rw [← hr]
      show lcLoop _ _ _ _ _ _ (ys.length + 1 + 1) _ _ = _
      conv => lhs; unfold lcLoop
      simp only [hat, h1, h2]
      rw [List.filter_append, List.length_append]
      simp [hp]
    | true =>
      rw [hp] at h2
      obtain ⟨l1, h3⟩ := h3 hp
      have hs : (st ++ [.lst ((pre.filter p).map g)] ++ l ++ l1)[st.length]? = some (.lst ((pre.filter p).map g)) := by
        rw [List.append_assoc (st ++ [_])]
        exact at_mid
      have hlen : ((pre.filter p).map g).length < 100000 := by
        rw [List.length_map]
        have := congrArg List.length he
        have h9 := List.length_filter_le p pre
        rw [List.length_append] at this
        omega
      obtain ⟨l', hr⟩ := lc_garm (t := t) (st := st) hl h ys (pre ++ [y]) (l ++ l1) (by rw [he]; simp)
      refine ⟨l', ?_⟩
      rw [← hr]
      show lcLoop _ _ _ _ _ _ (ys.length + 1 + 1) _ _ = _
      conv => lhs; unfold lcLoop
      simp only [hat, h1, h2, h3, hs, hlen, if_true]
      have e2 : (st ++ [SO.lst ((pre.filter p).map g)] ++ l ++ l1).set st.length (.lst ((pre.filter p).map g ++ [g y])) = st ++ [SO.lst (((pre ++ [y]).filter p).map g)] ++ (l ++ l1) := by
        rw [List.append_assoc (st ++ [_]), set_mid, List.filter_append]
        simp [hp]
      rw [e2, List.length_append]
      rfl
theorem iLc_tupm {α : Type} {xs : List α} {f g : α → PV} {p : α → Bool} {ie e : IE} {ig : IG} {t : IT} {vs : List Nat} {env : PEnv} {st s1 : Sto} (hi : ie env st = some (.tup (xs.map f), s1)) (hl : xs.length < 100000)
    (h : ∀ x ∈ xs, ∀ s : Sto, ∃ env1, ig (f x) (wipeE env vs) s = some env1 ∧ t env1 s = some (p x, s) ∧ (p x = true → ∃ l, e env1 s = some (g x, s ++ l))) :
    ∃ l, iLc (iWalk ie) ig t e vs env st = some (.ref s1.length, s1 ++ [.lst ((xs.filter p).map g)] ++ l) := by
  obtain ⟨l, hr⟩ := lc_garm (t := t) (e := e) (st := s1) hl h xs [] [] rfl
  refine ⟨l, ?_⟩
  unfold iLc
  simp only [iWalk_e, hi, ob_s]
  have e3 : (srcT (xs.map f)).n = xs.length := by simp [srcT]
  rw [e3]
  simp only [List.filter_nil, List.map_nil, List.append_nil, List.length_nil] at hr
  rw [hr]; rfl
theorem iLc_strm {x : Str} {g : Nat → PV} {p : Nat → Bool} {ie e : IE} {ig : IG} {t : IT} {vs : List Nat} {env : PEnv} {st s1 : Sto} (hi : ie env st = some (.str x, s1)) (hl : x.length < 100000)
    (h : ∀ c ∈ x.cps.toList, ∀ s : Sto, ∃ env1, ig (.str ⟨#[c]⟩) (wipeE env vs) s = some env1 ∧ t env1 s = some (p c, s) ∧ (p c = true → ∃ l, e env1 s = some (g c, s ++ l))) :
    ∃ l, iLc (iWalk ie) ig t e vs env st = some (.ref s1.length, s1 ++ [.lst ((x.cps.toList.filter p).map g)] ++ l) := by
  have hn : x.cps.toList.length = x.length := by simp [Str.length]
  obtain ⟨l, hr⟩ := lc_garm (t := t) (e := e) (ig := ig) (envw := wipeE env vs) (st := s1) (f := fun c => PV.str ⟨#[c]⟩) (by rw [hn]; exact hl) h x.cps.toList [] [] rfl
  refine ⟨l, ?_⟩
  unfold iLc
  simp only [iWalk_e, hi, ob_s, srcS_eq]
  have e3 : (srcT (x.cps.toList.map fun c => PV.str ⟨#[c]⟩)).n = x.cps.toList.length := by simp [srcT]
  rw [e3]
  simp only [List.filter_nil, List.map_nil, List.append_nil, List.length_nil] at hr
  rw [hr]; rfl
theorem filter_yes {α : Type} (xs : List α) : xs.filter (fun _ => true) = xs := List.filter_eq_self.mpr fun _ _ => rfl
theorem inA_bls {α : Type} {xs : List α} {f : α → Bool} {st : Sto} {r : Nat} (h : st[r]? = some (.lst (xs.map fun x => PV.bl (f x)))) : inA st (.bl false) (.ref r) = some (!xs.all f) := by
  unfold inA
  simp only [dictOf_r, h]
  unfold inP
  simp only [itemsOf_r, h]
  show (mapO flatP _).map (fun ws => inV (.bl false) ws) = _
  rw [mapO_flatbl, Option.map_some, inV_bls]
theorem blsOf_r {α : Type} {xs : List α} {f : α → Bool} {st : Sto} {r : Nat} (h : st[r]? = some (.lst (xs.map fun x => PV.bl (f x)))) : blsOf st (.ref r) = some (xs.map f) := by
  unfold blsOf
  rw [listOf_r, h]
  exact mapO_bls f xs
theorem ltS_lo (k a : Nat) : ltS ⟨#[k]⟩ ⟨#[a]⟩ = decide (k < a) := by
  unfold ltS
  simp [List.cons_lt_cons_iff]
theorem lc_garA {α : Type} {all : List α} {f g : α → PV} {p : α → Bool} {at_ : Sto → Nat → Option (Option PV)} {ig : IG} {t : IT} {e : IE} {st : Sto} {envw : PEnv} (hat_ : ∀ (l : Sto) (i : Nat), at_ (st ++ l) i = some ((all.map f)[i]?)) (hl : all.length < 100000)
    (h : ∀ x ∈ all, ∀ s : Sto, ∃ env1, ig (f x) envw s = some env1 ∧ t env1 s = some (p x, s) ∧ (p x = true → ∃ l, e env1 s = some (g x, s ++ l))) :
    ∀ (ys pre : List α) (l : Sto), all = pre ++ ys → ∃ l', lcLoop at_ ig t e st.length envw (ys.length + 1) pre.length (st ++ [.lst ((pre.filter p).map g)] ++ l) = some (st ++ [.lst ((all.filter p).map g)] ++ l')
  | [], pre, l, he => by
    rw [List.append_nil] at he
    subst he
    refine ⟨l, ?_⟩
    have hat := hat_ ([.lst ((all.filter p).map g)] ++ l) all.length
    rw [← List.append_assoc] at hat
    unfold lcLoop
    rw [hat]
    simp
  | y :: ys, pre, l, he => by
    obtain ⟨env1, h1, h2, h3⟩ := h y (by rw [he]; simp) (st ++ [.lst ((pre.filter p).map g)] ++ l)
    have hat : at_ (st ++ [.lst ((pre.filter p).map g)] ++ l) pre.length = some (some (f y)) := by
      rw [List.append_assoc, hat_]
      rw [he, List.map_append, List.getElem?_append_right (by simp)]
      simp
    cases hp : p y with
    | false =>
      rw [hp] at h2
      obtain ⟨l', hr⟩ := lc_garA (t := t) (st := st) hat_ hl h ys (pre ++ [y]) l (by rw [he]; simp)
      refine ⟨l', ?_⟩
      rw [← hr]
      show lcLoop _ _ _ _ _ _ (ys.length + 1 + 1) _ _ = _
      conv => lhs; unfold lcLoop
      simp only [hat, h1, h2]
      rw [List.filter_append, List.length_append]
      simp [hp]
    | true =>
      rw [hp] at h2
      obtain ⟨l1, h3⟩ := h3 hp
      have hs : (st ++ [.lst ((pre.filter p).map g)] ++ l ++ l1)[st.length]? = some (.lst ((pre.filter p).map g)) := by
        rw [List.append_assoc (st ++ [_])]
        exact at_mid
      have hlen : ((pre.filter p).map g).length < 100000 := by
        rw [List.length_map]
        have := congrArg List.length he
        have h9 := List.length_filter_le p pre
        rw [List.length_append] at this
        omega
      obtain ⟨l', hr⟩ := lc_garA (t := t) (st := st) hat_ hl h ys (pre ++ [y]) (l ++ l1) (by rw [he]; simp)
      refine ⟨l', ?_⟩
      rw [← hr]
      show lcLoop _ _ _ _ _ _ (ys.length + 1 + 1) _ _ = _
      conv => lhs; unfold lcLoop
      simp only [hat, h1, h2, h3, hs, hlen, if_true]
      have e2 : (st ++ [SO.lst ((pre.filter p).map g)] ++ l ++ l1).set st.length (.lst ((pre.filter p).map g ++ [g y])) = st ++ [SO.lst (((pre ++ [y]).filter p).map g)] ++ (l ++ l1) := by
        rw [List.append_assoc (st ++ [_]), set_mid, List.filter_append]
        simp [hp]
      rw [e2, List.length_append]
      rfl
theorem iLc_srcm {α : Type} {xs : List α} {f g : α → PV} {p : α → Bool} {ii : II} {src : Src} {e : IE} {ig : IG} {t : IT} {vs : List Nat} {env : PEnv} {st s1 : Sto} (hi : ii env st = some (src, s1)) (hn : src.n = xs.length) (hat_ : ∀ (l : Sto) (i : Nat), src.at_ (s1 ++ l) i = some ((xs.map f)[i]?)) (hl : xs.length < 100000)
    (h : ∀ x ∈ xs, ∀ s : Sto, ∃ env1, ig (f x) (wipeE env vs) s = some env1 ∧ t env1 s = some (p x, s) ∧ (p x = true → ∃ l, e env1 s = some (g x, s ++ l))) :
    ∃ l, iLc ii ig t e vs env st = some (.ref s1.length, s1 ++ [.lst ((xs.filter p).map g)] ++ l) := by
  obtain ⟨l, hr⟩ := lc_garA (t := t) (e := e) (st := s1) hat_ hl h xs [] [] rfl
  refine ⟨l, ?_⟩
  unfold iLc
  rw [hi, ob_s, hn]
  simp only [List.filter_nil, List.map_nil, List.append_nil, List.length_nil] at hr
  rw [hr]; rfl
theorem iLc_refm {α : Type} {xs : List α} {f g : α → PV} {p : α → Bool} {r : Nat} {ie : IE} {e : IE} {ig : IG} {t : IT} {vs : List Nat} {env : PEnv} {st s1 : Sto} (hi : ie env st = some (.ref r, s1)) (hr : s1[r]? = some (.lst (xs.map f))) (hl : xs.length < 100000)
    (h : ∀ x ∈ xs, ∀ s : Sto, ∃ env1, ig (f x) (wipeE env vs) s = some env1 ∧ t env1 s = some (p x, s) ∧ (p x = true → ∃ l, e env1 s = some (g x, s ++ l))) :
    ∃ l, iLc (iWalk ie) ig t e vs env st = some (.ref s1.length, s1 ++ [.lst ((xs.filter p).map g)] ++ l) :=
  iLc_srcm (src := srcL r (xs.map f).length) (by simp only [iWalk_e, hi, ob_s, hr]) (by simp [srcL]) (fun l i => by simp only [srcL, old_at hr]) hl h
theorem iLc_frzm {α : Type} {xs : List α} {f g : α → PV} {p : α → Bool} {ie : IE} {e : IE} {ig : IG} {t : IT} {vs : List Nat} {env : PEnv} {st s1 : Sto} (hi : ie env st = some (.frz (xs.map f), s1)) (hl : xs.length < 100000)
    (h : ∀ x ∈ xs, ∀ s : Sto, ∃ env1, ig (f x) (wipeE env vs) s = some env1 ∧ t env1 s = some (p x, s) ∧ (p x = true → ∃ l, e env1 s = some (g x, s ++ l))) :
    ∃ l, iLc (iWalk ie) ig t e vs env st = some (.ref s1.length, s1 ++ [.lst ((xs.filter p).map g)] ++ l) :=
  iLc_srcm (src := srcT (xs.map f)) (by simp only [iWalk_e, hi, ob_s]) (by simp [srcT]) (fun l i => by simp only [srcT]) hl h
theorem iFor_frz {ie : IE} {ig : IG} {body : IS} {env : PEnv} {st s1 : Sto} {xs : List PV} (h : ie env st = some (.frz xs, s1)) : iFor (iWalk ie) ig body env st = foldT ig body xs env s1 := by
  simp only [iFor_e, iWalk_e, h, ob_s]
  exact loop_foldT xs [] env s1 rfl
theorem goes_ref {ie : IE} {ig : IG} {body : IS} {env : PEnv} {st s1 : Sto} {r : Nat} {xs : List PV} (I : PEnv → Prop) (hi : ie env st = some (.ref r, s1)) (hx : Ext st s1) (hr : s1[r]? = some (.lst xs)) (hI : I env)
    (h : ∀ x ∈ xs, ∀ e, I e → ∀ s, ∃ e1, ig x e s = some e1 ∧ Goes body e1 s fun e2 s2 => Ext s s2 ∧ I e2) : Goes (iFor (iWalk ie) ig body) env st fun e2 s2 => Ext st s2 ∧ I e2 := by
  obtain ⟨e2, s2, h1, h2, h3⟩ := for_go (n := r) (ig := ig) (body := body) I xs (fun x hx e he s => by
    obtain ⟨e1, g1, e2, s2, g2, g3⟩ := h x hx e he s
    exact ⟨e1, e2, s2, g1, g2, g3⟩) xs [] env s1 rfl hr hI
  refine ⟨e2, s2, ?_, hx.trans h2, h3⟩
  simp only [iFor_e, iWalk_e, hi, ob_s, hr]
  exact h1
theorem goes_asgV {i : Nat} {A : IE} {env : PEnv} {st : Sto} {v : PV} (h : Vl A env v) : Goes (iAsg (gN i) A) env st fun e s => e = env.set i (some v) ∧ Ext st s := by
  obtain ⟨s, h1, h2⟩ := h st
  exact ⟨_, s, by simp [h1], rfl, h2⟩
end IL

/-! Texts joined; the items of a list with their numbers. -/
namespace IL
open PySem PySem.Spec PyProof.Rows L2
section
variable {X : Cx} {o e : Expr} {ia ib ie : IE} {pos : Pos}
def isStr : PV → Option Str
  | .str a => some a
  | _ => none
theorem strs_reps {K : PySem.W.Frag} {H : Hp} {ρ : List Addr} : ∀ {xs : List PV} {vs : List V} {bs : List Str}, Reps K H ρ xs vs → mapO isStr xs = some bs → vs = bs.map V.str
  | [], vs, bs, R, h => by
    unfold Reps at R
    subst R
    cases h
    rfl
  | x :: xs, vs, bs, R, h => by
    unfold Reps at R
    obtain ⟨v, r, rfl, r1, r2⟩ := R
    unfold mapO at h
    split at h
    · rename_i e1 e2
      cases h
      cases x <;> simp only [isStr, Option.some.injEq, reduceCtorEq] at e1
      subst e1
      unfold Rep at r1
      rw [r1, strs_reps r2 e2]
      rfl
    · cases h
def strsOf (st : Sto) (x : PV) : Option (List Str) := match itemsOf st x with
  | some xs => mapO isStr xs
  | none => none
/-- a.join(xs) -/
def iJoin (ia ib : IE) : IE := fun env st => ob (ia env st) fun x s1 => match x with
  | .str a => ob (ib env s1) fun y s2 => match strsOf s2 y with
    | some ys => if (ys.map (·.length)).sum + ys.length * a.length ≤ 100000 then some (.str (Txt.join a ys), s2) else none
    | none => none
  | _ => none
theorem r_join {apos cpos : Pos} (ho : PE X o (tI X.K ia)) (he : PE X e (tI X.K ib)) (hs : starEach [e] X.env = [(false, eval e X.env)] := by rfl) (hbase : attributeBase o "join" X.env (eval o X.env) = eval o X.env := by rfl) (hline : (apos.endLine == cpos.line) = true := by rfl) :
    PE X (.Call (.Attribute o "join" apos) [e] [] cpos) (tI X.K (iJoin ia ib)) :=
  PE.imp (pe_join ho he hs hbase hline) fun σ H Q ⟨env, st, ρ, z, st', E, S, h, q⟩ => by
    obtain ⟨x, s1, h1, h⟩ := ob_some h
    refine ⟨env, st, ρ, x, s1, E, S, h1, fun vx H1 ρ1 G1 S1 R1 => ?_⟩
    split at h
    · rename_i a
      obtain ⟨y, s2, h2, h⟩ := ob_some h
      unfold Rep at R1
      subst R1
      refine ⟨⟨a, rfl⟩, env, s1, ρ1, y, s2, E.grow S G1, S1, h2, fun vy H2 ρ2 G2 S2 R2 => ?_⟩
      split at h
      · rename_i ys e1
        split at h
        · rename_i hl
          cases h
          unfold strsOf at e1
          split at e1
          · rename_i xs e2
            obtain ⟨p, vs, rfl, t, r⟩ := items_rep S2 R2 e2
            have hv := strs_reps r e1
            rw [hv] at t
            exact ⟨a, p, ys, rfl, rfl, t, by omega, q _ H2 ρ2 (G1.trans G2) S2 (by unfold Rep; rfl)⟩
          · cases e1
        · cases h
      · cases h
    · cases h
/-- enumerate(xs) of a list -/
def srcE (n k : Nat) : Src := ⟨k, fun st i => match st[n]? with
  | some (.lst xs) => some ((xs[i]?).map fun x => .tup [.int (i : Nat), x])
  | _ => none⟩
def srcEF (xs : List PV) : Src := ⟨xs.length, fun _ i => some ((xs[i]?).map fun x => .tup [.int (i : Nat), x])⟩
theorem pair_new {K : PySem.W.Frag} {H : Hp} {ρ : List Addr} {st : Sto} (S : RepS K H ρ st) {x : PV} {v : V} {i : Nat} (R : Rep K H ρ x v) {T : Addr} (hT : H T = none) :
    Grow H ρ (upd H T (.tup [.int (i : Nat), v])) ρ ∧ RepS K (upd H T (.tup [.int (i : Nat), v])) ρ st ∧ Rep K (upd H T (.tup [.int (i : Nat), v])) ρ (.tup [.int (i : Nat), x]) (.ref T) :=
  ⟨grow_new hT, S.new hT, new_tup S (by unfold Reps; exact ⟨_, _, rfl, by unfold Rep; rfl, by unfold Reps; exact ⟨_, _, rfl, R, by unfold Reps; rfl⟩⟩) hT⟩
theorem srcE_ok {K : PySem.W.Frag} {H0 : Hp} {ρ0 : List Addr} {n k : Nat} {a : Addr} (h : ρ0[n]? = some a) : SrcOk K (srcE n k) (Ite K a) H0 ρ0 := fun H ρ st G S i => by
  have ha := G.ix h
  refine ⟨fun hs => ?_, fun x hs => ?_⟩
  · simp only [srcE] at hs
    split at hs
    · rename_i xs e
      obtain ⟨b, hb, vs, h1, h2⟩ := S.at_ _ _ e
      rw [ha] at hb; cases hb
      exact ⟨vs, .of h1, by rw [← h2.length]; simpa using hs⟩
    · cases hs
  · simp only [srcE] at hs
    split at hs
    · rename_i xs e
      obtain ⟨b, hb, vs, h1, h2⟩ := S.at_ _ _ e
      rw [ha] at hb; cases hb
      cases hx : xs[i]? with
      | none => rw [hx] at hs; cases hs
      | some y =>
        rw [hx] at hs
        cases hs
        obtain ⟨v, hv, r⟩ := h2.get hx
        refine ⟨⟨vs, v, .of h1, hv⟩, fun w H' yl => ?_⟩
        obtain ⟨T, u, rfl, hT, rfl, yl⟩ := yl
        have := yl vs (.of h1)
        rw [hv] at this; cases this
        obtain ⟨g1, g2, g3⟩ := pair_new (i := i) S r hT
        exact ⟨ρ, g1, g2, g3⟩
    · cases hs
theorem srcEF_ok {K : PySem.W.Frag} {H0 : Hp} {ρ0 : List Addr} {st0 : Sto} {xs : List PV} {vs : List V} {a : Addr} (S0 : RepS K H0 ρ0 st0) (h : FrzAt K H0 ρ0 a vs) (r : Reps K H0 ρ0 xs vs) : SrcOk K (srcEF xs) (Ite K a) H0 ρ0 := fun H ρ st G S i => by
  have h1 := (h.grow G).sq
  have r1 := Reps.grow S0 G _ _ r
  refine ⟨fun hs => ?_, fun x hs => ?_⟩
  · simp only [srcEF] at hs
    exact ⟨vs, h1, by rw [← r1.length]; simpa using hs⟩
  · simp only [srcEF] at hs
    cases hx : xs[i]? with
    | none => rw [hx] at hs; cases hs
    | some y =>
      rw [hx] at hs
      cases hs
      obtain ⟨v, hv, r⟩ := r1.get hx
      refine ⟨⟨vs, v, h1, hv⟩, fun w H' yl => ?_⟩
      obtain ⟨T, u, rfl, hT, rfl, yl⟩ := yl
      have := yl vs h1
      rw [hv] at this; cases this
      obtain ⟨g1, g2, g3⟩ := pair_new (i := i) S r hT
      exact ⟨ρ, g1, g2, g3⟩
def enumSrc (s : Sto) : PV → Option Src
  | .frz xs => some (srcEF xs)
  | .ref n => match s[n]? with
    | some (.lst xs) => some (srcE n xs.length)
    | _ => none
  | _ => none
def iEnumL (ir : IA) : II := fun env st => ob (ir env st) fun xs s => match xs with
  | [x] => (enumSrc s x).map fun src => (src, s)
  | _ => none
theorem i_enum {e : Expr} {ir : IA} {p tpos pos : Pos} {elts : List Expr} {kk : Nat} (hg : Gl X "enumerate") (hm : X.mg "enumerate" = none) (ha : PA X [e] (tIA X.K ir)) (hs : starEach [e] X.env = [(false, eval e X.env)] := by rfl) :
    PI X (.Tuple elts kk tpos) (.Call (.Name "enumerate" p) [e] [] pos) (tII X.K (iEnumL ir)) := PI.imp (pi_enum hg hm ha hs) fun σ H R ⟨env, s, ρ, src, st', E, S, h, q⟩ => by
  obtain ⟨xs, s1, h1, h⟩ := ob_some h
  split at h
  · rename_i x
    obtain ⟨src', e2, e3⟩ := map_some h
    cases e3
    refine ⟨env, s, ρ, _, _, E, S, h1, fun v H1 ρ1 G1 S1 R1 => ?_⟩
    unfold Reps at R1
    obtain ⟨w, r, rfl, R1, R2⟩ := R1
    unfold Reps at R2
    subst R2
    cases x with
    | frz xs =>
      cases e2
      unfold Rep at R1
      obtain ⟨a, vs, rfl, t1, t2⟩ := R1
      exact ⟨a, vs, rfl, t1.sq, q _ H1 ρ1 G1 S1 (srcEF_ok S1 t1 t2)⟩
    | ref n =>
      simp only [enumSrc] at e2
      split at e2
      · rename_i xs e1
        cases e2
        unfold Rep at R1
        obtain ⟨a, rfl, t1⟩ := R1
        obtain ⟨b, hb, vs, h3, h4⟩ := S1.at_ _ _ e1
        rw [t1] at hb; cases hb
        exact ⟨a, vs, rfl, .of h3, q _ H1 ρ1 G1 S1 (srcE_ok t1)⟩
      · cases e2
    | _ => cases e2
  · cases h
end
end IL

namespace IL
open PySem PySem.Spec PyProof.Rows L2
section
variable {X : Cx} {ik ie : IE} {it : IT} {pos : Pos}
/-! ### dict comprehensions -/
def dcLoop (at_ : Sto → Nat → Option (Option PV)) (ig : IG) (t : IT) (ek e : IE) (d : Nat) (env : PEnv) : Nat → Nat → Sto → Option Sto
  | 0, _, _ => none
  | m + 1, i, st => match at_ st i with
    | none => none
    | some none => some st
    | some (some x) => match ig x env st with
      | none => none
      | some env1 => match t env1 st with
        | none => none
        | some (false, s1) => dcLoop at_ ig t ek e d env m (i + 1) s1
        | some (true, s1) => match ek env1 s1 with
          | none => none
          | some (k, s2) => match e env1 s2 with
            | none => none
            | some (y, s3) => match keyP k, s3[d]? with
              | some kk, some (.dK acc) => if nodupK acc && decide (acc.length < 100000) then dcLoop at_ ig t ek e d env m (i + 1) (s3.set d (.dK (putP acc kk y))) else none
              | _, _ => none
def iDc (ii : II) (ig : IG) (t : IT) (ek e : IE) (vs : List Nat) : IE := fun env st => ob (ii env st) fun src s =>
  (dcLoop src.at_ ig t ek e s.length (wipeE env vs) (src.n + 1) 0 (s ++ [.dK []])).map fun s' => (.ref s.length, s')
theorem dc_to {K : PySem.W.Frag} {ii : II} {ig : IG} {T vs : List Nat} {σ : L2.St} {H : Hp} {Q : VK} (hT : ∀ i ∈ T, i ∈ vs) (h : tI K (iDc ii ig it ik ie vs) σ H Q) : tDc (tII K ii) (tIG K T ig) (tIT K it) (tI K ik) (tI K ie) vs σ H Q := by
  obtain ⟨env, s, ρ, z, st', E, S, h, q⟩ := h
  obtain ⟨src, s1, h1, h⟩ := ob_some h
  obtain ⟨hl, hz⟩ : dcLoop src.at_ ig it ik ie s1.length (wipeE env vs) (src.n + 1) 0 (s1 ++ [.dK []]) = some st' ∧ z = .ref s1.length := by
    cases e : dcLoop src.at_ ig it ik ie s1.length (wipeE env vs) (src.n + 1) 0 (s1 ++ [.dK []]) with
    | none => rw [e] at h; cases h
    | some s' => rw [e] at h; cases h; exact ⟨rfl, rfl⟩
  subst hz
  refine ⟨env, s, ρ, src, s1, E, S, h1, fun J H1 ρ1 G1 S1 O Dl hD => ?_⟩
  have g0 : Grow H1 ρ1 (upd H1 Dl (.dK [])) (ρ1 ++ [Dl]) := grow_alloc hD
  have E1 : RepE K H1 ρ1 env σ := E.grow S G1
  refine ⟨fun i m H' => ∃ st2 ρ', Grow (upd H1 Dl (.dK [])) (ρ1 ++ [Dl]) H' ρ' ∧ RepS K H' ρ' st2 ∧ dcLoop src.at_ ig it ik ie s1.length (wipeE env vs) m i st2 = some st',
    ⟨src.n + 1, _, _, Grow.refl, S1.alloc (so := .dK []) hD ⟨[], upd_same, rfl⟩, hl⟩, ?_⟩
  rintro i m H' ⟨st2, ρ', G', S', hl⟩
  have ix : ρ'[s1.length]? = some Dl := G'.ix (by rw [← S1.len, List.getElem?_append_right (Nat.le_refl _)]; simp)
  cases m with
  | zero => cases hl
  | succ m =>
    unfold dcLoop at hl
    obtain ⟨o1, o2⟩ := O H' ρ' st2 (g0.trans G') S' i
    split at hl
    · cases hl
    · rename_i e1
      cases hl
      refine .inl ⟨o1 e1, q _ H' ρ' (G1.trans (g0.trans G')) S' ?_⟩
      unfold Rep
      exact ⟨Dl, rfl, ix⟩
    · rename_i x e1
      obtain ⟨go, yl⟩ := o2 x e1
      split at hl
      · cases hl
      · rename_i env1 e2
        refine .inr ⟨go, fun H2 => ∃ m', m' < m + 1 ∧ ∃ st2 ρ', Grow (upd H1 Dl (.dK [])) (ρ1 ++ [Dl]) H2 ρ' ∧ RepS K H2 ρ' st2 ∧ dcLoop src.at_ ig it ik ie s1.length (wipeE env vs) m' (i + 1) st2 = some st', fun H2 n => n, fun v H2 y => ?_⟩
        obtain ⟨ρ2, G2, S2, R2⟩ := yl v H2 y
        have Ew : RepE K H2 ρ2 (wipeE env vs) (L2.wipe σ vs) := (E1.wipe vs).grow S1 ((g0.trans G').trans G2)
        refine ⟨wipeE env vs, st2, ρ2, x, env1, Ew, S2, R2, e2, fun σ3 E3 l3 a3 => ⟨?_, ?_⟩⟩
        · rw [L2.wipe_length] at l3
          exact wipe_same l3 fun j hj => a3 j fun z => hj (hT j z)
        · cases e3 : it env1 st2 with
          | none => rw [e3] at hl; cases hl
          | some r =>
            obtain ⟨b, s3⟩ := r
            rw [e3] at hl
            refine ⟨env1, st2, ρ2, b, s3, E3, S2, e3, fun H3 ρ3 G3 S3 => ?_⟩
            cases b with
            | false =>
              rw [if_neg Bool.false_ne_true]
              exact ⟨m, Nat.lt_succ_self m, s3, ρ3, (G'.trans G2).trans G3, S3, hl⟩
            | true =>
              rw [if_pos rfl]
              simp only at hl
              cases e4 : ik env1 s3 with
              | none => rw [e4] at hl; cases hl
              | some r =>
                obtain ⟨kx, s4⟩ := r
                rw [e4] at hl
                refine ⟨env1, s3, ρ3, kx, s4, E3.grow S2 G3, S3, e4, fun u H4 ρ4 G4 S4 R4 => ?_⟩
                simp only at hl
                cases e6 : ie env1 s4 with
                | none => rw [e6] at hl; cases hl
                | some r =>
                  obtain ⟨y, s5⟩ := r
                  rw [e6] at hl
                  refine ⟨env1, s4, ρ4, y, s5, (E3.grow S2 G3).grow S3 G4, S4, e6, fun w H5 ρ5 G5 S5 R5 => ?_⟩
                  simp only at hl
                  split at hl
                  · rename_i kk acc ek e5
                    split at hl
                    · rename_i hlen
                      rw [Bool.and_eq_true, decide_eq_true_eq] at hlen
                      have ix4 : ρ5[s1.length]? = some Dl := (G2.trans (G3.trans (G4.trans G5))).ix ix
                      obtain ⟨b, hb, ws, h2, h3⟩ := S5.at_ _ _ e5
                      rw [ix4] at hb; cases hb
                      have gw : Grow H5 ρ5 (upd H5 Dl (.dK (putK ws kk w))) ρ5 := grow_write h2 (List.mem_of_getElem? ix4)
                      refine ⟨ws, kk, key_rep R4 ek, h2, line6 (by rw [← h3.length]; exact hlen.2), m, Nat.lt_succ_self m, _, ρ5, (((G'.trans G2).trans G3).trans G4).trans (G5.trans gw), S5.write (so := .dK (putP acc kk y)) ix4 h2 ⟨_, upd_same, ?_⟩, hl⟩
                      exact RepK.grow S5 gw _ _ (put_rep R5 (of_decide_eq_true hlen.1) h3)
                    · cases hl
                  · cases hl
theorem r_dc {kx elt tg iter : Expr} {ifs : List Expr} {scope : Scope} {own : List (Str × Nat)} {ii : II} {T : List Nat} {ig : IG} (hc : X.calm = true) (hN : X.N.Nodup) (hi : PI X tg iter (tII X.K ii)) (ok : BlkOk X.N X.env.scope scope own)
    (hT : ∀ i ∈ T, i ∈ own.map (·.2))
    (hg : ∀ (s : Shared) (H : Hp) (C : Addr) (cl : List (Str × Addr)) (fp : List Addr), PG (X.blk s H scope (compEnvC scope cl C X.env) fp) tg (tIG X.K T ig)) (ht : ∀ (s : Shared) (H : Hp) (C : Addr) (cl : List (Str × Addr)) (fp : List Addr), PTs (X.blk s H scope (compEnvC scope cl C X.env) fp) ifs (tIT X.K it))
    (hk : ∀ (s : Shared) (H : Hp) (C : Addr) (cl : List (Str × Addr)) (fp : List Addr), PE (X.blk s H scope (compEnvC scope cl C X.env) fp) kx (tI X.K ik))
    (he : ∀ (s : Shared) (H : Hp) (C : Addr) (cl : List (Str × Addr)) (fp : List Addr), PE (X.blk s H scope (compEnvC scope cl C X.env) fp) elt (tI X.K ie)) (hs : ∀ x, foldedSetIterable iter X.env x = pure x := by intro _; rfl) :
    PE X (.DictComp kx elt [⟨tg, iter, ifs, 0⟩] scope pos) (tI X.K (iDc ii ig it ik ie (own.map (·.2)))) :=
  PE.imp (pe_dc hc hN hi ok hg ht hk he hs) fun _ _ _ h => dc_to hT h
end
end IL

namespace M30
open PySem PySem.Spec PyProof.Rows L2 IL
/-! ## the program's defs as plain functions -/
def top (i : Nat) : Stmt := PySem.Challenge.pw_flowreprise_k30_operations.main.body.getD i (.Pass ⟨0, 0, 0, 0⟩)
abbrev s_is_type : Stmt := top 9
theorem sc_is_type : FnScope ["kind", "inner", "depth"] ["kind"] (C8.fnScope s_is_type) := ⟨rfl, rfl, rfl, by decide +kernel, rfl, by decide +kernel, by decide +kernel⟩
abbrev s_is_letter : Stmt := top 10
theorem sc_is_letter : FnScope ["letter"] ["letter"] (C8.fnScope s_is_letter) := ⟨rfl, rfl, rfl, by decide +kernel, rfl, by decide +kernel, by decide +kernel⟩
abbrev s_list_depth : Stmt := top 11
theorem sc_list_depth : FnScope ["value", "item"] ["value"] (C8.fnScope s_list_depth) := ⟨rfl, rfl, rfl, by decide +kernel, rfl, by decide +kernel, by decide +kernel⟩
abbrev s__bounded_at : Stmt := top 12
theorem sc__bounded_at : FnScope ["value", "depth", "item", "letter"] ["value", "depth"] (C8.fnScope s__bounded_at) := ⟨rfl, rfl, rfl, by decide +kernel, rfl, by decide +kernel, by decide +kernel⟩
abbrev s_is_bounded : Stmt := top 13
theorem sc_is_bounded : FnScope ["value"] ["value"] (C8.fnScope s_is_bounded) := ⟨rfl, rfl, rfl, by decide +kernel, rfl, by decide +kernel, by decide +kernel⟩
abbrev s_fits : Stmt := top 14
theorem sc_fits : FnScope ["value", "kind", "item"] ["value", "kind"] (C8.fnScope s_fits) := ⟨rfl, rfl, rfl, by decide +kernel, rfl, by decide +kernel, by decide +kernel⟩
abbrev s_known_type : Stmt := top 15
theorem sc_known_type : FnScope ["value", "inner", "item"] ["value"] (C8.fnScope s_known_type) := ⟨rfl, rfl, rfl, by decide +kernel, rfl, by decide +kernel, by decide +kernel⟩
abbrev s_joined : Stmt := top 16
theorem sc_joined : FnScope ["one", "other", "inner"] ["one", "other"] (C8.fnScope s_joined) := ⟨rfl, rfl, rfl, by decide +kernel, rfl, by decide +kernel, by decide +kernel⟩
abbrev s__number : Stmt := top 18
theorem sc__number : FnScope ["n"] ["n"] (C8.fnScope s__number) := ⟨rfl, rfl, rfl, by decide +kernel, rfl, by decide +kernel, by decide +kernel⟩
abbrev s__letters : Stmt := top 19
theorem sc__letters : FnScope ["text"] ["text"] (C8.fnScope s__letters) := ⟨rfl, rfl, rfl, by decide +kernel, rfl, by decide +kernel, by decide +kernel⟩
abbrev s__calculated : Stmt := top 20
theorem sc__calculated : FnScope ["sign", "m", "n"] ["sign", "m", "n"] (C8.fnScope s__calculated) := ⟨rfl, rfl, rfl, by decide +kernel, rfl, by decide +kernel, by decide +kernel⟩
abbrev s__joined_up : Stmt := top 21
theorem sc__joined_up : FnScope ["a", "b"] ["a", "b"] (C8.fnScope s__joined_up) := ⟨rfl, rfl, rfl, by decide +kernel, rfl, by decide +kernel, by decide +kernel⟩
abbrev s__compared : Stmt := top 22
theorem sc__compared : FnScope ["sign", "a", "b"] ["sign", "a", "b"] (C8.fnScope s__compared) := ⟨rfl, rfl, rfl, by decide +kernel, rfl, by decide +kernel, by decide +kernel⟩
abbrev s_operate : Stmt := top 23
theorem sc_operate : FnScope ["sign", "a", "b"] ["sign", "a", "b"] (C8.fnScope s_operate) := ⟨rfl, rfl, rfl, by decide +kernel, rfl, by decide +kernel, by decide +kernel⟩
abbrev s_inverted : Stmt := top 24
theorem sc_inverted : FnScope ["a"] ["a"] (C8.fnScope s_inverted) := ⟨rfl, rfl, rfl, by decide +kernel, rfl, by decide +kernel, by decide +kernel⟩
abbrev s_negated : Stmt := top 25
theorem sc_negated : FnScope ["a"] ["a"] (C8.fnScope s_negated) := ⟨rfl, rfl, rfl, by decide +kernel, rfl, by decide +kernel, by decide +kernel⟩
abbrev s_item_of : Stmt := top 26
theorem sc_item_of : FnScope ["a", "index"] ["a", "index"] (C8.fnScope s_item_of) := ⟨rfl, rfl, rfl, by decide +kernel, rfl, by decide +kernel, by decide +kernel⟩
abbrev s_size_of : Stmt := top 27
theorem sc_size_of : FnScope ["a"] ["a"] (C8.fnScope s_size_of) := ⟨rfl, rfl, rfl, by decide +kernel, rfl, by decide +kernel, by decide +kernel⟩
abbrev s_text_of : Stmt := top 28
theorem sc_text_of : FnScope ["a"] ["a"] (C8.fnScope s_text_of) := ⟨rfl, rfl, rfl, by decide +kernel, rfl, by decide +kernel, by decide +kernel⟩
abbrev s_list_of : Stmt := top 29
theorem sc_list_of : FnScope ["items", "made"] ["items"] (C8.fnScope s_list_of) := ⟨rfl, rfl, rfl, by decide +kernel, rfl, by decide +kernel, by decide +kernel⟩
abbrev s_is_value : Stmt := top 30
theorem sc_is_value : FnScope ["value"] ["value"] (C8.fnScope s_is_value) := ⟨rfl, rfl, rfl, by decide +kernel, rfl, by decide +kernel, by decide +kernel⟩
abbrev s_is_of : Stmt := top 31
theorem sc_is_of : FnScope ["value", "sort"] ["value", "sort"] (C8.fnScope s_is_of) := ⟨rfl, rfl, rfl, by decide +kernel, rfl, by decide +kernel, by decide +kernel⟩
abbrev s__law_state : Stmt := top 33
theorem sc__law_state : FnScope ["script", "cells", "cell"] ["script"] (C8.fnScope s__law_state) := ⟨rfl, rfl, rfl, by decide +kernel, rfl, by decide +kernel, by decide +kernel⟩
abbrev s__law_take : Stmt := top 34
theorem sc__law_take : FnScope ["state", "most", "cells", "at", "cell", "mixed"] ["state", "most"] (C8.fnScope s__law_take) := ⟨rfl, rfl, rfl, by decide +kernel, rfl, by decide +kernel, by decide +kernel⟩
abbrev s__law_number : Stmt := top 35
theorem sc__law_number : FnScope ["n"] ["n"] (C8.fnScope s__law_number) := ⟨rfl, rfl, rfl, by decide +kernel, rfl, by decide +kernel, by decide +kernel⟩
abbrev s__law_operated : Stmt := top 36
theorem sc__law_operated : FnScope ["sign", "a", "b", "one", "two", "rest"] ["sign", "a", "b"] (C8.fnScope s__law_operated) := ⟨rfl, rfl, rfl, by decide +kernel, rfl, by decide +kernel, by decide +kernel⟩
abbrev s__law_shaped : Stmt := top 37
theorem sc__law_shaped : FnScope ["kind", "values", "a", "at"] ["kind", "values"] (C8.fnScope s__law_shaped) := ⟨rfl, rfl, rfl, by decide +kernel, rfl, by decide +kernel, by decide +kernel⟩
abbrev s__law_int : Stmt := top 38
theorem sc__law_int : FnScope ["state", "number"] ["state"] (C8.fnScope s__law_int) := ⟨rfl, rfl, rfl, by decide +kernel, rfl, by decide +kernel, by decide +kernel⟩
abbrev s__law_text : Stmt := top 39
theorem sc__law_text : FnScope ["state"] ["state"] (C8.fnScope s__law_text) := ⟨rfl, rfl, rfl, by decide +kernel, rfl, by decide +kernel, by decide +kernel⟩
abbrev s__law_list : Stmt := top 40
theorem sc__law_list : FnScope ["state", "k"] ["state"] (C8.fnScope s__law_list) := ⟨rfl, rfl, rfl, by decide +kernel, rfl, by decide +kernel, by decide +kernel⟩
abbrev s__law_bounds : Stmt := top 41
theorem sc__law_bounds : FnScope ["state", "number", "good", "value", "many", "deep", "wrong"] ["state"] (C8.fnScope s__law_bounds) := ⟨rfl, rfl, rfl, by decide +kernel, rfl, by decide +kernel, by decide +kernel⟩
abbrev s_law : Stmt := top 42
theorem sc_law : FnScope ["script", "state", "turn", "a", "b", "c", "d", "e", "f", "sign", "g", "h", "at"] ["script"] (C8.fnScope s_law) := ⟨rfl, rfl, rfl, by decide +kernel, rfl, by decide +kernel, by decide +kernel⟩
def allStrs : List Str := ([" ", "~", "list", "int", "text", "ok", "failed", "+", "-", "*", "=", "!=", "<", "/", "&", "bool"] : List Str) ++ (["true", "false", "<=", "not", "neg", "item", "size", "", "a", "ab", "x", "B", "~ ", "a\t", "nothing", "text of"] : List Str)
def Sx (i : Nat) : Str := allStrs.getD i ""
abbrev S_x20 : Str := Sx 0
abbrev S_x7e : Str := Sx 1
abbrev S_list : Str := Sx 2
abbrev S_int : Str := Sx 3
abbrev S_text : Str := Sx 4
abbrev S_ok : Str := Sx 5
abbrev S_failed : Str := Sx 6
abbrev S_x2b : Str := Sx 7
abbrev S_x2d : Str := Sx 8
abbrev S_x2a : Str := Sx 9
abbrev S_x3d : Str := Sx 10
abbrev S_x21x3d : Str := Sx 11
abbrev S_x3c : Str := Sx 12
abbrev S_x2f : Str := Sx 13
abbrev S_x26 : Str := Sx 14
abbrev S_bool : Str := Sx 15
abbrev S_true : Str := Sx 16
abbrev S_false : Str := Sx 17
abbrev S_x3cx3d : Str := Sx 18
abbrev S_not : Str := Sx 19
abbrev S_neg : Str := Sx 20
abbrev S_item : Str := Sx 21
abbrev S_size : Str := Sx 22
abbrev S_ : Str := Sx 23
abbrev S_a : Str := Sx 24
abbrev S_ab : Str := Sx 25
abbrev S_x : Str := Sx 26
abbrev S_B : Str := Sx 27
abbrev S_x7ex20 : Str := Sx 28
abbrev S_ax09 : Str := Sx 29
abbrev S_nothing : Str := Sx 30
abbrev S_textx20of : Str := Sx 31
@[simp] theorem Sx_eq {i j : Nat} (hi : i < 32) (hj : j < 32) : (Sx i == Sx j) = decide (i = j) := (by decide +kernel : ∀ i : Fin 32, ∀ j : Fin 32, (Sx i == Sx j) = decide (i.val = j.val)) ⟨i, hi⟩ ⟨j, hj⟩
@[simp] theorem Sx_inj {i j : Nat} (hi : i < 32) (hj : j < 32) : (Sx i = Sx j) = (i = j) := propext ⟨fun e => by have h := Sx_eq hi hj; rw [e] at h; exact of_decide_eq_true (h.symm.trans (beq_self_eq_true _)), fun e => by rw [e]⟩
@[simp] theorem Sx_ok {i : Nat} (hi : i < 32) : PyData.strOk (Sx i) = true := (by decide +kernel : ∀ i : Fin 32, PyData.strOk (Sx i) = true) ⟨i, hi⟩
def lens : List Nat := [1, 1, 4, 3, 4, 2, 6, 1, 1, 1, 1, 2, 1, 1, 1, 4, 4, 5, 2, 3, 3, 4, 4, 0, 1, 2, 1, 1, 2, 2, 7, 7]
@[simp] theorem Sx_len {i : Nat} (hi : i < 32) : (Sx i).length = lens.getD i 0 := (by decide +kernel : ∀ i : Fin 32, (Sx i).length = lens.getD i 0) ⟨i, hi⟩
@[simp] theorem eqP_S {st : Sto} {i j : Nat} (hi : i < 32) (hj : j < 32) : eqP st (.str (Sx i)) (.str (Sx j)) = some (decide (i = j)) := by rw [eqP_s, Sx_ok hi, Sx_ok hj, Sx_eq hi hj]; rfl
abbrev c_NO_QUOTIENT : PV := (.int 1)
abbrev c_TOO_GREAT : PV := (.int 2)
abbrev c_NO_ITEM : PV := (.int 3)
abbrev c_SIMPLE_KINDS : PV := (.tup [(.str S_int), (.str S_bool), (.str S_text), (.str S_nothing)])
abbrev c_MOST_NUMBER : PV := (.int 1000000000000)
abbrev c_MOST_LETTERS : PV := (.int 60)
abbrev c_MOST_ITEMS : PV := (.int 20)
abbrev c_MOST_DEPTH : PV := (.int 6)
def b_is_type (F : Nat → FA) : IS := (iSeq (iAsg (gN 1) (iVar 0)) (iSeq (iAsg (gN 2) (iC (.int 0))) (iSeq (iWhile (iTest (iCall (a2 fIsi) (iCons (iVar 1) (iCons (iC (.ty "tuple")) iNil)))) (iSeq (iAsg (gN 1) (iBin fSubA (iVar 1) (iC (.int 1)))) (iAugAdd 2 (iC (.int 1))))) (iRet (iAndV (iBin fInA (iVar 1) (iC c_SIMPLE_KINDS)) (iBin fLe (iVar 2) (iC c_MOST_DEPTH)))))))
def b_is_letter (F : Nat → FA) : IS := (iRet (iChain fLe fLe (iC (.str S_x20)) (iVar 0) (iC (.str S_x7e))))
def b_list_depth (F : Nat → FA) : IS := (iSeq (iIfS (iTestB (iBin fNe (iBin fSubA (iVar 0) (iC (.int 0))) (iC (.str S_list)))) (iRet (iC (.int 0))) iSkip) (iRet (iBin fAdd (iC (.int 1)) (iMaxDef (iCons (iLc (iWalk (iBin fSubA (iVar 0) (iC (.int 1)))) (gN 1) iYes (iCall (F 2) (iCons (iVar 1) iNil)) [1]) iNil) (iCons (iC (.int 0)) iNil)))))
def b__bounded_at (F : Nat → FA) : IS := (iSeq (iIfS (iTestB (iBin fEq (iBin fSubA (iVar 0) (iC (.int 0))) (iC (.str S_int)))) (iRet (iChain fLe fLe (iUn fNeg (iC c_MOST_NUMBER)) (iBin fSubA (iVar 0) (iC (.int 1))) (iC c_MOST_NUMBER))) iSkip) (iSeq (iIfS (iTestB (iBin fEq (iBin fSubA (iVar 0) (iC (.int 0))) (iC (.str S_text)))) (iRet (iAndV (iBin fLe (iCall (a1 fLen) (iCons (iBin fSubA (iVar 0) (iC (.int 1))) iNil)) (iC c_MOST_LETTERS)) (iCall (a1 fAll) (iCons (iLc (iWalk (iBin fSubA (iVar 0) (iC (.int 1)))) (gN 3) iYes (iCall (F 1) (iCons (iVar 3) iNil)) [3]) iNil)))) iSkip) (iSeq (iIfS (iTestB (iBin fEq (iBin fSubA (iVar 0) (iC (.int 0))) (iC (.str S_list)))) (iSeq (iIfS (iOr (iTestB (iBin fEq (iVar 1) (iC c_MOST_DEPTH))) (iTestB (iBin fGt (iCall (a1 fLen) (iCons (iBin fSubA (iVar 0) (iC (.int 1))) iNil)) (iC c_MOST_ITEMS)))) (iRet (iC (.bl false))) iSkip) (iRet (iCall (a1 fAll) (iCons (iLc (iWalk (iBin fSubA (iVar 0) (iC (.int 1)))) (gN 2) iYes (iCall (F 3) (iCons (iVar 2) (iCons (iBin fAdd (iVar 1) (iC (.int 1))) iNil))) [2]) iNil)))) iSkip) (iRet (iC (.bl true))))))
def b_is_bounded (F : Nat → FA) : IS := (iRet (iCall (F 3) (iCons (iVar 0) (iCons (iC (.int 0)) iNil))))
def b_fits (F : Nat → FA) : IS := (iSeq (iIfS (iTestB (iBin fEq (iBin fSubA (iVar 0) (iC (.int 0))) (iC (.str S_list)))) (iRet (iAndV (iCall (a2 fIsi) (iCons (iVar 1) (iCons (iC (.ty "tuple")) iNil))) (iCall (a1 fAll) (iCons (iLc (iWalk (iBin fSubA (iVar 0) (iC (.int 1)))) (gN 2) iYes (iCall (F 5) (iCons (iVar 2) (iCons (iBin fSubA (iVar 1) (iC (.int 1))) iNil))) [2]) iNil)))) iSkip) (iRet (iBin fEq (iBin fSubA (iVar 0) (iC (.int 0))) (iVar 1))))
def b_known_type (F : Nat → FA) : IS := (iSeq (iIfS (iTestB (iBin fNe (iBin fSubA (iVar 0) (iC (.int 0))) (iC (.str S_list)))) (iRet (iBin fSubA (iVar 0) (iC (.int 0)))) iSkip) (iSeq (iAsg (gN 1) (iC .non)) (iSeq (iFor (iWalk (iBin fSubA (iVar 0) (iC (.int 1)))) (gN 2) (iSeq (iAsg (gN 1) (iCall (F 7) (iCons (iVar 1) (iCons (iCall (F 6) (iCons (iVar 2) iNil)) iNil)))) (iIfS (iTestB (iBin fIs (iVar 1) (iC (.bl false)))) (iRet (iC (.bl false))) iSkip))) (iRet (iTup (iCons (iC (.str S_list)) (iCons (iVar 1) iNil)))))))
def b_joined (F : Nat → FA) : IS := (iSeq (iIfS (iOr (iTestB (iBin fIs (iVar 0) (iC .non))) (iTestB (iBin fEq (iVar 0) (iVar 1)))) (iRet (iVar 1)) iSkip) (iSeq (iIfS (iTestB (iBin fIs (iVar 1) (iC .non))) (iRet (iVar 0)) iSkip) (iSeq (iIfS (iAnd (iTest (iCall (a2 fIsi) (iCons (iVar 0) (iCons (iC (.ty "tuple")) iNil)))) (iTest (iCall (a2 fIsi) (iCons (iVar 1) (iCons (iC (.ty "tuple")) iNil))))) (iSeq (iAsg (gN 2) (iCall (F 7) (iCons (iBin fSubA (iVar 0) (iC (.int 1))) (iCons (iBin fSubA (iVar 1) (iC (.int 1))) iNil)))) (iRet (iIf (iTestB (iBin fIs (iVar 2) (iC (.bl false)))) (iC (.bl false)) (iTup (iCons (iC (.str S_list)) (iCons (iVar 2) iNil)))))) iSkip) (iRet (iC (.bl false))))))
def b__number (F : Nat → FA) : IS := (iSeq (iIfS (iTestB (iChain fLe fLe (iUn fNeg (iC c_MOST_NUMBER)) (iVar 0) (iC c_MOST_NUMBER))) (iRet (iTup (iCons (iC (.str S_ok)) (iCons (iTup (iCons (iC (.str S_int)) (iCons (iVar 0) iNil))) iNil)))) iSkip) (iRet (iTup (iCons (iC (.str S_failed)) (iCons (iC c_TOO_GREAT) iNil)))))
def b__letters (F : Nat → FA) : IS := (iSeq (iIfS (iTestB (iBin fLe (iCall (a1 fLen) (iCons (iVar 0) iNil)) (iC c_MOST_LETTERS))) (iRet (iTup (iCons (iC (.str S_ok)) (iCons (iTup (iCons (iC (.str S_text)) (iCons (iVar 0) iNil))) iNil)))) iSkip) (iRet (iTup (iCons (iC (.str S_failed)) (iCons (iC c_TOO_GREAT) iNil)))))
def b__calculated (F : Nat → FA) : IS := (iSeq (iIfS (iTestB (iBin fEq (iVar 0) (iC (.str S_x2b)))) (iRet (iCall (F 8) (iCons (iBin fAdd (iVar 1) (iVar 2)) iNil))) iSkip) (iSeq (iIfS (iTestB (iBin fEq (iVar 0) (iC (.str S_x2d)))) (iRet (iCall (F 8) (iCons (iBin fSub (iVar 1) (iVar 2)) iNil))) iSkip) (iSeq (iIfS (iTestB (iBin fEq (iVar 0) (iC (.str S_x2a)))) (iRet (iCall (F 8) (iCons (iBin fMul (iVar 1) (iVar 2)) iNil))) iSkip) (iSeq (iIfS (iTestB (iBin fEq (iVar 2) (iC (.int 0)))) (iRet (iTup (iCons (iC (.str S_failed)) (iCons (iC c_NO_QUOTIENT) iNil)))) iSkip) (iRet (iCall (F 8) (iCons (iBin fDiv (iVar 1) (iVar 2)) iNil)))))))
def b__joined_up (F : Nat → FA) : IS := (iSeq (iIfS (iTestB (iBin fEq (iBin fSubA (iVar 0) (iC (.int 0))) (iC (.str S_text)))) (iRet (iCall (F 9) (iCons (iBin fAdd (iBin fSubA (iVar 0) (iC (.int 1))) (iBin fSubA (iVar 1) (iC (.int 1)))) iNil))) iSkip) (iRet (iCall (F 19) (iCons (iBin fAdd (iBin fSubA (iVar 0) (iC (.int 1))) (iBin fSubA (iVar 1) (iC (.int 1)))) iNil))))
def b__compared (F : Nat → FA) : IS := (iSeq (iIfS (iTestB (iBin fEq (iVar 0) (iC (.str S_x3d)))) (iRet (iBin fEq (iVar 1) (iVar 2))) iSkip) (iSeq (iIfS (iTestB (iBin fEq (iVar 0) (iC (.str S_x21x3d)))) (iRet (iBin fNe (iVar 1) (iVar 2))) iSkip) (iSeq (iIfS (iTestB (iBin fEq (iVar 0) (iC (.str S_x3c)))) (iRet (iBin fLt (iBin fSubA (iVar 1) (iC (.int 1))) (iBin fSubA (iVar 2) (iC (.int 1))))) iSkip) (iRet (iBin fLe (iBin fSubA (iVar 1) (iC (.int 1))) (iBin fSubA (iVar 2) (iC (.int 1))))))))
def b_operate (F : Nat → FA) : IS := (iSeq (iIfS (iTestB (iBin fInA (iVar 0) (iTup (iCons (iC (.str S_x2b)) (iCons (iC (.str S_x2d)) (iCons (iC (.str S_x2a)) (iCons (iC (.str S_x2f)) iNil))))))) (iRet (iCall (F 10) (iCons (iVar 0) (iCons (iBin fSubA (iVar 1) (iC (.int 1))) (iCons (iBin fSubA (iVar 2) (iC (.int 1))) iNil))))) iSkip) (iSeq (iIfS (iTestB (iBin fEq (iVar 0) (iC (.str S_x26)))) (iRet (iCall (F 11) (iCons (iVar 1) (iCons (iVar 2) iNil)))) iSkip) (iRet (iTup (iCons (iC (.str S_ok)) (iCons (iTup (iCons (iC (.str S_bool)) (iCons (iCall (F 12) (iCons (iVar 0) (iCons (iVar 1) (iCons (iVar 2) iNil)))) iNil))) iNil))))))
def b_inverted (F : Nat → FA) : IS := (iRet (iTup (iCons (iC (.str S_ok)) (iCons (iTup (iCons (iC (.str S_bool)) (iCons (iNotV (iBin fSubA (iVar 0) (iC (.int 1)))) iNil))) iNil))))
def b_negated (F : Nat → FA) : IS := (iRet (iCall (F 8) (iCons (iUn fNeg (iBin fSubA (iVar 0) (iC (.int 1)))) iNil)))
def b_item_of (F : Nat → FA) : IS := (iSeq (iIfS (iTestB (iChain fLe fLt (iC (.int 0)) (iBin fSubA (iVar 1) (iC (.int 1))) (iCall (a1 fLen) (iCons (iBin fSubA (iVar 0) (iC (.int 1))) iNil)))) (iRet (iTup (iCons (iC (.str S_ok)) (iCons (iBin fSubA (iBin fSubA (iVar 0) (iC (.int 1))) (iBin fSubA (iVar 1) (iC (.int 1)))) iNil)))) iSkip) (iRet (iTup (iCons (iC (.str S_failed)) (iCons (iC c_NO_ITEM) iNil)))))
def b_size_of (F : Nat → FA) : IS := (iRet (iTup (iCons (iC (.str S_ok)) (iCons (iTup (iCons (iC (.str S_int)) (iCons (iCall (a1 fLen) (iCons (iBin fSubA (iVar 0) (iC (.int 1))) iNil)) iNil))) iNil))))
def b_text_of (F : Nat → FA) : IS := (iSeq (iIfS (iTestB (iBin fEq (iBin fSubA (iVar 0) (iC (.int 0))) (iC (.str S_int)))) (iRet (iCall (F 9) (iCons (iCall (a1 fStr) (iCons (iBin fSubA (iVar 0) (iC (.int 1))) iNil)) iNil))) iSkip) (iRet (iCall (F 9) (iCons (iIf (iTest (iBin fSubA (iVar 0) (iC (.int 1)))) (iC (.str S_true)) (iC (.str S_false))) iNil))))
def b_list_of (F : Nat → FA) : IS := (iSeq (iAsg (gN 1) (iTup (iCons (iC (.str S_list)) (iCons (iCall (a1 fTuple) (iCons (iVar 0) iNil)) iNil)))) (iSeq (iIfS (iAnd (iTestB (iBin fLe (iCall (a1 fLen) (iCons (iVar 0) iNil)) (iC c_MOST_ITEMS))) (iTestB (iBin fLe (iCall (F 2) (iCons (iVar 1) iNil)) (iC c_MOST_DEPTH)))) (iRet (iTup (iCons (iC (.str S_ok)) (iCons (iVar 1) iNil)))) iSkip) (iRet (iTup (iCons (iC (.str S_failed)) (iCons (iC c_TOO_GREAT) iNil))))))
def b_is_value (F : Nat → FA) : IS := (iRet (iAndV (iCall (F 4) (iCons (iVar 0) iNil)) (iBin fIsNot (iCall (F 6) (iCons (iVar 0) iNil)) (iC (.bl false)))))
def b_is_of (F : Nat → FA) : IS := (iRet (iAndV (iCall (F 0) (iCons (iVar 1) iNil)) (iAndV (iCall (F 20) (iCons (iVar 0) iNil)) (iCall (F 5) (iCons (iVar 0) (iCons (iVar 1) iNil))))))
def b__law_state (F : Nat → FA) : IS := (iSeq (iAsg (gN 1) (iLc (iWalk (iSl fSl (iVar 0) iNo (iPart (iC (.int 63))))) (gN 2) iYes (iCall (a1 fAbs) (iCons (iVar 2) iNil)) [2])) (iSeq (iIfS (iTestB (iBin fEq (iCall (a1 fLen) (iCons (iVar 1) iNil)) (iC (.int 0)))) (iAsg (gN 1) (iLst (iCons (iC (.int 0)) iNil))) iSkip) (iRet (iLst (iCons (iC (.int 0)) (iCons (iVar 1) iNil))))))
def b__law_take (F : Nat → FA) : IS := (iSeq (iIfS (iTestB (iBin fLt (iVar 1) (iC (.int 1)))) (iRet (iC (.int 0))) iSkip) (iSeq (iAsg (gN 2) (iBin fSubA (iVar 0) (iC (.int 1)))) (iSeq (iAsg (gN 3) (iBin fMod (iBin fSubA (iVar 0) (iC (.int 0))) (iCall (a1 fLen) (iCons (iVar 2) iNil)))) (iSeq (iAsg (gN 4) (iBin fSubA (iVar 2) (iVar 3))) (iSeq (iIfS (iTestB (iBin fGe (iVar 4) (iC (.int 1000000000000000000)))) (iSeq (iSetIx fSetA (iVar 2) (iVar 3) (iBin fDiv (iVar 4) (iVar 1))) (iRet (iBin fMod (iVar 4) (iVar 1)))) iSkip) (iSeq (iSetIx fSetA (iVar 0) (iC (.int 0)) (iBin fAdd (iBin fSubA (iVar 0) (iC (.int 0))) (iC (.int 1)))) (iSeq (iAsg (gN 5) (iBin fMod (iCall (a1 fInt1) (iCons (iBin fAdd (iBin fMul (iVar 4) (iC (.int 48271))) (iBin fMul (iBin fSubA (iVar 0) (iC (.int 0))) (iC (.int 69621)))) iNil)) (iC (.int 2147483647)))) (iSeq (iAsg (gN 5) (iBin fMod (iCall (a1 fInt1) (iCons (iBin fAdd (iBin fMul (iVar 5) (iC (.int 16807))) (iBin fMul (iBin fSubA (iVar 0) (iC (.int 0))) (iC (.int 7919)))) iNil)) (iC (.int 1000000007)))) (iRet (iBin fMod (iBin fDiv (iVar 5) (iC (.int 7))) (iVar 1)))))))))))
def b__law_number (F : Nat → FA) : IS := (iSeq (iIfS (iOr (iTestB (iBin fGt (iVar 0) (iC (.int 1000000000000)))) (iTestB (iBin fLt (iVar 0) (iUn fNeg (iC (.int 1000000000000)))))) (iRet (iTup (iCons (iC (.str S_failed)) (iCons (iC (.int 2)) iNil)))) iSkip) (iRet (iTup (iCons (iC (.str S_ok)) (iCons (iTup (iCons (iC (.str S_int)) (iCons (iVar 0) iNil))) iNil)))))
def b__law_operated (F : Nat → FA) : IS := (iSeq (iPar 3 4 (iCons (iSl fSl (iVar 1) (iPart (iC (.int 1))) iNo) (iCons (iSl fSl (iVar 2) (iPart (iC (.int 1))) iNo) iNil))) (iSeq (iIfS (iTestB (iBin fEq (iVar 0) (iC (.str S_x3d)))) (iRet (iTup (iCons (iC (.str S_ok)) (iCons (iTup (iCons (iC (.str S_bool)) (iCons (iBin fEq (iVar 1) (iVar 2)) iNil))) iNil)))) iSkip) (iSeq (iIfS (iTestB (iBin fEq (iVar 0) (iC (.str S_x21x3d)))) (iRet (iTup (iCons (iC (.str S_ok)) (iCons (iTup (iCons (iC (.str S_bool)) (iCons (iBin fNe (iVar 1) (iVar 2)) iNil))) iNil)))) iSkip) (iSeq (iIfS (iTestB (iBin fEq (iVar 0) (iC (.str S_x3c)))) (iRet (iTup (iCons (iC (.str S_ok)) (iCons (iTup (iCons (iC (.str S_bool)) (iCons (iBin fLt (iVar 3) (iVar 4)) iNil))) iNil)))) iSkip) (iSeq (iIfS (iTestB (iBin fEq (iVar 0) (iC (.str S_x3cx3d)))) (iRet (iTup (iCons (iC (.str S_ok)) (iCons (iTup (iCons (iC (.str S_bool)) (iCons (iBin fLe (iVar 3) (iVar 4)) iNil))) iNil)))) iSkip) (iSeq (iIfS (iTestB (iBin fEq (iVar 0) (iC (.str S_x26)))) (iSeq (iIfS (iTestB (iBin fGt (iBin fAdd (iCall (a1 fLen) (iCons (iBin fSubA (iVar 3) (iC (.int 0))) iNil)) (iCall (a1 fLen) (iCons (iBin fSubA (iVar 4) (iC (.int 0))) iNil))) (iBin fSubA (iDict (iPCons (iC (.str S_text)) (iC (.int 60)) (iPCons (iC (.str S_list)) (iC (.int 20)) iPNil))) (iBin fSubA (iVar 1) (iC (.int 0)))))) (iRet (iTup (iCons (iC (.str S_failed)) (iCons (iC (.int 2)) iNil)))) iSkip) (iRet (iTup (iCons (iC (.str S_ok)) (iCons (iTup (iCons (iBin fSubA (iVar 1) (iC (.int 0))) (iCons (iBin fAdd (iBin fSubA (iVar 3) (iC (.int 0))) (iBin fSubA (iVar 4) (iC (.int 0)))) iNil))) iNil))))) iSkip) (iSeq (iIfS (iTestB (iBin fEq (iVar 0) (iC (.str S_x2b)))) (iRet (iCall (F 24) (iCons (iBin fAdd (iBin fSubA (iVar 3) (iC (.int 0))) (iBin fSubA (iVar 4) (iC (.int 0)))) iNil))) iSkip) (iSeq (iIfS (iTestB (iBin fEq (iVar 0) (iC (.str S_x2d)))) (iRet (iCall (F 24) (iCons (iBin fSub (iBin fSubA (iVar 3) (iC (.int 0))) (iBin fSubA (iVar 4) (iC (.int 0)))) iNil))) iSkip) (iSeq (iIfS (iTestB (iBin fEq (iVar 0) (iC (.str S_x2a)))) (iRet (iCall (F 24) (iCons (iBin fMul (iBin fSubA (iVar 3) (iC (.int 0))) (iBin fSubA (iVar 4) (iC (.int 0)))) iNil))) iSkip) (iSeq (iIfS (iTestB (iBin fEq (iBin fSubA (iVar 4) (iC (.int 0))) (iC (.int 0)))) (iRet (iTup (iCons (iC (.str S_failed)) (iCons (iC (.int 1)) iNil)))) iSkip) (iSeq (iAsg (gN 5) (iBin fDiv (iCall (a1 fAbs) (iCons (iBin fSubA (iVar 3) (iC (.int 0))) iNil)) (iCall (a1 fAbs) (iCons (iBin fSubA (iVar 4) (iC (.int 0))) iNil)))) (iSeq (iIfS (iTestB (iBin fNe (iBin fLt (iBin fSubA (iVar 3) (iC (.int 0))) (iC (.int 0))) (iBin fLt (iBin fSubA (iVar 4) (iC (.int 0))) (iC (.int 0))))) (iSeq (iAsg (gN 5) (iBin fSub (iC (.int 0)) (iVar 5))) (iIfS (iTestB (iBin fNe (iBin fMul (iVar 5) (iBin fSubA (iVar 4) (iC (.int 0)))) (iBin fSubA (iVar 3) (iC (.int 0))))) (iAsg (gN 5) (iBin fSub (iVar 5) (iC (.int 1)))) iSkip)) iSkip) (iRet (iCall (F 24) (iCons (iVar 5) iNil)))))))))))))))
def b__law_shaped (F : Nat → FA) : IS := (iSeq (iAsg (gN 2) (iBin fSubA (iVar 1) (iC (.int 0)))) (iSeq (iIfS (iTestB (iBin fEq (iVar 0) (iC (.str S_not)))) (iRet (iTup (iCons (iC (.str S_ok)) (iCons (iTup (iCons (iC (.str S_bool)) (iCons (iBin fEq (iVar 2) (iTup (iCons (iC (.str S_bool)) (iCons (iC (.bl false)) iNil)))) iNil))) iNil)))) iSkip) (iSeq (iIfS (iTestB (iBin fEq (iVar 0) (iC (.str S_neg)))) (iRet (iTup (iCons (iC (.str S_ok)) (iCons (iTup (iCons (iC (.str S_int)) (iCons (iBin fSub (iC (.int 0)) (iBin fSubA (iVar 2) (iC (.int 1)))) iNil))) iNil)))) iSkip) (iSeq (iIfS (iTestB (iBin fEq (iVar 0) (iC (.str S_item)))) (iSeq (iAsg (gN 3) (iBin fSubA (iBin fSubA (iVar 1) (iC (.int 1))) (iC (.int 1)))) (iSeq (iIfS (iOr (iTestB (iBin fLt (iVar 3) (iC (.int 0)))) (iTestB (iBin fGe (iVar 3) (iCall (a1 fLen) (iCons (iBin fSubA (iVar 2) (iC (.int 1))) iNil))))) (iRet (iTup (iCons (iC (.str S_failed)) (iCons (iC (.int 3)) iNil)))) iSkip) (iRet (iTup (iCons (iC (.str S_ok)) (iCons (iBin fSubA (iBin fSubA (iVar 2) (iC (.int 1))) (iVar 3)) iNil)))))) iSkip) (iSeq (iIfS (iTestB (iBin fEq (iVar 0) (iC (.str S_size)))) (iRet (iTup (iCons (iC (.str S_ok)) (iCons (iTup (iCons (iC (.str S_int)) (iCons (iCall (a1 fLen) (iCons (iBin fSubA (iVar 2) (iC (.int 1))) iNil)) iNil))) iNil)))) iSkip) (iSeq (iIfS (iTestB (iBin fEq (iBin fSubA (iVar 2) (iC (.int 0))) (iC (.str S_bool)))) (iRet (iTup (iCons (iC (.str S_ok)) (iCons (iTup (iCons (iC (.str S_text)) (iCons (iBin fSubA (iLst (iCons (iC (.str S_false)) (iCons (iC (.str S_true)) iNil))) (iCall (a1 fInt1) (iCons (iBin fSubA (iVar 2) (iC (.int 1))) iNil))) iNil))) iNil)))) iSkip) (iRet (iTup (iCons (iC (.str S_ok)) (iCons (iTup (iCons (iC (.str S_text)) (iCons (iCall (a1 fStr) (iCons (iBin fSubA (iVar 2) (iC (.int 1))) iNil)) iNil))) iNil))))))))))
def b__law_int (F : Nat → FA) : IS := (iSeq (iAsg (gN 1) (iBin fSubA (iLst (iCons (iC (.int 0)) (iCons (iC (.int 1)) (iCons (iC (.int 2)) (iCons (iC (.int 3)) (iCons (iC (.int 7)) (iCons (iC (.int 1000000)) (iCons (iC (.int 1000000000000)) (iCons (iC (.int 999999999999)) iNil))))))))) (iCall (F 23) (iCons (iVar 0) (iCons (iC (.int 8)) iNil))))) (iSeq (iIfS (iTestB (iBin fEq (iCall (F 23) (iCons (iVar 0) (iCons (iC (.int 3)) iNil))) (iC (.int 0)))) (iAsg (gN 1) (iBin fMul (iCall (F 23) (iCons (iVar 0) (iCons (iC (.int 1000000)) iNil))) (iCall (F 23) (iCons (iVar 0) (iCons (iC (.int 1000000)) iNil))))) iSkip) (iRet (iTup (iCons (iC (.str S_int)) (iCons (iBin fMul (iVar 1) (iBin fSubA (iLst (iCons (iC (.int 1)) (iCons (iUn fNeg (iC (.int 1))) iNil))) (iCall (F 23) (iCons (iVar 0) (iCons (iC (.int 2)) iNil))))) iNil))))))
def b__law_text (F : Nat → FA) : IS := (iRet (iTup (iCons (iC (.str S_text)) (iCons (iBin fSubA (iLst (iCons (iC (.str S_)) (iCons (iC (.str S_a)) (iCons (iC (.str S_ab)) (iCons (iBin fMul (iC (.str S_x)) (iC (.int 30))) (iCons (iBin fMul (iC (.str S_x)) (iC (.int 31))) (iCons (iBin fMul (iC (.str S_x)) (iC (.int 60))) (iCons (iC (.str S_B)) (iCons (iC (.str S_x7ex20)) iNil))))))))) (iCall (F 23) (iCons (iVar 0) (iCons (iC (.int 8)) iNil)))) iNil))))
def b__law_list (F : Nat → FA) : IS := (iRet (iTup (iCons (iC (.str S_list)) (iCons (iCall (a1 fTuple) (iCons (iLc (iRange1 (iCons (iBin fSubA (iLst (iCons (iC (.int 0)) (iCons (iC (.int 1)) (iCons (iC (.int 2)) (iCons (iC (.int 10)) (iCons (iC (.int 11)) (iCons (iC (.int 20)) iNil))))))) (iCall (F 23) (iCons (iVar 0) (iCons (iC (.int 6)) iNil)))) iNil)) (gN 1) iYes (iCall (F 27) (iCons (iVar 0) iNil)) [1]) iNil)) iNil))))
def b__law_bounds (F : Nat → FA) : IS := (iSeq (iFor (iWalk (iLst (iCons (iTup (iCons (iC (.int 1000000000001)) (iCons (iC (.bl false)) iNil))) (iCons (iTup (iCons (iUn fNeg (iC (.int 1000000000001))) (iCons (iC (.bl false)) iNil))) (iCons (iTup (iCons (iUn fNeg (iC (.int 1000000000000))) (iCons (iC (.bl true)) iNil))) iNil))))) (gT 2 (gCs (gN 1) (gCs (gN 2) gNs))) (iIfS (iOr (iTestB (iBin fNe (iCall (a1 fRepr) (iCons (iCall (F 20) (iCons (iTup (iCons (iC (.str S_int)) (iCons (iVar 1) iNil))) iNil)) iNil)) (iCall (a1 fRepr) (iCons (iVar 2) iNil)))) (iTestB (iBin fNe (iCall (a1 fRepr) (iCons (iCall (F 21) (iCons (iTup (iCons (iC (.str S_int)) (iCons (iVar 1) iNil))) (iCons (iC (.str S_int)) iNil))) iNil)) (iCall (a1 fRepr) (iCons (iVar 2) iNil))))) (iRet (iC (.bl false))) iSkip)) (iSeq (iFor (iWalk (iLst (iCons (iTup (iCons (iTup (iCons (iC (.str S_text)) (iCons (iBin fMul (iC (.str S_x)) (iC (.int 61))) iNil))) (iCons (iC (.bl false)) iNil))) (iCons (iTup (iCons (iTup (iCons (iC (.str S_text)) (iCons (iC (.str S_ax09)) iNil))) (iCons (iC (.bl false)) iNil))) (iCons (iTup (iCons (iTup (iCons (iC (.str S_text)) (iCons (iBin fMul (iC (.str S_x7ex20)) (iC (.int 30))) iNil))) (iCons (iC (.bl true)) iNil))) iNil))))) (gT 2 (gCs (gN 3) (gCs (gN 2) gNs))) (iIfS (iOr (iTestB (iBin fNe (iCall (a1 fRepr) (iCons (iCall (F 20) (iCons (iVar 3) iNil)) iNil)) (iCall (a1 fRepr) (iCons (iVar 2) iNil)))) (iTestB (iBin fNe (iCall (a1 fRepr) (iCons (iCall (F 21) (iCons (iVar 3) (iCons (iC (.str S_text)) iNil))) iNil)) (iCall (a1 fRepr) (iCons (iVar 2) iNil))))) (iRet (iC (.bl false))) iSkip)) (iSeq (iAsg (gN 4) (iTup (iCons (iC (.str S_list)) (iCons (iBin fMul (iTup (iCons (iTup (iCons (iC (.str S_int)) (iCons (iC (.int 1)) iNil))) iNil)) (iC (.int 21))) iNil)))) (iSeq (iAsg (gN 5) (iTup (iCons (iC (.str S_list)) (iCons (iTup (iCons (iTup (iCons (iC (.str S_list)) (iCons (iTup (iCons (iTup (iCons (iC (.str S_bool)) (iCons (iC (.bl true)) iNil))) iNil)) iNil))) (iCons (iTup (iCons (iC (.str S_list)) (iCons (iTup iNil) iNil))) iNil))) iNil)))) (iSeq (iIfS (iOr (iTestB (iBin fIsNot (iCall (F 20) (iCons (iVar 4) iNil)) (iC (.bl false)))) (iTestB (iBin fIsNot (iCall (F 20) (iCons (iVar 5) iNil)) (iC (.bl true))))) (iRet (iC (.bl false))) iSkip) (iSeq (iIfS (iTestB (iBin fIsNot (iCall (F 21) (iCons (iVar 5) (iCons (iTup (iCons (iC (.str S_list)) (iCons (iTup (iCons (iC (.str S_list)) (iCons (iC (.str S_bool)) iNil))) iNil))) iNil))) (iC (.bl true)))) (iRet (iC (.bl false))) iSkip) (iSeq (iIfS (iOr (iTestB (iBin fIsNot (iCall (F 21) (iCons (iVar 5) (iCons (iTup (iCons (iC (.str S_list)) (iCons (iTup (iCons (iC (.str S_list)) (iCons (iC (.str S_int)) iNil))) iNil))) iNil))) (iC (.bl false)))) (iTestB (iBin fIsNot (iCall (F 21) (iCons (iTup (iCons (iC (.str S_list)) (iCons (iTup iNil) iNil))) (iCons (iTup (iCons (iC (.str S_list)) (iCons (iC (.str S_text)) iNil))) iNil))) (iC (.bl true))))) (iRet (iC (.bl false))) iSkip) (iSeq (iAsg (gN 6) (iTup (iCons (iC (.str S_list)) (iCons (iTup (iCons (iTup (iCons (iC (.str S_int)) (iCons (iC (.int 1)) iNil))) (iCons (iTup (iCons (iC (.str S_int)) (iCons (iC (.int 1000000000001)) iNil))) iNil))) iNil)))) (iSeq (iIfS (iOr (iTestB (iBin fIsNot (iCall (F 20) (iCons (iVar 6) iNil)) (iC (.bl false)))) (iTestB (iBin fIsNot (iCall (F 21) (iCons (iTup (iCons (iC (.str S_nothing)) iNil)) (iCons (iC (.str S_nothing)) iNil))) (iC (.bl true))))) (iRet (iC (.bl false))) iSkip) (iSeq (iIfS (iTestB (iBin fIsNot (iCall (F 21) (iCons (iTup (iCons (iC (.str S_bool)) (iCons (iC (.bl true)) iNil))) (iCons (iC (.str S_int)) iNil))) (iC (.bl false)))) (iRet (iC (.bl false))) iSkip) (iRet (iAndV (iBin fIs (iCall (F 21) (iCons (iTup (iCons (iC (.str S_list)) (iCons (iTup iNil) iNil))) (iCons (iC (.str S_int)) iNil))) (iC (.bl false))) (iBin fIs (iCall (F 21) (iCons (iTup (iCons (iC (.str S_int)) (iCons (iC (.int 1)) iNil))) (iCons (iTup (iCons (iC (.str S_list)) (iCons (iC (.str S_int)) iNil))) iNil))) (iC (.bl false)))))))))))))))
def b_law (F : Nat → FA) : IS := (iSeq (iAsg (gN 1) (iCall (F 22) (iCons (iVar 0) iNil))) (iSeq (iFor (iRange1 (iCons (iC (.int 3)) iNil)) (gN 2) (iSeq (iPar 3 4 (iCons (iCall (F 27) (iCons (iVar 1) iNil)) (iCons (iCall (F 27) (iCons (iVar 1) iNil)) iNil))) (iSeq (iPar 5 6 (iCons (iCall (F 28) (iCons (iVar 1) iNil)) (iCons (iCall (F 28) (iCons (iVar 1) iNil)) iNil))) (iSeq (iPar 7 8 (iCons (iCall (F 29) (iCons (iVar 1) iNil)) (iCons (iCall (F 29) (iCons (iVar 1) iNil)) iNil))) (iSeq (iFor (iWalk (iLst (iCons (iC (.str S_x2b)) (iCons (iC (.str S_x2d)) (iCons (iC (.str S_x2a)) (iCons (iC (.str S_x2f)) (iCons (iC (.str S_x3d)) (iCons (iC (.str S_x21x3d)) (iCons (iC (.str S_x3c)) (iCons (iC (.str S_x3cx3d)) iNil)))))))))) (gN 9) (iIfS (iOr (iTestB (iBin fNe (iCall (F 13) (iCons (iVar 9) (iCons (iVar 3) (iCons (iVar 4) iNil)))) (iCall (F 25) (iCons (iVar 9) (iCons (iVar 3) (iCons (iVar 4) iNil)))))) (iTestB (iBin fNe (iCall (F 13) (iCons (iVar 9) (iCons (iVar 3) (iCons (iVar 3) iNil)))) (iCall (F 25) (iCons (iVar 9) (iCons (iVar 3) (iCons (iVar 3) iNil))))))) (iRet (iC (.bl false))) iSkip)) (iSeq (iFor (iWalk (iLst (iCons (iC (.str S_x26)) (iCons (iC (.str S_x3d)) (iCons (iC (.str S_x21x3d)) (iCons (iC (.str S_x3c)) (iCons (iC (.str S_x3cx3d)) iNil))))))) (gN 9) (iIfS (iTestB (iBin fNe (iCall (F 13) (iCons (iVar 9) (iCons (iVar 5) (iCons (iVar 6) iNil)))) (iCall (F 25) (iCons (iVar 9) (iCons (iVar 5) (iCons (iVar 6) iNil)))))) (iRet (iC (.bl false))) iSkip)) (iSeq (iFor (iWalk (iLst (iCons (iC (.str S_x26)) (iCons (iC (.str S_x3d)) (iCons (iC (.str S_x21x3d)) iNil))))) (gN 9) (iIfS (iTestB (iBin fNe (iCall (F 13) (iCons (iVar 9) (iCons (iVar 7) (iCons (iVar 8) iNil)))) (iCall (F 25) (iCons (iVar 9) (iCons (iVar 7) (iCons (iVar 8) iNil)))))) (iRet (iC (.bl false))) iSkip)) (iSeq (iPar 10 11 (iCons (iTup (iCons (iC (.str S_bool)) (iCons (iBin fEq (iCall (F 23) (iCons (iVar 1) (iCons (iC (.int 2)) iNil))) (iC (.int 0))) iNil))) (iCons (iTup (iCons (iC (.str S_bool)) (iCons (iBin fEq (iCall (F 23) (iCons (iVar 1) (iCons (iC (.int 2)) iNil))) (iC (.int 0))) iNil))) iNil))) (iSeq (iIfS (iTestB (iBin fNe (iCall (F 13) (iCons (iC (.str S_x3d)) (iCons (iVar 10) (iCons (iVar 11) iNil)))) (iTup (iCons (iC (.str S_ok)) (iCons (iTup (iCons (iC (.str S_bool)) (iCons (iBin fEq (iVar 10) (iVar 11)) iNil))) iNil))))) (iRet (iC (.bl false))) iSkip) (iSeq (iIfS (iTestB (iBin fNe (iCall (F 13) (iCons (iC (.str S_x21x3d)) (iCons (iTup (iCons (iC (.str S_nothing)) iNil)) (iCons (iTup (iCons (iC (.str S_nothing)) iNil)) iNil)))) (iTup (iCons (iC (.str S_ok)) (iCons (iTup (iCons (iC (.str S_bool)) (iCons (iC (.bl false)) iNil))) iNil))))) (iRet (iC (.bl false))) iSkip) (iSeq (iAsg (gN 12) (iTup (iCons (iC (.str S_int)) (iCons (iBin fSub (iCall (F 23) (iCons (iVar 1) (iCons (iC (.int 24)) iNil))) (iC (.int 2))) iNil)))) (iSeq (iIfS (iOr (iTestB (iBin fNe (iCall (F 16) (iCons (iVar 7) (iCons (iVar 12) iNil))) (iCall (F 26) (iCons (iC (.str S_item)) (iCons (iLst (iCons (iVar 7) (iCons (iVar 12) iNil))) iNil))))) (iTestB (iBin fNe (iCall (F 16) (iCons (iVar 7) (iCons (iVar 3) iNil))) (iCall (F 26) (iCons (iC (.str S_item)) (iCons (iLst (iCons (iVar 7) (iCons (iVar 3) iNil))) iNil)))))) (iRet (iC (.bl false))) iSkip) (iSeq (iIfS (iOr (iTestB (iBin fNe (iCall (F 14) (iCons (iVar 10) iNil)) (iCall (F 26) (iCons (iC (.str S_not)) (iCons (iLst (iCons (iVar 10) iNil)) iNil))))) (iTestB (iBin fNe (iCall (F 15) (iCons (iVar 3) iNil)) (iCall (F 26) (iCons (iC (.str S_neg)) (iCons (iLst (iCons (iVar 3) iNil)) iNil)))))) (iRet (iC (.bl false))) iSkip) (iSeq (iIfS (iOr (iTestB (iBin fNe (iCall (F 18) (iCons (iVar 10) iNil)) (iCall (F 26) (iCons (iC (.str S_textx20of)) (iCons (iLst (iCons (iVar 10) iNil)) iNil))))) (iTestB (iBin fNe (iCall (F 18) (iCons (iVar 3) iNil)) (iCall (F 26) (iCons (iC (.str S_textx20of)) (iCons (iLst (iCons (iVar 3) iNil)) iNil)))))) (iRet (iC (.bl false))) iSkip) (iSeq (iIfS (iOr (iTestB (iBin fNe (iCall (F 17) (iCons (iVar 5) iNil)) (iCall (F 26) (iCons (iC (.str S_size)) (iCons (iLst (iCons (iVar 5) iNil)) iNil))))) (iTestB (iBin fNe (iCall (F 17) (iCons (iVar 7) iNil)) (iCall (F 26) (iCons (iC (.str S_size)) (iCons (iLst (iCons (iVar 7) iNil)) iNil)))))) (iRet (iC (.bl false))) iSkip) (iSeq (iIfS (iOr (iTestB (iBin fNe (iCall (F 19) (iCons (iCall (a1 fList) (iCons (iBin fSubA (iVar 7) (iC (.int 1))) iNil)) iNil)) (iTup (iCons (iC (.str S_ok)) (iCons (iVar 7) iNil))))) (iTestB (iBin fNe (iCall (F 19) (iCons (iBin fMul (iLst (iCons (iVar 3) iNil)) (iC (.int 21))) iNil)) (iTup (iCons (iC (.str S_failed)) (iCons (iC (.int 2)) iNil)))))) (iRet (iC (.bl false))) iSkip) (iIfS (iOr (iNot (iTest (iCall (F 21) (iCons (iVar 3) (iCons (iC (.str S_int)) iNil))))) (iOr (iNot (iTest (iCall (F 21) (iCons (iVar 5) (iCons (iC (.str S_text)) iNil))))) (iNot (iTest (iCall (F 21) (iCons (iVar 7) (iCons (iTup (iCons (iC (.str S_list)) (iCons (iC (.str S_int)) iNil))) iNil))))))) (iRet (iC (.bl false))) iSkip))))))))))))))))) (iRet (iCall (F 30) (iCons (iVar 1) iNil)))))
def FF : Nat → Nat → FA
  | 0, _ => fun _ _ => none
  | n + 1, 0 => iDef 1 3 (b_is_type (FF n))
  | n + 1, 1 => iDef 1 1 (b_is_letter (FF n))
  | n + 1, 2 => iDef 1 2 (b_list_depth (FF n))
  | n + 1, 3 => iDef 2 4 (b__bounded_at (FF n))
  | n + 1, 4 => iDef 1 1 (b_is_bounded (FF n))
  | n + 1, 5 => iDef 2 3 (b_fits (FF n))
  | n + 1, 6 => iDef 1 3 (b_known_type (FF n))
  | n + 1, 7 => iDef 2 3 (b_joined (FF n))
  | n + 1, 8 => iDef 1 1 (b__number (FF n))
  | n + 1, 9 => iDef 1 1 (b__letters (FF n))
  | n + 1, 10 => iDef 3 3 (b__calculated (FF n))
  | n + 1, 11 => iDef 2 2 (b__joined_up (FF n))
  | n + 1, 12 => iDef 3 3 (b__compared (FF n))
  | n + 1, 13 => iDef 3 3 (b_operate (FF n))
  | n + 1, 14 => iDef 1 1 (b_inverted (FF n))
  | n + 1, 15 => iDef 1 1 (b_negated (FF n))
  | n + 1, 16 => iDef 2 2 (b_item_of (FF n))
  | n + 1, 17 => iDef 1 1 (b_size_of (FF n))
  | n + 1, 18 => iDef 1 1 (b_text_of (FF n))
  | n + 1, 19 => iDef 1 2 (b_list_of (FF n))
  | n + 1, 20 => iDef 1 1 (b_is_value (FF n))
  | n + 1, 21 => iDef 2 2 (b_is_of (FF n))
  | n + 1, 22 => iDef 1 3 (b__law_state (FF n))
  | n + 1, 23 => iDef 2 6 (b__law_take (FF n))
  | n + 1, 24 => iDef 1 1 (b__law_number (FF n))
  | n + 1, 25 => iDef 3 6 (b__law_operated (FF n))
  | n + 1, 26 => iDef 2 4 (b__law_shaped (FF n))
  | n + 1, 27 => iDef 1 2 (b__law_int (FF n))
  | n + 1, 28 => iDef 1 1 (b__law_text (FF n))
  | n + 1, 29 => iDef 1 2 (b__law_list (FF n))
  | n + 1, 30 => iDef 1 7 (b__law_bounds (FF n))
  | n + 1, 31 => iDef 1 13 (b_law (FF n))
  | _ + 1, _ => fun _ _ => none
theorem ar_is_type : ∀ n : Nat, Ar 1 (FF n 0)
  | 0 => fun _ _ _ h => nomatch h
  | n + 1 => ar_def
theorem ar_is_letter : ∀ n : Nat, Ar 1 (FF n 1)
  | 0 => fun _ _ _ h => nomatch h
  | n + 1 => ar_def
theorem ar_list_depth : ∀ n : Nat, Ar 1 (FF n 2)
  | 0 => fun _ _ _ h => nomatch h
  | n + 1 => ar_def
theorem ar__bounded_at : ∀ n : Nat, Ar 2 (FF n 3)
  | 0 => fun _ _ _ h => nomatch h
  | n + 1 => ar_def
theorem ar_is_bounded : ∀ n : Nat, Ar 1 (FF n 4)
  | 0 => fun _ _ _ h => nomatch h
  | n + 1 => ar_def
theorem ar_fits : ∀ n : Nat, Ar 2 (FF n 5)
  | 0 => fun _ _ _ h => nomatch h
  | n + 1 => ar_def
theorem ar_known_type : ∀ n : Nat, Ar 1 (FF n 6)
  | 0 => fun _ _ _ h => nomatch h
  | n + 1 => ar_def
theorem ar_joined : ∀ n : Nat, Ar 2 (FF n 7)
  | 0 => fun _ _ _ h => nomatch h
  | n + 1 => ar_def
theorem ar__number : ∀ n : Nat, Ar 1 (FF n 8)
  | 0 => fun _ _ _ h => nomatch h
  | n + 1 => ar_def
theorem ar__letters : ∀ n : Nat, Ar 1 (FF n 9)
  | 0 => fun _ _ _ h => nomatch h
  | n + 1 => ar_def
theorem ar__calculated : ∀ n : Nat, Ar 3 (FF n 10)
  | 0 => fun _ _ _ h => nomatch h
  | n + 1 => ar_def
theorem ar__joined_up : ∀ n : Nat, Ar 2 (FF n 11)
  | 0 => fun _ _ _ h => nomatch h
  | n + 1 => ar_def
theorem ar__compared : ∀ n : Nat, Ar 3 (FF n 12)
  | 0 => fun _ _ _ h => nomatch h
  | n + 1 => ar_def
theorem ar_operate : ∀ n : Nat, Ar 3 (FF n 13)
  | 0 => fun _ _ _ h => nomatch h
  | n + 1 => ar_def
theorem ar_inverted : ∀ n : Nat, Ar 1 (FF n 14)
  | 0 => fun _ _ _ h => nomatch h
  | n + 1 => ar_def
theorem ar_negated : ∀ n : Nat, Ar 1 (FF n 15)
  | 0 => fun _ _ _ h => nomatch h
  | n + 1 => ar_def
theorem ar_item_of : ∀ n : Nat, Ar 2 (FF n 16)
  | 0 => fun _ _ _ h => nomatch h
  | n + 1 => ar_def
theorem ar_size_of : ∀ n : Nat, Ar 1 (FF n 17)
  | 0 => fun _ _ _ h => nomatch h
  | n + 1 => ar_def
theorem ar_text_of : ∀ n : Nat, Ar 1 (FF n 18)
  | 0 => fun _ _ _ h => nomatch h
  | n + 1 => ar_def
theorem ar_list_of : ∀ n : Nat, Ar 1 (FF n 19)
  | 0 => fun _ _ _ h => nomatch h
  | n + 1 => ar_def
theorem ar_is_value : ∀ n : Nat, Ar 1 (FF n 20)
  | 0 => fun _ _ _ h => nomatch h
  | n + 1 => ar_def
theorem ar_is_of : ∀ n : Nat, Ar 2 (FF n 21)
  | 0 => fun _ _ _ h => nomatch h
  | n + 1 => ar_def
theorem ar__law_state : ∀ n : Nat, Ar 1 (FF n 22)
  | 0 => fun _ _ _ h => nomatch h
  | n + 1 => ar_def
theorem ar__law_take : ∀ n : Nat, Ar 2 (FF n 23)
  | 0 => fun _ _ _ h => nomatch h
  | n + 1 => ar_def
theorem ar__law_number : ∀ n : Nat, Ar 1 (FF n 24)
  | 0 => fun _ _ _ h => nomatch h
  | n + 1 => ar_def
theorem ar__law_operated : ∀ n : Nat, Ar 3 (FF n 25)
  | 0 => fun _ _ _ h => nomatch h
  | n + 1 => ar_def
theorem ar__law_shaped : ∀ n : Nat, Ar 2 (FF n 26)
  | 0 => fun _ _ _ h => nomatch h
  | n + 1 => ar_def
theorem ar__law_int : ∀ n : Nat, Ar 1 (FF n 27)
  | 0 => fun _ _ _ h => nomatch h
  | n + 1 => ar_def
theorem ar__law_text : ∀ n : Nat, Ar 1 (FF n 28)
  | 0 => fun _ _ _ h => nomatch h
  | n + 1 => ar_def
theorem ar__law_list : ∀ n : Nat, Ar 1 (FF n 29)
  | 0 => fun _ _ _ h => nomatch h
  | n + 1 => ar_def
theorem ar__law_bounds : ∀ n : Nat, Ar 1 (FF n 30)
  | 0 => fun _ _ _ h => nomatch h
  | n + 1 => ar_def
theorem ar_law : ∀ n : Nat, Ar 1 (FF n 31)
  | 0 => fun _ _ _ h => nomatch h
  | n + 1 => ar_def
/-- what the top has left: the built-ins' names, constants; the defs, each at level n -/
structure Tb (P : Program) (w : World) (K : PySem.W.Frag) (mg : Str → Option Value) (base : Heap) (n : Nat) : Prop where
  z_abs : mg "abs" = none
  z_all : mg "all" = none
  z_int : mg "int" = none
  z_isinstance : mg "isinstance" = none
  z_len : mg "len" = none
  z_list : mg "list" = none
  z_max : mg "max" = none
  z_range : mg "range" = none
  z_repr : mg "repr" = none
  z_str : mg "str" = none
  z_tuple : mg "tuple" = none
  g_NO_QUOTIENT : GC K mg "NO_QUOTIENT" c_NO_QUOTIENT
  g_TOO_GREAT : GC K mg "TOO_GREAT" c_TOO_GREAT
  g_NO_ITEM : GC K mg "NO_ITEM" c_NO_ITEM
  g_SIMPLE_KINDS : GC K mg "SIMPLE_KINDS" c_SIMPLE_KINDS
  g_MOST_NUMBER : GC K mg "MOST_NUMBER" c_MOST_NUMBER
  g_MOST_LETTERS : GC K mg "MOST_LETTERS" c_MOST_LETTERS
  g_MOST_ITEMS : GC K mg "MOST_ITEMS" c_MOST_ITEMS
  g_MOST_DEPTH : GC K mg "MOST_DEPTH" c_MOST_DEPTH
  c_is_type : CalI P w K mg base n "is_type" 1 (FF n 0)
  c_is_letter : CalI P w K mg base n "is_letter" 1 (FF n 1)
  c_list_depth : CalI P w K mg base n "list_depth" 1 (FF n 2)
  c__bounded_at : CalI P w K mg base n "_bounded_at" 2 (FF n 3)
  c_is_bounded : CalI P w K mg base n "is_bounded" 1 (FF n 4)
  c_fits : CalI P w K mg base n "fits" 2 (FF n 5)
  c_known_type : CalI P w K mg base n "known_type" 1 (FF n 6)
  c_joined : CalI P w K mg base n "joined" 2 (FF n 7)
  c__number : CalI P w K mg base n "_number" 1 (FF n 8)
  c__letters : CalI P w K mg base n "_letters" 1 (FF n 9)
  c__calculated : CalI P w K mg base n "_calculated" 3 (FF n 10)
  c__joined_up : CalI P w K mg base n "_joined_up" 2 (FF n 11)
  c__compared : CalI P w K mg base n "_compared" 3 (FF n 12)
  c_operate : CalI P w K mg base n "operate" 3 (FF n 13)
  c_inverted : CalI P w K mg base n "inverted" 1 (FF n 14)
  c_negated : CalI P w K mg base n "negated" 1 (FF n 15)
  c_item_of : CalI P w K mg base n "item_of" 2 (FF n 16)
  c_size_of : CalI P w K mg base n "size_of" 1 (FF n 17)
  c_text_of : CalI P w K mg base n "text_of" 1 (FF n 18)
  c_list_of : CalI P w K mg base n "list_of" 1 (FF n 19)
  c_is_value : CalI P w K mg base n "is_value" 1 (FF n 20)
  c_is_of : CalI P w K mg base n "is_of" 2 (FF n 21)
  c__law_state : CalI P w K mg base n "_law_state" 1 (FF n 22)
  c__law_take : CalI P w K mg base n "_law_take" 2 (FF n 23)
  c__law_number : CalI P w K mg base n "_law_number" 1 (FF n 24)
  c__law_operated : CalI P w K mg base n "_law_operated" 3 (FF n 25)
  c__law_shaped : CalI P w K mg base n "_law_shaped" 2 (FF n 26)
  c__law_int : CalI P w K mg base n "_law_int" 1 (FF n 27)
  c__law_text : CalI P w K mg base n "_law_text" 1 (FF n 28)
  c__law_list : CalI P w K mg base n "_law_list" 1 (FF n 29)
  c__law_bounds : CalI P w K mg base n "_law_bounds" 1 (FF n 30)
  c_law : CalI P w K mg base n "law" 1 (FF n 31)
section
variable {P : Program} {w : World} {K : PySem.W.Frag} {mg : Str → Option Value} {base : Heap} {n : Nat}
theorem k_is_type (T : Tb P w K mg base n) {f : Addr} (cdv : Value) (A : Around) (outer : List PySem.Env) (s : Shared) (H : Hp) (E : XK) (hr : Room n (A.deeper (envOfC "is_type" (C8.fnScope s_is_type) s.heap.objs.size f cdv))) :
    PSs (cxOf CX0 P w K mg base ["kind", "inner", "depth"] "is_type" (C8.fnScope s_is_type) f cdv A outer s H E).nox (C8.fnBody s_is_type) (tIS K (b_is_type (FF n))) :=
  have nd := sc_is_type.nd
  have hu := hu_of hr
  (s_cons (s_set (i := 1) nd rfl (by first | exact .inl rfl | exact .inr rfl) (r_var (i := 0) rfl (by first | exact .inl rfl | exact .inr (.inl rfl) | exact .inr (.inr rfl)))) (s_cons (s_set (i := 2) nd rfl (by first | exact .inl rfl | exact .inr rfl) r_int) (s_cons (s_while PassesOwn.never (r_truth (r_callB call_isi f_isi rfl T.z_isinstance (by decide +kernel) (a_cons (r_var (i := 1) rfl (by first | exact .inl rfl | exact .inr (.inl rfl) | exact .inr (.inr rfl))) (a_cons (r_ty rfl T.z_tuple (by decide +kernel)) a_nil))) (by intro _; rfl)) (s_cons (s_set (i := 1) nd rfl (by first | exact .inl rfl | exact .inr rfl) (r_sub hu (r_var (i := 1) rfl (by first | exact .inl rfl | exact .inr (.inl rfl) | exact .inr (.inr rfl))) r_int (fun _ _ => rfl))) (s_one (s_augAdd (i := 2) nd rfl (by first | exact .inl rfl | exact .inr rfl) r_int)))) (s_one (s_ret (r_andV (r_cmp (op_inAll hu) f_inA (r_var (i := 1) rfl (by first | exact .inl rfl | exact .inr (.inl rfl) | exact .inr (.inr rfl))) (r_glob rfl T.g_SIMPLE_KINDS) (by with_unfolding_all rfl)) (r_one (r_cmp (op_leA hr.units0) f_le (r_var (i := 2) rfl (by first | exact .inl rfl | exact .inr (.inl rfl) | exact .inr (.inr rfl))) (r_glob rfl T.g_MOST_DEPTH) (nomark _)))))))))
theorem k_is_letter (T : Tb P w K mg base n) {f : Addr} (cdv : Value) (A : Around) (outer : List PySem.Env) (s : Shared) (H : Hp) (E : XK) (hr : Room n (A.deeper (envOfC "is_letter" (C8.fnScope s_is_letter) s.heap.objs.size f cdv))) :
    PSs (cxOf CX0 P w K mg base ["letter"] "is_letter" (C8.fnScope s_is_letter) f cdv A outer s H E).nox (C8.fnBody s_is_letter) (tIS K (b_is_letter (FF n))) :=
  have nd := sc_is_letter.nd
  have hu := hu_of hr
  (s_one (s_ret (r_chain (op_leA hr.units0) f_le (op_leA hr.units0) f_le r_str (r_var (i := 0) rfl (by first | exact .inl rfl | exact .inr (.inl rfl) | exact .inr (.inr rfl))) r_str)))
theorem k_list_depth (T : Tb P w K mg base n) {f : Addr} (cdv : Value) (A : Around) (outer : List PySem.Env) (s : Shared) (H : Hp) (E : XK) (hr : Room n (A.deeper (envOfC "list_depth" (C8.fnScope s_list_depth) s.heap.objs.size f cdv))) :
    PSs (cxOf CX0 P w K mg base ["value", "item"] "list_depth" (C8.fnScope s_list_depth) f cdv A outer s H E).nox (C8.fnBody s_list_depth) (tIS K (b_list_depth (FF n))) :=
  have nd := sc_list_depth.nd
  have hu := hu_of hr
  (s_cons (s_if (r_cmpT (op_neD hr.units) f_ne (r_sub hu (r_var (i := 0) rfl (by first | exact .inl rfl | exact .inr (.inl rfl) | exact .inr (.inr rfl))) r_int (fun _ _ => rfl)) r_str (nomark _)) (s_one (s_ret r_int)) s_nil) (s_one (s_ret (r_op op_addI f_add r_int (r_maxDef rfl hr.units rfl T.z_max (by decide +kernel) (a_cons (r_lc (own := [("item", 1)]) rfl nd (i_walk (r_sub hu (r_var (i := 0) rfl (by first | exact .inl rfl | exact .inr (.inl rfl) | exact .inr (.inr rfl))) r_int (fun _ _ => rfl))) (by first | exact blkOk_by (N := ["value", "item"]) (sc := C8.fnScope s_list_depth) (by decide +kernel) | exact blkOk_by rfl | exact blkOk_by (by with_unfolding_all rfl)) (by decide) (fun _ _ _ _ _ => (g_name (i := 1) nd rfl (by first | exact .inl rfl | exact .inr rfl))) (fun _ _ _ _ _ => t_yes) (fun _ _ _ _ _ => (r_call T.c_list_depth (ar_list_depth _) hr (Nat.le_refl _) rfl (a_cons (r_var (i := 1) rfl (by first | exact .inl rfl | exact .inr (.inl rfl) | exact .inr (.inr rfl))) a_nil)))) a_nil) (k_one r_int))))))
theorem k__bounded_at (T : Tb P w K mg base n) {f : Addr} (cdv : Value) (A : Around) (outer : List PySem.Env) (s : Shared) (H : Hp) (E : XK) (hr : Room n (A.deeper (envOfC "_bounded_at" (C8.fnScope s__bounded_at) s.heap.objs.size f cdv))) :
    PSs (cxOf CX0 P w K mg base ["value", "depth", "item", "letter"] "_bounded_at" (C8.fnScope s__bounded_at) f cdv A outer s H E).nox (C8.fnBody s__bounded_at) (tIS K (b__bounded_at (FF n))) :=
  have nd := sc__bounded_at.nd
  have hu := hu_of hr
  (s_cons (s_if (r_cmpT (op_eqD hr.units) f_eq (r_sub hu (r_var (i := 0) rfl (by first | exact .inl rfl | exact .inr (.inl rfl) | exact .inr (.inr rfl))) r_int (fun _ _ => rfl)) r_str (nomark _)) (s_one (s_ret (r_chain (op_leA hr.units0) f_le (op_leA hr.units0) f_le (r_un un_neg f_neg (r_glob rfl T.g_MOST_NUMBER)) (r_sub hu (r_var (i := 0) rfl (by first | exact .inl rfl | exact .inr (.inl rfl) | exact .inr (.inr rfl))) r_int (fun _ _ => rfl)) (r_glob rfl T.g_MOST_NUMBER)))) s_nil) (s_cons (s_if (r_cmpT (op_eqD hr.units) f_eq (r_sub hu (r_var (i := 0) rfl (by first | exact .inl rfl | exact .inr (.inl rfl) | exact .inr (.inr rfl))) r_int (fun _ _ => rfl)) r_str (nomark _)) (s_one (s_ret (r_andV (r_cmp (op_leA hr.units0) f_le (r_callB cr_len f_len rfl T.z_len (by decide +kernel) (a_cons (r_sub hu (r_var (i := 0) rfl (by first | exact .inl rfl | exact .inr (.inl rfl) | exact .inr (.inr rfl))) r_int (fun _ _ => rfl)) a_nil)) (r_glob rfl T.g_MOST_LETTERS) (nomark _)) (r_one (r_callB (cr_all rfl) f_all rfl T.z_all (by decide +kernel) (a_cons (r_lc (own := [("letter", 3)]) rfl nd (i_walk (r_sub hu (r_var (i := 0) rfl (by first | exact .inl rfl | exact .inr (.inl rfl) | exact .inr (.inr rfl))) r_int (fun _ _ => rfl))) (by first | exact blkOk_by (N := ["value", "depth", "item", "letter"]) (sc := C8.fnScope s__bounded_at) (by decide +kernel) | exact blkOk_by rfl | exact blkOk_by (by with_unfolding_all rfl)) (by decide) (fun _ _ _ _ _ => (g_name (i := 3) nd rfl (by first | exact .inl rfl | exact .inr rfl))) (fun _ _ _ _ _ => t_yes) (fun _ _ _ _ _ => (r_call T.c_is_letter (ar_is_letter _) hr (Nat.le_refl _) rfl (a_cons (r_var (i := 3) rfl (by first | exact .inl rfl | exact .inr (.inl rfl) | exact .inr (.inr rfl))) a_nil)))) a_nil)))))) s_nil) (s_cons (s_if (r_cmpT (op_eqD hr.units) f_eq (r_sub hu (r_var (i := 0) rfl (by first | exact .inl rfl | exact .inr (.inl rfl) | exact .inr (.inr rfl))) r_int (fun _ _ => rfl)) r_str (nomark _)) (s_cons (s_if (PW.pt (w_or (r_cmpT (op_eqD hr.units) f_eq (r_var (i := 1) rfl (by first | exact .inl rfl | exact .inr (.inl rfl) | exact .inr (.inr rfl))) (r_glob rfl T.g_MOST_DEPTH) (nomark _)) (w_or1 (r_cmpT op_gtA f_gt (r_callB cr_len f_len rfl T.z_len (by decide +kernel) (a_cons (r_sub hu (r_var (i := 0) rfl (by first | exact .inl rfl | exact .inr (.inl rfl) | exact .inr (.inr rfl))) r_int (fun _ _ => rfl)) a_nil)) (r_glob rfl T.g_MOST_ITEMS) (nomark _))))) (s_one (s_ret r_bl)) s_nil) (s_one (s_ret (r_callB (cr_all rfl) f_all rfl T.z_all (by decide +kernel) (a_cons (r_lc (own := [("item", 2)]) rfl nd (i_walk (r_sub hu (r_var (i := 0) rfl (by first | exact .inl rfl | exact .inr (.inl rfl) | exact .inr (.inr rfl))) r_int (fun _ _ => rfl))) (by first | exact blkOk_by (N := ["value", "depth", "item", "letter"]) (sc := C8.fnScope s__bounded_at) (by decide +kernel) | exact blkOk_by rfl | exact blkOk_by (by with_unfolding_all rfl)) (by decide) (fun _ _ _ _ _ => (g_name (i := 2) nd rfl (by first | exact .inl rfl | exact .inr rfl))) (fun _ _ _ _ _ => t_yes) (fun _ _ _ _ _ => (r_call T.c__bounded_at (ar__bounded_at _) hr (Nat.le_refl _) rfl (a_cons (r_var (i := 2) rfl (by first | exact .inl rfl | exact .inr (.inl rfl) | exact .inr (.inr rfl))) (a_cons (r_op op_addI f_add (r_var (i := 1) rfl (by first | exact .inl rfl | exact .inr (.inl rfl) | exact .inr (.inr rfl))) r_int) a_nil))))) a_nil))))) s_nil) (s_one (s_ret r_bl)))))
theorem k_is_bounded (T : Tb P w K mg base n) {f : Addr} (cdv : Value) (A : Around) (outer : List PySem.Env) (s : Shared) (H : Hp) (E : XK) (hr : Room n (A.deeper (envOfC "is_bounded" (C8.fnScope s_is_bounded) s.heap.objs.size f cdv))) :
    PSs (cxOf CX0 P w K mg base ["value"] "is_bounded" (C8.fnScope s_is_bounded) f cdv A outer s H E).nox (C8.fnBody s_is_bounded) (tIS K (b_is_bounded (FF n))) :=
  have nd := sc_is_bounded.nd
  have hu := hu_of hr
  (s_one (s_ret (r_call T.c__bounded_at (ar__bounded_at _) hr (Nat.le_refl _) rfl (a_cons (r_var (i := 0) rfl (by first | exact .inl rfl | exact .inr (.inl rfl) | exact .inr (.inr rfl))) (a_cons r_int a_nil)))))
theorem k_fits (T : Tb P w K mg base n) {f : Addr} (cdv : Value) (A : Around) (outer : List PySem.Env) (s : Shared) (H : Hp) (E : XK) (hr : Room n (A.deeper (envOfC "fits" (C8.fnScope s_fits) s.heap.objs.size f cdv))) :
    PSs (cxOf CX0 P w K mg base ["value", "kind", "item"] "fits" (C8.fnScope s_fits) f cdv A outer s H E).nox (C8.fnBody s_fits) (tIS K (b_fits (FF n))) :=
  have nd := sc_fits.nd
  have hu := hu_of hr
  (s_cons (s_if (r_cmpT (op_eqD hr.units) f_eq (r_sub hu (r_var (i := 0) rfl (by first | exact .inl rfl | exact .inr (.inl rfl) | exact .inr (.inr rfl))) r_int (fun _ _ => rfl)) r_str (nomark _)) (s_one (s_ret (r_andV (r_callB call_isi f_isi rfl T.z_isinstance (by decide +kernel) (a_cons (r_var (i := 1) rfl (by first | exact .inl rfl | exact .inr (.inl rfl) | exact .inr (.inr rfl))) (a_cons (r_ty rfl T.z_tuple (by decide +kernel)) a_nil))) (r_one (r_callB (cr_all rfl) f_all rfl T.z_all (by decide +kernel) (a_cons (r_lc (own := [("item", 2)]) rfl nd (i_walk (r_sub hu (r_var (i := 0) rfl (by first | exact .inl rfl | exact .inr (.inl rfl) | exact .inr (.inr rfl))) r_int (fun _ _ => rfl))) (by first | exact blkOk_by (N := ["value", "kind", "item"]) (sc := C8.fnScope s_fits) (by decide +kernel) | exact blkOk_by rfl | exact blkOk_by (by with_unfolding_all rfl)) (by decide) (fun _ _ _ _ _ => (g_name (i := 2) nd rfl (by first | exact .inl rfl | exact .inr rfl))) (fun _ _ _ _ _ => t_yes) (fun _ _ _ _ _ => (r_call T.c_fits (ar_fits _) hr (Nat.le_refl _) rfl (a_cons (r_var (i := 2) rfl (by first | exact .inl rfl | exact .inr (.inl rfl) | exact .inr (.inr rfl))) (a_cons (r_sub hu (r_var (i := 1) rfl (by first | exact .inl rfl | exact .inr (.inl rfl) | exact .inr (.inr rfl))) r_int (fun _ _ => rfl)) a_nil))))) a_nil)))))) s_nil) (s_one (s_ret (r_cmp (op_eqD hr.units) f_eq (r_sub hu (r_var (i := 0) rfl (by first | exact .inl rfl | exact .inr (.inl rfl) | exact .inr (.inr rfl))) r_int (fun _ _ => rfl)) (r_var (i := 1) rfl (by first | exact .inl rfl | exact .inr (.inl rfl) | exact .inr (.inr rfl))) (nomark _)))))
theorem k_known_type (T : Tb P w K mg base n) {f : Addr} (cdv : Value) (A : Around) (outer : List PySem.Env) (s : Shared) (H : Hp) (E : XK) (hr : Room n (A.deeper (envOfC "known_type" (C8.fnScope s_known_type) s.heap.objs.size f cdv))) :
    PSs (cxOf CX0 P w K mg base ["value", "inner", "item"] "known_type" (C8.fnScope s_known_type) f cdv A outer s H E).nox (C8.fnBody s_known_type) (tIS K (b_known_type (FF n))) :=
  have nd := sc_known_type.nd
  have hu := hu_of hr
  (s_cons (s_if (r_cmpT (op_neD hr.units) f_ne (r_sub hu (r_var (i := 0) rfl (by first | exact .inl rfl | exact .inr (.inl rfl) | exact .inr (.inr rfl))) r_int (fun _ _ => rfl)) r_str (nomark _)) (s_one (s_ret (r_sub hu (r_var (i := 0) rfl (by first | exact .inl rfl | exact .inr (.inl rfl) | exact .inr (.inr rfl))) r_int (fun _ _ => rfl)))) s_nil) (s_cons (s_set (i := 1) nd rfl (by first | exact .inl rfl | exact .inr rfl) r_non) (s_cons (s_for PassesOwn.never rfl (i_walk (r_sub hu (r_var (i := 0) rfl (by first | exact .inl rfl | exact .inr (.inl rfl) | exact .inr (.inr rfl))) r_int (fun _ _ => rfl))) (g_name (i := 2) nd rfl (by first | exact .inl rfl | exact .inr rfl)) (s_cons (s_set (i := 1) nd rfl (by first | exact .inl rfl | exact .inr rfl) (r_call T.c_joined (ar_joined _) hr (Nat.le_refl _) rfl (a_cons (r_var (i := 1) rfl (by first | exact .inl rfl | exact .inr (.inl rfl) | exact .inr (.inr rfl))) (a_cons (r_call T.c_known_type (ar_known_type _) hr (Nat.le_refl _) rfl (a_cons (r_var (i := 2) rfl (by first | exact .inl rfl | exact .inr (.inl rfl) | exact .inr (.inr rfl))) a_nil)) a_nil)))) (s_one (s_if (r_cmpT op_isA f_is (r_var (i := 1) rfl (by first | exact .inl rfl | exact .inr (.inl rfl) | exact .inr (.inr rfl))) r_bl (nomark _)) (s_one (s_ret r_bl)) s_nil)))) (s_one (s_ret (r_tup (a_cons r_str (a_cons (r_var (i := 1) rfl (by first | exact .inl rfl | exact .inr (.inl rfl) | exact .inr (.inr rfl))) a_nil))))))))
theorem k_joined (T : Tb P w K mg base n) {f : Addr} (cdv : Value) (A : Around) (outer : List PySem.Env) (s : Shared) (H : Hp) (E : XK) (hr : Room n (A.deeper (envOfC "joined" (C8.fnScope s_joined) s.heap.objs.size f cdv))) :
    PSs (cxOf CX0 P w K mg base ["one", "other", "inner"] "joined" (C8.fnScope s_joined) f cdv A outer s H E).nox (C8.fnBody s_joined) (tIS K (b_joined (FF n))) :=
  have nd := sc_joined.nd
  have hu := hu_of hr
  (s_cons (s_if (PW.pt (w_or (r_cmpT op_isA f_is (r_var (i := 0) rfl (by first | exact .inl rfl | exact .inr (.inl rfl) | exact .inr (.inr rfl))) r_non (nomark _)) (w_or1 (r_cmpT (op_eqD hr.units) f_eq (r_var (i := 0) rfl (by first | exact .inl rfl | exact .inr (.inl rfl) | exact .inr (.inr rfl))) (r_var (i := 1) rfl (by first | exact .inl rfl | exact .inr (.inl rfl) | exact .inr (.inr rfl))) (nomark _))))) (s_one (s_ret (r_var (i := 1) rfl (by first | exact .inl rfl | exact .inr (.inl rfl) | exact .inr (.inr rfl))))) s_nil) (s_cons (s_if (r_cmpT op_isA f_is (r_var (i := 1) rfl (by first | exact .inl rfl | exact .inr (.inl rfl) | exact .inr (.inr rfl))) r_non (nomark _)) (s_one (s_ret (r_var (i := 0) rfl (by first | exact .inl rfl | exact .inr (.inl rfl) | exact .inr (.inr rfl))))) s_nil) (s_cons (s_if (PW.pt (w_and (r_truth (r_callB call_isi f_isi rfl T.z_isinstance (by decide +kernel) (a_cons (r_var (i := 0) rfl (by first | exact .inl rfl | exact .inr (.inl rfl) | exact .inr (.inr rfl))) (a_cons (r_ty rfl T.z_tuple (by decide +kernel)) a_nil))) (by intro _; rfl)) (w_and1 (r_truth (r_callB call_isi f_isi rfl T.z_isinstance (by decide +kernel) (a_cons (r_var (i := 1) rfl (by first | exact .inl rfl | exact .inr (.inl rfl) | exact .inr (.inr rfl))) (a_cons (r_ty rfl T.z_tuple (by decide +kernel)) a_nil))) (by intro _; rfl))))) (s_cons (s_set (i := 2) nd rfl (by first | exact .inl rfl | exact .inr rfl) (r_call T.c_joined (ar_joined _) hr (Nat.le_refl _) rfl (a_cons (r_sub hu (r_var (i := 0) rfl (by first | exact .inl rfl | exact .inr (.inl rfl) | exact .inr (.inr rfl))) r_int (fun _ _ => rfl)) (a_cons (r_sub hu (r_var (i := 1) rfl (by first | exact .inl rfl | exact .inr (.inl rfl) | exact .inr (.inr rfl))) r_int (fun _ _ => rfl)) a_nil)))) (s_one (s_ret (r_ifExp (r_cmpT op_isA f_is (r_var (i := 2) rfl (by first | exact .inl rfl | exact .inr (.inl rfl) | exact .inr (.inr rfl))) r_bl (nomark _)) r_bl (r_tup (a_cons r_str (a_cons (r_var (i := 2) rfl (by first | exact .inl rfl | exact .inr (.inl rfl) | exact .inr (.inr rfl))) a_nil))))))) s_nil) (s_one (s_ret r_bl)))))
theorem k__number (T : Tb P w K mg base n) {f : Addr} (cdv : Value) (A : Around) (outer : List PySem.Env) (s : Shared) (H : Hp) (E : XK) (hr : Room n (A.deeper (envOfC "_number" (C8.fnScope s__number) s.heap.objs.size f cdv))) :
    PSs (cxOf CX0 P w K mg base ["n"] "_number" (C8.fnScope s__number) f cdv A outer s H E).nox (C8.fnBody s__number) (tIS K (b__number (FF n))) :=
  have nd := sc__number.nd
  have hu := hu_of hr
  (s_cons (s_if (r_chainT (op_leA hr.units0) f_le (op_leA hr.units0) f_le (r_un un_neg f_neg (r_glob rfl T.g_MOST_NUMBER)) (r_var (i := 0) rfl (by first | exact .inl rfl | exact .inr (.inl rfl) | exact .inr (.inr rfl))) (r_glob rfl T.g_MOST_NUMBER)) (s_one (s_ret (r_tup (a_cons r_str (a_cons (r_tup (a_cons r_str (a_cons (r_var (i := 0) rfl (by first | exact .inl rfl | exact .inr (.inl rfl) | exact .inr (.inr rfl))) a_nil))) a_nil))))) s_nil) (s_one (s_ret (r_tup (a_cons r_str (a_cons (r_glob rfl T.g_TOO_GREAT) a_nil))))))
theorem k__letters (T : Tb P w K mg base n) {f : Addr} (cdv : Value) (A : Around) (outer : List PySem.Env) (s : Shared) (H : Hp) (E : XK) (hr : Room n (A.deeper (envOfC "_letters" (C8.fnScope s__letters) s.heap.objs.size f cdv))) :
    PSs (cxOf CX0 P w K mg base ["text"] "_letters" (C8.fnScope s__letters) f cdv A outer s H E).nox (C8.fnBody s__letters) (tIS K (b__letters (FF n))) :=
  have nd := sc__letters.nd
  have hu := hu_of hr
  (s_cons (s_if (r_cmpT (op_leA hr.units0) f_le (r_callB cr_len f_len rfl T.z_len (by decide +kernel) (a_cons (r_var (i := 0) rfl (by first | exact .inl rfl | exact .inr (.inl rfl) | exact .inr (.inr rfl))) a_nil)) (r_glob rfl T.g_MOST_LETTERS) (nomark _)) (s_one (s_ret (r_tup (a_cons r_str (a_cons (r_tup (a_cons r_str (a_cons (r_var (i := 0) rfl (by first | exact .inl rfl | exact .inr (.inl rfl) | exact .inr (.inr rfl))) a_nil))) a_nil))))) s_nil) (s_one (s_ret (r_tup (a_cons r_str (a_cons (r_glob rfl T.g_TOO_GREAT) a_nil))))))
theorem k__calculated (T : Tb P w K mg base n) {f : Addr} (cdv : Value) (A : Around) (outer : List PySem.Env) (s : Shared) (H : Hp) (E : XK) (hr : Room n (A.deeper (envOfC "_calculated" (C8.fnScope s__calculated) s.heap.objs.size f cdv))) :
    PSs (cxOf CX0 P w K mg base ["sign", "m", "n"] "_calculated" (C8.fnScope s__calculated) f cdv A outer s H E).nox (C8.fnBody s__calculated) (tIS K (b__calculated (FF n))) :=
  have nd := sc__calculated.nd
  have hu := hu_of hr
  (s_cons (s_if (r_cmpT (op_eqD hr.units) f_eq (r_var (i := 0) rfl (by first | exact .inl rfl | exact .inr (.inl rfl) | exact .inr (.inr rfl))) r_str (nomark _)) (s_one (s_ret (r_call T.c__number (ar__number _) hr (Nat.le_refl _) rfl (a_cons (r_op op_addI f_add (r_var (i := 1) rfl (by first | exact .inl rfl | exact .inr (.inl rfl) | exact .inr (.inr rfl))) (r_var (i := 2) rfl (by first | exact .inl rfl | exact .inr (.inl rfl) | exact .inr (.inr rfl)))) a_nil)))) s_nil) (s_cons (s_if (r_cmpT (op_eqD hr.units) f_eq (r_var (i := 0) rfl (by first | exact .inl rfl | exact .inr (.inl rfl) | exact .inr (.inr rfl))) r_str (nomark _)) (s_one (s_ret (r_call T.c__number (ar__number _) hr (Nat.le_refl _) rfl (a_cons (r_op op_subI f_sub (r_var (i := 1) rfl (by first | exact .inl rfl | exact .inr (.inl rfl) | exact .inr (.inr rfl))) (r_var (i := 2) rfl (by first | exact .inl rfl | exact .inr (.inl rfl) | exact .inr (.inr rfl)))) a_nil)))) s_nil) (s_cons (s_if (r_cmpT (op_eqD hr.units) f_eq (r_var (i := 0) rfl (by first | exact .inl rfl | exact .inr (.inl rfl) | exact .inr (.inr rfl))) r_str (nomark _)) (s_one (s_ret (r_call T.c__number (ar__number _) hr (Nat.le_refl _) rfl (a_cons (r_op op_mulI f_mul (r_var (i := 1) rfl (by first | exact .inl rfl | exact .inr (.inl rfl) | exact .inr (.inr rfl))) (r_var (i := 2) rfl (by first | exact .inl rfl | exact .inr (.inl rfl) | exact .inr (.inr rfl)))) a_nil)))) s_nil) (s_cons (s_if (r_cmpT (op_eqD hr.units) f_eq (r_var (i := 2) rfl (by first | exact .inl rfl | exact .inr (.inl rfl) | exact .inr (.inr rfl))) r_int (nomark _)) (s_one (s_ret (r_tup (a_cons r_str (a_cons (r_glob rfl T.g_NO_QUOTIENT) a_nil))))) s_nil) (s_one (s_ret (r_call T.c__number (ar__number _) hr (Nat.le_refl _) rfl (a_cons (r_op op_divI f_div (r_var (i := 1) rfl (by first | exact .inl rfl | exact .inr (.inl rfl) | exact .inr (.inr rfl))) (r_var (i := 2) rfl (by first | exact .inl rfl | exact .inr (.inl rfl) | exact .inr (.inr rfl)))) a_nil))))))))
theorem k__joined_up (T : Tb P w K mg base n) {f : Addr} (cdv : Value) (A : Around) (outer : List PySem.Env) (s : Shared) (H : Hp) (E : XK) (hr : Room n (A.deeper (envOfC "_joined_up" (C8.fnScope s__joined_up) s.heap.objs.size f cdv))) :
    PSs (cxOf CX0 P w K mg base ["a", "b"] "_joined_up" (C8.fnScope s__joined_up) f cdv A outer s H E).nox (C8.fnBody s__joined_up) (tIS K (b__joined_up (FF n))) :=
  have nd := sc__joined_up.nd
  have hu := hu_of hr
  (s_cons (s_if (r_cmpT (op_eqD hr.units) f_eq (r_sub hu (r_var (i := 0) rfl (by first | exact .inl rfl | exact .inr (.inl rfl) | exact .inr (.inr rfl))) r_int (fun _ _ => rfl)) r_str (nomark _)) (s_one (s_ret (r_call T.c__letters (ar__letters _) hr (Nat.le_refl _) rfl (a_cons (r_op op_addI f_add (r_sub hu (r_var (i := 0) rfl (by first | exact .inl rfl | exact .inr (.inl rfl) | exact .inr (.inr rfl))) r_int (fun _ _ => rfl)) (r_sub hu (r_var (i := 1) rfl (by first | exact .inl rfl | exact .inr (.inl rfl) | exact .inr (.inr rfl))) r_int (fun _ _ => rfl))) a_nil)))) s_nil) (s_one (s_ret (r_call T.c_list_of (ar_list_of _) hr (Nat.le_refl _) rfl (a_cons (r_op op_addI f_add (r_sub hu (r_var (i := 0) rfl (by first | exact .inl rfl | exact .inr (.inl rfl) | exact .inr (.inr rfl))) r_int (fun _ _ => rfl)) (r_sub hu (r_var (i := 1) rfl (by first | exact .inl rfl | exact .inr (.inl rfl) | exact .inr (.inr rfl))) r_int (fun _ _ => rfl))) a_nil)))))
theorem k__compared (T : Tb P w K mg base n) {f : Addr} (cdv : Value) (A : Around) (outer : List PySem.Env) (s : Shared) (H : Hp) (E : XK) (hr : Room n (A.deeper (envOfC "_compared" (C8.fnScope s__compared) s.heap.objs.size f cdv))) :
    PSs (cxOf CX0 P w K mg base ["sign", "a", "b"] "_compared" (C8.fnScope s__compared) f cdv A outer s H E).nox (C8.fnBody s__compared) (tIS K (b__compared (FF n))) :=
  have nd := sc__compared.nd
  have hu := hu_of hr
  (s_cons (s_if (r_cmpT (op_eqD hr.units) f_eq (r_var (i := 0) rfl (by first | exact .inl rfl | exact .inr (.inl rfl) | exact .inr (.inr rfl))) r_str (nomark _)) (s_one (s_ret (r_cmp (op_eqD hr.units) f_eq (r_var (i := 1) rfl (by first | exact .inl rfl | exact .inr (.inl rfl) | exact .inr (.inr rfl))) (r_var (i := 2) rfl (by first | exact .inl rfl | exact .inr (.inl rfl) | exact .inr (.inr rfl))) (nomark _)))) s_nil) (s_cons (s_if (r_cmpT (op_eqD hr.units) f_eq (r_var (i := 0) rfl (by first | exact .inl rfl | exact .inr (.inl rfl) | exact .inr (.inr rfl))) r_str (nomark _)) (s_one (s_ret (r_cmp (op_neD hr.units) f_ne (r_var (i := 1) rfl (by first | exact .inl rfl | exact .inr (.inl rfl) | exact .inr (.inr rfl))) (r_var (i := 2) rfl (by first | exact .inl rfl | exact .inr (.inl rfl) | exact .inr (.inr rfl))) (nomark _)))) s_nil) (s_cons (s_if (r_cmpT (op_eqD hr.units) f_eq (r_var (i := 0) rfl (by first | exact .inl rfl | exact .inr (.inl rfl) | exact .inr (.inr rfl))) r_str (nomark _)) (s_one (s_ret (r_cmp (op_ltA hr.units0) f_lt (r_sub hu (r_var (i := 1) rfl (by first | exact .inl rfl | exact .inr (.inl rfl) | exact .inr (.inr rfl))) r_int (fun _ _ => rfl)) (r_sub hu (r_var (i := 2) rfl (by first | exact .inl rfl | exact .inr (.inl rfl) | exact .inr (.inr rfl))) r_int (fun _ _ => rfl)) (nomark _)))) s_nil) (s_one (s_ret (r_cmp (op_leA hr.units0) f_le (r_sub hu (r_var (i := 1) rfl (by first | exact .inl rfl | exact .inr (.inl rfl) | exact .inr (.inr rfl))) r_int (fun _ _ => rfl)) (r_sub hu (r_var (i := 2) rfl (by first | exact .inl rfl | exact .inr (.inl rfl) | exact .inr (.inr rfl))) r_int (fun _ _ => rfl)) (nomark _)))))))
theorem k_operate (T : Tb P w K mg base n) {f : Addr} (cdv : Value) (A : Around) (outer : List PySem.Env) (s : Shared) (H : Hp) (E : XK) (hr : Room n (A.deeper (envOfC "operate" (C8.fnScope s_operate) s.heap.objs.size f cdv))) :
    PSs (cxOf CX0 P w K mg base ["sign", "a", "b"] "operate" (C8.fnScope s_operate) f cdv A outer s H E).nox (C8.fnBody s_operate) (tIS K (b_operate (FF n))) :=
  have nd := sc_operate.nd
  have hu := hu_of hr
  (s_cons (s_if (r_cmpT (op_inAll hu) f_inA (r_var (i := 0) rfl (by first | exact .inl rfl | exact .inr (.inl rfl) | exact .inr (.inr rfl))) (r_tup (a_cons r_str (a_cons r_str (a_cons r_str (a_cons r_str a_nil))))) (by with_unfolding_all rfl)) (s_one (s_ret (r_call T.c__calculated (ar__calculated _) hr (Nat.le_refl _) rfl (a_cons (r_var (i := 0) rfl (by first | exact .inl rfl | exact .inr (.inl rfl) | exact .inr (.inr rfl))) (a_cons (r_sub hu (r_var (i := 1) rfl (by first | exact .inl rfl | exact .inr (.inl rfl) | exact .inr (.inr rfl))) r_int (fun _ _ => rfl)) (a_cons (r_sub hu (r_var (i := 2) rfl (by first | exact .inl rfl | exact .inr (.inl rfl) | exact .inr (.inr rfl))) r_int (fun _ _ => rfl)) a_nil)))))) s_nil) (s_cons (s_if (r_cmpT (op_eqD hr.units) f_eq (r_var (i := 0) rfl (by first | exact .inl rfl | exact .inr (.inl rfl) | exact .inr (.inr rfl))) r_str (nomark _)) (s_one (s_ret (r_call T.c__joined_up (ar__joined_up _) hr (Nat.le_refl _) rfl (a_cons (r_var (i := 1) rfl (by first | exact .inl rfl | exact .inr (.inl rfl) | exact .inr (.inr rfl))) (a_cons (r_var (i := 2) rfl (by first | exact .inl rfl | exact .inr (.inl rfl) | exact .inr (.inr rfl))) a_nil))))) s_nil) (s_one (s_ret (r_tup (a_cons r_str (a_cons (r_tup (a_cons r_str (a_cons (r_call T.c__compared (ar__compared _) hr (Nat.le_refl _) rfl (a_cons (r_var (i := 0) rfl (by first | exact .inl rfl | exact .inr (.inl rfl) | exact .inr (.inr rfl))) (a_cons (r_var (i := 1) rfl (by first | exact .inl rfl | exact .inr (.inl rfl) | exact .inr (.inr rfl))) (a_cons (r_var (i := 2) rfl (by first | exact .inl rfl | exact .inr (.inl rfl) | exact .inr (.inr rfl))) a_nil)))) a_nil))) a_nil)))))))
theorem k_inverted (T : Tb P w K mg base n) {f : Addr} (cdv : Value) (A : Around) (outer : List PySem.Env) (s : Shared) (H : Hp) (E : XK) (hr : Room n (A.deeper (envOfC "inverted" (C8.fnScope s_inverted) s.heap.objs.size f cdv))) :
    PSs (cxOf CX0 P w K mg base ["a"] "inverted" (C8.fnScope s_inverted) f cdv A outer s H E).nox (C8.fnBody s_inverted) (tIS K (b_inverted (FF n))) :=
  have nd := sc_inverted.nd
  have hu := hu_of hr
  (s_one (s_ret (r_tup (a_cons r_str (a_cons (r_tup (a_cons r_str (a_cons (r_notV (r_sub hu (r_var (i := 0) rfl (by first | exact .inl rfl | exact .inr (.inl rfl) | exact .inr (.inr rfl))) r_int (fun _ _ => rfl))) a_nil))) a_nil)))))
theorem k_negated (T : Tb P w K mg base n) {f : Addr} (cdv : Value) (A : Around) (outer : List PySem.Env) (s : Shared) (H : Hp) (E : XK) (hr : Room n (A.deeper (envOfC "negated" (C8.fnScope s_negated) s.heap.objs.size f cdv))) :
    PSs (cxOf CX0 P w K mg base ["a"] "negated" (C8.fnScope s_negated) f cdv A outer s H E).nox (C8.fnBody s_negated) (tIS K (b_negated (FF n))) :=
  have nd := sc_negated.nd
  have hu := hu_of hr
  (s_one (s_ret (r_call T.c__number (ar__number _) hr (Nat.le_refl _) rfl (a_cons (r_un un_neg f_neg (r_sub hu (r_var (i := 0) rfl (by first | exact .inl rfl | exact .inr (.inl rfl) | exact .inr (.inr rfl))) r_int (fun _ _ => rfl))) a_nil))))
theorem k_item_of (T : Tb P w K mg base n) {f : Addr} (cdv : Value) (A : Around) (outer : List PySem.Env) (s : Shared) (H : Hp) (E : XK) (hr : Room n (A.deeper (envOfC "item_of" (C8.fnScope s_item_of) s.heap.objs.size f cdv))) :
    PSs (cxOf CX0 P w K mg base ["a", "index"] "item_of" (C8.fnScope s_item_of) f cdv A outer s H E).nox (C8.fnBody s_item_of) (tIS K (b_item_of (FF n))) :=
  have nd := sc_item_of.nd
  have hu := hu_of hr
  (s_cons (s_if (r_chainT (op_leA hr.units0) f_le (op_ltA hr.units0) f_lt r_int (r_sub hu (r_var (i := 1) rfl (by first | exact .inl rfl | exact .inr (.inl rfl) | exact .inr (.inr rfl))) r_int (fun _ _ => rfl)) (r_callB cr_len f_len rfl T.z_len (by decide +kernel) (a_cons (r_sub hu (r_var (i := 0) rfl (by first | exact .inl rfl | exact .inr (.inl rfl) | exact .inr (.inr rfl))) r_int (fun _ _ => rfl)) a_nil))) (s_one (s_ret (r_tup (a_cons r_str (a_cons (r_sub hu (r_sub hu (r_var (i := 0) rfl (by first | exact .inl rfl | exact .inr (.inl rfl) | exact .inr (.inr rfl))) r_int (fun _ _ => rfl)) (r_sub hu (r_var (i := 1) rfl (by first | exact .inl rfl | exact .inr (.inl rfl) | exact .inr (.inr rfl))) r_int (fun _ _ => rfl)) (fun _ _ => rfl)) a_nil))))) s_nil) (s_one (s_ret (r_tup (a_cons r_str (a_cons (r_glob rfl T.g_NO_ITEM) a_nil))))))
theorem k_size_of (T : Tb P w K mg base n) {f : Addr} (cdv : Value) (A : Around) (outer : List PySem.Env) (s : Shared) (H : Hp) (E : XK) (hr : Room n (A.deeper (envOfC "size_of" (C8.fnScope s_size_of) s.heap.objs.size f cdv))) :
    PSs (cxOf CX0 P w K mg base ["a"] "size_of" (C8.fnScope s_size_of) f cdv A outer s H E).nox (C8.fnBody s_size_of) (tIS K (b_size_of (FF n))) :=
  have nd := sc_size_of.nd
  have hu := hu_of hr
  (s_one (s_ret (r_tup (a_cons r_str (a_cons (r_tup (a_cons r_str (a_cons (r_callB cr_len f_len rfl T.z_len (by decide +kernel) (a_cons (r_sub hu (r_var (i := 0) rfl (by first | exact .inl rfl | exact .inr (.inl rfl) | exact .inr (.inr rfl))) r_int (fun _ _ => rfl)) a_nil)) a_nil))) a_nil)))))
theorem k_text_of (T : Tb P w K mg base n) {f : Addr} (cdv : Value) (A : Around) (outer : List PySem.Env) (s : Shared) (H : Hp) (E : XK) (hr : Room n (A.deeper (envOfC "text_of" (C8.fnScope s_text_of) s.heap.objs.size f cdv))) :
    PSs (cxOf CX0 P w K mg base ["a"] "text_of" (C8.fnScope s_text_of) f cdv A outer s H E).nox (C8.fnBody s_text_of) (tIS K (b_text_of (FF n))) :=
  have nd := sc_text_of.nd
  have hu := hu_of hr
  (s_cons (s_if (r_cmpT (op_eqD hr.units) f_eq (r_sub hu (r_var (i := 0) rfl (by first | exact .inl rfl | exact .inr (.inl rfl) | exact .inr (.inr rfl))) r_int (fun _ _ => rfl)) r_str (nomark _)) (s_one (s_ret (r_call T.c__letters (ar__letters _) hr (Nat.le_refl _) rfl (a_cons (r_callTy call_str_int f_str rfl T.z_str (by decide +kernel) (a_cons (r_sub hu (r_var (i := 0) rfl (by first | exact .inl rfl | exact .inr (.inl rfl) | exact .inr (.inr rfl))) r_int (fun _ _ => rfl)) a_nil)) a_nil)))) s_nil) (s_one (s_ret (r_call T.c__letters (ar__letters _) hr (Nat.le_refl _) rfl (a_cons (r_ifExp (r_truth (r_sub hu (r_var (i := 0) rfl (by first | exact .inl rfl | exact .inr (.inl rfl) | exact .inr (.inr rfl))) r_int (fun _ _ => rfl)) (by intro _; rfl)) r_str r_str) a_nil)))))
theorem k_list_of (T : Tb P w K mg base n) {f : Addr} (cdv : Value) (A : Around) (outer : List PySem.Env) (s : Shared) (H : Hp) (E : XK) (hr : Room n (A.deeper (envOfC "list_of" (C8.fnScope s_list_of) s.heap.objs.size f cdv))) :
    PSs (cxOf CX0 P w K mg base ["items", "made"] "list_of" (C8.fnScope s_list_of) f cdv A outer s H E).nox (C8.fnBody s_list_of) (tIS K (b_list_of (FF n))) :=
  have nd := sc_list_of.nd
  have hu := hu_of hr
  (s_cons (s_set (i := 1) nd rfl (by first | exact .inl rfl | exact .inr rfl) (r_tup (a_cons r_str (a_cons (r_callTy call_tuple_of f_tuple rfl T.z_tuple (by decide +kernel) (a_cons (r_var (i := 0) rfl (by first | exact .inl rfl | exact .inr (.inl rfl) | exact .inr (.inr rfl))) a_nil)) a_nil)))) (s_cons (s_if (PW.pt (w_and (r_cmpT (op_leA hr.units0) f_le (r_callB cr_len f_len rfl T.z_len (by decide +kernel) (a_cons (r_var (i := 0) rfl (by first | exact .inl rfl | exact .inr (.inl rfl) | exact .inr (.inr rfl))) a_nil)) (r_glob rfl T.g_MOST_ITEMS) (nomark _)) (w_and1 (r_cmpT (op_leA hr.units0) f_le (r_call T.c_list_depth (ar_list_depth _) hr (Nat.le_refl _) rfl (a_cons (r_var (i := 1) rfl (by first | exact .inl rfl | exact .inr (.inl rfl) | exact .inr (.inr rfl))) a_nil)) (r_glob rfl T.g_MOST_DEPTH) (nomark _))))) (s_one (s_ret (r_tup (a_cons r_str (a_cons (r_var (i := 1) rfl (by first | exact .inl rfl | exact .inr (.inl rfl) | exact .inr (.inr rfl))) a_nil))))) s_nil) (s_one (s_ret (r_tup (a_cons r_str (a_cons (r_glob rfl T.g_TOO_GREAT) a_nil)))))))
theorem k_is_value (T : Tb P w K mg base n) {f : Addr} (cdv : Value) (A : Around) (outer : List PySem.Env) (s : Shared) (H : Hp) (E : XK) (hr : Room n (A.deeper (envOfC "is_value" (C8.fnScope s_is_value) s.heap.objs.size f cdv))) :
    PSs (cxOf CX0 P w K mg base ["value"] "is_value" (C8.fnScope s_is_value) f cdv A outer s H E).nox (C8.fnBody s_is_value) (tIS K (b_is_value (FF n))) :=
  have nd := sc_is_value.nd
  have hu := hu_of hr
  (s_one (s_ret (r_andV (r_call T.c_is_bounded (ar_is_bounded _) hr (Nat.le_refl _) rfl (a_cons (r_var (i := 0) rfl (by first | exact .inl rfl | exact .inr (.inl rfl) | exact .inr (.inr rfl))) a_nil)) (r_one (r_cmp op_isNotA f_isNot (r_call T.c_known_type (ar_known_type _) hr (Nat.le_refl _) rfl (a_cons (r_var (i := 0) rfl (by first | exact .inl rfl | exact .inr (.inl rfl) | exact .inr (.inr rfl))) a_nil)) r_bl (nomark _))))))
theorem k_is_of (T : Tb P w K mg base n) {f : Addr} (cdv : Value) (A : Around) (outer : List PySem.Env) (s : Shared) (H : Hp) (E : XK) (hr : Room n (A.deeper (envOfC "is_of" (C8.fnScope s_is_of) s.heap.objs.size f cdv))) :
    PSs (cxOf CX0 P w K mg base ["value", "sort"] "is_of" (C8.fnScope s_is_of) f cdv A outer s H E).nox (C8.fnBody s_is_of) (tIS K (b_is_of (FF n))) :=
  have nd := sc_is_of.nd
  have hu := hu_of hr
  (s_one (s_ret (r_andV (r_call T.c_is_type (ar_is_type _) hr (Nat.le_refl _) rfl (a_cons (r_var (i := 1) rfl (by first | exact .inl rfl | exact .inr (.inl rfl) | exact .inr (.inr rfl))) a_nil)) (r_andV (r_call T.c_is_value (ar_is_value _) hr (Nat.le_refl _) rfl (a_cons (r_var (i := 0) rfl (by first | exact .inl rfl | exact .inr (.inl rfl) | exact .inr (.inr rfl))) a_nil)) (r_one (r_call T.c_fits (ar_fits _) hr (Nat.le_refl _) rfl (a_cons (r_var (i := 0) rfl (by first | exact .inl rfl | exact .inr (.inl rfl) | exact .inr (.inr rfl))) (a_cons (r_var (i := 1) rfl (by first | exact .inl rfl | exact .inr (.inl rfl) | exact .inr (.inr rfl))) a_nil))))))))
theorem k__law_state (T : Tb P w K mg base n) {f : Addr} (cdv : Value) (A : Around) (outer : List PySem.Env) (s : Shared) (H : Hp) (E : XK) (hr : Room n (A.deeper (envOfC "_law_state" (C8.fnScope s__law_state) s.heap.objs.size f cdv))) :
    PSs (cxOf CX0 P w K mg base ["script", "cells", "cell"] "_law_state" (C8.fnScope s__law_state) f cdv A outer s H E).nox (C8.fnBody s__law_state) (tIS K (b__law_state (FF n))) :=
  have nd := sc__law_state.nd
  have hu := hu_of hr
  (s_cons (s_setLc (i := 1) rfl rfl (sw_true rfl rfl rfl (by decide +kernel)) (own := [("cell", 2)]) rfl nd (i_walk (r_slice sl_any f_sl (r_var (i := 0) rfl (by first | exact .inl rfl | exact .inr (.inl rfl) | exact .inr (.inr rfl))) o_none (o_some r_int))) (by first | exact blkOk_by (N := ["script", "cells", "cell"]) (sc := C8.fnScope s__law_state) (by decide +kernel) | exact blkOk_by rfl | exact blkOk_by (by with_unfolding_all rfl)) (by decide) (fun _ _ _ _ _ => (g_name (i := 2) nd rfl (by first | exact .inl rfl | exact .inr rfl))) (fun _ _ _ _ _ => t_yes) (fun _ _ _ _ _ => (r_callB call_abs f_abs rfl T.z_abs (by decide +kernel) (a_cons (r_var (i := 2) rfl (by first | exact .inl rfl | exact .inr (.inl rfl) | exact .inr (.inr rfl))) a_nil)))) (s_cons (s_if (r_cmpT (op_eqD hr.units) f_eq (r_callB cr_len f_len rfl T.z_len (by decide +kernel) (a_cons (r_var (i := 1) rfl (by first | exact .inl rfl | exact .inr (.inl rfl) | exact .inr (.inr rfl))) a_nil)) r_int (nomark _)) (s_one (s_set (i := 1) nd rfl (by first | exact .inl rfl | exact .inr rfl) (r_lst (a_cons r_int a_nil)))) s_nil) (s_one (s_ret (r_lst (a_cons r_int (a_cons (r_var (i := 1) rfl (by first | exact .inl rfl | exact .inr (.inl rfl) | exact .inr (.inr rfl))) a_nil)))))))
theorem k__law_take (T : Tb P w K mg base n) {f : Addr} (cdv : Value) (A : Around) (outer : List PySem.Env) (s : Shared) (H : Hp) (E : XK) (hr : Room n (A.deeper (envOfC "_law_take" (C8.fnScope s__law_take) s.heap.objs.size f cdv))) :
    PSs (cxOf CX0 P w K mg base ["state", "most", "cells", "at", "cell", "mixed"] "_law_take" (C8.fnScope s__law_take) f cdv A outer s H E).nox (C8.fnBody s__law_take) (tIS K (b__law_take (FF n))) :=
  have nd := sc__law_take.nd
  have hu := hu_of hr
  (s_cons (s_if (r_cmpT (op_ltA hr.units0) f_lt (r_var (i := 1) rfl (by first | exact .inl rfl | exact .inr (.inl rfl) | exact .inr (.inr rfl))) r_int (nomark _)) (s_one (s_ret r_int)) s_nil) (s_cons (s_set (i := 2) nd rfl (by first | exact .inl rfl | exact .inr rfl) (r_sub hu (r_var (i := 0) rfl (by first | exact .inl rfl | exact .inr (.inl rfl) | exact .inr (.inr rfl))) r_int (fun _ _ => rfl))) (s_cons (s_set (i := 3) nd rfl (by first | exact .inl rfl | exact .inr rfl) (r_op op_modN f_mod (r_sub hu (r_var (i := 0) rfl (by first | exact .inl rfl | exact .inr (.inl rfl) | exact .inr (.inr rfl))) r_int (fun _ _ => rfl)) (r_callB cr_len f_len rfl T.z_len (by decide +kernel) (a_cons (r_var (i := 2) rfl (by first | exact .inl rfl | exact .inr (.inl rfl) | exact .inr (.inr rfl))) a_nil)))) (s_cons (s_set (i := 4) nd rfl (by first | exact .inl rfl | exact .inr rfl) (r_sub hu (r_var (i := 2) rfl (by first | exact .inl rfl | exact .inr (.inl rfl) | exact .inr (.inr rfl))) (r_var (i := 3) rfl (by first | exact .inl rfl | exact .inr (.inl rfl) | exact .inr (.inr rfl))) (fun _ _ => rfl))) (s_cons (s_if (r_cmpT op_ge f_ge (r_var (i := 4) rfl (by first | exact .inl rfl | exact .inr (.inl rfl) | exact .inr (.inr rfl))) r_int (nomark _)) (s_cons (s_setIx (set_any hu) f_setA (r_var (i := 2) rfl (by first | exact .inl rfl | exact .inr (.inl rfl) | exact .inr (.inr rfl))) (r_var (i := 3) rfl (by first | exact .inl rfl | exact .inr (.inl rfl) | exact .inr (.inr rfl))) (r_op op_divI f_div (r_var (i := 4) rfl (by first | exact .inl rfl | exact .inr (.inl rfl) | exact .inr (.inr rfl))) (r_var (i := 1) rfl (by first | exact .inl rfl | exact .inr (.inl rfl) | exact .inr (.inr rfl))))) (s_one (s_ret (r_op op_modN f_mod (r_var (i := 4) rfl (by first | exact .inl rfl | exact .inr (.inl rfl) | exact .inr (.inr rfl))) (r_var (i := 1) rfl (by first | exact .inl rfl | exact .inr (.inl rfl) | exact .inr (.inr rfl))))))) s_nil) (s_cons (s_setIx (set_any hu) f_setA (r_var (i := 0) rfl (by first | exact .inl rfl | exact .inr (.inl rfl) | exact .inr (.inr rfl))) r_int (r_op op_addI f_add (r_sub hu (r_var (i := 0) rfl (by first | exact .inl rfl | exact .inr (.inl rfl) | exact .inr (.inr rfl))) r_int (fun _ _ => rfl)) r_int)) (s_cons (s_set (i := 5) nd rfl (by first | exact .inl rfl | exact .inr rfl) (r_op op_modN f_mod (r_callTy call_int1 f_int1 rfl T.z_int (by decide +kernel) (a_cons (r_op op_addI f_add (r_op op_mulI f_mul (r_var (i := 4) rfl (by first | exact .inl rfl | exact .inr (.inl rfl) | exact .inr (.inr rfl))) r_int) (r_op op_mulI f_mul (r_sub hu (r_var (i := 0) rfl (by first | exact .inl rfl | exact .inr (.inl rfl) | exact .inr (.inr rfl))) r_int (fun _ _ => rfl)) r_int)) a_nil)) r_int)) (s_cons (s_set (i := 5) nd rfl (by first | exact .inl rfl | exact .inr rfl) (r_op op_modN f_mod (r_callTy call_int1 f_int1 rfl T.z_int (by decide +kernel) (a_cons (r_op op_addI f_add (r_op op_mulI f_mul (r_var (i := 5) rfl (by first | exact .inl rfl | exact .inr (.inl rfl) | exact .inr (.inr rfl))) r_int) (r_op op_mulI f_mul (r_sub hu (r_var (i := 0) rfl (by first | exact .inl rfl | exact .inr (.inl rfl) | exact .inr (.inr rfl))) r_int (fun _ _ => rfl)) r_int)) a_nil)) r_int)) (s_one (s_ret (r_op op_modN f_mod (r_op op_divI f_div (r_var (i := 5) rfl (by first | exact .inl rfl | exact .inr (.inl rfl) | exact .inr (.inr rfl))) r_int) (r_var (i := 1) rfl (by first | exact .inl rfl | exact .inr (.inl rfl) | exact .inr (.inr rfl))))))))))))))
theorem k__law_number (T : Tb P w K mg base n) {f : Addr} (cdv : Value) (A : Around) (outer : List PySem.Env) (s : Shared) (H : Hp) (E : XK) (hr : Room n (A.deeper (envOfC "_law_number" (C8.fnScope s__law_number) s.heap.objs.size f cdv))) :
    PSs (cxOf CX0 P w K mg base ["n"] "_law_number" (C8.fnScope s__law_number) f cdv A outer s H E).nox (C8.fnBody s__law_number) (tIS K (b__law_number (FF n))) :=
  have nd := sc__law_number.nd
  have hu := hu_of hr
  (s_cons (s_if (PW.pt (w_or (r_cmpT op_gtA f_gt (r_var (i := 0) rfl (by first | exact .inl rfl | exact .inr (.inl rfl) | exact .inr (.inr rfl))) r_int (nomark _)) (w_or1 (r_cmpT (op_ltA hr.units0) f_lt (r_var (i := 0) rfl (by first | exact .inl rfl | exact .inr (.inl rfl) | exact .inr (.inr rfl))) (r_un un_neg f_neg r_int) (nomark _))))) (s_one (s_ret (r_tup (a_cons r_str (a_cons r_int a_nil))))) s_nil) (s_one (s_ret (r_tup (a_cons r_str (a_cons (r_tup (a_cons r_str (a_cons (r_var (i := 0) rfl (by first | exact .inl rfl | exact .inr (.inl rfl) | exact .inr (.inr rfl))) a_nil))) a_nil))))))
theorem k__law_operated (T : Tb P w K mg base n) {f : Addr} (cdv : Value) (A : Around) (outer : List PySem.Env) (s : Shared) (H : Hp) (E : XK) (hr : Room n (A.deeper (envOfC "_law_operated" (C8.fnScope s__law_operated) s.heap.objs.size f cdv))) :
    PSs (cxOf CX0 P w K mg base ["sign", "a", "b", "one", "two", "rest"] "_law_operated" (C8.fnScope s__law_operated) f cdv A outer s H E).nox (C8.fnBody s__law_operated) (tIS K (b__law_operated (FF n))) :=
  have nd := sc__law_operated.nd
  have hu := hu_of hr
  (s_cons (s_par (i := 3) (j := 4) rfl nd rfl rfl (by decide) rfl rfl (a_cons (r_slice sl_any f_sl (r_var (i := 1) rfl (by first | exact .inl rfl | exact .inr (.inl rfl) | exact .inr (.inr rfl))) (o_some r_int) o_none) (a_cons (r_slice sl_any f_sl (r_var (i := 2) rfl (by first | exact .inl rfl | exact .inr (.inl rfl) | exact .inr (.inr rfl))) (o_some r_int) o_none) a_nil)) (by rfl)) (s_cons (s_if (r_cmpT (op_eqD hr.units) f_eq (r_var (i := 0) rfl (by first | exact .inl rfl | exact .inr (.inl rfl) | exact .inr (.inr rfl))) r_str (nomark _)) (s_one (s_ret (r_tup (a_cons r_str (a_cons (r_tup (a_cons r_str (a_cons (r_cmp (op_eqD hr.units) f_eq (r_var (i := 1) rfl (by first | exact .inl rfl | exact .inr (.inl rfl) | exact .inr (.inr rfl))) (r_var (i := 2) rfl (by first | exact .inl rfl | exact .inr (.inl rfl) | exact .inr (.inr rfl))) (nomark _)) a_nil))) a_nil))))) s_nil) (s_cons (s_if (r_cmpT (op_eqD hr.units) f_eq (r_var (i := 0) rfl (by first | exact .inl rfl | exact .inr (.inl rfl) | exact .inr (.inr rfl))) r_str (nomark _)) (s_one (s_ret (r_tup (a_cons r_str (a_cons (r_tup (a_cons r_str (a_cons (r_cmp (op_neD hr.units) f_ne (r_var (i := 1) rfl (by first | exact .inl rfl | exact .inr (.inl rfl) | exact .inr (.inr rfl))) (r_var (i := 2) rfl (by first | exact .inl rfl | exact .inr (.inl rfl) | exact .inr (.inr rfl))) (nomark _)) a_nil))) a_nil))))) s_nil) (s_cons (s_if (r_cmpT (op_eqD hr.units) f_eq (r_var (i := 0) rfl (by first | exact .inl rfl | exact .inr (.inl rfl) | exact .inr (.inr rfl))) r_str (nomark _)) (s_one (s_ret (r_tup (a_cons r_str (a_cons (r_tup (a_cons r_str (a_cons (r_cmp (op_ltA hr.units0) f_lt (r_var (i := 3) rfl (by first | exact .inl rfl | exact .inr (.inl rfl) | exact .inr (.inr rfl))) (r_var (i := 4) rfl (by first | exact .inl rfl | exact .inr (.inl rfl) | exact .inr (.inr rfl))) (nomark _)) a_nil))) a_nil))))) s_nil) (s_cons (s_if (r_cmpT (op_eqD hr.units) f_eq (r_var (i := 0) rfl (by first | exact .inl rfl | exact .inr (.inl rfl) | exact .inr (.inr rfl))) r_str (nomark _)) (s_one (s_ret (r_tup (a_cons r_str (a_cons (r_tup (a_cons r_str (a_cons (r_cmp (op_leA hr.units0) f_le (r_var (i := 3) rfl (by first | exact .inl rfl | exact .inr (.inl rfl) | exact .inr (.inr rfl))) (r_var (i := 4) rfl (by first | exact .inl rfl | exact .inr (.inl rfl) | exact .inr (.inr rfl))) (nomark _)) a_nil))) a_nil))))) s_nil) (s_cons (s_if (r_cmpT (op_eqD hr.units) f_eq (r_var (i := 0) rfl (by first | exact .inl rfl | exact .inr (.inl rfl) | exact .inr (.inr rfl))) r_str (nomark _)) (s_cons (s_if (r_cmpT op_gtA f_gt (r_op op_addI f_add (r_callB cr_len f_len rfl T.z_len (by decide +kernel) (a_cons (r_sub hu (r_var (i := 3) rfl (by first | exact .inl rfl | exact .inr (.inl rfl) | exact .inr (.inr rfl))) r_int (fun _ _ => rfl)) a_nil)) (r_callB cr_len f_len rfl T.z_len (by decide +kernel) (a_cons (r_sub hu (r_var (i := 4) rfl (by first | exact .inl rfl | exact .inr (.inl rfl) | exact .inr (.inr rfl))) r_int (fun _ _ => rfl)) a_nil))) (r_sub hu (r_dict (.cons (.cons .nil)) (pps_cons r_str r_int (pps_cons r_str r_int pps_nil)) rfl rfl (by simp) (by decide)) (r_sub hu (r_var (i := 1) rfl (by first | exact .inl rfl | exact .inr (.inl rfl) | exact .inr (.inr rfl))) r_int (fun _ _ => rfl)) (fun _ _ => rfl)) (nomark _)) (s_one (s_ret (r_tup (a_cons r_str (a_cons r_int a_nil))))) s_nil) (s_one (s_ret (r_tup (a_cons r_str (a_cons (r_tup (a_cons (r_sub hu (r_var (i := 1) rfl (by first | exact .inl rfl | exact .inr (.inl rfl) | exact .inr (.inr rfl))) r_int (fun _ _ => rfl)) (a_cons (r_op op_addI f_add (r_sub hu (r_var (i := 3) rfl (by first | exact .inl rfl | exact .inr (.inl rfl) | exact .inr (.inr rfl))) r_int (fun _ _ => rfl)) (r_sub hu (r_var (i := 4) rfl (by first | exact .inl rfl | exact .inr (.inl rfl) | exact .inr (.inr rfl))) r_int (fun _ _ => rfl))) a_nil))) a_nil)))))) s_nil) (s_cons (s_if (r_cmpT (op_eqD hr.units) f_eq (r_var (i := 0) rfl (by first | exact .inl rfl | exact .inr (.inl rfl) | exact .inr (.inr rfl))) r_str (nomark _)) (s_one (s_ret (r_call T.c__law_number (ar__law_number _) hr (Nat.le_refl _) rfl (a_cons (r_op op_addI f_add (r_sub hu (r_var (i := 3) rfl (by first | exact .inl rfl | exact .inr (.inl rfl) | exact .inr (.inr rfl))) r_int (fun _ _ => rfl)) (r_sub hu (r_var (i := 4) rfl (by first | exact .inl rfl | exact .inr (.inl rfl) | exact .inr (.inr rfl))) r_int (fun _ _ => rfl))) a_nil)))) s_nil) (s_cons (s_if (r_cmpT (op_eqD hr.units) f_eq (r_var (i := 0) rfl (by first | exact .inl rfl | exact .inr (.inl rfl) | exact .inr (.inr rfl))) r_str (nomark _)) (s_one (s_ret (r_call T.c__law_number (ar__law_number _) hr (Nat.le_refl _) rfl (a_cons (r_op op_subI f_sub (r_sub hu (r_var (i := 3) rfl (by first | exact .inl rfl | exact .inr (.inl rfl) | exact .inr (.inr rfl))) r_int (fun _ _ => rfl)) (r_sub hu (r_var (i := 4) rfl (by first | exact .inl rfl | exact .inr (.inl rfl) | exact .inr (.inr rfl))) r_int (fun _ _ => rfl))) a_nil)))) s_nil) (s_cons (s_if (r_cmpT (op_eqD hr.units) f_eq (r_var (i := 0) rfl (by first | exact .inl rfl | exact .inr (.inl rfl) | exact .inr (.inr rfl))) r_str (nomark _)) (s_one (s_ret (r_call T.c__law_number (ar__law_number _) hr (Nat.le_refl _) rfl (a_cons (r_op op_mulI f_mul (r_sub hu (r_var (i := 3) rfl (by first | exact .inl rfl | exact .inr (.inl rfl) | exact .inr (.inr rfl))) r_int (fun _ _ => rfl)) (r_sub hu (r_var (i := 4) rfl (by first | exact .inl rfl | exact .inr (.inl rfl) | exact .inr (.inr rfl))) r_int (fun _ _ => rfl))) a_nil)))) s_nil) (s_cons (s_if (r_cmpT (op_eqD hr.units) f_eq (r_sub hu (r_var (i := 4) rfl (by first | exact .inl rfl | exact .inr (.inl rfl) | exact .inr (.inr rfl))) r_int (fun _ _ => rfl)) r_int (nomark _)) (s_one (s_ret (r_tup (a_cons r_str (a_cons r_int a_nil))))) s_nil) (s_cons (s_set (i := 5) nd rfl (by first | exact .inl rfl | exact .inr rfl) (r_op op_divI f_div (r_callB call_abs f_abs rfl T.z_abs (by decide +kernel) (a_cons (r_sub hu (r_var (i := 3) rfl (by first | exact .inl rfl | exact .inr (.inl rfl) | exact .inr (.inr rfl))) r_int (fun _ _ => rfl)) a_nil)) (r_callB call_abs f_abs rfl T.z_abs (by decide +kernel) (a_cons (r_sub hu (r_var (i := 4) rfl (by first | exact .inl rfl | exact .inr (.inl rfl) | exact .inr (.inr rfl))) r_int (fun _ _ => rfl)) a_nil)))) (s_cons (s_if (r_cmpT (op_neD hr.units) f_ne (r_cmp (op_ltA hr.units0) f_lt (r_sub hu (r_var (i := 3) rfl (by first | exact .inl rfl | exact .inr (.inl rfl) | exact .inr (.inr rfl))) r_int (fun _ _ => rfl)) r_int (nomark _)) (r_cmp (op_ltA hr.units0) f_lt (r_sub hu (r_var (i := 4) rfl (by first | exact .inl rfl | exact .inr (.inl rfl) | exact .inr (.inr rfl))) r_int (fun _ _ => rfl)) r_int (nomark _)) (nomark _)) (s_cons (s_set (i := 5) nd rfl (by first | exact .inl rfl | exact .inr rfl) (r_op op_subI f_sub r_int (r_var (i := 5) rfl (by first | exact .inl rfl | exact .inr (.inl rfl) | exact .inr (.inr rfl))))) (s_one (s_if (r_cmpT (op_neD hr.units) f_ne (r_op op_mulI f_mul (r_var (i := 5) rfl (by first | exact .inl rfl | exact .inr (.inl rfl) | exact .inr (.inr rfl))) (r_sub hu (r_var (i := 4) rfl (by first | exact .inl rfl | exact .inr (.inl rfl) | exact .inr (.inr rfl))) r_int (fun _ _ => rfl))) (r_sub hu (r_var (i := 3) rfl (by first | exact .inl rfl | exact .inr (.inl rfl) | exact .inr (.inr rfl))) r_int (fun _ _ => rfl)) (nomark _)) (s_one (s_set (i := 5) nd rfl (by first | exact .inl rfl | exact .inr rfl) (r_op op_subI f_sub (r_var (i := 5) rfl (by first | exact .inl rfl | exact .inr (.inl rfl) | exact .inr (.inr rfl))) r_int))) s_nil))) s_nil) (s_one (s_ret (r_call T.c__law_number (ar__law_number _) hr (Nat.le_refl _) rfl (a_cons (r_var (i := 5) rfl (by first | exact .inl rfl | exact .inr (.inl rfl) | exact .inr (.inr rfl))) a_nil))))))))))))))))
theorem k__law_shaped (T : Tb P w K mg base n) {f : Addr} (cdv : Value) (A : Around) (outer : List PySem.Env) (s : Shared) (H : Hp) (E : XK) (hr : Room n (A.deeper (envOfC "_law_shaped" (C8.fnScope s__law_shaped) s.heap.objs.size f cdv))) :
    PSs (cxOf CX0 P w K mg base ["kind", "values", "a", "at"] "_law_shaped" (C8.fnScope s__law_shaped) f cdv A outer s H E).nox (C8.fnBody s__law_shaped) (tIS K (b__law_shaped (FF n))) :=
  have nd := sc__law_shaped.nd
  have hu := hu_of hr
  (s_cons (s_set (i := 2) nd rfl (by first | exact .inl rfl | exact .inr rfl) (r_sub hu (r_var (i := 1) rfl (by first | exact .inl rfl | exact .inr (.inl rfl) | exact .inr (.inr rfl))) r_int (fun _ _ => rfl))) (s_cons (s_if (r_cmpT (op_eqD hr.units) f_eq (r_var (i := 0) rfl (by first | exact .inl rfl | exact .inr (.inl rfl) | exact .inr (.inr rfl))) r_str (nomark _)) (s_one (s_ret (r_tup (a_cons r_str (a_cons (r_tup (a_cons r_str (a_cons (r_cmp (op_eqD hr.units) f_eq (r_var (i := 2) rfl (by first | exact .inl rfl | exact .inr (.inl rfl) | exact .inr (.inr rfl))) (r_tup (a_cons r_str (a_cons r_bl a_nil))) (nomark _)) a_nil))) a_nil))))) s_nil) (s_cons (s_if (r_cmpT (op_eqD hr.units) f_eq (r_var (i := 0) rfl (by first | exact .inl rfl | exact .inr (.inl rfl) | exact .inr (.inr rfl))) r_str (nomark _)) (s_one (s_ret (r_tup (a_cons r_str (a_cons (r_tup (a_cons r_str (a_cons (r_op op_subI f_sub r_int (r_sub hu (r_var (i := 2) rfl (by first | exact .inl rfl | exact .inr (.inl rfl) | exact .inr (.inr rfl))) r_int (fun _ _ => rfl))) a_nil))) a_nil))))) s_nil) (s_cons (s_if (r_cmpT (op_eqD hr.units) f_eq (r_var (i := 0) rfl (by first | exact .inl rfl | exact .inr (.inl rfl) | exact .inr (.inr rfl))) r_str (nomark _)) (s_cons (s_set (i := 3) nd rfl (by first | exact .inl rfl | exact .inr rfl) (r_sub hu (r_sub hu (r_var (i := 1) rfl (by first | exact .inl rfl | exact .inr (.inl rfl) | exact .inr (.inr rfl))) r_int (fun _ _ => rfl)) r_int (fun _ _ => rfl))) (s_cons (s_if (PW.pt (w_or (r_cmpT (op_ltA hr.units0) f_lt (r_var (i := 3) rfl (by first | exact .inl rfl | exact .inr (.inl rfl) | exact .inr (.inr rfl))) r_int (nomark _)) (w_or1 (r_cmpT op_ge f_ge (r_var (i := 3) rfl (by first | exact .inl rfl | exact .inr (.inl rfl) | exact .inr (.inr rfl))) (r_callB cr_len f_len rfl T.z_len (by decide +kernel) (a_cons (r_sub hu (r_var (i := 2) rfl (by first | exact .inl rfl | exact .inr (.inl rfl) | exact .inr (.inr rfl))) r_int (fun _ _ => rfl)) a_nil)) (nomark _))))) (s_one (s_ret (r_tup (a_cons r_str (a_cons r_int a_nil))))) s_nil) (s_one (s_ret (r_tup (a_cons r_str (a_cons (r_sub hu (r_sub hu (r_var (i := 2) rfl (by first | exact .inl rfl | exact .inr (.inl rfl) | exact .inr (.inr rfl))) r_int (fun _ _ => rfl)) (r_var (i := 3) rfl (by first | exact .inl rfl | exact .inr (.inl rfl) | exact .inr (.inr rfl))) (fun _ _ => rfl)) a_nil))))))) s_nil) (s_cons (s_if (r_cmpT (op_eqD hr.units) f_eq (r_var (i := 0) rfl (by first | exact .inl rfl | exact .inr (.inl rfl) | exact .inr (.inr rfl))) r_str (nomark _)) (s_one (s_ret (r_tup (a_cons r_str (a_cons (r_tup (a_cons r_str (a_cons (r_callB cr_len f_len rfl T.z_len (by decide +kernel) (a_cons (r_sub hu (r_var (i := 2) rfl (by first | exact .inl rfl | exact .inr (.inl rfl) | exact .inr (.inr rfl))) r_int (fun _ _ => rfl)) a_nil)) a_nil))) a_nil))))) s_nil) (s_cons (s_if (r_cmpT (op_eqD hr.units) f_eq (r_sub hu (r_var (i := 2) rfl (by first | exact .inl rfl | exact .inr (.inl rfl) | exact .inr (.inr rfl))) r_int (fun _ _ => rfl)) r_str (nomark _)) (s_one (s_ret (r_tup (a_cons r_str (a_cons (r_tup (a_cons r_str (a_cons (r_sub hu (r_lst (a_cons r_str (a_cons r_str a_nil))) (r_callTy call_int1 f_int1 rfl T.z_int (by decide +kernel) (a_cons (r_sub hu (r_var (i := 2) rfl (by first | exact .inl rfl | exact .inr (.inl rfl) | exact .inr (.inr rfl))) r_int (fun _ _ => rfl)) a_nil)) (fun _ _ => rfl)) a_nil))) a_nil))))) s_nil) (s_one (s_ret (r_tup (a_cons r_str (a_cons (r_tup (a_cons r_str (a_cons (r_callTy call_str_int f_str rfl T.z_str (by decide +kernel) (a_cons (r_sub hu (r_var (i := 2) rfl (by first | exact .inl rfl | exact .inr (.inl rfl) | exact .inr (.inr rfl))) r_int (fun _ _ => rfl)) a_nil)) a_nil))) a_nil)))))))))))
theorem k__law_int (T : Tb P w K mg base n) {f : Addr} (cdv : Value) (A : Around) (outer : List PySem.Env) (s : Shared) (H : Hp) (E : XK) (hr : Room n (A.deeper (envOfC "_law_int" (C8.fnScope s__law_int) s.heap.objs.size f cdv))) :
    PSs (cxOf CX0 P w K mg base ["state", "number"] "_law_int" (C8.fnScope s__law_int) f cdv A outer s H E).nox (C8.fnBody s__law_int) (tIS K (b__law_int (FF n))) :=
  have nd := sc__law_int.nd
  have hu := hu_of hr
  (s_cons (s_set (i := 1) nd rfl (by first | exact .inl rfl | exact .inr rfl) (r_sub hu (r_lst (a_cons r_int (a_cons r_int (a_cons r_int (a_cons r_int (a_cons r_int (a_cons r_int (a_cons r_int (a_cons r_int a_nil))))))))) (r_call T.c__law_take (ar__law_take _) hr (Nat.le_refl _) rfl (a_cons (r_var (i := 0) rfl (by first | exact .inl rfl | exact .inr (.inl rfl) | exact .inr (.inr rfl))) (a_cons r_int a_nil))) (fun _ _ => rfl))) (s_cons (s_if (r_cmpT (op_eqD hr.units) f_eq (r_call T.c__law_take (ar__law_take _) hr (Nat.le_refl _) rfl (a_cons (r_var (i := 0) rfl (by first | exact .inl rfl | exact .inr (.inl rfl) | exact .inr (.inr rfl))) (a_cons r_int a_nil))) r_int (nomark _)) (s_one (s_set (i := 1) nd rfl (by first | exact .inl rfl | exact .inr rfl) (r_op op_mulI f_mul (r_call T.c__law_take (ar__law_take _) hr (Nat.le_refl _) rfl (a_cons (r_var (i := 0) rfl (by first | exact .inl rfl | exact .inr (.inl rfl) | exact .inr (.inr rfl))) (a_cons r_int a_nil))) (r_call T.c__law_take (ar__law_take _) hr (Nat.le_refl _) rfl (a_cons (r_var (i := 0) rfl (by first | exact .inl rfl | exact .inr (.inl rfl) | exact .inr (.inr rfl))) (a_cons r_int a_nil)))))) s_nil) (s_one (s_ret (r_tup (a_cons r_str (a_cons (r_op op_mulI f_mul (r_var (i := 1) rfl (by first | exact .inl rfl | exact .inr (.inl rfl) | exact .inr (.inr rfl))) (r_sub hu (r_lst (a_cons r_int (a_cons (r_un un_neg f_neg r_int) a_nil))) (r_call T.c__law_take (ar__law_take _) hr (Nat.le_refl _) rfl (a_cons (r_var (i := 0) rfl (by first | exact .inl rfl | exact .inr (.inl rfl) | exact .inr (.inr rfl))) (a_cons r_int a_nil))) (fun _ _ => rfl))) a_nil)))))))
theorem k__law_text (T : Tb P w K mg base n) {f : Addr} (cdv : Value) (A : Around) (outer : List PySem.Env) (s : Shared) (H : Hp) (E : XK) (hr : Room n (A.deeper (envOfC "_law_text" (C8.fnScope s__law_text) s.heap.objs.size f cdv))) :
    PSs (cxOf CX0 P w K mg base ["state"] "_law_text" (C8.fnScope s__law_text) f cdv A outer s H E).nox (C8.fnBody s__law_text) (tIS K (b__law_text (FF n))) :=
  have nd := sc__law_text.nd
  have hu := hu_of hr
  (s_one (s_ret (r_tup (a_cons r_str (a_cons (r_sub hu (r_lst (a_cons r_str (a_cons r_str (a_cons r_str (a_cons (r_op op_mulI f_mul r_str r_int) (a_cons (r_op op_mulI f_mul r_str r_int) (a_cons (r_op op_mulI f_mul r_str r_int) (a_cons r_str (a_cons r_str a_nil))))))))) (r_call T.c__law_take (ar__law_take _) hr (Nat.le_refl _) rfl (a_cons (r_var (i := 0) rfl (by first | exact .inl rfl | exact .inr (.inl rfl) | exact .inr (.inr rfl))) (a_cons r_int a_nil))) (fun _ _ => rfl)) a_nil)))))
theorem k__law_list (T : Tb P w K mg base n) {f : Addr} (cdv : Value) (A : Around) (outer : List PySem.Env) (s : Shared) (H : Hp) (E : XK) (hr : Room n (A.deeper (envOfC "_law_list" (C8.fnScope s__law_list) s.heap.objs.size f cdv))) :
    PSs (cxOf CX0 P w K mg base ["state", "k"] "_law_list" (C8.fnScope s__law_list) f cdv A outer s H E).nox (C8.fnBody s__law_list) (tIS K (b__law_list (FF n))) :=
  have nd := sc__law_list.nd
  have hu := hu_of hr
  (s_one (s_ret (r_tup (a_cons r_str (a_cons (r_callTy call_tuple_of f_tuple rfl T.z_tuple (by decide +kernel) (a_cons (r_lc (own := [("k", 1)]) rfl nd (i_range1 rfl T.z_range (a_cons (r_sub hu (r_lst (a_cons r_int (a_cons r_int (a_cons r_int (a_cons r_int (a_cons r_int (a_cons r_int a_nil))))))) (r_call T.c__law_take (ar__law_take _) hr (Nat.le_refl _) rfl (a_cons (r_var (i := 0) rfl (by first | exact .inl rfl | exact .inr (.inl rfl) | exact .inr (.inr rfl))) (a_cons r_int a_nil))) (fun _ _ => rfl)) a_nil)) (by first | exact blkOk_by (N := ["state", "k"]) (sc := C8.fnScope s__law_list) (by decide +kernel) | exact blkOk_by rfl | exact blkOk_by (by with_unfolding_all rfl)) (by decide) (fun _ _ _ _ _ => (g_name (i := 1) nd rfl (by first | exact .inl rfl | exact .inr rfl))) (fun _ _ _ _ _ => t_yes) (fun _ _ _ _ _ => (r_call T.c__law_int (ar__law_int _) hr (Nat.le_refl _) rfl (a_cons (r_var (i := 0) rfl (by first | exact .inl rfl | exact .inr (.inl rfl) | exact .inr (.inr rfl))) a_nil)))) a_nil)) a_nil)))))
theorem k__law_bounds (T : Tb P w K mg base n) {f : Addr} (cdv : Value) (A : Around) (outer : List PySem.Env) (s : Shared) (H : Hp) (E : XK) (hr : Room n (A.deeper (envOfC "_law_bounds" (C8.fnScope s__law_bounds) s.heap.objs.size f cdv))) :
    PSs (cxOf CX0 P w K mg base ["state", "number", "good", "value", "many", "deep", "wrong"] "_law_bounds" (C8.fnScope s__law_bounds) f cdv A outer s H E).nox (C8.fnBody s__law_bounds) (tIS K (b__law_bounds (FF n))) :=
  have nd := sc__law_bounds.nd
  have hu := hu_of hr
  (s_cons (s_for PassesOwn.never rfl (i_walk (r_lst (a_cons (r_tup (a_cons r_int (a_cons r_bl a_nil))) (a_cons (r_tup (a_cons (r_un un_neg f_neg r_int) (a_cons r_bl a_nil))) (a_cons (r_tup (a_cons (r_un un_neg f_neg r_int) (a_cons r_bl a_nil))) a_nil))))) (g_tup rfl (gs_cons (g_name (i := 1) nd rfl (by first | exact .inl rfl | exact .inr rfl)) (gs_cons (g_name (i := 2) nd rfl (by first | exact .inl rfl | exact .inr rfl)) gs_nil))) (s_one (s_if (PW.pt (w_or (r_cmpT (op_neD hr.units) f_ne (r_callB cr_reprB f_repr rfl T.z_repr (by decide +kernel) (a_cons (r_call T.c_is_value (ar_is_value _) hr (Nat.le_refl _) rfl (a_cons (r_tup (a_cons r_str (a_cons (r_var (i := 1) rfl (by first | exact .inl rfl | exact .inr (.inl rfl) | exact .inr (.inr rfl))) a_nil))) a_nil)) a_nil)) (r_callB cr_reprB f_repr rfl T.z_repr (by decide +kernel) (a_cons (r_var (i := 2) rfl (by first | exact .inl rfl | exact .inr (.inl rfl) | exact .inr (.inr rfl))) a_nil)) (nomark _)) (w_or1 (r_cmpT (op_neD hr.units) f_ne (r_callB cr_reprB f_repr rfl T.z_repr (by decide +kernel) (a_cons (r_call T.c_is_of (ar_is_of _) hr (Nat.le_refl _) rfl (a_cons (r_tup (a_cons r_str (a_cons (r_var (i := 1) rfl (by first | exact .inl rfl | exact .inr (.inl rfl) | exact .inr (.inr rfl))) a_nil))) (a_cons r_str a_nil))) a_nil)) (r_callB cr_reprB f_repr rfl T.z_repr (by decide +kernel) (a_cons (r_var (i := 2) rfl (by first | exact .inl rfl | exact .inr (.inl rfl) | exact .inr (.inr rfl))) a_nil)) (nomark _))))) (s_one (s_ret r_bl)) s_nil))) (s_cons (s_for PassesOwn.never rfl (i_walk (r_lst (a_cons (r_tup (a_cons (r_tup (a_cons r_str (a_cons (r_op op_mulI f_mul r_str r_int) a_nil))) (a_cons r_bl a_nil))) (a_cons (r_tup (a_cons (r_tup (a_cons r_str (a_cons r_str a_nil))) (a_cons r_bl a_nil))) (a_cons (r_tup (a_cons (r_tup (a_cons r_str (a_cons (r_op op_mulI f_mul r_str r_int) a_nil))) (a_cons r_bl a_nil))) a_nil))))) (g_tup rfl (gs_cons (g_name (i := 3) nd rfl (by first | exact .inl rfl | exact .inr rfl)) (gs_cons (g_name (i := 2) nd rfl (by first | exact .inl rfl | exact .inr rfl)) gs_nil))) (s_one (s_if (PW.pt (w_or (r_cmpT (op_neD hr.units) f_ne (r_callB cr_reprB f_repr rfl T.z_repr (by decide +kernel) (a_cons (r_call T.c_is_value (ar_is_value _) hr (Nat.le_refl _) rfl (a_cons (r_var (i := 3) rfl (by first | exact .inl rfl | exact .inr (.inl rfl) | exact .inr (.inr rfl))) a_nil)) a_nil)) (r_callB cr_reprB f_repr rfl T.z_repr (by decide +kernel) (a_cons (r_var (i := 2) rfl (by first | exact .inl rfl | exact .inr (.inl rfl) | exact .inr (.inr rfl))) a_nil)) (nomark _)) (w_or1 (r_cmpT (op_neD hr.units) f_ne (r_callB cr_reprB f_repr rfl T.z_repr (by decide +kernel) (a_cons (r_call T.c_is_of (ar_is_of _) hr (Nat.le_refl _) rfl (a_cons (r_var (i := 3) rfl (by first | exact .inl rfl | exact .inr (.inl rfl) | exact .inr (.inr rfl))) (a_cons r_str a_nil))) a_nil)) (r_callB cr_reprB f_repr rfl T.z_repr (by decide +kernel) (a_cons (r_var (i := 2) rfl (by first | exact .inl rfl | exact .inr (.inl rfl) | exact .inr (.inr rfl))) a_nil)) (nomark _))))) (s_one (s_ret r_bl)) s_nil))) (s_cons (s_set (i := 4) nd rfl (by first | exact .inl rfl | exact .inr rfl) (r_tup (a_cons r_str (a_cons (r_op op_mulI f_mul (r_tup (a_cons (r_tup (a_cons r_str (a_cons r_int a_nil))) a_nil)) r_int) a_nil)))) (s_cons (s_set (i := 5) nd rfl (by first | exact .inl rfl | exact .inr rfl) (r_tup (a_cons r_str (a_cons (r_tup (a_cons (r_tup (a_cons r_str (a_cons (r_tup (a_cons (r_tup (a_cons r_str (a_cons r_bl a_nil))) a_nil)) a_nil))) (a_cons (r_tup (a_cons r_str (a_cons (r_tup a_nil) a_nil))) a_nil))) a_nil)))) (s_cons (s_if (PW.pt (w_or (r_cmpT op_isNotA f_isNot (r_call T.c_is_value (ar_is_value _) hr (Nat.le_refl _) rfl (a_cons (r_var (i := 4) rfl (by first | exact .inl rfl | exact .inr (.inl rfl) | exact .inr (.inr rfl))) a_nil)) r_bl (nomark _)) (w_or1 (r_cmpT op_isNotA f_isNot (r_call T.c_is_value (ar_is_value _) hr (Nat.le_refl _) rfl (a_cons (r_var (i := 5) rfl (by first | exact .inl rfl | exact .inr (.inl rfl) | exact .inr (.inr rfl))) a_nil)) r_bl (nomark _))))) (s_one (s_ret r_bl)) s_nil) (s_cons (s_if (r_cmpT op_isNotA f_isNot (r_call T.c_is_of (ar_is_of _) hr (Nat.le_refl _) rfl (a_cons (r_var (i := 5) rfl (by first | exact .inl rfl | exact .inr (.inl rfl) | exact .inr (.inr rfl))) (a_cons (r_tup (a_cons r_str (a_cons (r_tup (a_cons r_str (a_cons r_str a_nil))) a_nil))) a_nil))) r_bl (nomark _)) (s_one (s_ret r_bl)) s_nil) (s_cons (s_if (PW.pt (w_or (r_cmpT op_isNotA f_isNot (r_call T.c_is_of (ar_is_of _) hr (Nat.le_refl _) rfl (a_cons (r_var (i := 5) rfl (by first | exact .inl rfl | exact .inr (.inl rfl) | exact .inr (.inr rfl))) (a_cons (r_tup (a_cons r_str (a_cons (r_tup (a_cons r_str (a_cons r_str a_nil))) a_nil))) a_nil))) r_bl (nomark _)) (w_or1 (r_cmpT op_isNotA f_isNot (r_call T.c_is_of (ar_is_of _) hr (Nat.le_refl _) rfl (a_cons (r_tup (a_cons r_str (a_cons (r_tup a_nil) a_nil))) (a_cons (r_tup (a_cons r_str (a_cons r_str a_nil))) a_nil))) r_bl (nomark _))))) (s_one (s_ret r_bl)) s_nil) (s_cons (s_set (i := 6) nd rfl (by first | exact .inl rfl | exact .inr rfl) (r_tup (a_cons r_str (a_cons (r_tup (a_cons (r_tup (a_cons r_str (a_cons r_int a_nil))) (a_cons (r_tup (a_cons r_str (a_cons r_int a_nil))) a_nil))) a_nil)))) (s_cons (s_if (PW.pt (w_or (r_cmpT op_isNotA f_isNot (r_call T.c_is_value (ar_is_value _) hr (Nat.le_refl _) rfl (a_cons (r_var (i := 6) rfl (by first | exact .inl rfl | exact .inr (.inl rfl) | exact .inr (.inr rfl))) a_nil)) r_bl (nomark _)) (w_or1 (r_cmpT op_isNotA f_isNot (r_call T.c_is_of (ar_is_of _) hr (Nat.le_refl _) rfl (a_cons (r_tup (a_cons r_str a_nil)) (a_cons r_str a_nil))) r_bl (nomark _))))) (s_one (s_ret r_bl)) s_nil) (s_cons (s_if (r_cmpT op_isNotA f_isNot (r_call T.c_is_of (ar_is_of _) hr (Nat.le_refl _) rfl (a_cons (r_tup (a_cons r_str (a_cons r_bl a_nil))) (a_cons r_str a_nil))) r_bl (nomark _)) (s_one (s_ret r_bl)) s_nil) (s_one (s_ret (r_andV (r_cmp op_isA f_is (r_call T.c_is_of (ar_is_of _) hr (Nat.le_refl _) rfl (a_cons (r_tup (a_cons r_str (a_cons (r_tup a_nil) a_nil))) (a_cons r_str a_nil))) r_bl (nomark _)) (r_one (r_cmp op_isA f_is (r_call T.c_is_of (ar_is_of _) hr (Nat.le_refl _) rfl (a_cons (r_tup (a_cons r_str (a_cons r_int a_nil))) (a_cons (r_tup (a_cons r_str (a_cons r_str a_nil))) a_nil))) r_bl (nomark _))))))))))))))))
theorem k_law (T : Tb P w K mg base n) {f : Addr} (cdv : Value) (A : Around) (outer : List PySem.Env) (s : Shared) (H : Hp) (E : XK) (hr : Room n (A.deeper (envOfC "law" (C8.fnScope s_law) s.heap.objs.size f cdv))) :
    PSs (cxOf CX0 P w K mg base ["script", "state", "turn", "a", "b", "c", "d", "e", "f", "sign", "g", "h", "at"] "law" (C8.fnScope s_law) f cdv A outer s H E).nox (C8.fnBody s_law) (tIS K (b_law (FF n))) :=
  have nd := sc_law.nd
  have hu := hu_of hr
  (s_cons (s_set (i := 1) nd rfl (by first | exact .inl rfl | exact .inr rfl) (r_call T.c__law_state (ar__law_state _) hr (Nat.le_refl _) rfl (a_cons (r_var (i := 0) rfl (by first | exact .inl rfl | exact .inr (.inl rfl) | exact .inr (.inr rfl))) a_nil))) (s_cons (s_for PassesOwn.never rfl (i_range1 rfl T.z_range (a_cons r_int a_nil)) (g_name (i := 2) nd rfl (by first | exact .inl rfl | exact .inr rfl)) (s_cons (s_par (i := 3) (j := 4) rfl nd rfl rfl (by decide) rfl rfl (a_cons (r_call T.c__law_int (ar__law_int _) hr (Nat.le_refl _) rfl (a_cons (r_var (i := 1) rfl (by first | exact .inl rfl | exact .inr (.inl rfl) | exact .inr (.inr rfl))) a_nil)) (a_cons (r_call T.c__law_int (ar__law_int _) hr (Nat.le_refl _) rfl (a_cons (r_var (i := 1) rfl (by first | exact .inl rfl | exact .inr (.inl rfl) | exact .inr (.inr rfl))) a_nil)) a_nil)) (by rfl)) (s_cons (s_par (i := 5) (j := 6) rfl nd rfl rfl (by decide) rfl rfl (a_cons (r_call T.c__law_text (ar__law_text _) hr (Nat.le_refl _) rfl (a_cons (r_var (i := 1) rfl (by first | exact .inl rfl | exact .inr (.inl rfl) | exact .inr (.inr rfl))) a_nil)) (a_cons (r_call T.c__law_text (ar__law_text _) hr (Nat.le_refl _) rfl (a_cons (r_var (i := 1) rfl (by first | exact .inl rfl | exact .inr (.inl rfl) | exact .inr (.inr rfl))) a_nil)) a_nil)) (by rfl)) (s_cons (s_par (i := 7) (j := 8) rfl nd rfl rfl (by decide) rfl rfl (a_cons (r_call T.c__law_list (ar__law_list _) hr (Nat.le_refl _) rfl (a_cons (r_var (i := 1) rfl (by first | exact .inl rfl | exact .inr (.inl rfl) | exact .inr (.inr rfl))) a_nil)) (a_cons (r_call T.c__law_list (ar__law_list _) hr (Nat.le_refl _) rfl (a_cons (r_var (i := 1) rfl (by first | exact .inl rfl | exact .inr (.inl rfl) | exact .inr (.inr rfl))) a_nil)) a_nil)) (by rfl)) (s_cons (s_for PassesOwn.never rfl (i_walk (r_lst (a_cons r_str (a_cons r_str (a_cons r_str (a_cons r_str (a_cons r_str (a_cons r_str (a_cons r_str (a_cons r_str a_nil)))))))))) (g_name (i := 9) nd rfl (by first | exact .inl rfl | exact .inr rfl)) (s_one (s_if (PW.pt (w_or (r_cmpT (op_neD hr.units) f_ne (r_call T.c_operate (ar_operate _) hr (Nat.le_refl _) rfl (a_cons (r_var (i := 9) rfl (by first | exact .inl rfl | exact .inr (.inl rfl) | exact .inr (.inr rfl))) (a_cons (r_var (i := 3) rfl (by first | exact .inl rfl | exact .inr (.inl rfl) | exact .inr (.inr rfl))) (a_cons (r_var (i := 4) rfl (by first | exact .inl rfl | exact .inr (.inl rfl) | exact .inr (.inr rfl))) a_nil)))) (r_call T.c__law_operated (ar__law_operated _) hr (Nat.le_refl _) rfl (a_cons (r_var (i := 9) rfl (by first | exact .inl rfl | exact .inr (.inl rfl) | exact .inr (.inr rfl))) (a_cons (r_var (i := 3) rfl (by first | exact .inl rfl | exact .inr (.inl rfl) | exact .inr (.inr rfl))) (a_cons (r_var (i := 4) rfl (by first | exact .inl rfl | exact .inr (.inl rfl) | exact .inr (.inr rfl))) a_nil)))) (nomark _)) (w_or1 (r_cmpT (op_neD hr.units) f_ne (r_call T.c_operate (ar_operate _) hr (Nat.le_refl _) rfl (a_cons (r_var (i := 9) rfl (by first | exact .inl rfl | exact .inr (.inl rfl) | exact .inr (.inr rfl))) (a_cons (r_var (i := 3) rfl (by first | exact .inl rfl | exact .inr (.inl rfl) | exact .inr (.inr rfl))) (a_cons (r_var (i := 3) rfl (by first | exact .inl rfl | exact .inr (.inl rfl) | exact .inr (.inr rfl))) a_nil)))) (r_call T.c__law_operated (ar__law_operated _) hr (Nat.le_refl _) rfl (a_cons (r_var (i := 9) rfl (by first | exact .inl rfl | exact .inr (.inl rfl) | exact .inr (.inr rfl))) (a_cons (r_var (i := 3) rfl (by first | exact .inl rfl | exact .inr (.inl rfl) | exact .inr (.inr rfl))) (a_cons (r_var (i := 3) rfl (by first | exact .inl rfl | exact .inr (.inl rfl) | exact .inr (.inr rfl))) a_nil)))) (nomark _))))) (s_one (s_ret r_bl)) s_nil))) (s_cons (s_for PassesOwn.never rfl (i_walk (r_lst (a_cons r_str (a_cons r_str (a_cons r_str (a_cons r_str (a_cons r_str a_nil))))))) (g_name (i := 9) nd rfl (by first | exact .inl rfl | exact .inr rfl)) (s_one (s_if (r_cmpT (op_neD hr.units) f_ne (r_call T.c_operate (ar_operate _) hr (Nat.le_refl _) rfl (a_cons (r_var (i := 9) rfl (by first | exact .inl rfl | exact .inr (.inl rfl) | exact .inr (.inr rfl))) (a_cons (r_var (i := 5) rfl (by first | exact .inl rfl | exact .inr (.inl rfl) | exact .inr (.inr rfl))) (a_cons (r_var (i := 6) rfl (by first | exact .inl rfl | exact .inr (.inl rfl) | exact .inr (.inr rfl))) a_nil)))) (r_call T.c__law_operated (ar__law_operated _) hr (Nat.le_refl _) rfl (a_cons (r_var (i := 9) rfl (by first | exact .inl rfl | exact .inr (.inl rfl) | exact .inr (.inr rfl))) (a_cons (r_var (i := 5) rfl (by first | exact .inl rfl | exact .inr (.inl rfl) | exact .inr (.inr rfl))) (a_cons (r_var (i := 6) rfl (by first | exact .inl rfl | exact .inr (.inl rfl) | exact .inr (.inr rfl))) a_nil)))) (nomark _)) (s_one (s_ret r_bl)) s_nil))) (s_cons (s_for PassesOwn.never rfl (i_walk (r_lst (a_cons r_str (a_cons r_str (a_cons r_str a_nil))))) (g_name (i := 9) nd rfl (by first | exact .inl rfl | exact .inr rfl)) (s_one (s_if (r_cmpT (op_neD hr.units) f_ne (r_call T.c_operate (ar_operate _) hr (Nat.le_refl _) rfl (a_cons (r_var (i := 9) rfl (by first | exact .inl rfl | exact .inr (.inl rfl) | exact .inr (.inr rfl))) (a_cons (r_var (i := 7) rfl (by first | exact .inl rfl | exact .inr (.inl rfl) | exact .inr (.inr rfl))) (a_cons (r_var (i := 8) rfl (by first | exact .inl rfl | exact .inr (.inl rfl) | exact .inr (.inr rfl))) a_nil)))) (r_call T.c__law_operated (ar__law_operated _) hr (Nat.le_refl _) rfl (a_cons (r_var (i := 9) rfl (by first | exact .inl rfl | exact .inr (.inl rfl) | exact .inr (.inr rfl))) (a_cons (r_var (i := 7) rfl (by first | exact .inl rfl | exact .inr (.inl rfl) | exact .inr (.inr rfl))) (a_cons (r_var (i := 8) rfl (by first | exact .inl rfl | exact .inr (.inl rfl) | exact .inr (.inr rfl))) a_nil)))) (nomark _)) (s_one (s_ret r_bl)) s_nil))) (s_cons (s_par (i := 10) (j := 11) rfl nd rfl rfl (by decide) rfl rfl (a_cons (r_tup (a_cons r_str (a_cons (r_cmp (op_eqD hr.units) f_eq (r_call T.c__law_take (ar__law_take _) hr (Nat.le_refl _) rfl (a_cons (r_var (i := 1) rfl (by first | exact .inl rfl | exact .inr (.inl rfl) | exact .inr (.inr rfl))) (a_cons r_int a_nil))) r_int (nomark _)) a_nil))) (a_cons (r_tup (a_cons r_str (a_cons (r_cmp (op_eqD hr.units) f_eq (r_call T.c__law_take (ar__law_take _) hr (Nat.le_refl _) rfl (a_cons (r_var (i := 1) rfl (by first | exact .inl rfl | exact .inr (.inl rfl) | exact .inr (.inr rfl))) (a_cons r_int a_nil))) r_int (nomark _)) a_nil))) a_nil)) (by rfl)) (s_cons (s_if (r_cmpT (op_neD hr.units) f_ne (r_call T.c_operate (ar_operate _) hr (Nat.le_refl _) rfl (a_cons r_str (a_cons (r_var (i := 10) rfl (by first | exact .inl rfl | exact .inr (.inl rfl) | exact .inr (.inr rfl))) (a_cons (r_var (i := 11) rfl (by first | exact .inl rfl | exact .inr (.inl rfl) | exact .inr (.inr rfl))) a_nil)))) (r_tup (a_cons r_str (a_cons (r_tup (a_cons r_str (a_cons (r_cmp (op_eqD hr.units) f_eq (r_var (i := 10) rfl (by first | exact .inl rfl | exact .inr (.inl rfl) | exact .inr (.inr rfl))) (r_var (i := 11) rfl (by first | exact .inl rfl | exact .inr (.inl rfl) | exact .inr (.inr rfl))) (nomark _)) a_nil))) a_nil))) (nomark _)) (s_one (s_ret r_bl)) s_nil) (s_cons (s_if (r_cmpT (op_neD hr.units) f_ne (r_call T.c_operate (ar_operate _) hr (Nat.le_refl _) rfl (a_cons r_str (a_cons (r_tup (a_cons r_str a_nil)) (a_cons (r_tup (a_cons r_str a_nil)) a_nil)))) (r_tup (a_cons r_str (a_cons (r_tup (a_cons r_str (a_cons r_bl a_nil))) a_nil))) (nomark _)) (s_one (s_ret r_bl)) s_nil) (s_cons (s_set (i := 12) nd rfl (by first | exact .inl rfl | exact .inr rfl) (r_tup (a_cons r_str (a_cons (r_op op_subI f_sub (r_call T.c__law_take (ar__law_take _) hr (Nat.le_refl _) rfl (a_cons (r_var (i := 1) rfl (by first | exact .inl rfl | exact .inr (.inl rfl) | exact .inr (.inr rfl))) (a_cons r_int a_nil))) r_int) a_nil)))) (s_cons (s_if (PW.pt (w_or (r_cmpT (op_neD hr.units) f_ne (r_call T.c_item_of (ar_item_of _) hr (Nat.le_refl _) rfl (a_cons (r_var (i := 7) rfl (by first | exact .inl rfl | exact .inr (.inl rfl) | exact .inr (.inr rfl))) (a_cons (r_var (i := 12) rfl (by first | exact .inl rfl | exact .inr (.inl rfl) | exact .inr (.inr rfl))) a_nil))) (r_call T.c__law_shaped (ar__law_shaped _) hr (Nat.le_refl _) rfl (a_cons r_str (a_cons (r_lst (a_cons (r_var (i := 7) rfl (by first | exact .inl rfl | exact .inr (.inl rfl) | exact .inr (.inr rfl))) (a_cons (r_var (i := 12) rfl (by first | exact .inl rfl | exact .inr (.inl rfl) | exact .inr (.inr rfl))) a_nil))) a_nil))) (nomark _)) (w_or1 (r_cmpT (op_neD hr.units) f_ne (r_call T.c_item_of (ar_item_of _) hr (Nat.le_refl _) rfl (a_cons (r_var (i := 7) rfl (by first | exact .inl rfl | exact .inr (.inl rfl) | exact .inr (.inr rfl))) (a_cons (r_var (i := 3) rfl (by first | exact .inl rfl | exact .inr (.inl rfl) | exact .inr (.inr rfl))) a_nil))) (r_call T.c__law_shaped (ar__law_shaped _) hr (Nat.le_refl _) rfl (a_cons r_str (a_cons (r_lst (a_cons (r_var (i := 7) rfl (by first | exact .inl rfl | exact .inr (.inl rfl) | exact .inr (.inr rfl))) (a_cons (r_var (i := 3) rfl (by first | exact .inl rfl | exact .inr (.inl rfl) | exact .inr (.inr rfl))) a_nil))) a_nil))) (nomark _))))) (s_one (s_ret r_bl)) s_nil) (s_cons (s_if (PW.pt (w_or (r_cmpT (op_neD hr.units) f_ne (r_call T.c_inverted (ar_inverted _) hr (Nat.le_refl _) rfl (a_cons (r_var (i := 10) rfl (by first | exact .inl rfl | exact .inr (.inl rfl) | exact .inr (.inr rfl))) a_nil)) (r_call T.c__law_shaped (ar__law_shaped _) hr (Nat.le_refl _) rfl (a_cons r_str (a_cons (r_lst (a_cons (r_var (i := 10) rfl (by first | exact .inl rfl | exact .inr (.inl rfl) | exact .inr (.inr rfl))) a_nil)) a_nil))) (nomark _)) (w_or1 (r_cmpT (op_neD hr.units) f_ne (r_call T.c_negated (ar_negated _) hr (Nat.le_refl _) rfl (a_cons (r_var (i := 3) rfl (by first | exact .inl rfl | exact .inr (.inl rfl) | exact .inr (.inr rfl))) a_nil)) (r_call T.c__law_shaped (ar__law_shaped _) hr (Nat.le_refl _) rfl (a_cons r_str (a_cons (r_lst (a_cons (r_var (i := 3) rfl (by first | exact .inl rfl | exact .inr (.inl rfl) | exact .inr (.inr rfl))) a_nil)) a_nil))) (nomark _))))) (s_one (s_ret r_bl)) s_nil) (s_cons (s_if (PW.pt (w_or (r_cmpT (op_neD hr.units) f_ne (r_call T.c_text_of (ar_text_of _) hr (Nat.le_refl _) rfl (a_cons (r_var (i := 10) rfl (by first | exact .inl rfl | exact .inr (.inl rfl) | exact .inr (.inr rfl))) a_nil)) (r_call T.c__law_shaped (ar__law_shaped _) hr (Nat.le_refl _) rfl (a_cons r_str (a_cons (r_lst (a_cons (r_var (i := 10) rfl (by first | exact .inl rfl | exact .inr (.inl rfl) | exact .inr (.inr rfl))) a_nil)) a_nil))) (nomark _)) (w_or1 (r_cmpT (op_neD hr.units) f_ne (r_call T.c_text_of (ar_text_of _) hr (Nat.le_refl _) rfl (a_cons (r_var (i := 3) rfl (by first | exact .inl rfl | exact .inr (.inl rfl) | exact .inr (.inr rfl))) a_nil)) (r_call T.c__law_shaped (ar__law_shaped _) hr (Nat.le_refl _) rfl (a_cons r_str (a_cons (r_lst (a_cons (r_var (i := 3) rfl (by first | exact .inl rfl | exact .inr (.inl rfl) | exact .inr (.inr rfl))) a_nil)) a_nil))) (nomark _))))) (s_one (s_ret r_bl)) s_nil) (s_cons (s_if (PW.pt (w_or (r_cmpT (op_neD hr.units) f_ne (r_call T.c_size_of (ar_size_of _) hr (Nat.le_refl _) rfl (a_cons (r_var (i := 5) rfl (by first | exact .inl rfl | exact .inr (.inl rfl) | exact .inr (.inr rfl))) a_nil)) (r_call T.c__law_shaped (ar__law_shaped _) hr (Nat.le_refl _) rfl (a_cons r_str (a_cons (r_lst (a_cons (r_var (i := 5) rfl (by first | exact .inl rfl | exact .inr (.inl rfl) | exact .inr (.inr rfl))) a_nil)) a_nil))) (nomark _)) (w_or1 (r_cmpT (op_neD hr.units) f_ne (r_call T.c_size_of (ar_size_of _) hr (Nat.le_refl _) rfl (a_cons (r_var (i := 7) rfl (by first | exact .inl rfl | exact .inr (.inl rfl) | exact .inr (.inr rfl))) a_nil)) (r_call T.c__law_shaped (ar__law_shaped _) hr (Nat.le_refl _) rfl (a_cons r_str (a_cons (r_lst (a_cons (r_var (i := 7) rfl (by first | exact .inl rfl | exact .inr (.inl rfl) | exact .inr (.inr rfl))) a_nil)) a_nil))) (nomark _))))) (s_one (s_ret r_bl)) s_nil) (s_cons (s_if (PW.pt (w_or (r_cmpT (op_neD hr.units) f_ne (r_call T.c_list_of (ar_list_of _) hr (Nat.le_refl _) rfl (a_cons (r_callTy call_list_of f_list rfl T.z_list (by decide +kernel) (a_cons (r_sub hu (r_var (i := 7) rfl (by first | exact .inl rfl | exact .inr (.inl rfl) | exact .inr (.inr rfl))) r_int (fun _ _ => rfl)) a_nil)) a_nil)) (r_tup (a_cons r_str (a_cons (r_var (i := 7) rfl (by first | exact .inl rfl | exact .inr (.inl rfl) | exact .inr (.inr rfl))) a_nil))) (nomark _)) (w_or1 (r_cmpT (op_neD hr.units) f_ne (r_call T.c_list_of (ar_list_of _) hr (Nat.le_refl _) rfl (a_cons (r_op op_mulI f_mul (r_lst (a_cons (r_var (i := 3) rfl (by first | exact .inl rfl | exact .inr (.inl rfl) | exact .inr (.inr rfl))) a_nil)) r_int) a_nil)) (r_tup (a_cons r_str (a_cons r_int a_nil))) (nomark _))))) (s_one (s_ret r_bl)) s_nil) (s_one (s_if (PW.pt (w_or (r_not (r_truth (r_call T.c_is_of (ar_is_of _) hr (Nat.le_refl _) rfl (a_cons (r_var (i := 3) rfl (by first | exact .inl rfl | exact .inr (.inl rfl) | exact .inr (.inr rfl))) (a_cons r_str a_nil))) (by intro _; rfl))) (w_or (r_not (r_truth (r_call T.c_is_of (ar_is_of _) hr (Nat.le_refl _) rfl (a_cons (r_var (i := 5) rfl (by first | exact .inl rfl | exact .inr (.inl rfl) | exact .inr (.inr rfl))) (a_cons r_str a_nil))) (by intro _; rfl))) (w_or1 (r_not (r_truth (r_call T.c_is_of (ar_is_of _) hr (Nat.le_refl _) rfl (a_cons (r_var (i := 7) rfl (by first | exact .inl rfl | exact .inr (.inl rfl) | exact .inr (.inr rfl))) (a_cons (r_tup (a_cons r_str (a_cons r_str a_nil))) a_nil))) (by intro _; rfl))))))) (s_one (s_ret r_bl)) s_nil)))))))))))))))))) (s_one (s_ret (r_call T.c__law_bounds (ar__law_bounds _) hr (Nat.le_refl _) rfl (a_cons (r_var (i := 1) rfl (by first | exact .inl rfl | exact .inr (.inl rfl) | exact .inr (.inr rfl))) a_nil))))))
end
theorem def_mk {K : PySem.W.Frag} {h : Heap} {mg : Str → Option Value} {x : Str} {st : Stmt} {f : Addr} {oc kV dc pm cd ct : Value} {od an : Option Addr} {sl : Array (Option Value)} (X : K.In h) (G : h.Ns mainGlobals mg) (a : PySem.W.nsIn K mainGlobals x = some (some (.ref f)))
    (l : K.lookup f = some ⟨oc, od, .func (PySem.W.fnOf x x (C8.fnArgs st) (C8.fnBody st) (C8.fnScope st) .none kV dc pm an cd ct), sl⟩) (c : PySem.W.codeIn K cd x = true) (k : PySem.W.keepIn K (.ref f) = true) :
    C8.Def K mg x st f (PySem.W.fnOf x x (C8.fnArgs st) (C8.fnBody st) (C8.fnScope st) .none kV dc pm an cd ct) := ⟨⟨_, _, _, _, _, _, _, _, _, _, rfl, l, c⟩, PySem.W.mg_of X G a, k⟩
theorem cal_zero {P : Program} {w : World} {K : PySem.W.Frag} {mg : Str → Option Value} {base : Heap} {x : Str} {st : Stmt} {f : Addr} {fd : FuncData} {ps : List Str} (F : C8.Def K mg x st f fd) (b : Binds K fd ps []) : CalI P w K mg base 0 x ps.length (fun _ _ => none) :=
  ⟨f, fd, ps, [], ⟨fun vs H Q E h => h.1, fun A outer s H args us vs Q E hr e0 hb r h => by obtain ⟨_, _, _, _, _, _, _, _, q, _⟩ := h; cases q⟩, F.mgf, F.kp, b, .nil⟩
theorem t_is_type {P : Program} {w : World} {K : PySem.W.Frag} {mg : Str → Option Value} {base : Heap} {n : Nat} {f : Addr} {fd : FuncData} (F : C8.Def K mg "is_type" s_is_type f fd) (b : Binds K fd ["kind"] []) (T : Tb P w K mg base n) : CalI P w K mg base (n + 1) "is_type" 1 (FF (n + 1) 0) := cal_def F b sc_is_type (k_is_type T)
theorem t_is_letter {P : Program} {w : World} {K : PySem.W.Frag} {mg : Str → Option Value} {base : Heap} {n : Nat} {f : Addr} {fd : FuncData} (F : C8.Def K mg "is_letter" s_is_letter f fd) (b : Binds K fd ["letter"] []) (T : Tb P w K mg base n) : CalI P w K mg base (n + 1) "is_letter" 1 (FF (n + 1) 1) := cal_def F b sc_is_letter (k_is_letter T)
theorem t_list_depth {P : Program} {w : World} {K : PySem.W.Frag} {mg : Str → Option Value} {base : Heap} {n : Nat} {f : Addr} {fd : FuncData} (F : C8.Def K mg "list_depth" s_list_depth f fd) (b : Binds K fd ["value"] []) (T : Tb P w K mg base n) : CalI P w K mg base (n + 1) "list_depth" 1 (FF (n + 1) 2) := cal_def F b sc_list_depth (k_list_depth T)
theorem t__bounded_at {P : Program} {w : World} {K : PySem.W.Frag} {mg : Str → Option Value} {base : Heap} {n : Nat} {f : Addr} {fd : FuncData} (F : C8.Def K mg "_bounded_at" s__bounded_at f fd) (b : Binds K fd ["value", "depth"] []) (T : Tb P w K mg base n) : CalI P w K mg base (n + 1) "_bounded_at" 2 (FF (n + 1) 3) := cal_def F b sc__bounded_at (k__bounded_at T)
theorem t_is_bounded {P : Program} {w : World} {K : PySem.W.Frag} {mg : Str → Option Value} {base : Heap} {n : Nat} {f : Addr} {fd : FuncData} (F : C8.Def K mg "is_bounded" s_is_bounded f fd) (b : Binds K fd ["value"] []) (T : Tb P w K mg base n) : CalI P w K mg base (n + 1) "is_bounded" 1 (FF (n + 1) 4) := cal_def F b sc_is_bounded (k_is_bounded T)
theorem t_fits {P : Program} {w : World} {K : PySem.W.Frag} {mg : Str → Option Value} {base : Heap} {n : Nat} {f : Addr} {fd : FuncData} (F : C8.Def K mg "fits" s_fits f fd) (b : Binds K fd ["value", "kind"] []) (T : Tb P w K mg base n) : CalI P w K mg base (n + 1) "fits" 2 (FF (n + 1) 5) := cal_def F b sc_fits (k_fits T)
theorem t_known_type {P : Program} {w : World} {K : PySem.W.Frag} {mg : Str → Option Value} {base : Heap} {n : Nat} {f : Addr} {fd : FuncData} (F : C8.Def K mg "known_type" s_known_type f fd) (b : Binds K fd ["value"] []) (T : Tb P w K mg base n) : CalI P w K mg base (n + 1) "known_type" 1 (FF (n + 1) 6) := cal_def F b sc_known_type (k_known_type T)
theorem t_joined {P : Program} {w : World} {K : PySem.W.Frag} {mg : Str → Option Value} {base : Heap} {n : Nat} {f : Addr} {fd : FuncData} (F : C8.Def K mg "joined" s_joined f fd) (b : Binds K fd ["one", "other"] []) (T : Tb P w K mg base n) : CalI P w K mg base (n + 1) "joined" 2 (FF (n + 1) 7) := cal_def F b sc_joined (k_joined T)
theorem t__number {P : Program} {w : World} {K : PySem.W.Frag} {mg : Str → Option Value} {base : Heap} {n : Nat} {f : Addr} {fd : FuncData} (F : C8.Def K mg "_number" s__number f fd) (b : Binds K fd ["n"] []) (T : Tb P w K mg base n) : CalI P w K mg base (n + 1) "_number" 1 (FF (n + 1) 8) := cal_def F b sc__number (k__number T)
theorem t__letters {P : Program} {w : World} {K : PySem.W.Frag} {mg : Str → Option Value} {base : Heap} {n : Nat} {f : Addr} {fd : FuncData} (F : C8.Def K mg "_letters" s__letters f fd) (b : Binds K fd ["text"] []) (T : Tb P w K mg base n) : CalI P w K mg base (n + 1) "_letters" 1 (FF (n + 1) 9) := cal_def F b sc__letters (k__letters T)
theorem t__calculated {P : Program} {w : World} {K : PySem.W.Frag} {mg : Str → Option Value} {base : Heap} {n : Nat} {f : Addr} {fd : FuncData} (F : C8.Def K mg "_calculated" s__calculated f fd) (b : Binds K fd ["sign", "m", "n"] []) (T : Tb P w K mg base n) : CalI P w K mg base (n + 1) "_calculated" 3 (FF (n + 1) 10) := cal_def F b sc__calculated (k__calculated T)
theorem t__joined_up {P : Program} {w : World} {K : PySem.W.Frag} {mg : Str → Option Value} {base : Heap} {n : Nat} {f : Addr} {fd : FuncData} (F : C8.Def K mg "_joined_up" s__joined_up f fd) (b : Binds K fd ["a", "b"] []) (T : Tb P w K mg base n) : CalI P w K mg base (n + 1) "_joined_up" 2 (FF (n + 1) 11) := cal_def F b sc__joined_up (k__joined_up T)
theorem t__compared {P : Program} {w : World} {K : PySem.W.Frag} {mg : Str → Option Value} {base : Heap} {n : Nat} {f : Addr} {fd : FuncData} (F : C8.Def K mg "_compared" s__compared f fd) (b : Binds K fd ["sign", "a", "b"] []) (T : Tb P w K mg base n) : CalI P w K mg base (n + 1) "_compared" 3 (FF (n + 1) 12) := cal_def F b sc__compared (k__compared T)
theorem t_operate {P : Program} {w : World} {K : PySem.W.Frag} {mg : Str → Option Value} {base : Heap} {n : Nat} {f : Addr} {fd : FuncData} (F : C8.Def K mg "operate" s_operate f fd) (b : Binds K fd ["sign", "a", "b"] []) (T : Tb P w K mg base n) : CalI P w K mg base (n + 1) "operate" 3 (FF (n + 1) 13) := cal_def F b sc_operate (k_operate T)
theorem t_inverted {P : Program} {w : World} {K : PySem.W.Frag} {mg : Str → Option Value} {base : Heap} {n : Nat} {f : Addr} {fd : FuncData} (F : C8.Def K mg "inverted" s_inverted f fd) (b : Binds K fd ["a"] []) (T : Tb P w K mg base n) : CalI P w K mg base (n + 1) "inverted" 1 (FF (n + 1) 14) := cal_def F b sc_inverted (k_inverted T)
theorem t_negated {P : Program} {w : World} {K : PySem.W.Frag} {mg : Str → Option Value} {base : Heap} {n : Nat} {f : Addr} {fd : FuncData} (F : C8.Def K mg "negated" s_negated f fd) (b : Binds K fd ["a"] []) (T : Tb P w K mg base n) : CalI P w K mg base (n + 1) "negated" 1 (FF (n + 1) 15) := cal_def F b sc_negated (k_negated T)
theorem t_item_of {P : Program} {w : World} {K : PySem.W.Frag} {mg : Str → Option Value} {base : Heap} {n : Nat} {f : Addr} {fd : FuncData} (F : C8.Def K mg "item_of" s_item_of f fd) (b : Binds K fd ["a", "index"] []) (T : Tb P w K mg base n) : CalI P w K mg base (n + 1) "item_of" 2 (FF (n + 1) 16) := cal_def F b sc_item_of (k_item_of T)
theorem t_size_of {P : Program} {w : World} {K : PySem.W.Frag} {mg : Str → Option Value} {base : Heap} {n : Nat} {f : Addr} {fd : FuncData} (F : C8.Def K mg "size_of" s_size_of f fd) (b : Binds K fd ["a"] []) (T : Tb P w K mg base n) : CalI P w K mg base (n + 1) "size_of" 1 (FF (n + 1) 17) := cal_def F b sc_size_of (k_size_of T)
theorem t_text_of {P : Program} {w : World} {K : PySem.W.Frag} {mg : Str → Option Value} {base : Heap} {n : Nat} {f : Addr} {fd : FuncData} (F : C8.Def K mg "text_of" s_text_of f fd) (b : Binds K fd ["a"] []) (T : Tb P w K mg base n) : CalI P w K mg base (n + 1) "text_of" 1 (FF (n + 1) 18) := cal_def F b sc_text_of (k_text_of T)
theorem t_list_of {P : Program} {w : World} {K : PySem.W.Frag} {mg : Str → Option Value} {base : Heap} {n : Nat} {f : Addr} {fd : FuncData} (F : C8.Def K mg "list_of" s_list_of f fd) (b : Binds K fd ["items"] []) (T : Tb P w K mg base n) : CalI P w K mg base (n + 1) "list_of" 1 (FF (n + 1) 19) := cal_def F b sc_list_of (k_list_of T)
theorem t_is_value {P : Program} {w : World} {K : PySem.W.Frag} {mg : Str → Option Value} {base : Heap} {n : Nat} {f : Addr} {fd : FuncData} (F : C8.Def K mg "is_value" s_is_value f fd) (b : Binds K fd ["value"] []) (T : Tb P w K mg base n) : CalI P w K mg base (n + 1) "is_value" 1 (FF (n + 1) 20) := cal_def F b sc_is_value (k_is_value T)
theorem t_is_of {P : Program} {w : World} {K : PySem.W.Frag} {mg : Str → Option Value} {base : Heap} {n : Nat} {f : Addr} {fd : FuncData} (F : C8.Def K mg "is_of" s_is_of f fd) (b : Binds K fd ["value", "sort"] []) (T : Tb P w K mg base n) : CalI P w K mg base (n + 1) "is_of" 2 (FF (n + 1) 21) := cal_def F b sc_is_of (k_is_of T)
theorem t__law_state {P : Program} {w : World} {K : PySem.W.Frag} {mg : Str → Option Value} {base : Heap} {n : Nat} {f : Addr} {fd : FuncData} (F : C8.Def K mg "_law_state" s__law_state f fd) (b : Binds K fd ["script"] []) (T : Tb P w K mg base n) : CalI P w K mg base (n + 1) "_law_state" 1 (FF (n + 1) 22) := cal_def F b sc__law_state (k__law_state T)
theorem t__law_take {P : Program} {w : World} {K : PySem.W.Frag} {mg : Str → Option Value} {base : Heap} {n : Nat} {f : Addr} {fd : FuncData} (F : C8.Def K mg "_law_take" s__law_take f fd) (b : Binds K fd ["state", "most"] []) (T : Tb P w K mg base n) : CalI P w K mg base (n + 1) "_law_take" 2 (FF (n + 1) 23) := cal_def F b sc__law_take (k__law_take T)
theorem t__law_number {P : Program} {w : World} {K : PySem.W.Frag} {mg : Str → Option Value} {base : Heap} {n : Nat} {f : Addr} {fd : FuncData} (F : C8.Def K mg "_law_number" s__law_number f fd) (b : Binds K fd ["n"] []) (T : Tb P w K mg base n) : CalI P w K mg base (n + 1) "_law_number" 1 (FF (n + 1) 24) := cal_def F b sc__law_number (k__law_number T)
theorem t__law_operated {P : Program} {w : World} {K : PySem.W.Frag} {mg : Str → Option Value} {base : Heap} {n : Nat} {f : Addr} {fd : FuncData} (F : C8.Def K mg "_law_operated" s__law_operated f fd) (b : Binds K fd ["sign", "a", "b"] []) (T : Tb P w K mg base n) : CalI P w K mg base (n + 1) "_law_operated" 3 (FF (n + 1) 25) := cal_def F b sc__law_operated (k__law_operated T)
theorem t__law_shaped {P : Program} {w : World} {K : PySem.W.Frag} {mg : Str → Option Value} {base : Heap} {n : Nat} {f : Addr} {fd : FuncData} (F : C8.Def K mg "_law_shaped" s__law_shaped f fd) (b : Binds K fd ["kind", "values"] []) (T : Tb P w K mg base n) : CalI P w K mg base (n + 1) "_law_shaped" 2 (FF (n + 1) 26) := cal_def F b sc__law_shaped (k__law_shaped T)
theorem t__law_int {P : Program} {w : World} {K : PySem.W.Frag} {mg : Str → Option Value} {base : Heap} {n : Nat} {f : Addr} {fd : FuncData} (F : C8.Def K mg "_law_int" s__law_int f fd) (b : Binds K fd ["state"] []) (T : Tb P w K mg base n) : CalI P w K mg base (n + 1) "_law_int" 1 (FF (n + 1) 27) := cal_def F b sc__law_int (k__law_int T)
theorem t__law_text {P : Program} {w : World} {K : PySem.W.Frag} {mg : Str → Option Value} {base : Heap} {n : Nat} {f : Addr} {fd : FuncData} (F : C8.Def K mg "_law_text" s__law_text f fd) (b : Binds K fd ["state"] []) (T : Tb P w K mg base n) : CalI P w K mg base (n + 1) "_law_text" 1 (FF (n + 1) 28) := cal_def F b sc__law_text (k__law_text T)
theorem t__law_list {P : Program} {w : World} {K : PySem.W.Frag} {mg : Str → Option Value} {base : Heap} {n : Nat} {f : Addr} {fd : FuncData} (F : C8.Def K mg "_law_list" s__law_list f fd) (b : Binds K fd ["state"] []) (T : Tb P w K mg base n) : CalI P w K mg base (n + 1) "_law_list" 1 (FF (n + 1) 29) := cal_def F b sc__law_list (k__law_list T)
theorem t__law_bounds {P : Program} {w : World} {K : PySem.W.Frag} {mg : Str → Option Value} {base : Heap} {n : Nat} {f : Addr} {fd : FuncData} (F : C8.Def K mg "_law_bounds" s__law_bounds f fd) (b : Binds K fd ["state"] []) (T : Tb P w K mg base n) : CalI P w K mg base (n + 1) "_law_bounds" 1 (FF (n + 1) 30) := cal_def F b sc__law_bounds (k__law_bounds T)
theorem t_law {P : Program} {w : World} {K : PySem.W.Frag} {mg : Str → Option Value} {base : Heap} {n : Nat} {f : Addr} {fd : FuncData} (F : C8.Def K mg "law" s_law f fd) (b : Binds K fd ["script"] []) (T : Tb P w K mg base n) : CalI P w K mg base (n + 1) "law" 1 (FF (n + 1) 31) := cal_def F b sc_law (k_law T)
set_option maxHeartbeats 0 in
theorem all_tb {P : Program} {w : World} {K : PySem.W.Frag} {h : Heap} {mg : Str → Option Value} {base : Heap} (X : K.In h) (G : h.Ns mainGlobals mg)
    {f0 f1 f2 f3 f4 f5 f6 f7 f8 f9 f10 f11 f12 f13 f14 f15 f16 f17 f18 f19 f20 f21 f22 f23 f24 f25 f26 f27 f28 f29 f30 f31 : Addr} {od0 an0 od1 an1 od2 an2 od3 an3 od4 an4 od5 an5 od6 an6 od7 an7 od8 an8 od9 an9 od10 an10 od11 an11 od12 an12 od13 an13 od14 an14 od15 an15 od16 an16 od17 an17 od18 an18 od19 an19 od20 an20 od21 an21 od22 an22 od23 an23 od24 an24 od25 an25 od26 an26 od27 an27 od28 an28 od29 an29 od30 an30 od31 an31 : Option Addr} {sl0 sl1 sl2 sl3 sl4 sl5 sl6 sl7 sl8 sl9 sl10 sl11 sl12 sl13 sl14 sl15 sl16 sl17 sl18 sl19 sl20 sl21 sl22 sl23 sl24 sl25 sl26 sl27 sl28 sl29 sl30 sl31 : Array (Option Value)} {oc0 kV0 dc0 pm0 cd0 ct0 oc1 kV1 dc1 pm1 cd1 ct1 oc2 kV2 dc2 pm2 cd2 ct2 oc3 kV3 dc3 pm3 cd3 ct3 oc4 kV4 dc4 pm4 cd4 ct4 oc5 kV5 dc5 pm5 cd5 ct5 oc6 kV6 dc6 pm6 cd6 ct6 oc7 kV7 dc7 pm7 cd7 ct7 oc8 kV8 dc8 pm8 cd8 ct8 oc9 kV9 dc9 pm9 cd9 ct9 oc10 kV10 dc10 pm10 cd10 ct10 oc11 kV11 dc11 pm11 cd11 ct11 oc12 kV12 dc12 pm12 cd12 ct12 oc13 kV13 dc13 pm13 cd13 ct13 oc14 kV14 dc14 pm14 cd14 ct14 oc15 kV15 dc15 pm15 cd15 ct15 oc16 kV16 dc16 pm16 cd16 ct16 oc17 kV17 dc17 pm17 cd17 ct17 oc18 kV18 dc18 pm18 cd18 ct18 oc19 kV19 dc19 pm19 cd19 ct19 oc20 kV20 dc20 pm20 cd20 ct20 oc21 kV21 dc21 pm21 cd21 ct21 oc22 kV22 dc22 pm22 cd22 ct22 oc23 kV23 dc23 pm23 cd23 ct23 oc24 kV24 dc24 pm24 cd24 ct24 oc25 kV25 dc25 pm25 cd25 ct25 oc26 kV26 dc26 pm26 cd26 ct26 oc27 kV27 dc27 pm27 cd27 ct27 oc28 kV28 dc28 pm28 cd28 ct28 oc29 kV29 dc29 pm29 cd29 ct29 oc30 kV30 dc30 pm30 cd30 ct30 oc31 kV31 dc31 pm31 cd31 ct31 : Value}
    (a0 : PySem.W.nsIn K mainGlobals "is_type" = some (some (.ref f0))) (l0 : K.lookup f0 = some ⟨oc0, od0, .func (PySem.W.fnOf "is_type" "is_type" (C8.fnArgs s_is_type) (C8.fnBody s_is_type) (C8.fnScope s_is_type) .none kV0 dc0 pm0 an0 cd0 ct0), sl0⟩) (c0 : PySem.W.codeIn K cd0 "is_type" = true) (k0 : PySem.W.keepIn K (.ref f0) = true)
    (a1 : PySem.W.nsIn K mainGlobals "is_letter" = some (some (.ref f1))) (l1 : K.lookup f1 = some ⟨oc1, od1, .func (PySem.W.fnOf "is_letter" "is_letter" (C8.fnArgs s_is_letter) (C8.fnBody s_is_letter) (C8.fnScope s_is_letter) .none kV1 dc1 pm1 an1 cd1 ct1), sl1⟩) (c1 : PySem.W.codeIn K cd1 "is_letter" = true) (k1 : PySem.W.keepIn K (.ref f1) = true)
    (a2 : PySem.W.nsIn K mainGlobals "list_depth" = some (some (.ref f2))) (l2 : K.lookup f2 = some ⟨oc2, od2, .func (PySem.W.fnOf "list_depth" "list_depth" (C8.fnArgs s_list_depth) (C8.fnBody s_list_depth) (C8.fnScope s_list_depth) .none kV2 dc2 pm2 an2 cd2 ct2), sl2⟩) (c2 : PySem.W.codeIn K cd2 "list_depth" = true) (k2 : PySem.W.keepIn K (.ref f2) = true)
    (a3 : PySem.W.nsIn K mainGlobals "_bounded_at" = some (some (.ref f3))) (l3 : K.lookup f3 = some ⟨oc3, od3, .func (PySem.W.fnOf "_bounded_at" "_bounded_at" (C8.fnArgs s__bounded_at) (C8.fnBody s__bounded_at) (C8.fnScope s__bounded_at) .none kV3 dc3 pm3 an3 cd3 ct3), sl3⟩) (c3 : PySem.W.codeIn K cd3 "_bounded_at" = true) (k3 : PySem.W.keepIn K (.ref f3) = true)
    (a4 : PySem.W.nsIn K mainGlobals "is_bounded" = some (some (.ref f4))) (l4 : K.lookup f4 = some ⟨oc4, od4, .func (PySem.W.fnOf "is_bounded" "is_bounded" (C8.fnArgs s_is_bounded) (C8.fnBody s_is_bounded) (C8.fnScope s_is_bounded) .none kV4 dc4 pm4 an4 cd4 ct4), sl4⟩) (c4 : PySem.W.codeIn K cd4 "is_bounded" = true) (k4 : PySem.W.keepIn K (.ref f4) = true)
    (a5 : PySem.W.nsIn K mainGlobals "fits" = some (some (.ref f5))) (l5 : K.lookup f5 = some ⟨oc5, od5, .func (PySem.W.fnOf "fits" "fits" (C8.fnArgs s_fits) (C8.fnBody s_fits) (C8.fnScope s_fits) .none kV5 dc5 pm5 an5 cd5 ct5), sl5⟩) (c5 : PySem.W.codeIn K cd5 "fits" = true) (k5 : PySem.W.keepIn K (.ref f5) = true)
    (a6 : PySem.W.nsIn K mainGlobals "known_type" = some (some (.ref f6))) (l6 : K.lookup f6 = some ⟨oc6, od6, .func (PySem.W.fnOf "known_type" "known_type" (C8.fnArgs s_known_type) (C8.fnBody s_known_type) (C8.fnScope s_known_type) .none kV6 dc6 pm6 an6 cd6 ct6), sl6⟩) (c6 : PySem.W.codeIn K cd6 "known_type" = true) (k6 : PySem.W.keepIn K (.ref f6) = true)
    (a7 : PySem.W.nsIn K mainGlobals "joined" = some (some (.ref f7))) (l7 : K.lookup f7 = some ⟨oc7, od7, .func (PySem.W.fnOf "joined" "joined" (C8.fnArgs s_joined) (C8.fnBody s_joined) (C8.fnScope s_joined) .none kV7 dc7 pm7 an7 cd7 ct7), sl7⟩) (c7 : PySem.W.codeIn K cd7 "joined" = true) (k7 : PySem.W.keepIn K (.ref f7) = true)
    (a8 : PySem.W.nsIn K mainGlobals "_number" = some (some (.ref f8))) (l8 : K.lookup f8 = some ⟨oc8, od8, .func (PySem.W.fnOf "_number" "_number" (C8.fnArgs s__number) (C8.fnBody s__number) (C8.fnScope s__number) .none kV8 dc8 pm8 an8 cd8 ct8), sl8⟩) (c8 : PySem.W.codeIn K cd8 "_number" = true) (k8 : PySem.W.keepIn K (.ref f8) = true)
    (a9 : PySem.W.nsIn K mainGlobals "_letters" = some (some (.ref f9))) (l9 : K.lookup f9 = some ⟨oc9, od9, .func (PySem.W.fnOf "_letters" "_letters" (C8.fnArgs s__letters) (C8.fnBody s__letters) (C8.fnScope s__letters) .none kV9 dc9 pm9 an9 cd9 ct9), sl9⟩) (c9 : PySem.W.codeIn K cd9 "_letters" = true) (k9 : PySem.W.keepIn K (.ref f9) = true)
    (a10 : PySem.W.nsIn K mainGlobals "_calculated" = some (some (.ref f10))) (l10 : K.lookup f10 = some ⟨oc10, od10, .func (PySem.W.fnOf "_calculated" "_calculated" (C8.fnArgs s__calculated) (C8.fnBody s__calculated) (C8.fnScope s__calculated) .none kV10 dc10 pm10 an10 cd10 ct10), sl10⟩) (c10 : PySem.W.codeIn K cd10 "_calculated" = true) (k10 : PySem.W.keepIn K (.ref f10) = true)
    (a11 : PySem.W.nsIn K mainGlobals "_joined_up" = some (some (.ref f11))) (l11 : K.lookup f11 = some ⟨oc11, od11, .func (PySem.W.fnOf "_joined_up" "_joined_up" (C8.fnArgs s__joined_up) (C8.fnBody s__joined_up) (C8.fnScope s__joined_up) .none kV11 dc11 pm11 an11 cd11 ct11), sl11⟩) (c11 : PySem.W.codeIn K cd11 "_joined_up" = true) (k11 : PySem.W.keepIn K (.ref f11) = true)
    (a12 : PySem.W.nsIn K mainGlobals "_compared" = some (some (.ref f12))) (l12 : K.lookup f12 = some ⟨oc12, od12, .func (PySem.W.fnOf "_compared" "_compared" (C8.fnArgs s__compared) (C8.fnBody s__compared) (C8.fnScope s__compared) .none kV12 dc12 pm12 an12 cd12 ct12), sl12⟩) (c12 : PySem.W.codeIn K cd12 "_compared" = true) (k12 : PySem.W.keepIn K (.ref f12) = true)
    (a13 : PySem.W.nsIn K mainGlobals "operate" = some (some (.ref f13))) (l13 : K.lookup f13 = some ⟨oc13, od13, .func (PySem.W.fnOf "operate" "operate" (C8.fnArgs s_operate) (C8.fnBody s_operate) (C8.fnScope s_operate) .none kV13 dc13 pm13 an13 cd13 ct13), sl13⟩) (c13 : PySem.W.codeIn K cd13 "operate" = true) (k13 : PySem.W.keepIn K (.ref f13) = true)
    (a14 : PySem.W.nsIn K mainGlobals "inverted" = some (some (.ref f14))) (l14 : K.lookup f14 = some ⟨oc14, od14, .func (PySem.W.fnOf "inverted" "inverted" (C8.fnArgs s_inverted) (C8.fnBody s_inverted) (C8.fnScope s_inverted) .none kV14 dc14 pm14 an14 cd14 ct14), sl14⟩) (c14 : PySem.W.codeIn K cd14 "inverted" = true) (k14 : PySem.W.keepIn K (.ref f14) = true)
    (a15 : PySem.W.nsIn K mainGlobals "negated" = some (some (.ref f15))) (l15 : K.lookup f15 = some ⟨oc15, od15, .func (PySem.W.fnOf "negated" "negated" (C8.fnArgs s_negated) (C8.fnBody s_negated) (C8.fnScope s_negated) .none kV15 dc15 pm15 an15 cd15 ct15), sl15⟩) (c15 : PySem.W.codeIn K cd15 "negated" = true) (k15 : PySem.W.keepIn K (.ref f15) = true)
    (a16 : PySem.W.nsIn K mainGlobals "item_of" = some (some (.ref f16))) (l16 : K.lookup f16 = some ⟨oc16, od16, .func (PySem.W.fnOf "item_of" "item_of" (C8.fnArgs s_item_of) (C8.fnBody s_item_of) (C8.fnScope s_item_of) .none kV16 dc16 pm16 an16 cd16 ct16), sl16⟩) (c16 : PySem.W.codeIn K cd16 "item_of" = true) (k16 : PySem.W.keepIn K (.ref f16) = true)
    (a17 : PySem.W.nsIn K mainGlobals "size_of" = some (some (.ref f17))) (l17 : K.lookup f17 = some ⟨oc17, od17, .func (PySem.W.fnOf "size_of" "size_of" (C8.fnArgs s_size_of) (C8.fnBody s_size_of) (C8.fnScope s_size_of) .none kV17 dc17 pm17 an17 cd17 ct17), sl17⟩) (c17 : PySem.W.codeIn K cd17 "size_of" = true) (k17 : PySem.W.keepIn K (.ref f17) = true)
    (a18 : PySem.W.nsIn K mainGlobals "text_of" = some (some (.ref f18))) (l18 : K.lookup f18 = some ⟨oc18, od18, .func (PySem.W.fnOf "text_of" "text_of" (C8.fnArgs s_text_of) (C8.fnBody s_text_of) (C8.fnScope s_text_of) .none kV18 dc18 pm18 an18 cd18 ct18), sl18⟩) (c18 : PySem.W.codeIn K cd18 "text_of" = true) (k18 : PySem.W.keepIn K (.ref f18) = true)
    (a19 : PySem.W.nsIn K mainGlobals "list_of" = some (some (.ref f19))) (l19 : K.lookup f19 = some ⟨oc19, od19, .func (PySem.W.fnOf "list_of" "list_of" (C8.fnArgs s_list_of) (C8.fnBody s_list_of) (C8.fnScope s_list_of) .none kV19 dc19 pm19 an19 cd19 ct19), sl19⟩) (c19 : PySem.W.codeIn K cd19 "list_of" = true) (k19 : PySem.W.keepIn K (.ref f19) = true)
    (a20 : PySem.W.nsIn K mainGlobals "is_value" = some (some (.ref f20))) (l20 : K.lookup f20 = some ⟨oc20, od20, .func (PySem.W.fnOf "is_value" "is_value" (C8.fnArgs s_is_value) (C8.fnBody s_is_value) (C8.fnScope s_is_value) .none kV20 dc20 pm20 an20 cd20 ct20), sl20⟩) (c20 : PySem.W.codeIn K cd20 "is_value" = true) (k20 : PySem.W.keepIn K (.ref f20) = true)
    (a21 : PySem.W.nsIn K mainGlobals "is_of" = some (some (.ref f21))) (l21 : K.lookup f21 = some ⟨oc21, od21, .func (PySem.W.fnOf "is_of" "is_of" (C8.fnArgs s_is_of) (C8.fnBody s_is_of) (C8.fnScope s_is_of) .none kV21 dc21 pm21 an21 cd21 ct21), sl21⟩) (c21 : PySem.W.codeIn K cd21 "is_of" = true) (k21 : PySem.W.keepIn K (.ref f21) = true)
    (a22 : PySem.W.nsIn K mainGlobals "_law_state" = some (some (.ref f22))) (l22 : K.lookup f22 = some ⟨oc22, od22, .func (PySem.W.fnOf "_law_state" "_law_state" (C8.fnArgs s__law_state) (C8.fnBody s__law_state) (C8.fnScope s__law_state) .none kV22 dc22 pm22 an22 cd22 ct22), sl22⟩) (c22 : PySem.W.codeIn K cd22 "_law_state" = true) (k22 : PySem.W.keepIn K (.ref f22) = true)
    (a23 : PySem.W.nsIn K mainGlobals "_law_take" = some (some (.ref f23))) (l23 : K.lookup f23 = some ⟨oc23, od23, .func (PySem.W.fnOf "_law_take" "_law_take" (C8.fnArgs s__law_take) (C8.fnBody s__law_take) (C8.fnScope s__law_take) .none kV23 dc23 pm23 an23 cd23 ct23), sl23⟩) (c23 : PySem.W.codeIn K cd23 "_law_take" = true) (k23 : PySem.W.keepIn K (.ref f23) = true)
    (a24 : PySem.W.nsIn K mainGlobals "_law_number" = some (some (.ref f24))) (l24 : K.lookup f24 = some ⟨oc24, od24, .func (PySem.W.fnOf "_law_number" "_law_number" (C8.fnArgs s__law_number) (C8.fnBody s__law_number) (C8.fnScope s__law_number) .none kV24 dc24 pm24 an24 cd24 ct24), sl24⟩) (c24 : PySem.W.codeIn K cd24 "_law_number" = true) (k24 : PySem.W.keepIn K (.ref f24) = true)
    (a25 : PySem.W.nsIn K mainGlobals "_law_operated" = some (some (.ref f25))) (l25 : K.lookup f25 = some ⟨oc25, od25, .func (PySem.W.fnOf "_law_operated" "_law_operated" (C8.fnArgs s__law_operated) (C8.fnBody s__law_operated) (C8.fnScope s__law_operated) .none kV25 dc25 pm25 an25 cd25 ct25), sl25⟩) (c25 : PySem.W.codeIn K cd25 "_law_operated" = true) (k25 : PySem.W.keepIn K (.ref f25) = true)
    (a26 : PySem.W.nsIn K mainGlobals "_law_shaped" = some (some (.ref f26))) (l26 : K.lookup f26 = some ⟨oc26, od26, .func (PySem.W.fnOf "_law_shaped" "_law_shaped" (C8.fnArgs s__law_shaped) (C8.fnBody s__law_shaped) (C8.fnScope s__law_shaped) .none kV26 dc26 pm26 an26 cd26 ct26), sl26⟩) (c26 : PySem.W.codeIn K cd26 "_law_shaped" = true) (k26 : PySem.W.keepIn K (.ref f26) = true)
    (a27 : PySem.W.nsIn K mainGlobals "_law_int" = some (some (.ref f27))) (l27 : K.lookup f27 = some ⟨oc27, od27, .func (PySem.W.fnOf "_law_int" "_law_int" (C8.fnArgs s__law_int) (C8.fnBody s__law_int) (C8.fnScope s__law_int) .none kV27 dc27 pm27 an27 cd27 ct27), sl27⟩) (c27 : PySem.W.codeIn K cd27 "_law_int" = true) (k27 : PySem.W.keepIn K (.ref f27) = true)
    (a28 : PySem.W.nsIn K mainGlobals "_law_text" = some (some (.ref f28))) (l28 : K.lookup f28 = some ⟨oc28, od28, .func (PySem.W.fnOf "_law_text" "_law_text" (C8.fnArgs s__law_text) (C8.fnBody s__law_text) (C8.fnScope s__law_text) .none kV28 dc28 pm28 an28 cd28 ct28), sl28⟩) (c28 : PySem.W.codeIn K cd28 "_law_text" = true) (k28 : PySem.W.keepIn K (.ref f28) = true)
    (a29 : PySem.W.nsIn K mainGlobals "_law_list" = some (some (.ref f29))) (l29 : K.lookup f29 = some ⟨oc29, od29, .func (PySem.W.fnOf "_law_list" "_law_list" (C8.fnArgs s__law_list) (C8.fnBody s__law_list) (C8.fnScope s__law_list) .none kV29 dc29 pm29 an29 cd29 ct29), sl29⟩) (c29 : PySem.W.codeIn K cd29 "_law_list" = true) (k29 : PySem.W.keepIn K (.ref f29) = true)
    (a30 : PySem.W.nsIn K mainGlobals "_law_bounds" = some (some (.ref f30))) (l30 : K.lookup f30 = some ⟨oc30, od30, .func (PySem.W.fnOf "_law_bounds" "_law_bounds" (C8.fnArgs s__law_bounds) (C8.fnBody s__law_bounds) (C8.fnScope s__law_bounds) .none kV30 dc30 pm30 an30 cd30 ct30), sl30⟩) (c30 : PySem.W.codeIn K cd30 "_law_bounds" = true) (k30 : PySem.W.keepIn K (.ref f30) = true)
    (a31 : PySem.W.nsIn K mainGlobals "law" = some (some (.ref f31))) (l31 : K.lookup f31 = some ⟨oc31, od31, .func (PySem.W.fnOf "law" "law" (C8.fnArgs s_law) (C8.fnBody s_law) (C8.fnScope s_law) .none kV31 dc31 pm31 an31 cd31 ct31), sl31⟩) (c31 : PySem.W.codeIn K cd31 "law" = true) (k31 : PySem.W.keepIn K (.ref f31) = true)
    (z_abs : PySem.W.nsIn K mainGlobals "abs" = some none) (z_all : PySem.W.nsIn K mainGlobals "all" = some none) (z_int : PySem.W.nsIn K mainGlobals "int" = some none) (z_isinstance : PySem.W.nsIn K mainGlobals "isinstance" = some none) (z_len : PySem.W.nsIn K mainGlobals "len" = some none) (z_list : PySem.W.nsIn K mainGlobals "list" = some none) (z_max : PySem.W.nsIn K mainGlobals "max" = some none) (z_range : PySem.W.nsIn K mainGlobals "range" = some none) (z_repr : PySem.W.nsIn K mainGlobals "repr" = some none) (z_str : PySem.W.nsIn K mainGlobals "str" = some none) (z_tuple : PySem.W.nsIn K mainGlobals "tuple" = some none) (g_NO_QUOTIENT : GC K mg "NO_QUOTIENT" c_NO_QUOTIENT) (g_TOO_GREAT : GC K mg "TOO_GREAT" c_TOO_GREAT) (g_NO_ITEM : GC K mg "NO_ITEM" c_NO_ITEM) (g_SIMPLE_KINDS : GC K mg "SIMPLE_KINDS" c_SIMPLE_KINDS) (g_MOST_NUMBER : GC K mg "MOST_NUMBER" c_MOST_NUMBER) (g_MOST_LETTERS : GC K mg "MOST_LETTERS" c_MOST_LETTERS) (g_MOST_ITEMS : GC K mg "MOST_ITEMS" c_MOST_ITEMS) (g_MOST_DEPTH : GC K mg "MOST_DEPTH" c_MOST_DEPTH) :
    ∀ n, Tb P w K mg base n ∧ FnOk P w K mg base CX0 (n + 1) f31 (PySem.W.fnOf "law" "law" (C8.fnArgs s_law) (C8.fnBody s_law) (C8.fnScope s_law) .none kV31 dc31 pm31 an31 cd31 ct31) ["script"] (spI K 1 (FF (n + 1) 31)) := by
  have D0 := def_mk (st := s_is_type) X G a0 l0 c0 k0
  have B0 := D0.fn.binds rfl (ps := ["kind"]) fun _ _ _ _ _ _ us hl => match us, hl with | [_], _ => rfl
  have D1 := def_mk (st := s_is_letter) X G a1 l1 c1 k1
  have B1 := D1.fn.binds rfl (ps := ["letter"]) fun _ _ _ _ _ _ us hl => match us, hl with | [_], _ => rfl
  have D2 := def_mk (st := s_list_depth) X G a2 l2 c2 k2
  have B2 := D2.fn.binds rfl (ps := ["value"]) fun _ _ _ _ _ _ us hl => match us, hl with | [_], _ => rfl
  have D3 := def_mk (st := s__bounded_at) X G a3 l3 c3 k3
  have B3 := D3.fn.binds rfl (ps := ["value", "depth"]) fun _ _ _ _ _ _ us hl => match us, hl with | [_, _], _ => rfl
  have D4 := def_mk (st := s_is_bounded) X G a4 l4 c4 k4
  have B4 := D4.fn.binds rfl (ps := ["value"]) fun _ _ _ _ _ _ us hl => match us, hl with | [_], _ => rfl
  have D5 := def_mk (st := s_fits) X G a5 l5 c5 k5
  have B5 := D5.fn.binds rfl (ps := ["value", "kind"]) fun _ _ _ _ _ _ us hl => match us, hl with | [_, _], _ => rfl
  have D6 := def_mk (st := s_known_type) X G a6 l6 c6 k6
  have B6 := D6.fn.binds rfl (ps := ["value"]) fun _ _ _ _ _ _ us hl => match us, hl with | [_], _ => rfl
  have D7 := def_mk (st := s_joined) X G a7 l7 c7 k7
  have B7 := D7.fn.binds rfl (ps := ["one", "other"]) fun _ _ _ _ _ _ us hl => match us, hl with | [_, _], _ => rfl
  have D8 := def_mk (st := s__number) X G a8 l8 c8 k8
  have B8 := D8.fn.binds rfl (ps := ["n"]) fun _ _ _ _ _ _ us hl => match us, hl with | [_], _ => rfl
  have D9 := def_mk (st := s__letters) X G a9 l9 c9 k9
  have B9 := D9.fn.binds rfl (ps := ["text"]) fun _ _ _ _ _ _ us hl => match us, hl with | [_], _ => rfl
  have D10 := def_mk (st := s__calculated) X G a10 l10 c10 k10
  have B10 := D10.fn.binds rfl (ps := ["sign", "m", "n"]) fun _ _ _ _ _ _ us hl => match us, hl with | [_, _, _], _ => rfl
  have D11 := def_mk (st := s__joined_up) X G a11 l11 c11 k11
  have B11 := D11.fn.binds rfl (ps := ["a", "b"]) fun _ _ _ _ _ _ us hl => match us, hl with | [_, _], _ => rfl
  have D12 := def_mk (st := s__compared) X G a12 l12 c12 k12
  have B12 := D12.fn.binds rfl (ps := ["sign", "a", "b"]) fun _ _ _ _ _ _ us hl => match us, hl with | [_, _, _], _ => rfl
  have D13 := def_mk (st := s_operate) X G a13 l13 c13 k13
  have B13 := D13.fn.binds rfl (ps := ["sign", "a", "b"]) fun _ _ _ _ _ _ us hl => match us, hl with | [_, _, _], _ => rfl
  have D14 := def_mk (st := s_inverted) X G a14 l14 c14 k14
  have B14 := D14.fn.binds rfl (ps := ["a"]) fun _ _ _ _ _ _ us hl => match us, hl with | [_], _ => rfl
  have D15 := def_mk (st := s_negated) X G a15 l15 c15 k15
  have B15 := D15.fn.binds rfl (ps := ["a"]) fun _ _ _ _ _ _ us hl => match us, hl with | [_], _ => rfl
  have D16 := def_mk (st := s_item_of) X G a16 l16 c16 k16
  have B16 := D16.fn.binds rfl (ps := ["a", "index"]) fun _ _ _ _ _ _ us hl => match us, hl with | [_, _], _ => rfl
  have D17 := def_mk (st := s_size_of) X G a17 l17 c17 k17
  have B17 := D17.fn.binds rfl (ps := ["a"]) fun _ _ _ _ _ _ us hl => match us, hl with | [_], _ => rfl
  have D18 := def_mk (st := s_text_of) X G a18 l18 c18 k18
  have B18 := D18.fn.binds rfl (ps := ["a"]) fun _ _ _ _ _ _ us hl => match us, hl with | [_], _ => rfl
  have D19 := def_mk (st := s_list_of) X G a19 l19 c19 k19
  have B19 := D19.fn.binds rfl (ps := ["items"]) fun _ _ _ _ _ _ us hl => match us, hl with | [_], _ => rfl
  have D20 := def_mk (st := s_is_value) X G a20 l20 c20 k20
  have B20 := D20.fn.binds rfl (ps := ["value"]) fun _ _ _ _ _ _ us hl => match us, hl with | [_], _ => rfl
  have D21 := def_mk (st := s_is_of) X G a21 l21 c21 k21
  have B21 := D21.fn.binds rfl (ps := ["value", "sort"]) fun _ _ _ _ _ _ us hl => match us, hl with | [_, _], _ => rfl
  have D22 := def_mk (st := s__law_state) X G a22 l22 c22 k22
  have B22 := D22.fn.binds rfl (ps := ["script"]) fun _ _ _ _ _ _ us hl => match us, hl with | [_], _ => rfl
  have D23 := def_mk (st := s__law_take) X G a23 l23 c23 k23
  have B23 := D23.fn.binds rfl (ps := ["state", "most"]) fun _ _ _ _ _ _ us hl => match us, hl with | [_, _], _ => rfl
  have D24 := def_mk (st := s__law_number) X G a24 l24 c24 k24
  have B24 := D24.fn.binds rfl (ps := ["n"]) fun _ _ _ _ _ _ us hl => match us, hl with | [_], _ => rfl
  have D25 := def_mk (st := s__law_operated) X G a25 l25 c25 k25
  have B25 := D25.fn.binds rfl (ps := ["sign", "a", "b"]) fun _ _ _ _ _ _ us hl => match us, hl with | [_, _, _], _ => rfl
  have D26 := def_mk (st := s__law_shaped) X G a26 l26 c26 k26
  have B26 := D26.fn.binds rfl (ps := ["kind", "values"]) fun _ _ _ _ _ _ us hl => match us, hl with | [_, _], _ => rfl
  have D27 := def_mk (st := s__law_int) X G a27 l27 c27 k27
  have B27 := D27.fn.binds rfl (ps := ["state"]) fun _ _ _ _ _ _ us hl => match us, hl with | [_], _ => rfl
  have D28 := def_mk (st := s__law_text) X G a28 l28 c28 k28
  have B28 := D28.fn.binds rfl (ps := ["state"]) fun _ _ _ _ _ _ us hl => match us, hl with | [_], _ => rfl
  have D29 := def_mk (st := s__law_list) X G a29 l29 c29 k29
  have B29 := D29.fn.binds rfl (ps := ["state"]) fun _ _ _ _ _ _ us hl => match us, hl with | [_], _ => rfl
  have D30 := def_mk (st := s__law_bounds) X G a30 l30 c30 k30
  have B30 := D30.fn.binds rfl (ps := ["state"]) fun _ _ _ _ _ _ us hl => match us, hl with | [_], _ => rfl
  have D31 := def_mk (st := s_law) X G a31 l31 c31 k31
  have B31 := D31.fn.binds rfl (ps := ["script"]) fun _ _ _ _ _ _ us hl => match us, hl with | [_], _ => rfl
  have Z_abs := PySem.W.mg_none_of X G z_abs
  have Z_all := PySem.W.mg_none_of X G z_all
  have Z_int := PySem.W.mg_none_of X G z_int
  have Z_isinstance := PySem.W.mg_none_of X G z_isinstance
  have Z_len := PySem.W.mg_none_of X G z_len
  have Z_list := PySem.W.mg_none_of X G z_list
  have Z_max := PySem.W.mg_none_of X G z_max
  have Z_range := PySem.W.mg_none_of X G z_range
  have Z_repr := PySem.W.mg_none_of X G z_repr
  have Z_str := PySem.W.mg_none_of X G z_str
  have Z_tuple := PySem.W.mg_none_of X G z_tuple
  have all : ∀ n, Tb P w K mg base n := by
    intro n
    induction n with
    | zero => exact ⟨Z_abs, Z_all, Z_int, Z_isinstance, Z_len, Z_list, Z_max, Z_range, Z_repr, Z_str, Z_tuple, g_NO_QUOTIENT, g_TOO_GREAT, g_NO_ITEM, g_SIMPLE_KINDS, g_MOST_NUMBER, g_MOST_LETTERS, g_MOST_ITEMS, g_MOST_DEPTH, cal_zero D0 B0, cal_zero D1 B1, cal_zero D2 B2, cal_zero D3 B3, cal_zero D4 B4, cal_zero D5 B5, cal_zero D6 B6, cal_zero D7 B7, cal_zero D8 B8, cal_zero D9 B9, cal_zero D10 B10, cal_zero D11 B11, cal_zero D12 B12, cal_zero D13 B13, cal_zero D14 B14, cal_zero D15 B15, cal_zero D16 B16, cal_zero D17 B17, cal_zero D18 B18, cal_zero D19 B19, cal_zero D20 B20, cal_zero D21 B21, cal_zero D22 B22, cal_zero D23 B23, cal_zero D24 B24, cal_zero D25 B25, cal_zero D26 B26, cal_zero D27 B27, cal_zero D28 B28, cal_zero D29 B29, cal_zero D30 B30, cal_zero D31 B31⟩
    | succ n T => exact ⟨Z_abs, Z_all, Z_int, Z_isinstance, Z_len, Z_list, Z_max, Z_range, Z_repr, Z_str, Z_tuple, g_NO_QUOTIENT, g_TOO_GREAT, g_NO_ITEM, g_SIMPLE_KINDS, g_MOST_NUMBER, g_MOST_LETTERS, g_MOST_ITEMS, g_MOST_DEPTH, t_is_type D0 B0 T, t_is_letter D1 B1 T, t_list_depth D2 B2 T, t__bounded_at D3 B3 T, t_is_bounded D4 B4 T, t_fits D5 B5 T, t_known_type D6 B6 T, t_joined D7 B7 T, t__number D8 B8 T, t__letters D9 B9 T, t__calculated D10 B10 T, t__joined_up D11 B11 T, t__compared D12 B12 T, t_operate D13 B13 T, t_inverted D14 B14 T, t_negated D15 B15 T, t_item_of D16 B16 T, t_size_of D17 B17 T, t_text_of D18 B18 T, t_list_of D19 B19 T, t_is_value D20 B20 T, t_is_of D21 B21 T, t__law_state D22 B22 T, t__law_take D23 B23 T, t__law_number D24 B24 T, t__law_operated D25 B25 T, t__law_shaped D26 B26 T, t__law_int D27 B27 T, t__law_text D28 B28 T, t__law_list D29 B29 T, t__law_bounds D30 B30 T, t_law D31 B31 T⟩
  exact fun n => ⟨all n, C8.fn0 D31.fn sc_law (fun vs H Q E h => h.1) (hb_of (ps := ["script"]) (k_law (all n)))⟩
end M30

namespace M30
open PySem PySem.Spec PyProof.Rows L2 IL

abbrev vI (n : Int) : PV := .tup [.str S_int, .int n]
abbrev vT (s : Str) : PV := .tup [.str S_text, .str s]
abbrev vB (b : Bool) : PV := .tup [.str S_bool, .bl b]
abbrev vL (xs : List PV) : PV := .tup [.str S_list, .tup xs]
abbrev vN : PV := .tup [.str S_nothing]
abbrev ok (v : PV) : PV := .tup [.str S_ok, v]
abbrev fl (n : Int) : PV := .tup [.str S_failed, .int n]
/-- the integer of an operation, or the failure -/
def num (z : Int) : PV := if -1000000000000 ≤ z ∧ z ≤ 1000000000000 then ok (vI z) else fl 2
def quo (a b : Int) : PV := if b = 0 then fl 1 else num (a.fdiv b)
def InB (z : Int) : Prop := -1000000000000 ≤ z ∧ z ≤ 1000000000000

section
variable {n : Nat} {st : Sto}
theorem e_number (z : Int) : FF (n + 1) 8 [.int z] st = some (num z, st) := by
  show iDef 1 1 (b__number (FF n)) _ _ = _
  by_cases h1 : -1000000000000 ≤ z <;> by_cases h2 : z ≤ 1000000000000 <;> simp [iDef, b__number, num, h1, h2]
theorem e_lnumber (z : Int) : FF (n + 1) 24 [.int z] st = some (num z, st) := by
  show iDef 1 1 (b__law_number (FF n)) _ _ = _
  have e1 : (1000000000000 < z) ↔ ¬ z ≤ 1000000000000 := by omega
  have e2 : (z < -1000000000000) ↔ ¬ -1000000000000 ≤ z := by omega
  by_cases h1 : -1000000000000 ≤ z <;> by_cases h2 : z ≤ 1000000000000 <;> simp [iDef, b__law_number, num, h1, h2, e1, e2]
theorem cMul_l {a b : Int} (h : InB a) : cMul a b = true := by
  unfold InB at h
  unfold cMul
  simp only [Bool.or_eq_true, Bool.and_eq_true, decide_eq_true_eq]
  omega
theorem cDiv_b {a b : Int} (h : InB b) (h0 : b ≠ 0) : cDiv a b = true := by
  unfold InB at h
  unfold cDiv
  have h1 : b.natAbs < 2 ^ 64 := by omega
  simp [h0]
  omega
theorem e_calc_add (a b : Int) : FF (n + 2) 10 [.str S_x2b, .int a, .int b] st = some (num (a + b), st) := by
  show iDef 3 3 (b__calculated (FF (n + 1))) _ _ = _
  simp [iDef, b__calculated, e_number]
theorem e_calc_sub (a b : Int) : FF (n + 2) 10 [.str S_x2d, .int a, .int b] st = some (num (a - b), st) := by
  show iDef 3 3 (b__calculated (FF (n + 1))) _ _ = _
  simp [iDef, b__calculated, e_number]
theorem e_calc_mul (a b : Int) (h : InB a) : FF (n + 2) 10 [.str S_x2a, .int a, .int b] st = some (num (a * b), st) := by
  show iDef 3 3 (b__calculated (FF (n + 1))) _ _ = _
  simp [iDef, b__calculated, e_number, cMul_l h]
theorem e_calc_div (a b : Int) (h : InB b) : FF (n + 2) 10 [.str S_x2f, .int a, .int b] st = some (quo a b, st) := by
  show iDef 3 3 (b__calculated (FF (n + 1))) _ _ = _
  by_cases h0 : b = 0
  · simp [iDef, b__calculated, quo, h0]
  · have hb : (b == 0) = false := by simpa using h0
    simp [iDef, b__calculated, e_number, cDiv_b h h0, quo, h0, hb]
/-! ### operate of ints -/
theorem gd_vI (a : Int) : gd (vI a) 60 = true := by simp [gd, gds]
theorem eq_vI (a b : Int) : eqP st (vI a) (vI b) = some (a == b) := by
  rw [eqP_gd (gd_vI a) (gd_vI b)]
  simp [datP, datPs, PyData.eqv, PyData.eqvAll]
theorem o_add (a b : Int) : FF (n + 3) 13 [.str S_x2b, vI a, vI b] st = some (num (a + b), st) := by
  show iDef 3 3 (b_operate (FF (n + 2))) _ _ = _
  simp [iDef, b_operate, e_calc_add]
theorem o_sub (a b : Int) : FF (n + 3) 13 [.str S_x2d, vI a, vI b] st = some (num (a - b), st) := by
  show iDef 3 3 (b_operate (FF (n + 2))) _ _ = _
  simp [iDef, b_operate, e_calc_sub]
theorem o_mul (a b : Int) (h : InB a) : FF (n + 3) 13 [.str S_x2a, vI a, vI b] st = some (num (a * b), st) := by
  show iDef 3 3 (b_operate (FF (n + 2))) _ _ = _
  simp [iDef, b_operate, e_calc_mul, h]
theorem o_div (a b : Int) (h : InB b) : FF (n + 3) 13 [.str S_x2f, vI a, vI b] st = some (quo a b, st) := by
  show iDef 3 3 (b_operate (FF (n + 2))) _ _ = _
  simp [iDef, b_operate, e_calc_div, h]
/-! ### operate of two values that are compared -/
theorem o_eq {x y : PV} {b : Bool} (h : ∀ st, eqP st x y = some b) {xs ys : List PV} (hx : x = .tup xs) (hy : y = .tup ys) : FF (n + 2) 13 [.str S_x3d, x, y] st = some (ok (vB b), st) := by
  show iDef 3 3 (b_operate (FF (n + 1))) _ _ = _
  have e : FF (n + 1) 12 [.str S_x3d, x, y] st = some (.bl b, st) := by
    show iDef 3 3 (b__compared (FF n)) _ _ = _
    simp [iDef, b__compared, h]
  simp [iDef, b_operate, e]
theorem o_ne {x y : PV} {b : Bool} (h : ∀ st, eqP st x y = some b) {xs ys : List PV} (hx : x = .tup xs) (hy : y = .tup ys) : FF (n + 2) 13 [.str S_x21x3d, x, y] st = some (ok (vB (!b)), st) := by
  show iDef 3 3 (b_operate (FF (n + 1))) _ _ = _
  have e : FF (n + 1) 12 [.str S_x21x3d, x, y] st = some (.bl (!b), st) := by
    show iDef 3 3 (b__compared (FF n)) _ _ = _
    simp [iDef, b__compared, h]
  simp [iDef, b_operate, e]
theorem o_lt {t x y : PV} {b : Bool} (h : ∀ st, fLt x y st = some (.bl b, st)) : FF (n + 2) 13 [.str S_x3c, .tup [t, x], .tup [t, y]] st = some (ok (vB b), st) := by
  show iDef 3 3 (b_operate (FF (n + 1))) _ _ = _
  have e : FF (n + 1) 12 [.str S_x3c, .tup [t, x], .tup [t, y]] st = some (.bl b, st) := by
    show iDef 3 3 (b__compared (FF n)) _ _ = _
    simp [iDef, b__compared, h]
  simp [iDef, b_operate, e]
theorem o_le {t x y : PV} {b : Bool} (h : ∀ st, fLe x y st = some (.bl b, st)) : FF (n + 2) 13 [.str S_x3cx3d, .tup [t, x], .tup [t, y]] st = some (ok (vB b), st) := by
  show iDef 3 3 (b_operate (FF (n + 1))) _ _ = _
  have e : FF (n + 1) 12 [.str S_x3cx3d, .tup [t, x], .tup [t, y]] st = some (.bl b, st) := by
    show iDef 3 3 (b__compared (FF n)) _ _ = _
    simp [iDef, b__compared, h]
  simp [iDef, b_operate, e]
/-! ### the law's own -/
theorem cut1 {x y : PV} : cutP [x, y] (some 1) none = [y] := rfl
theorem l_eq {x y : PV} {b : Bool} (h : ∀ st, eqP st x y = some b) {xs ys : List PV} (hx : x = .tup xs) (hy : y = .tup ys) : FF (n + 1) 25 [.str S_x3d, x, y] st = some (ok (vB b), st) := by
  show iDef 3 6 (b__law_operated (FF n)) _ _ = _
  subst hx hy
  simp [iDef, b__law_operated, h]
theorem l_ne {x y : PV} {b : Bool} (h : ∀ st, eqP st x y = some b) {xs ys : List PV} (hx : x = .tup xs) (hy : y = .tup ys) : FF (n + 1) 25 [.str S_x21x3d, x, y] st = some (ok (vB (!b)), st) := by
  show iDef 3 6 (b__law_operated (FF n)) _ _ = _
  subst hx hy
  simp [iDef, b__law_operated, h]
theorem l_lt {t x y : PV} {b : Bool} (h : ∀ st, fLt (.tup [x]) (.tup [y]) st = some (.bl b, st)) : FF (n + 1) 25 [.str S_x3c, .tup [t, x], .tup [t, y]] st = some (ok (vB b), st) := by
  show iDef 3 6 (b__law_operated (FF n)) _ _ = _
  simp [iDef, b__law_operated, h, cut1]
theorem l_le {t x y : PV} {b : Bool} (h : ∀ st, fLe (.tup [x]) (.tup [y]) st = some (.bl b, st)) : FF (n + 1) 25 [.str S_x3cx3d, .tup [t, x], .tup [t, y]] st = some (ok (vB b), st) := by
  show iDef 3 6 (b__law_operated (FF n)) _ _ = _
  simp [iDef, b__law_operated, h, cut1]
theorem l_add (a b : Int) : FF (n + 2) 25 [.str S_x2b, vI a, vI b] st = some (num (a + b), st) := by
  show iDef 3 6 (b__law_operated (FF (n + 1))) _ _ = _
  simp [iDef, b__law_operated, cut1, e_lnumber]
theorem l_sub (a b : Int) : FF (n + 2) 25 [.str S_x2d, vI a, vI b] st = some (num (a - b), st) := by
  show iDef 3 6 (b__law_operated (FF (n + 1))) _ _ = _
  simp [iDef, b__law_operated, cut1, e_lnumber]
theorem l_mul (a b : Int) (h : InB a) : FF (n + 2) 25 [.str S_x2a, vI a, vI b] st = some (num (a * b), st) := by
  show iDef 3 6 (b__law_operated (FF (n + 1))) _ _ = _
  simp [iDef, b__law_operated, cut1, e_lnumber, cMul_l h]
theorem neg_div (x y : Int) (hx : 0 ≤ x) (hy : 0 < y) : (-x) / y = if (x / y) * y = x then -(x / y) else -(x / y) - 1 := by
  have h1 := Int.mul_ediv_add_emod x y
  have h2 := Int.emod_nonneg x (show y ≠ 0 by omega)
  have h3 := Int.emod_lt_of_pos x hy
  have hc : (x / y) * y = y * (x / y) := Int.mul_comm _ _
  split
  · rename_i h
    refine ((Int.ediv_emod_unique (r := 0) hy).mpr ⟨?_, by omega, hy⟩).1
    rw [Int.mul_neg]
    omega
  · rename_i h
    have e : y * (-(x / y) - 1) = -(y * (x / y)) - y := by rw [Int.mul_sub, Int.mul_neg, Int.mul_one]
    refine ((Int.ediv_emod_unique (r := y - x % y) hy).mpr ⟨?_, by omega, by omega⟩).1
    rw [e]
    omega
theorem l_div (a b : Int) (ha : InB a) (h : InB b) : FF (n + 2) 25 [.str S_x2f, vI a, vI b] st = some (quo a b, st) := by
  show iDef 3 6 (b__law_operated (FF (n + 1))) _ _ = _
  by_cases h0 : b = 0
  · simp [iDef, b__law_operated, cut1, quo, h0]
  · have hb : (b == 0) = false := by simpa using h0
    unfold InB at ha h
    have h64 : ∀ {c : Int}, -1000000000000 ≤ c ∧ c ≤ 1000000000000 → InB c := fun h => h
    rw [quo, if_neg h0]
    by_cases a0 : a < 0 <;> by_cases b0 : b < 0
    · have hc : cDiv (-a) (-b) = true := cDiv_b (by unfold InB; omega) (by omega)
      simp [iDef, b__law_operated, cut1, e_lnumber, hb, hc, a0, b0, Int.neg_fdiv_neg]
    · have hc : cDiv (-a) b = true := cDiv_b (by unfold InB; omega) (by omega)
      have e1 : (-a).fdiv b = (-a) / b := Int.fdiv_eq_ediv_of_nonneg _ (by omega)
      have e2 : a.fdiv b = a / b := Int.fdiv_eq_ediv_of_nonneg _ (by omega)
      have e3 := neg_div (-a) b (by omega) (by omega)
      rw [Int.neg_neg] at e3
      have q0 : 0 ≤ (-a) / b := Int.ediv_nonneg (by omega) (by omega)
      have q1 : (-a) / b ≤ -a := Int.ediv_le_self _ (by omega)
      rw [e2, e3]
      generalize (-a) / b = q at *
      have hm : cMul (-q) b = true := cMul_l (by unfold InB; omega)
      have e4 : (-q * b = a) ↔ (q * b = -a) := by
        rw [Int.neg_mul]
        omega
      by_cases hq : q * b = -a
      · have hq2 : -q * b = a := e4.mpr hq
        simp [iDef, b__law_operated, cut1, e_lnumber, hb, hc, a0, b0, e1, hm, hq, hq2]
      · have hq2 : ¬ -q * b = a := fun z => hq (e4.mp z)
        have hq3 : (-q * b == a) = false := by simpa using hq2
        simp [iDef, b__law_operated, cut1, e_lnumber, hb, hc, a0, b0, e1, hm, hq, hq3]
    · have hc : cDiv a (-b) = true := cDiv_b (by unfold InB; omega) (by omega)
      have e1 : a.fdiv (-b) = a / (-b) := Int.fdiv_eq_ediv_of_nonneg _ (by omega)
      have e2 : a.fdiv b = (-a) / (-b) := by
        rw [← Int.neg_fdiv_neg]
        exact Int.fdiv_eq_ediv_of_nonneg _ (by omega)
      have e3 := neg_div a (-b) (by omega) (by omega)
      have q0 : 0 ≤ a / (-b) := Int.ediv_nonneg (by omega) (by omega)
      have q1 : a / (-b) ≤ a := Int.ediv_le_self _ (by omega)
      rw [e2, e3]
      generalize a / (-b) = q at *
      have hm : cMul (-q) b = true := cMul_l (by unfold InB; omega)
      have e4 : (-q * b = a) ↔ (q * -b = a) := by
        rw [Int.neg_mul, Int.mul_neg]
      by_cases hq : q * -b = a
      · have hq2 : -q * b = a := e4.mpr hq
        simp [iDef, b__law_operated, cut1, e_lnumber, hb, hc, a0, b0, e1, hm, hq, hq2]
      · have hq2 : ¬ -q * b = a := fun z => hq (e4.mp z)
        have hq3 : (-q * b == a) = false := by simpa using hq2
        simp [iDef, b__law_operated, cut1, e_lnumber, hb, hc, a0, b0, e1, hm, hq, hq3]
    · have hc : cDiv a b = true := cDiv_b (by unfold InB; omega) (by omega)
      simp [iDef, b__law_operated, cut1, e_lnumber, hb, hc, a0, b0]
end
end M30

namespace M30
open PySem PySem.Spec PyProof.Rows L2 IL

/-! ### the law's state -/
structure LS (st : Sto) (s c : Nat) : Prop where
  ne : s ≠ c
  ex : ∃ (a : Int) (cells : List Int), st[s]? = some (.lst [.int a, .ref c]) ∧ st[c]? = some (.lst (cells.map .int)) ∧ 0 ≤ a ∧ cells ≠ [] ∧ ∀ x ∈ cells, 0 ≤ x
structure Fm (s c : Nat) (st st' : Sto) : Prop where
  len : st.length ≤ st'.length
  old : ∀ i, i < st.length → i ≠ s → i ≠ c → st'[i]? = st[i]?
theorem Fm.refl {s c : Nat} {st : Sto} : Fm s c st st := ⟨Nat.le_refl _, fun _ _ _ _ => rfl⟩
theorem Fm.trans {s c : Nat} {a b d : Sto} (h : Fm s c a b) (k : Fm s c b d) : Fm s c a d :=
  ⟨Nat.le_trans h.len k.len, fun i hi h1 h2 => by rw [k.old i (Nat.lt_of_lt_of_le hi h.len) h1 h2, h.old i hi h1 h2]⟩
theorem Fm.app {s c : Nat} {a l : Sto} : Fm s c a (a ++ l) := ⟨by simp, fun i hi _ _ => List.getElem?_append_left hi⟩
theorem LS.app {s c : Nat} {a l : Sto} (h : LS a s c) : LS (a ++ l) s c := by
  obtain ⟨x, cells, h1, h2, h3⟩ := h.ex
  exact ⟨h.ne, x, cells, old_at h1, old_at h2, h3⟩
theorem LS.lt {s c : Nat} {st : Sto} (h : LS st s c) : s < st.length ∧ c < st.length := by
  obtain ⟨x, cells, h1, h2, _⟩ := h.ex
  exact ⟨lt_of_at h1, lt_of_at h2⟩
theorem LS.setO {s c d : Nat} {st : Sto} {o : SO} (h : LS st s c) (h1 : d ≠ s) (h2 : d ≠ c) : LS (st.set d o) s c := by
  obtain ⟨x, cells, e1, e2, h3⟩ := h.ex
  exact ⟨h.ne, x, cells, by rw [List.getElem?_set_ne h1]; exact e1, by rw [List.getElem?_set_ne h2]; exact e2, h3⟩
theorem fSetA_l {n : Nat} {st : Sto} {xs : List PV} {k : Int} {j : Nat} {v : PV} (h : st[n]? = some (.lst xs)) (hj : ixN xs.length k = some j) : fSetA (.ref n) (.int k) v st = some (st.set n (.lst (xs.set j v))) := by
  unfold fSetA fSetL
  simp only [h, hj]
  rfl
theorem ixN_in {n : Nat} {i : Int} (h0 : 0 ≤ i) (h1 : i < n) : ixN n i = some i.toNat := by
  unfold ixN
  rw [if_pos h0, if_pos h1]
theorem fmod_b {a b : Int} (hb : 0 < b) : 0 ≤ a.fmod b ∧ a.fmod b < b := by
  rw [Int.fmod_eq_emod_of_nonneg a (by omega)]
  exact ⟨Int.emod_nonneg _ (by omega), Int.emod_lt_of_pos _ hb⟩
section
variable {n : Nat} {st : Sto} {s c : Nat}
theorem e_take (m : Int) (hm : 1 ≤ m) (hm2 : m ≤ 1000000000) (L : LS st s c) : ∃ r st', FF (n + 1) 23 [.ref s, .int m] st = some (.int r, st') ∧ 0 ≤ r ∧ r < m ∧ LS st' s c ∧ Fm s c st st' := by
  obtain ⟨ne, a, cells, h1, h2, h3, h4, h5⟩ := L
  obtain ⟨ls, lc⟩ := LS.lt ⟨ne, a, cells, h1, h2, h3, h4, h5⟩
  have hl : (0 : Int) < (cells.length : Int) := by
    cases cells with
    | nil => exact absurd rfl h4
    | cons => simp only [List.length_cons]; omega
  obtain ⟨b0, b1⟩ := fmod_b (a := a) hl
  have hk : (a.fmod cells.length).toNat < cells.length := by omega
  have hcell : atI (cells.map PV.int) (a.fmod cells.length) = some (.int (cells[(a.fmod cells.length).toNat])) := by
    have e := at_nat (xs := cells.map PV.int) (i := (a.fmod cells.length).toNat) (x := .int (cells[(a.fmod cells.length).toNat])) (by rw [List.getElem?_map, List.getElem?_eq_getElem hk]; rfl)
    rwa [show (((a.fmod cells.length).toNat : Nat) : Int) = a.fmod cells.length by omega] at e
  have hpos : 0 ≤ cells[(a.fmod cells.length).toNat] := h5 _ (List.getElem_mem hk)
  have m0 : m ≠ 0 := by omega
  have m1 : (m == 0) = false := by simpa using m0
  have m2 : ¬ m < 1 := by omega
  have l0 : ¬ ((cells.length : Int) = 0) := by omega
  have e1 := fSubA_l (m := 1) h1
  have e0 := fSubA_l (m := 0) h1
  have e2 := fSubA_l (m := a.fmod cells.length) h2
  have e3 := fLen_l h2
  have ei := ixN_in (n := (cells.map PV.int).length) b0 (by rw [List.length_map]; exact b1)
  show ∃ r st', iDef 2 6 (b__law_take (FF n)) _ _ = _ ∧ _
  by_cases hbig : 1000000000000000000 ≤ cells[(a.fmod cells.length).toNat]
  · have eset := fun v => fSetA_l (v := v) h2 ei
    have hd : cDiv cells[(a.fmod cells.length).toNat] m = true := by
      refine cDiv_b ?_ m0
      unfold InB; omega
    obtain ⟨r0, r1⟩ := fmod_b (a := cells[(a.fmod cells.length).toNat]) (b := m) (by omega)
    refine ⟨cells[(a.fmod cells.length).toNat].fmod m, st.set c (.lst ((cells.map PV.int).set (a.fmod cells.length).toNat (.int (cells[(a.fmod cells.length).toNat].fdiv m)))), ?_, r0, r1, ⟨ne, a, cells.set (a.fmod cells.length).toNat (cells[(a.fmod cells.length).toNat].fdiv m), ?_, ?_, h3, ?_, ?_⟩, ⟨by simp, fun i _ _ hi => List.getElem?_set_ne (Ne.symm hi)⟩⟩
    · simp [iDef, b__law_take, m2, e1, e0, e2, e3, hcell, hbig, hd, eset, m0, h4]
    · rw [List.getElem?_set_ne (Ne.symm ne)]; exact h1
    · rw [List.getElem?_set_self lc, List.map_set]
    · intro z
      have := congrArg List.length z
      simp at this
      exact h4 this
    · intro x hx
      rcases List.mem_or_eq_of_mem_set hx with h | h
      · exact h5 x h
      · rw [h, Int.fdiv_eq_ediv_of_nonneg _ (by omega)]
        exact Int.ediv_nonneg hpos (by omega)
  · have eset := fSetA_l (k := 0) (j := 0) (v := .int (a + 1)) h1 rfl
    have hs : (st.set s (.lst [.int (a + 1), .ref c]))[s]? = some (.lst [.int (a + 1), .ref c]) := List.getElem?_set_self ls
    have e4 := fSubA_l (m := 0) hs
    have c1 : ∀ x : Int, cMul x 48271 = true := fun x => by unfold cMul; simp
    have c2 : ∀ x : Int, cMul x 69621 = true := fun x => by unfold cMul; simp
    have c3 : ∀ x : Int, cMul x 16807 = true := fun x => by unfold cMul; simp
    have c4 : ∀ x : Int, cMul x 7919 = true := fun x => by unfold cMul; simp
    have c5 : ∀ x : Int, cDiv x 7 = true := fun x => by unfold cDiv; simp
    refine ⟨?_, st.set s (.lst [.int (a + 1), .ref c]), ?_, ?_, ?_, ⟨ne, a + 1, cells, hs, ?_, by omega, h4, h5⟩, ⟨by simp, fun i _ hi _ => List.getElem?_set_ne (Ne.symm hi)⟩⟩
    · exact ((((((cells[(a.fmod cells.length).toNat] * 48271 + (a + 1) * 69621).fmod 2147483647) * 16807 + (a + 1) * 7919).fmod 1000000007).fdiv 7).fmod m)
    · simp [iDef, b__law_take, m2, e1, e0, e2, e3, hcell, hbig, eset, e4, c1, c2, c3, c4, c5, m0, h4]
    · exact (fmod_b (by omega)).1
    · exact (fmod_b (by omega)).2
    · rw [List.getElem?_set_ne ne]; exact h2
end
end M30

namespace M30
open PySem PySem.Spec PyProof.Rows L2 IL
section
variable {n : Nat} {st : Sto} {s c : Nat}
theorem e_menu (xs : List PV) (m : Int) (hm : m = xs.length) (h1 : 1 ≤ m) (h2 : m ≤ 1000000000) (L : LS st s c) : ∃ r x st', FF (n + 1) 23 [.ref s, .int m] (st ++ [.lst xs]) = some (.int r, st') ∧ fSubA (.ref st.length) (.int r) st' = some (x, st') ∧ x ∈ xs ∧ LS st' s c ∧ Fm s c st st' := by
  obtain ⟨r, st', e, r0, r1, L', F'⟩ := e_take (n := n) m h1 h2 (L.app (l := [.lst xs]))
  obtain ⟨l1, l2⟩ := L.lt
  have hat : st'[st.length]? = some (.lst xs) := by
    rw [F'.old st.length (by simp) (by omega) (by omega)]
    exact new_at
  obtain ⟨x, hx, ha⟩ := atI_in (xs := xs) r0 (by omega)
  exact ⟨r, x, st', e, by rw [fSubA_l hat, ha]; rfl, hx, L', Fm.app.trans F'⟩
theorem mem_int {x : PV} {is : List Int} (h : x ∈ is.map PV.int) : ∃ i, i ∈ is ∧ x = .int i := by
  obtain ⟨i, hi, e⟩ := List.mem_map.mp h
  exact ⟨i, hi, e.symm⟩
theorem e_int (L : LS st s c) : ∃ z st', FF (n + 2) 27 [.ref s] st = some (vI z, st') ∧ InB z ∧ LS st' s c ∧ Fm s c st st' := by
  obtain ⟨r1, x1, s1, a1, a2, a3, L1, F1⟩ := e_menu (n := n) ([0, 1, 2, 3, 7, 1000000, 1000000000000, 999999999999].map PV.int) 8 rfl (by omega) (by omega) L
  obtain ⟨i1, hi1, rfl⟩ := mem_int a3
  have b1 : 0 ≤ i1 ∧ i1 ≤ 1000000000000 := by
    simp at hi1
    omega
  obtain ⟨r2, s2, c1, c2, c3, L2, F2⟩ := e_take (n := n) 3 (by omega) (by omega) L1
  obtain ⟨r3, s3, d1, d2, d3, L3, F3⟩ := e_take (n := n) 1000000 (by omega) (by omega) L2
  obtain ⟨r4, s4, f1, f2, f3, L4, F4⟩ := e_take (n := n) 1000000 (by omega) (by omega) L3
  have hr : 0 ≤ r3 * r4 ∧ r3 * r4 ≤ 999999 * 999999 := ⟨Int.mul_nonneg d2 f2, Int.mul_le_mul (by omega) (by omega) f2 (by omega)⟩
  have hm : cMul r3 r4 = true := cMul_l (by unfold InB; omega)
  show ∃ z st', iDef 1 2 (b__law_int (FF (n + 1))) _ _ = _ ∧ _
  have fin : ∀ (v : Int) (s' : Sto), 0 ≤ v → v ≤ 1000000000000 → LS s' s c → Fm s c st s' → ∃ r x s'', FF (n + 1) 23 [.ref s, .int 2] (s' ++ [.lst [.int 1, .int (-1)]]) = some (.int r, s'') ∧ fSubA (.ref s'.length) (.int r) s'' = some (.int x, s'') ∧ InB (v * x) ∧ LS s'' s c ∧ Fm s c st s'' := by
    intro v s' v0 v1 L' F'
    obtain ⟨r5, x5, s5, g1, g2, g3, L5, F5⟩ := e_menu (n := n) ([1, -1].map PV.int) 2 rfl (by omega) (by omega) L'
    obtain ⟨i5, hi5, rfl⟩ := mem_int g3
    refine ⟨r5, i5, s5, g1, g2, ?_, L5, F'.trans F5⟩
    unfold InB
    simp at hi5
    rcases hi5 with rfl | rfl <;> omega
  have hv : ∀ v x : Int, 0 ≤ v → v ≤ 1000000000000 → cMul v x = true := fun v x h0 h1 => cMul_l (by unfold InB; omega)
  by_cases h0 : r2 = 0
  · obtain ⟨r5, i5, s5, g1, g2, g3, L5, F5⟩ := fin (r3 * r4) s4 hr.1 (by omega) L4 (((F1.trans F2).trans F3).trans F4)
    have hm2 := hv (r3 * r4) i5 hr.1 (by omega)
    refine ⟨r3 * r4 * i5, s5, ?_, g3, L5, F5⟩
    subst h0
    simp at a1
    simp [iDef, b__law_int, a1, a2, c1, d1, f1, hm, g1, g2, hm2]
  · obtain ⟨r5, i5, s5, g1, g2, g3, L5, F5⟩ := fin i1 s2 b1.1 b1.2 L2 (F1.trans F2)
    have hm2 := hv i1 i5 b1.1 b1.2
    have h00 : (r2 == 0) = false := by simpa using h0
    refine ⟨i1 * i5, s5, ?_, g3, L5, F5⟩
    simp at a1
    simp [iDef, b__law_int, a1, a2, c1, h00, g1, g2, hm2]
/-- the menu of texts -/
def texts : List Str := [S_, S_a, S_ab, repStr S_x 30, repStr S_x 31, repStr S_x 60, S_B, S_x7ex20]
def goodT (t : Str) : Prop := PyData.strOk t = true ∧ t.length ≤ 60 ∧ ∀ x ∈ t.cps.toList, 32 ≤ x ∧ x ≤ 126
theorem texts_good : ∀ t ∈ texts, goodT t := by
  have h : texts.all (fun t => PyData.strOk t && decide (t.length ≤ 60) && t.cps.toList.all fun x => decide (32 ≤ x) && decide (x ≤ 126)) = true := by decide +kernel
  intro t ht
  have := List.all_eq_true.mp h t ht
  simp only [Bool.and_eq_true, decide_eq_true_eq, List.all_eq_true] at this
  exact ⟨this.1.1, this.1.2, this.2⟩
theorem e_text (L : LS st s c) : ∃ t st', FF (n + 2) 28 [.ref s] st = some (vT t, st') ∧ goodT t ∧ LS st' s c ∧ Fm s c st st' := by
  obtain ⟨r1, x1, s1, a1, a2, a3, L1, F1⟩ := e_menu (n := n) (texts.map PV.str) 8 rfl (by omega) (by omega) L
  obtain ⟨t, ht, rfl⟩ : ∃ t, t ∈ texts ∧ x1 = .str t := by
    obtain ⟨t, ht, e⟩ := List.mem_map.mp a3
    exact ⟨t, ht, e.symm⟩
  refine ⟨t, s1, ?_, texts_good t ht, L1, F1⟩
  show iDef 1 1 (b__law_text (FF (n + 1))) _ _ = _
  have k1 : fMul (.str S_x) (.int 30) = fun st => some (.str (repStr S_x 30), st) := by
    funext st
    show (if cRep S_x.length 30 then some (PV.str (repStr S_x 30), st) else none) = _
    rw [if_pos (by decide +kernel)]
  have k2 : fMul (.str S_x) (.int 31) = fun st => some (.str (repStr S_x 31), st) := by
    funext st
    show (if cRep S_x.length 31 then some (PV.str (repStr S_x 31), st) else none) = _
    rw [if_pos (by decide +kernel)]
  have k3 : fMul (.str S_x) (.int 60) = fun st => some (.str (repStr S_x 60), st) := by
    funext st
    show (if cRep S_x.length 60 then some (PV.str (repStr S_x 60), st) else none) = _
    rw [if_pos (by decide +kernel)]
  simp [texts] at a1
  simp [iDef, b__law_text, k1, k2, k3, a1, a2]
def AllI (xs : List PV) : Prop := ∃ is : List Int, xs = is.map vI ∧ ∀ i ∈ is, InB i
theorem e_list (L : LS st s c) : ∃ xs st', FF (n + 3) 29 [.ref s] st = some (vL xs, st') ∧ AllI xs ∧ xs.length ≤ 20 ∧ LS st' s c ∧ Fm s c st st' := by
  obtain ⟨r1, x1, s1, a1, a2, a3, L1, F1⟩ := e_menu (n := n + 1) ([0, 1, 2, 10, 11, 20].map PV.int) 6 rfl (by omega) (by omega) L
  obtain ⟨i1, hi1, rfl⟩ := mem_int a3
  have b1 : 0 ≤ i1 ∧ i1 ≤ 20 := by
    simp at hi1
    omega
  show ∃ xs st', iDef 1 2 (b__law_list (FF (n + 2))) _ _ = _ ∧ _
  obtain ⟨l1, l2⟩ := L1.lt
  obtain ⟨acc, s2, h1, h2⟩ := lc_inv (at_ := (srcR 0 i1.toNat).at_) (ig := gN 1) (t := iYes) (e := iCall (FF (n + 2) 27) (iCons (iVar 0) iNil)) (d := s1.length) (envw := [some (.ref s), none])
    (I := fun i acc s' => ∃ is : List Int, acc = is.map vI ∧ (∀ z ∈ is, InB z) ∧ is.length = i ∧ LS s' s c ∧ Fm s c s1 s' ∧ s'[s1.length]? = some (.lst acc)) (N := i1.toNat)
    (fun acc s' _ => by simp [srcR]; omega) (fun i acc s' hi ⟨is, e1, e2, e3, L', F', hat⟩ => by
      obtain ⟨z, s3, g1, g2, L3, F3⟩ := e_int (n := n) L'
      have hlt := lt_of_at hat
      have hat3 : s3[s1.length]? = some (.lst acc) := by rw [F3.old s1.length hlt (by omega) (by omega)]; exact hat
      refine ⟨.int (0 + i), [some (.ref s), some (.int (0 + i))], vI z, s3, ?_, rfl, rfl, ?_, hat3, ?_, is ++ [z], ?_, ?_, ?_, L3.setO (by omega) (by omega), ⟨?_, ?_⟩, ?_⟩
      · simp only [srcR, if_pos hi]
      · simp [g1]
      · rw [e1, List.length_map]; omega
      · rw [e1, List.map_append]; rfl
      · intro w hw
        rcases List.mem_append.mp hw with h | h
        · exact e2 w h
        · simp at h; rw [h]; exact g2
      · simp [e3]
      · rw [List.length_set]
        exact Nat.le_trans F'.len F3.len
      · intro j hj j1 j2
        rw [List.getElem?_set_ne (by omega)]
        exact (F'.trans F3).old j hj j1 j2
      · rw [List.getElem?_set_self (by have := F3.len; omega)])
    (i1.toNat + 1) 0 [] (s1 ++ [.lst []]) ⟨[], rfl, by simp, rfl, L1.app, Fm.app, new_at⟩ (by omega) (by omega)
  obtain ⟨is, e1, e2, e3, L', F', hat⟩ := h2
  have hbig : big i1 = true := by unfold big; simp; omega
  refine ⟨acc, s2, ?_, ⟨is, e1, e2⟩, by rw [e1, List.length_map]; omega, L', F1.trans F'⟩
  have hlc : iLc (iRange1 (iCons (iBin fSubA (iLst (iCons (iC (.int 0)) (iCons (iC (.int 1)) (iCons (iC (.int 2)) (iCons (iC (.int 10)) (iCons (iC (.int 11)) (iCons (iC (.int 20)) iNil))))))) (iCall (FF (n + 2) 23) (iCons (iVar 0) (iCons (iC (.int 6)) iNil)))) iNil)) (gN 1) iYes (iCall (FF (n + 2) 27) (iCons (iVar 0) iNil)) [1] [some (.ref s), none] st = some (.ref s1.length, s2) := by
    unfold iLc iRange1
    simp at a1
    simp [a1, a2, hbig]
    have hn : (srcR 0 i1.toNat).n = i1.toNat := rfl
    rw [hn]
    have hw : wipeE [some (PV.ref s), none] [1] = [some (.ref s), none] := rfl
    rw [hw, h1]
  simp [iDef, b__law_list, hlc, hat]
end
end M30

namespace M30
open PySem PySem.Spec PyProof.Rows L2 IL
section
variable {n : Nat} {st : Sto} {s c : Nat}
theorem gd_vT {t : Str} (h : PyData.strOk t = true) : gd (vT t) 60 = true := by simp [gd, gds, h]
theorem gd_vL {xs : List PV} (h : AllI xs) : gd (vL xs) 60 = true := by
  obtain ⟨is, rfl, _⟩ := h
  have : gds (is.map vI) 58 = true := gds_all fun x hx => by
    obtain ⟨i, _, rfl⟩ := List.mem_map.mp hx
    simp [gd, gds]
  simp [gd, gds, this]
theorem gd_vB (b : Bool) : gd (vB b) 60 = true := by simp [gd, gds]
theorem gd_vN : gd vN 60 = true := by simp [gd, gds]
/-- what is compared -/
def eqB (x y : PV) : Bool := PyData.eqv (datP x) (datP y)
theorem eq_gd {x y : PV} (hx : gd x 60 = true) (hy : gd y 60 = true) : ∀ st, eqP st x y = some (eqB x y) := fun st => eqP_gd hx hy
theorem ltS_self (t : Str) : ltS t t = false := by
  unfold ltS
  exact decide_eq_false (List.lt_irrefl _)
theorem lt1_i (a b : Int) : ∀ st, fLt (.tup [.int a]) (.tup [.int b]) st = some (.bl (decide (a < b)), st) := fun st => by
  show some (PV.bl (if (a == b) = true then false else decide (a < b)), st) = _
  by_cases h : a = b
  · subst h; simp
  · simp [h]
theorem le1_i (a b : Int) : ∀ st, fLe (.tup [.int a]) (.tup [.int b]) st = some (.bl (decide (a ≤ b)), st) := fun st => by
  show some (PV.bl (if (a == b) = true then true else !decide (b < a)), st) = _
  by_cases h : a = b
  · subst h; simp
  · by_cases h2 : b < a
    · simp [h, h2]
    · simp [h, h2]; omega
theorem lt1_s (a b : Str) : ∀ st, fLt (.tup [.str a]) (.tup [.str b]) st = some (.bl (ltS a b), st) := fun st => by
  show some (PV.bl (if (a == b) = true then false else ltS a b), st) = _
  by_cases h : a = b
  · subst h; simp [ltS_self]
  · have : (a == b) = false := by simpa using h
    simp [this]
theorem le1_s (a b : Str) : ∀ st, fLe (.tup [.str a]) (.tup [.str b]) st = some (.bl (!ltS b a), st) := fun st => by
  show some (PV.bl (if (a == b) = true then true else !ltS b a), st) = _
  by_cases h : a = b
  · subst h; simp [ltS_self]
  · have : (a == b) = false := by simpa using h
    simp [this]
/-! ### & of texts -/
def catT (a b : Str) : PV := if a.length + b.length ≤ 60 then ok (vT (a ++ b)) else fl 2
theorem len_app (a b : Str) : (a ++ b).length = a.length + b.length := by
  show (Str.append a b).length = _
  simp [Str.append, Str.length]
theorem e_letters (t : Str) (h : t.length ≤ 100000) : FF (n + 1) 9 [.str t] st = some (if t.length ≤ 60 then ok (vT t) else fl 2, st) := by
  show iDef 1 1 (b__letters (FF n)) _ _ = _
  by_cases h6 : t.length ≤ 60
  · have : (t.length : Int) ≤ 60 := by omega
    simp [iDef, b__letters, h, h6, this]
  · have : ¬ (t.length : Int) ≤ 60 := by omega
    simp [iDef, b__letters, h, h6, this]
theorem o_catT (a b : Str) (ha : a.length ≤ 60) (hb : b.length ≤ 60) : FF (n + 3) 13 [.str S_x26, vT a, vT b] st = some (catT a b, st) := by
  show iDef 3 3 (b_operate (FF (n + 2))) _ _ = _
  have h1 : a.length + b.length ≤ 100000 := by omega
  have e : FF (n + 2) 11 [vT a, vT b] st = some (catT a b, st) := by
    show iDef 2 2 (b__joined_up (FF (n + 1))) _ _ = _
    simp [iDef, b__joined_up, h1, e_letters, len_app, catT]
  simp [iDef, b_operate, e]
theorem set_last {α : Type} {a : List α} {o o' : α} : (a ++ [o]).set a.length o' = a ++ [o'] := by
  rw [List.set_append_right _ _ (Nat.le_refl _), Nat.sub_self]; rfl
/-- the law's dict of bounds -/
def lims : List (Key × PV) := [(.inr S_text, .int 60), (.inr S_list, .int 20)]
theorem e_lims {env : PEnv} : iDict (iPCons (iC (.str S_text)) (iC (.int 60)) (iPCons (iC (.str S_list)) (iC (.int 20)) iPNil)) env st = some (.ref st.length, st ++ [.dK lims]) := by
  unfold iDict
  have h : iPCons (iC (.str S_text)) (iC (.int 60)) (iPCons (iC (.str S_list)) (iC (.int 20)) iPNil) env (st ++ [.dK []]) = some ([(.str S_text, .int 60), (.str S_list, .int 20)], st ++ [.dK []]) := rfl
  rw [h]
  simp only [ob_s, keysP, keyP, new_at, set_last]
  have hm : mergeP [] [((Sum.inr S_text : Key), PV.int 60), (Sum.inr S_list, PV.int 20)] = lims := by
    simp [mergeP, putP, lims]
  rw [hm]
  rfl
theorem findP_text : findP lims (.inr S_text) = some (.int 60) := by simp [findP, lims]
theorem findP_list : findP lims (.inr S_list) = some (.int 20) := by simp [findP, lims]
theorem l_catT (a b : Str) (ha : a.length ≤ 60) (hb : b.length ≤ 60) : ∃ l, FF (n + 1) 25 [.str S_x26, vT a, vT b] st = some (catT a b, st ++ l) := by
  refine ⟨[.dK lims], ?_⟩
  show iDef 3 6 (b__law_operated (FF n)) _ _ = _
  have h1 : a.length + b.length ≤ 100000 := by omega
  have h2 : a.length ≤ 100000 := by omega
  have h3 : b.length ≤ 100000 := by omega
  have hd := fSubA_d (y := .str S_text) (k := .inr S_text) (new_at (st := st) (o := .dK lims)) rfl
  rw [findP_text] at hd
  by_cases h6 : a.length + b.length ≤ 60
  · have : ¬ (60 : Int) < (a.length : Int) + b.length := by omega
    simp [iDef, b__law_operated, cut1, h1, h2, h3, h6, this, e_lims, hd, catT]
  · have : (60 : Int) < (a.length : Int) + b.length := by omega
    simp [iDef, b__law_operated, cut1, h1, h2, h3, h6, this, e_lims, hd, catT]
/-! ### lists -/
theorem e_depth0 {x : PV} {t : Nat} (ht : t < 32) (hne : t ≠ 2) {xs : List PV} (hx : x = .tup (.str (Sx t) :: xs)) : FF (n + 1) 2 [x] st = some (.int 0, st) := by
  show iDef 1 2 (b_list_depth (FF n)) _ _ = _
  subst hx
  simp [iDef, b_list_depth, ht, hne]
theorem maxI_zero : ∀ k : Nat, maxI (List.replicate k 0) 0 = 0
  | 0 => rfl
  | k + 1 => by
    unfold maxI
    rw [List.replicate_succ]
    simp only
    induction k with
    | zero => rfl
    | succ k ih => rw [List.replicate_succ, List.foldl_cons, if_neg (by omega)]; exact ih
theorem mapO_ints : ∀ k : Nat, mapO isInt (List.replicate k (.int 0)) = some (List.replicate k 0)
  | 0 => rfl
  | k + 1 => by rw [List.replicate_succ, mapO_cons, mapO_ints k]; rfl
/-- flat values: no lists -/
def Flat (x : PV) : Prop := ∃ t xs, t < 32 ∧ t ≠ 2 ∧ x = .tup (.str (Sx t) :: xs)
theorem flat_vI (i : Int) : Flat (vI i) := ⟨3, _, by omega, by omega, rfl⟩
theorem AllI.flat {xs : List PV} (h : AllI xs) : ∀ x ∈ xs, Flat x := fun x hx => by
  obtain ⟨is, rfl, _⟩ := h
  obtain ⟨i, _, rfl⟩ := List.mem_map.mp hx
  exact flat_vI i
theorem map_zero (xs : List PV) : xs.map (fun _ => PV.int 0) = List.replicate xs.length (.int 0) := by
  induction xs with
  | nil => rfl
  | cons x xs ih => rw [List.map_cons, ih]; rfl
theorem e_depth1 {xs : List PV} (hx : ∀ x ∈ xs, Flat x) (hl : xs.length < 1000) : ∃ l, FF (n + 2) 2 [vL xs] st = some (.int 1, st ++ l) := by
  show ∃ l, iDef 1 2 (b_list_depth (FF (n + 1))) _ _ = _
  obtain ⟨l, hlc⟩ := iLc_tup (ie := iBin fSubA (iVar 0) (iC (.int 1))) (e := iCall (FF (n + 1) 2) (iCons (iVar 1) iNil)) (ig := gN 1) (t := iYes) (vs := [1]) (env := [some (vL xs), none]) (st := st) (s1 := st) (xs := xs) (fun _ => .int 0) (by simp) (by omega) fun x hx' s' => by
    obtain ⟨t, ys, ht, hne, e⟩ := hx x hx'
    refine ⟨[some (vL xs), some x], [], rfl, rfl, ?_⟩
    simp [e_depth0 ht hne e]
  have hat : (st ++ [SO.lst (xs.map fun _ => .int 0)] ++ l)[st.length]? = some (.lst (xs.map fun _ => .int 0)) := at_mid
  have hints : intsOf (st ++ [SO.lst (xs.map fun _ => .int 0)] ++ l) (.ref st.length) = some (List.replicate xs.length 0) := by
    unfold intsOf
    rw [listOf_r, hat]
    simp only
    rw [map_zero, mapO_ints]
  refine ⟨[.lst (xs.map fun _ => .int 0)] ++ l, ?_⟩
  simp only [List.append_assoc, List.cons_append, List.nil_append] at hints hlc
  simp [iDef, b_list_depth, hlc, hints, maxI_zero]
def lstR (xs : List PV) : PV := if xs.length ≤ 20 then ok (vL xs) else fl 2
theorem e_listof {x : PV} {xs : List PV} (hx : ∀ x ∈ xs, Flat x) (hl : xs.length < 1000) (h : itemsOf st x = some xs) (hlen : ∀ l, lenP (st ++ l) x = some xs.length) : ∃ l, FF (n + 3) 19 [x] st = some (lstR xs, st ++ l) := by
  show ∃ l, iDef 1 2 (b_list_of (FF (n + 2))) _ _ = _
  obtain ⟨l, hd⟩ := e_depth1 (n := n) (st := st) hx hl
  have hlen0 := hlen []
  rw [List.append_nil] at hlen0
  have hf : ∀ l, fLen x (st ++ l) = some (.int xs.length, st ++ l) := fun l => by unfold fLen; rw [hlen l]; rfl
  have hf0 := hf []
  rw [List.append_nil] at hf0
  by_cases h6 : xs.length ≤ 20
  · have : (xs.length : Int) ≤ 20 := by omega
    exact ⟨l, by simp [iDef, b_list_of, h, hf, hf0, hd, this, h6, lstR]⟩
  · have : ¬ (xs.length : Int) ≤ 20 := by omega
    exact ⟨[], by simp [iDef, b_list_of, h, hf, hf0, hd, this, h6, lstR]⟩
theorem AllI.app {xs ys : List PV} (h : AllI xs) (k : AllI ys) : AllI (xs ++ ys) := by
  obtain ⟨is, rfl, h⟩ := h
  obtain ⟨js, rfl, k⟩ := k
  refine ⟨is ++ js, by rw [List.map_append], fun i hi => ?_⟩
  rcases List.mem_append.mp hi with z | z
  · exact h i z
  · exact k i z
theorem o_catL {xs ys : List PV} (hx : AllI xs) (hy : AllI ys) (lx : xs.length ≤ 20) (ly : ys.length ≤ 20) : ∃ l, FF (n + 5) 13 [.str S_x26, vL xs, vL ys] st = some (lstR (xs ++ ys), st ++ l) := by
  show ∃ l, iDef 3 3 (b_operate (FF (n + 4))) _ _ = _
  have h1 : xs.length + ys.length ≤ 100000 := by omega
  obtain ⟨l, hl⟩ := e_listof (n := n) (st := st) (x := .tup (xs ++ ys)) (hx.app hy).flat (by simp; omega) rfl (fun _ => rfl)
  have e : FF (n + 4) 11 [vL xs, vL ys] st = some (lstR (xs ++ ys), st ++ l) := by
    show iDef 2 2 (b__joined_up (FF (n + 3))) _ _ = _
    simp [iDef, b__joined_up, h1, hl]
  exact ⟨l, by simp [iDef, b_operate, e]⟩
theorem l_catL {xs ys : List PV} (lx : xs.length ≤ 20) (ly : ys.length ≤ 20) : ∃ l, FF (n + 1) 25 [.str S_x26, vL xs, vL ys] st = some (lstR (xs ++ ys), st ++ l) := by
  refine ⟨[.dK lims], ?_⟩
  show iDef 3 6 (b__law_operated (FF n)) _ _ = _
  have h1 : xs.length + ys.length ≤ 100000 := by omega
  have hd := fSubA_d (y := .str S_list) (k := .inr S_list) (new_at (st := st) (o := .dK lims)) rfl
  rw [findP_list] at hd
  by_cases h6 : xs.length + ys.length ≤ 20
  · have : ¬ (20 : Int) < (xs.length : Int) + ys.length := by omega
    simp [iDef, b__law_operated, cut1, h1, h6, this, e_lims, hd, lstR]
  · have : (20 : Int) < (xs.length : Int) + ys.length := by omega
    simp [iDef, b__law_operated, cut1, h1, h6, this, e_lims, hd, lstR]
end
end M30

namespace M30
open PySem PySem.Spec PyProof.Rows L2 IL
section
variable {n : Nat} {st : Sto} {s c : Nat}
/-! ### numbers as texts -/
def str (z : Int) : Str := Str.ofString (toString z)
theorem str_len {z : Int} (h : InB z) : (str z).length ≤ 60 := by
  unfold InB at h
  have e := int_text_length_le10 (a := z) (k := 13) (by decide) (by omega)
  unfold str
  rw [PySem.ofString_length]
  omega
theorem str_ok (z : Int) : PyData.strOk (str z) = true := by
  unfold PyData.strOk str
  rw [← Array.all_toList]
  refine List.all_eq_true.mpr fun k hk => decide_eq_true ?_
  by_cases h : k = 45 ∨ (48 ≤ k ∧ k ≤ 57)
  · omega
  · exact absurd hk (int_text_free' k (by omega) z)
theorem natAbs_big {z : Int} (h : InB z) : z.natAbs < 2 ^ 1000 := by
  unfold InB at h
  have : z.natAbs < 2 ^ 40 := by omega
  exact Nat.lt_of_lt_of_le this (Nat.pow_le_pow_right (by omega) (by omega))
theorem fStr_b {z : Int} (h : InB z) : fStr (.int z) st = some (.str (str z), st) := by
  rw [fStr_i, if_pos (natAbs_big h)]; rfl
theorem e_textofI {z : Int} (h : InB z) : FF (n + 2) 18 [vI z] st = some (ok (vT (str z)), st) := by
  show iDef 1 1 (b_text_of (FF (n + 1))) _ _ = _
  have hl := str_len h
  have e := e_letters (n := n) (st := st) (str z) (by omega)
  rw [if_pos hl] at e
  simp [iDef, b_text_of, -fStr_i, fStr_b h, e]
def bstr (b : Bool) : Str := if b then S_true else S_false
theorem e_textofB (b : Bool) : FF (n + 2) 18 [vB b] st = some (ok (vT (bstr b)), st) := by
  show iDef 1 1 (b_text_of (FF (n + 1))) _ _ = _
  have e1 := e_letters (n := n) (st := st) S_true (by rw [Sx_len (by omega)]; decide)
  have e2 := e_letters (n := n) (st := st) S_false (by rw [Sx_len (by omega)]; decide)
  rw [if_pos (by rw [Sx_len (by omega)]; decide)] at e1 e2
  cases b <;> simp [iDef, b_text_of, e1, e2, bstr]
theorem e_inv (b : Bool) : FF (n + 1) 14 [vB b] st = some (ok (vB (!b)), st) := by
  show iDef 1 1 (b_inverted (FF n)) _ _ = _
  simp [iDef, b_inverted]
theorem e_neg (z : Int) : FF (n + 2) 15 [vI z] st = some (num (-z), st) := by
  show iDef 1 1 (b_negated (FF (n + 1))) _ _ = _
  simp [iDef, b_negated, e_number]
def itemR (xs : List PV) (i : Int) : PV := if 0 ≤ i ∧ i < xs.length then ok (xs.getD i.toNat .non) else fl 3
theorem atI_getD {xs : List PV} {i : Int} (h : 0 ≤ i ∧ i < xs.length) : atI xs i = some (xs.getD i.toNat .non) := by
  have hk : i.toNat < xs.length := by omega
  have e := at_nat (xs := xs) (i := i.toNat) (x := xs.getD i.toNat .non) (by rw [List.getD_eq_getElem?_getD, List.getElem?_eq_getElem hk]; rfl)
  rwa [show ((i.toNat : Nat) : Int) = i by omega] at e
theorem e_item (xs : List PV) (i : Int) : FF (n + 1) 16 [vL xs, vI i] st = some (itemR xs i, st) := by
  show iDef 2 2 (b_item_of (FF n)) _ _ = _
  by_cases h : 0 ≤ i ∧ i < xs.length
  · have e := atI_getD h
    simp [iDef, b_item_of, h.1, h.2, e, itemR]
  · by_cases h0 : 0 ≤ i
    · have h1 : ¬ i < xs.length := fun z => h ⟨h0, z⟩
      simp [iDef, b_item_of, h0, h1, itemR]
    · simp [iDef, b_item_of, h0, itemR]
theorem e_sizeT (t : Str) (h : t.length ≤ 60) : FF (n + 1) 17 [vT t] st = some (ok (vI t.length), st) := by
  show iDef 1 1 (b_size_of (FF n)) _ _ = _
  have : t.length ≤ 100000 := by omega
  simp [iDef, b_size_of, this]
theorem e_sizeL (xs : List PV) : FF (n + 1) 17 [vL xs] st = some (ok (vI xs.length), st) := by
  show iDef 1 1 (b_size_of (FF n)) _ _ = _
  simp [iDef, b_size_of]
/-! ### the law's forms: the values stand in a list of the store -/
variable {p : Nat}
theorem sh_not (b : Bool) (h : st[p]? = some (.lst [vB b])) : FF (n + 1) 26 [.str S_not, .ref p] st = some (ok (vB (!b)), st) := by
  show iDef 2 4 (b__law_shaped (FF n)) _ _ = _
  have e1 := fSubA_l (m := 0) h
  have e2 : eqP st (vB b) (vB false) = some (!b) := by
    rw [eqP_gd (gd_vB b) (gd_vB false)]
    cases b <;> simp [datP, datPs, PyData.eqv, PyData.eqvAll]
  simp [iDef, b__law_shaped, e1, e2]
theorem sh_neg (z : Int) (h : st[p]? = some (.lst [vI z])) : FF (n + 1) 26 [.str S_neg, .ref p] st = some (ok (vI (-z)), st) := by
  show iDef 2 4 (b__law_shaped (FF n)) _ _ = _
  have e1 := fSubA_l (m := 0) h
  simp [iDef, b__law_shaped, e1]
theorem sh_item (xs : List PV) (i : Int) (h : st[p]? = some (.lst [vL xs, vI i])) : FF (n + 1) 26 [.str S_item, .ref p] st = some (itemR xs i, st) := by
  show iDef 2 4 (b__law_shaped (FF n)) _ _ = _
  have e1 := fSubA_l (m := 0) h
  have e2 := fSubA_l (m := 1) h
  by_cases hi : 0 ≤ i ∧ i < xs.length
  · have e := atI_getD hi
    have h0 : ¬ i < 0 := by omega
    have h1 : ¬ (xs.length : Int) ≤ i := by omega
    simp [iDef, b__law_shaped, e1, e2, h0, h1, e, itemR, hi.1, hi.2]
  · by_cases h0 : i < 0
    · have h1 : ¬ 0 ≤ i := by omega
      simp [iDef, b__law_shaped, e1, e2, h0, itemR, h1]
    · have h1 : (xs.length : Int) ≤ i := by omega
      have h2 : ¬ i < (xs.length : Int) := by omega
      simp [iDef, b__law_shaped, e1, e2, h0, h1, itemR, h2]
theorem sh_sizeT (t : Str) (hl : t.length ≤ 60) (h : st[p]? = some (.lst [vT t])) : FF (n + 1) 26 [.str S_size, .ref p] st = some (ok (vI t.length), st) := by
  show iDef 2 4 (b__law_shaped (FF n)) _ _ = _
  have e1 := fSubA_l (m := 0) h
  have : t.length ≤ 100000 := by omega
  simp [iDef, b__law_shaped, e1, this]
theorem sh_sizeL (xs : List PV) (h : st[p]? = some (.lst [vL xs])) : FF (n + 1) 26 [.str S_size, .ref p] st = some (ok (vI xs.length), st) := by
  show iDef 2 4 (b__law_shaped (FF n)) _ _ = _
  have e1 := fSubA_l (m := 0) h
  simp [iDef, b__law_shaped, e1]
theorem sh_textI (z : Int) (hz : InB z) (h : st[p]? = some (.lst [vI z])) : FF (n + 1) 26 [.str S_textx20of, .ref p] st = some (ok (vT (str z)), st) := by
  show iDef 2 4 (b__law_shaped (FF n)) _ _ = _
  have e1 := fSubA_l (m := 0) h
  simp [iDef, b__law_shaped, e1, -fStr_i, fStr_b hz]
theorem sh_textB (b : Bool) (h : st[p]? = some (.lst [vB b])) : ∃ l, FF (n + 1) 26 [.str S_textx20of, .ref p] st = some (ok (vT (bstr b)), st ++ l) := by
  refine ⟨[.lst [.str S_false, .str S_true]], ?_⟩
  show iDef 2 4 (b__law_shaped (FF n)) _ _ = _
  have e1 := fSubA_l (m := 0) h
  have e1' := fSubA_l (m := 0) (old_at (l := [.lst [.str S_false, .str S_true]]) h)
  have e2 := fun m => fSubA_l (m := m) (new_at (st := st) (o := .lst [.str S_false, .str S_true]))
  cases b <;> simp [iDef, b__law_shaped, e1, e1', e2, bstr]
/-! ### is_value, is_of -/
def goodC (k : Nat) : Bool := decide (32 ≤ k ∧ k ≤ 126)
theorem e_letter (k : Nat) : FF (n + 1) 1 [.str ⟨#[k]⟩] st = some (.bl (goodC k), st) := by
  unfold goodC
  show iDef 1 1 (b_is_letter (FF n)) _ _ = _
  have h1 : ltS ⟨#[k]⟩ S_x20 = decide (k < 32) := by
    rw [show S_x20 = ⟨#[32]⟩ by decide +kernel]
    unfold ltS
    simp [List.cons_lt_cons_iff]
  have h2 : ltS S_x7e ⟨#[k]⟩ = decide (126 < k) := by
    rw [show S_x7e = ⟨#[126]⟩ by decide +kernel]
    unfold ltS
    simp [List.cons_lt_cons_iff]
  by_cases a : k < 32
  · have b : ¬ 32 ≤ k := by omega
    simp [iDef, b_is_letter, h1, a, b]
  · have b : 32 ≤ k := by omega
    by_cases d : 126 < k
    · have f : ¬ k ≤ 126 := by omega
      simp [iDef, b_is_letter, h1, h2, a, b, d, f]
    · have f : k ≤ 126 := by omega
      simp [iDef, b_is_letter, h1, h2, a, b, d, f]
theorem mapO_bls {α : Type} (f : α → Bool) : ∀ xs : List α, mapO isBl (xs.map fun x => .bl (f x)) = some (xs.map f)
  | [] => rfl
  | x :: xs => by rw [List.map_cons, mapO_cons, mapO_bls f xs]; rfl
theorem e_boundI (z : Int) (d : Int) : FF (n + 1) 3 [vI z, .int d] st = some (.bl (decide (-1000000000000 ≤ z ∧ z ≤ 1000000000000)), st) := by
  show iDef 2 4 (b__bounded_at (FF n)) _ _ = _
  by_cases h1 : -1000000000000 ≤ z <;> by_cases h2 : z ≤ 1000000000000 <;> simp [iDef, b__bounded_at, h1, h2]
theorem e_boundB (b : Bool) (d : Int) : FF (n + 1) 3 [vB b, .int d] st = some (.bl true, st) := by
  show iDef 2 4 (b__bounded_at (FF n)) _ _ = _
  simp [iDef, b__bounded_at]
theorem e_boundN (d : Int) : FF (n + 1) 3 [vN, .int d] st = some (.bl true, st) := by
  show iDef 2 4 (b__bounded_at (FF n)) _ _ = _
  simp [iDef, b__bounded_at]
def lettersOk (t : Str) : Bool := decide (t.length ≤ 60) && t.cps.toList.all fun k => goodC k
theorem e_boundT (t : Str) (d : Int) (hl : t.length < 1000) : ∃ l, FF (n + 2) 3 [vT t, .int d] st = some (.bl (lettersOk t), st ++ l) := by
  show ∃ l, iDef 2 4 (b__bounded_at (FF (n + 1))) _ _ = _
  have h1 : t.length ≤ 100000 := by omega
  by_cases h6 : t.length ≤ 60
  · have h6' : (t.length : Int) ≤ 60 := by omega
    obtain ⟨l, hlc⟩ := iLc_str (ie := iBin fSubA (iVar 0) (iC (.int 1))) (e := iCall (FF (n + 1) 1) (iCons (iVar 3) iNil)) (ig := gN 3) (t := iYes) (vs := [3]) (env := [some (vT t), some (.int d), none, none]) (st := st) (s1 := st) (x := t)
      (fun y => match y with | .str z => .bl (goodC (z.cps.getD 0 0)) | _ => .non) (by simp) (by omega) fun k hk s' => ⟨[some (vT t), some (.int d), none, some (.str ⟨#[k]⟩)], [], rfl, rfl, by simp [e_letter]⟩
    rw [List.map_map] at hlc
    have hm : ((fun y => match y with | PV.str z => PV.bl (goodC (z.cps.getD 0 0)) | _ => PV.non) ∘ fun k => PV.str ⟨#[k]⟩) = fun k => PV.bl (goodC k) := by
      funext k; rfl
    rw [hm] at hlc
    have hat : (st ++ [SO.lst (t.cps.toList.map fun k => PV.bl (goodC k))] ++ l)[st.length]? = some (.lst (t.cps.toList.map fun k => PV.bl (goodC k))) := at_mid
    have hb : blsOf (st ++ [SO.lst (t.cps.toList.map fun k => PV.bl (goodC k))] ++ l) (.ref st.length) = some (t.cps.toList.map fun k => goodC k) := by
      unfold blsOf
      rw [listOf_r, hat]
      simp only
      rw [mapO_bls]
    refine ⟨[SO.lst (t.cps.toList.map fun k => PV.bl (goodC k))] ++ l, ?_⟩
    simp only [List.append_assoc, List.cons_append, List.nil_append] at hb hlc
    simp [iDef, b__bounded_at, h1, h6', hlc, hb, lettersOk, h6, List.all_map]
  · have h6' : ¬ (t.length : Int) ≤ 60 := by omega
    refine ⟨[], ?_⟩
    simp [iDef, b__bounded_at, h1, h6', lettersOk, h6]
end
end M30

namespace M30
open PySem PySem.Spec PyProof.Rows L2 IL
section
variable {n m : Nat} {st : Sto} {s c : Nat}
theorem iWhile_ex : ∃ k : Nat, ∀ (t : IT) (body : IS) (env : PEnv) (st : Sto), iWhile t body env st = wloop t body (k + 10) env st := ⟨999990, fun t body env st => by unfold iWhile bigN; rfl⟩
theorem wloop_s {t : IT} {body : IS} {m : Nat} {env : PEnv} {st : Sto} : wloop t body (m + 1) env st = match t env st with
    | none => none
    | some (false, s) => some (.nx env s)
    | some (true, s) => match body env s with
      | some (.nx e s) => wloop t body m e s
      | some (.ct e s) => wloop t body m e s
      | some (.bk e s) => some (.nx e s)
      | some (.rt v s) => some (.rt v s)
      | none => none := rfl
/-- a list's items one by one -/
theorem e_boundL (f : PV → Bool) {xs : List PV} {d : Int} (h : ∀ x ∈ xs, ∀ st : Sto, ∃ l, FF m 3 [x, .int (d + 1)] st = some (.bl (f x), st ++ l)) (hd : d ≠ 6) (hl : xs.length < 1000) : ∃ l, FF (m + 1) 3 [vL xs, .int d] st = some (.bl (decide (xs.length ≤ 20) && xs.all f), st ++ l) := by
  show ∃ l, iDef 2 4 (b__bounded_at (FF m)) _ _ = _
  have hd' : (d == 6) = false := by simpa using hd
  by_cases h6 : xs.length ≤ 20
  · have h6' : ¬ (20 : Int) < (xs.length : Int) := by omega
    obtain ⟨l, hlc⟩ := iLc_tup (ie := iBin fSubA (iVar 0) (iC (.int 1))) (e := iCall (FF m 3) (iCons (iVar 2) (iCons (iBin fAdd (iVar 1) (iC (.int 1))) iNil))) (ig := gN 2) (t := iYes) (vs := [2]) (env := [some (vL xs), some (.int d), none, none]) (st := st) (s1 := st) (xs := xs)
      (fun y => .bl (f y)) (by simp) (by omega) fun x hx s' => by
        obtain ⟨l, e⟩ := h x hx s'
        exact ⟨[some (vL xs), some (.int d), some x, none], l, rfl, rfl, by simp [e]⟩
    have hat : (st ++ [SO.lst (xs.map fun y => PV.bl (f y))] ++ l)[st.length]? = some (.lst (xs.map fun y => PV.bl (f y))) := at_mid
    have hb : blsOf (st ++ [SO.lst (xs.map fun y => PV.bl (f y))] ++ l) (.ref st.length) = some (xs.map f) := by
      unfold blsOf
      rw [listOf_r, hat]
      simp only
      rw [mapO_bls]
    refine ⟨[SO.lst (xs.map fun y => PV.bl (f y))] ++ l, ?_⟩
    simp only [List.append_assoc, List.cons_append, List.nil_append] at hb hlc
    simp [iDef, b__bounded_at, hd', h6', hlc, hb, h6, List.all_map]
  · have h6' : (20 : Int) < (xs.length : Int) := by omega
    refine ⟨[], ?_⟩
    simp [iDef, b__bounded_at, hd', h6', h6]
theorem e_bounded {x : PV} {b : Bool} (h : ∃ l, FF m 3 [x, .int 0] st = some (.bl b, st ++ l)) : ∃ l, FF (m + 1) 4 [x] st = some (.bl b, st ++ l) := by
  obtain ⟨l, e⟩ := h
  refine ⟨l, ?_⟩
  show iDef 1 1 (b_is_bounded (FF m)) _ _ = _
  simp [iDef, b_is_bounded, e]
theorem e_value {x k : PV} {b : Bool} (h : ∃ l, FF m 4 [x] st = some (.bl b, st ++ l)) (hk : ∀ st : Sto, ∃ l, FF m 6 [x] st = some (k, st ++ l)) (hn : isBool false k = false) : ∃ l, FF (m + 1) 20 [x] st = some (.bl b, st ++ l) := by
  obtain ⟨l, e⟩ := h
  show ∃ l, iDef 1 1 (b_is_value (FF m)) _ _ = _
  cases b with
  | false => exact ⟨l, by simp [iDef, b_is_value, e]⟩
  | true =>
    obtain ⟨l2, e2⟩ := hk (st ++ l)
    exact ⟨l ++ l2, by simp [iDef, b_is_value, e, e2, hn]⟩
/-- not looked at -/
theorem e_value_no {x : PV} (h : ∃ l, FF m 4 [x] st = some (.bl false, st ++ l)) : ∃ l, FF (m + 1) 20 [x] st = some (.bl false, st ++ l) := by
  obtain ⟨l, e⟩ := h
  exact ⟨l, by show iDef 1 1 (b_is_value (FF m)) _ _ = _; simp [iDef, b_is_value, e]⟩
theorem e_known0 {t : Nat} (ht : t < 32) (hne : t ≠ 2) {xs : List PV} {x : PV} (hx : x = .tup (.str (Sx t) :: xs)) : FF (n + 1) 6 [x] st = some (.str (Sx t), st) := by
  show iDef 1 3 (b_known_type (FF n)) _ _ = _
  subst hx
  simp [iDef, b_known_type, ht, hne]
theorem e_join0 (k : PV) : FF (n + 1) 7 [.non, k] st = some (k, st) := by
  show iDef 2 3 (b_joined (FF n)) _ _ = _
  simp [iDef, b_joined]
theorem e_join1 {i : Nat} (hi : i < 32) : FF (n + 1) 7 [.str (Sx i), .str (Sx i)] st = some (.str (Sx i), st) := by
  show iDef 2 3 (b_joined (FF n)) _ _ = _
  simp [iDef, b_joined, hi]
theorem e_knownL {xs : List PV} (h : ∀ x ∈ xs, ∃ ys, x = .tup (.str S_int :: ys)) : FF (n + 2) 6 [vL xs] st = some (.tup [.str S_list, if xs = [] then .non else .str S_int], st) := by
  show iDef 1 3 (b_known_type (FF (n + 1))) _ _ = _
  obtain ⟨e', s', h1, h2⟩ := loop_inv (at_ := (srcT xs).at_) (ig := gN 2) (body := iSeq (iAsg (gN 1) (iCall (FF (n + 1) 7) (iCons (iVar 1) (iCons (iCall (FF (n + 1) 6) (iCons (iVar 2) iNil)) iNil)))) (iIfS (iTestB (iBin fIs (iVar 1) (iC (.bl false)))) (iRet (iC (.bl false))) iSkip))
    (fun i e s' => s' = st ∧ ∃ y, e = [some (vL xs), some (if i = 0 then .non else .str S_int), y]) xs.length (fun e s' _ => by simp [srcT]) (fun i e s' hi ⟨hs, y, he⟩ => by
      subst hs he
      obtain ⟨ys, hx⟩ := h xs[i] (List.getElem_mem hi)
      have ek := e_known0 (n := n) (st := s') (t := 3) (by omega) (by omega) hx
      refine ⟨xs[i], _, [some (vL xs), some (.str S_int), some xs[i]], s', by simp [srcT, hi], rfl, .inl ?_, rfl, some xs[i], by simp⟩
      by_cases h0 : i = 0
      · simp [h0, e_join0, ek] at ek ⊢
        simp [ek, e_join0]
      · simp [h0, ek, e_join1]) (xs.length + 1) 0 [some (vL xs), some .non, none] st ⟨rfl, none, rfl⟩ (by omega) (by omega)
  obtain ⟨rfl, y, rfl⟩ := h2
  have hn : (srcT xs).n = xs.length := rfl
  simp [iDef, b_known_type, hn, h1]
end
end M30

namespace M30
open PySem PySem.Spec PyProof.Rows L2 IL
section
variable {n m : Nat} {st : Sto} {s c : Nat}
def simpleK (j : Nat) : Bool := j == 3 || j == 15 || j == 4 || j == 30
theorem in_simple {j : Nat} (hj : j < 32) : inA st (.str (Sx j)) c_SIMPLE_KINDS = some (simpleK j) := by
  simp [hj]
  exact (by decide : ∀ j : Fin 32, (decide (3 = j.1) || (decide (15 = j.1) || (decide (4 = j.1) || decide (30 = j.1)))) = simpleK j.1) ⟨j, hj⟩
theorem e_type0 {j : Nat} (hj : j < 32) : FF (n + 1) 0 [.str (Sx j)] st = some (.bl (simpleK j), st) := by
  show iDef 1 3 (b_is_type (FF n)) _ _ = _
  obtain ⟨k, hw⟩ := iWhile_ex
  have e := in_simple (st := st) hj
  cases hb : simpleK j <;> rw [hb] at e <;> simp [iDef, b_is_type, hw, wloop_s, -inA_st, e]
theorem e_type1 {j : Nat} (hj : j < 32) : FF (n + 1) 0 [.tup [.str S_list, .str (Sx j)]] st = some (.bl (simpleK j), st) := by
  show iDef 1 3 (b_is_type (FF n)) _ _ = _
  obtain ⟨k, hw⟩ := iWhile_ex
  have e := in_simple (st := st) hj
  cases hb : simpleK j <;> rw [hb] at e <;> simp [iDef, b_is_type, hw, wloop_s, -inA_st, e]
theorem e_type2 {j : Nat} (hj : j < 32) : FF (n + 1) 0 [.tup [.str S_list, .tup [.str S_list, .str (Sx j)]]] st = some (.bl (simpleK j), st) := by
  show iDef 1 3 (b_is_type (FF n)) _ _ = _
  obtain ⟨k, hw⟩ := iWhile_ex
  have e := in_simple (st := st) hj
  cases hb : simpleK j <;> rw [hb] at e <;> simp [iDef, b_is_type, hw, wloop_s, -inA_st, e]
theorem e_fits0 {t j : Nat} (ht : t < 32) (hne : t ≠ 2) (hj : j < 32) {xs : List PV} {x : PV} (hx : x = .tup (.str (Sx t) :: xs)) : FF (n + 1) 5 [x, .str (Sx j)] st = some (.bl (decide (t = j)), st) := by
  show iDef 2 3 (b_fits (FF n)) _ _ = _
  subst hx
  simp [iDef, b_fits, ht, hne, hj]
theorem e_fits1 {t : Nat} (ht : t < 32) (hne : t ≠ 2) {xs ks : List PV} {x : PV} (hx : x = .tup (.str (Sx t) :: xs)) (hk : gd (.tup ks) 60 = true) : FF (n + 1) 5 [x, .tup ks] st = some (.bl false, st) := by
  show iDef 2 3 (b_fits (FF n)) _ _ = _
  subst hx
  have e : eqP st (.str (Sx t)) (.tup ks) = some false := by
    rw [eqP_gd (by simp [gd, ht]) hk]
    simp [datP, PyData.eqv]
  simp [iDef, b_fits, ht, hne, e]
theorem e_fitsN {j : Nat} (hj : j < 32) {xs : List PV} : FF (n + 1) 5 [vL xs, .str (Sx j)] st = some (.bl false, st) := by
  show iDef 2 3 (b_fits (FF n)) _ _ = _
  simp [iDef, b_fits]
theorem e_fitsL (f : PV → Bool) {xs : List PV} {k : PV} (h : ∀ x ∈ xs, ∀ st : Sto, ∃ l, FF m 5 [x, k] st = some (.bl (f x), st ++ l)) (hl : xs.length < 1000) : ∃ l, FF (m + 1) 5 [vL xs, .tup [.str S_list, k]] st = some (.bl (xs.all f), st ++ l) := by
  show ∃ l, iDef 2 3 (b_fits (FF m)) _ _ = _
  obtain ⟨l, hlc⟩ := iLc_tup (ie := iBin fSubA (iVar 0) (iC (.int 1))) (e := iCall (FF m 5) (iCons (iVar 2) (iCons (iBin fSubA (iVar 1) (iC (.int 1))) iNil))) (ig := gN 2) (t := iYes) (vs := [2]) (env := [some (vL xs), some (.tup [.str S_list, k]), none]) (st := st) (s1 := st) (xs := xs)
    (fun y => .bl (f y)) (by simp) (by omega) fun x hx s' => by
      obtain ⟨l, e⟩ := h x hx s'
      exact ⟨[some (vL xs), some (.tup [.str S_list, k]), some x], l, rfl, rfl, by simp [e]⟩
  have hat : (st ++ [SO.lst (xs.map fun y => PV.bl (f y))] ++ l)[st.length]? = some (.lst (xs.map fun y => PV.bl (f y))) := at_mid
  have hb : blsOf (st ++ [SO.lst (xs.map fun y => PV.bl (f y))] ++ l) (.ref st.length) = some (xs.map f) := by
    unfold blsOf
    rw [listOf_r, hat]
    simp only
    rw [mapO_bls]
  refine ⟨[SO.lst (xs.map fun y => PV.bl (f y))] ++ l, ?_⟩
  simp only [List.append_assoc, List.cons_append, List.nil_append] at hb hlc
  simp [iDef, b_fits, hlc, hb, List.all_map]
/-- is_of, by its three parts -/
theorem e_of {x k : PV} {a b d : Bool} (h1 : ∀ st : Sto, FF m 0 [k] st = some (.bl a, st)) (h2 : ∀ st : Sto, ∃ l, FF m 20 [x] st = some (.bl b, st ++ l)) (h3 : ∀ st : Sto, ∃ l, FF m 5 [x, k] st = some (.bl d, st ++ l)) : ∃ l, FF (m + 1) 21 [x, k] st = some (.bl (a && b && d), st ++ l) := by
  show ∃ l, iDef 2 2 (b_is_of (FF m)) _ _ = _
  obtain ⟨l2, e2⟩ := h2 st
  obtain ⟨l3, e3⟩ := h3 (st ++ l2)
  have e1 := h1 st
  cases a
  · exact ⟨[], by simp [iDef, b_is_of, e1]⟩
  · cases b
    · exact ⟨l2, by simp [iDef, b_is_of, e1, e2]⟩
    · exact ⟨l2 ++ l3, by simp [iDef, b_is_of, e1, e2, e3]⟩
theorem app_nil {α : Type} {o : Option (α × Sto)} {a : α} (h : o = some (a, st)) : ∃ l, o = some (a, st ++ l) := ⟨[], by rw [List.append_nil]; exact h⟩
/-! ### the values of the law -/
theorem v_I (z : Int) : ∀ st : Sto, ∃ l, FF (n + 3) 20 [vI z] st = some (.bl (decide (-1000000000000 ≤ z ∧ z ≤ 1000000000000)), st ++ l) := fun st =>
  e_value (m := n + 2) (k := .str S_int) (e_bounded (m := n + 1) (app_nil (e_boundI z 0))) (fun st => app_nil (e_known0 (n := n + 1) (t := 3) (by omega) (by omega) rfl)) rfl
theorem of_I (z : Int) : ∀ st : Sto, ∃ l, FF (n + 4) 21 [vI z, .str S_int] st = some (.bl (decide (-1000000000000 ≤ z ∧ z ≤ 1000000000000)), st ++ l) := fun st => by
  have e := e_of (m := n + 3) (st := st) (x := vI z) (k := .str S_int) (fun st => e_type0 (n := n + 2) (j := 3) (by omega)) (v_I (n := n) z) (fun st => app_nil (e_fits0 (n := n + 2) (t := 3) (j := 3) (by omega) (by omega) (by omega) rfl))
  simpa [simpleK] using e
theorem v_T (t : Str) (hl : t.length < 1000) : ∀ st : Sto, ∃ l, FF (n + 4) 20 [vT t] st = some (.bl (lettersOk t), st ++ l) := fun st =>
  e_value (m := n + 3) (k := .str S_text) (e_bounded (m := n + 2) (e_boundT t 0 hl)) (fun st => app_nil (e_known0 (n := n + 2) (t := 4) (by omega) (by omega) rfl)) rfl
theorem of_T (t : Str) (hl : t.length < 1000) : ∀ st : Sto, ∃ l, FF (n + 5) 21 [vT t, .str S_text] st = some (.bl (lettersOk t), st ++ l) := fun st => by
  have e := e_of (m := n + 4) (st := st) (x := vT t) (k := .str S_text) (fun st => e_type0 (n := n + 3) (j := 4) (by omega)) (v_T (n := n) t hl) (fun st => app_nil (e_fits0 (n := n + 3) (t := 4) (j := 4) (by omega) (by omega) (by omega) rfl))
  simpa [simpleK] using e
def inBI : PV → Bool
  | .tup [_, .int z] => decide (-1000000000000 ≤ z ∧ z ≤ 1000000000000)
  | _ => false
theorem v_L (is : List Int) (hl : is.length < 1000) : ∀ st : Sto, ∃ l, FF (n + 4) 20 [vL (is.map vI)] st = some (.bl (decide (is.length ≤ 20) && (is.map vI).all inBI), st ++ l) := fun st => by
  have e := e_value (m := n + 3) (st := st) (x := vL (is.map vI)) (k := .tup [.str S_list, if is.map vI = [] then .non else .str S_int]) (e_bounded (m := n + 2) (e_boundL (m := n + 1) inBI (fun x hx st => by
    obtain ⟨i, _, rfl⟩ := List.mem_map.mp hx
    exact app_nil (e_boundI i _)) (by omega) (by rw [List.length_map]; exact hl))) (fun st => app_nil (e_knownL (n := n + 1) fun x hx => by
    obtain ⟨i, _, rfl⟩ := List.mem_map.mp hx
    exact ⟨_, rfl⟩)) rfl
  rw [List.length_map] at e
  exact e
theorem of_L (is : List Int) (hl : is.length < 1000) : ∀ st : Sto, ∃ l, FF (n + 5) 21 [vL (is.map vI), .tup [.str S_list, .str S_int]] st = some (.bl (decide (is.length ≤ 20) && (is.map vI).all inBI), st ++ l) := fun st => by
  have hf : ∀ st : Sto, ∃ l, FF (n + 4) 5 [vL (is.map vI), .tup [.str S_list, .str S_int]] st = some (.bl ((is.map vI).all fun _ => true), st ++ l) := fun st => e_fitsL (m := n + 3) (fun _ => true) (fun x hx st => by
    obtain ⟨i, _, rfl⟩ := List.mem_map.mp hx
    exact app_nil (e_fits0 (n := n + 2) (t := 3) (j := 3) (by omega) (by omega) (by omega) rfl)) (by rw [List.length_map]; exact hl)
  have e := e_of (m := n + 4) (st := st) (fun st => e_type1 (n := n + 3) (j := 3) (by omega)) (v_L (n := n) is hl) hf
  have ha : ((is.map vI).all fun _ => true) = true := by rw [List.all_eq_true]; intros; rfl
  rw [ha] at e
  simpa [simpleK] using e
/-! ### lists of lists -/
abbrev deep : PV := vL [vL [vB true], vL []]
theorem v_deep : ∀ st : Sto, ∃ l, FF (n + 5) 20 [deep] st = some (.bl true, st ++ l) := fun st => by
  refine e_value (m := n + 4) (k := .tup [.str S_list, .tup [.str S_list, .str S_bool]]) (e_bounded (m := n + 3) ?_) ?_ rfl
  · have e := e_boundL (m := n + 2) (st := st) (xs := [vL [vB true], vL []]) (d := 0) (fun _ => true) (fun x hx st => by
      simp at hx
      rcases hx with rfl | rfl
      · have e := e_boundL (m := n + 1) (st := st) (xs := [vB true]) (d := 0 + 1) (fun _ => true) (fun x hx st => by
          simp at hx
          subst hx
          exact app_nil (e_boundB true _)) (by omega) (by decide)
        simpa using e
      · have e := e_boundL (m := n + 1) (st := st) (xs := []) (d := 0 + 1) (fun _ => true) (fun x hx st => by simp at hx) (by omega) (by decide)
        simpa using e) (by omega) (by decide)
    simpa using e
  · intro st
    apply app_nil
    have k1 : ∀ st : Sto, FF (n + 3) 6 [vL [vB true]] st = some (.tup [.str S_list, .str S_bool], st) := fun st => by
      show iDef 1 3 (b_known_type (FF (n + 2))) _ _ = _
      have e := e_known0 (n := n + 1) (st := st) (t := 15) (x := vB true) (by omega) (by omega) rfl
      simp [iDef, b_known_type, srcT, loop, e, e_join0]
    have k2 : ∀ st : Sto, FF (n + 3) 6 [vL []] st = some (.tup [.str S_list, .non], st) := fun st => by
      show iDef 1 3 (b_known_type (FF (n + 2))) _ _ = _
      simp [iDef, b_known_type, srcT, loop]
    have j1 : ∀ st : Sto, FF (n + 3) 7 [.tup [.str S_list, .str S_bool], .tup [.str S_list, .non]] st = some (.tup [.str S_list, .str S_bool], st) := fun st => by
      show iDef 2 3 (b_joined (FF (n + 2))) _ _ = _
      have e1 : eqP st (.tup [.str S_list, .str S_bool]) (.tup [.str S_list, .non]) = some false := by
        rw [eqP_gd (by simp [gd, gds]) (by simp [gd, gds])]
        simp [datP, datPs, PyData.eqv, PyData.eqvAll]
      have e3 : eqP st (.str S_bool) .non = some false := by
        rw [eqP_gd (by simp [gd]) (by simp [gd])]
        simp [datP, PyData.eqv]
      have e2 : FF (n + 2) 7 [.str S_bool, .non] st = some (.str S_bool, st) := by
        show iDef 2 3 (b_joined (FF (n + 1))) _ _ = _
        simp [iDef, b_joined, e3]
      simp [iDef, b_joined, e1, e2]
    show iDef 1 3 (b_known_type (FF (n + 3))) _ _ = _
    simp [iDef, b_known_type, srcT, loop, k1, k2, e_join0, j1]
theorem fits_deep (b : Bool) {j : Nat} (hj : j < 32) (hb : decide (15 = j) = b) : ∀ st : Sto, ∃ l, FF (n + 5) 5 [deep, .tup [.str S_list, .tup [.str S_list, .str (Sx j)]]] st = some (.bl b, st ++ l) := fun st => by
  have e := e_fitsL (m := n + 4) (st := st) (xs := [vL [vB true], vL []]) (k := .tup [.str S_list, .str (Sx j)]) (fun x => match x with | .tup [_, .tup []] => true | _ => b) (fun x hx st => by
    simp at hx
    rcases hx with rfl | rfl
    · have e := e_fitsL (m := n + 3) (st := st) (xs := [vB true]) (k := .str (Sx j)) (fun _ => b) (fun x hx st => by
        simp at hx
        subst hx
        rw [← hb]
        exact app_nil (e_fits0 (n := n + 2) (t := 15) (by omega) (by omega) hj rfl)) (by decide)
      simpa using e
    · have e := e_fitsL (m := n + 3) (st := st) (xs := []) (k := .str (Sx j)) (fun _ => b) (fun x hx st => by simp at hx) (by decide)
      simpa using e) (by decide)
  simpa using e
end
end M30

namespace M30
open PySem PySem.Spec PyProof.Rows L2 IL
/-! ### calls that only add to the store -/
def Ext (a b : Sto) : Prop := ∃ l, b = a ++ l
theorem Ext.refl {a : Sto} : Ext a a := ⟨[], by simp⟩
theorem Ext.trans {a b c : Sto} (h : Ext a b) (k : Ext b c) : Ext a c := by
  obtain ⟨l, rfl⟩ := h
  obtain ⟨m, rfl⟩ := k
  exact ⟨l ++ m, by simp⟩
theorem Ext.app {a b l : Sto} (h : Ext a b) : Ext a (b ++ l) := h.trans ⟨l, rfl⟩
theorem Ext.at {a b : Sto} {n : Nat} {o : SO} (h : Ext a b) (e : a[n]? = some o) : b[n]? = some o := by
  obtain ⟨l, rfl⟩ := h
  exact old_at e
def Pu (F : FA) (as : List PV) (v : PV) : Prop := ∃ g : Sto → Sto, (∀ st, F as st = some (v, g st)) ∧ ∀ st, Ext st (g st)
theorem pu {F : FA} {as : List PV} {v : PV} (h : ∀ st : Sto, ∃ l, F as st = some (v, st ++ l)) : Pu F as v :=
  ⟨fun st => st ++ Classical.choose (h st), fun st => Classical.choose_spec (h st), fun st => ⟨_, rfl⟩⟩
theorem pu0 {F : FA} {as : List PV} {v : PV} (h : ∀ st : Sto, F as st = some (v, st)) : Pu F as v := ⟨id, h, fun _ => Ext.refl⟩
theorem for_go {n : Nat} {ig : IG} {body : IS} (I : PEnv → Prop) (all : List PV) (h : ∀ x ∈ all, ∀ e, I e → ∀ s, ∃ e1 e2 s2, ig x e s = some e1 ∧ body e1 s = some (.nx e2 s2) ∧ Ext s s2 ∧ I e2) :
    ∀ (ys pre : List PV) (e : PEnv) (s : Sto), all = pre ++ ys → s[n]? = some (.lst all) → I e → ∃ e2 s2, loop (srcL n all.length).at_ ig body (ys.length + 1) pre.length e s = some (.nx e2 s2) ∧ Ext s s2 ∧ I e2
  | [], pre, e, s, he, hs, hI => by
    rw [List.append_nil] at he
    subst he
    refine ⟨e, s, ?_, Ext.refl, hI⟩
    unfold loop
    simp [srcL, hs]
  | y :: ys, pre, e, s, he, hs, hI => by
    obtain ⟨e1, e2, s2, h1, h2, h3, h4⟩ := h y (by rw [he]; simp) e hI s
    obtain ⟨e3, s3, h5, h6, h7⟩ := for_go (n := n) I all h ys (pre ++ [y]) e2 s2 (by rw [he]; simp) (h3.at hs) h4
    refine ⟨e3, s3, ?_, h3.trans h6, h7⟩
    have hat : (srcL n all.length).at_ s pre.length = some (some y) := by
      simp only [srcL, hs]
      rw [he, List.getElem?_append_right (Nat.le_refl _), Nat.sub_self]; rfl
    show loop _ _ _ (ys.length + 1 + 1) _ _ _ = _
    conv => lhs; unfold loop
    simp only [hat, h1, h2]
    rw [List.length_append] at h5
    exact h5
/-- for x in [..] -/
theorem for_list {ir : IA} {ig : IG} {body : IS} {env : PEnv} {st : Sto} {xs : List PV} (I : PEnv → Prop) (hir : ir env st = some (xs, st)) (hl : xs.length ≤ 100000) (hI : I env)
    (h : ∀ x ∈ xs, ∀ e, I e → ∀ s, ∃ e1 e2 s2, ig x e s = some e1 ∧ body e1 s = some (.nx e2 s2) ∧ Ext s s2 ∧ I e2) :
    ∃ e2 s2, iFor (iWalk (iLst ir)) ig body env st = some (.nx e2 s2) ∧ Ext st s2 ∧ I e2 := by
  obtain ⟨e2, s2, h1, h2, h3⟩ := for_go (n := st.length) I xs h xs [] env (st ++ [.lst xs]) rfl new_at hI
  refine ⟨e2, s2, ?_, Ext.trans ⟨_, rfl⟩ h2, h3⟩
  simp only [iFor_e, iWalk_e, iLst_e, hir, ob_s, if_pos hl, new_at]
  exact h1
section
variable {n m : Nat} {st : Sto} {s c : Nat}
/-! ### the state of the law -/
theorem e_state (ns : List Int) : ∃ s c st', FF (n + 1) 22 [.frz (ns.map .int)] st = some (.ref s, st') ∧ LS st' s c := by
  show ∃ s c st', iDef 1 3 (b__law_state (FF n)) _ _ = _ ∧ _
  have hcut : ∃ is : List Int, cutP (ns.map PV.int) none (some 63) = is.map PV.int ∧ is.length ≤ 63 := by
    refine ⟨ns.take (min 63 ns.length), ?_, by rw [List.length_take]; omega⟩
    unfold cutP
    rw [List.map_take, List.length_map, HT.sIx_none, Nat.sub_zero, List.drop_zero]
    rw [show (some 63 : Option Int) = some ((63 : Nat) : Int) from rfl, HT.sIx_nat]
  obtain ⟨is, hc, hl⟩ := hcut
  obtain ⟨acc, s2, h1, h2⟩ := lc_inv (at_ := (srcL st.length (is.map PV.int).length).at_) (ig := gN 2) (t := iYes) (e := iCall (a1 fAbs) (iCons (iVar 2) iNil)) (d := st.length + 1) (envw := [some (.frz (ns.map .int)), none, none])
    (I := fun i acc s' => ∃ js : List Int, acc = js.map PV.int ∧ (∀ z ∈ js, 0 ≤ z) ∧ js.length = i ∧ s' = st ++ [.lst (is.map .int)] ++ [.lst acc]) (N := is.length)
    (fun acc s' ⟨js, e1, e2, e3, e4⟩ => by
      subst e4
      simp [srcL])
    (fun i acc s' hi ⟨js, e1, e2, e3, e4⟩ => by
      subst e4
      have hat : (srcL st.length (is.map PV.int).length).at_ (st ++ [.lst (is.map PV.int)] ++ [.lst acc]) i = some (some (.int is[i])) := by
        simp [srcL, hi]
      refine ⟨.int is[i], [some (.frz (ns.map .int)), none, some (.int is[i])], .int (if is[i] < 0 then -is[i] else is[i]), st ++ [.lst (is.map PV.int)] ++ [.lst acc], hat, rfl, rfl, by simp, ?_, ?_, js ++ [if is[i] < 0 then -is[i] else is[i]], ?_, ?_, by simp [e3], ?_⟩
      · rw [List.getElem?_append_right (by simp)]; simp
      · rw [e1, List.length_map]; omega
      · rw [e1, List.map_append]; rfl
      · intro z hz
        rcases List.mem_append.mp hz with h | h
        · exact e2 z h
        · simp at h
          rw [h]
          split <;> omega
      · rw [show st.length + 1 = (st ++ [SO.lst (is.map PV.int)]).length by simp]
        exact set_last)
    (is.length + 1) 0 [] (st ++ [.lst (is.map .int)] ++ [.lst []]) ⟨[], rfl, by simp, rfl, rfl⟩ (by omega) (by omega)
  obtain ⟨js, e1, e2, e3, e4⟩ := h2
  subst e4
  have hlc : iLc (iWalk (iSl fSl (iVar 0) iNo (iPart (iC (.int 63))))) (gN 2) iYes (iCall (a1 fAbs) (iCons (iVar 2) iNil)) [2] [some (.frz (ns.map .int)), none, none] st = some (.ref (st.length + 1), st ++ [.lst (is.map .int)] ++ [.lst acc]) := by
    unfold iLc
    simp only [iWalk_e, iSl_e, iVar_e, iNo_e, iPart_e, iC_e, ob_s, List.getElem?_cons_zero, fSl_f, hc, new_at]
    have hw : wipeE [some (PV.frz (ns.map .int)), none, none] [2] = [some (.frz (ns.map .int)), none, none] := rfl
    have hn : (srcL st.length (is.map PV.int).length).n = is.length := by simp [srcL]
    rw [hw, hn]
    rw [show (st ++ [SO.lst (is.map PV.int)]).length = st.length + 1 by simp]
    rw [h1]; rfl
  have hat2 : (st ++ [.lst (is.map PV.int)] ++ [.lst acc])[st.length + 1]? = some (.lst acc) := by
    rw [List.getElem?_append_right (by simp)]; simp
  have hlen := fLen_l hat2
  cases hb : decide (js = []) with
  | true =>
    have hj : js = [] := of_decide_eq_true hb
    subst hj
    subst e1
    refine ⟨st.length + 3, st.length + 2, st ++ [.lst (is.map .int)] ++ [.lst []] ++ [.lst [.int 0]] ++ [.lst [.int 0, .ref (st.length + 2)]], ?_, ⟨by omega, 0, [0], ?_, ?_, by omega, by simp, by simp⟩⟩
    · simp only [List.map_nil, List.append_assoc, List.cons_append, List.nil_append, List.length_nil] at hlc hlen
      simp [iDef, b__law_state, hlc, hlen]
    · rw [List.getElem?_append_right (by simp)]; simp
    · rw [List.getElem?_append_left (by simp), List.getElem?_append_right (by simp)]; simp
  | false =>
    have hj : js ≠ [] := of_decide_eq_false hb
    have hne : ((js.length : Int) == 0) = false := by
      cases js with
      | nil => exact absurd rfl hj
      | cons => simp; omega
    subst e1
    refine ⟨st.length + 2, st.length + 1, st ++ [.lst (is.map .int)] ++ [.lst (js.map .int)] ++ [.lst [.int 0, .ref (st.length + 1)]], ?_, ⟨by omega, 0, js, ?_, ?_, by omega, hj, e2⟩⟩
    · simp only [List.append_assoc, List.cons_append, List.nil_append] at hlc hlen
      rw [List.length_map] at hlen
      simp [iDef, b__law_state, hlc, hlen, hne]
    · rw [List.getElem?_append_right (by simp)]; simp
    · rw [List.getElem?_append_left (by simp)]; exact hat2
end
end M30

namespace M30
open PySem PySem.Spec PyProof.Rows L2 IL
def Goes (p : IS) (env : PEnv) (st : Sto) (Q : PEnv → Sto → Prop) : Prop := ∃ e s, p env st = some (.nx e s) ∧ Q e s
def Ends (p : IS) (env : PEnv) (st : Sto) (v : PV) (Q : Sto → Prop) : Prop := ∃ s, p env st = some (.rt v s) ∧ Q s
section
variable {p q : IS} {env : PEnv} {st : Sto} {v : PV}
theorem ends_seq {R : Sto → Prop} (Q : PEnv → Sto → Prop) (h : Goes p env st Q) (k : ∀ e s, Q e s → Ends q e s v R) : Ends (iSeq p q) env st v R := by
  obtain ⟨e, s, h1, h2⟩ := h
  obtain ⟨s2, h3, h4⟩ := k e s h2
  exact ⟨s2, by rw [iSeq_e, h1]; exact h3, h4⟩
theorem goes_seq {R : PEnv → Sto → Prop} (Q : PEnv → Sto → Prop) (h : Goes p env st Q) (k : ∀ e s, Q e s → Goes q e s R) : Goes (iSeq p q) env st R := by
  obtain ⟨e, s, h1, h2⟩ := h
  obtain ⟨e2, s2, h3, h4⟩ := k e s h2
  exact ⟨e2, s2, by rw [iSeq_e, h1]; exact h3, h4⟩
theorem goes_list {ir : IA} {ig : IG} {body : IS} {xs : List PV} (I : PEnv → Prop) (hir : ir env st = some (xs, st)) (hl : xs.length ≤ 100000) (hI : I env)
    (h : ∀ x ∈ xs, ∀ e, I e → ∀ s, ∃ e1, ig x e s = some e1 ∧ Goes body e1 s fun e2 s2 => Ext s s2 ∧ I e2) : Goes (iFor (iWalk (iLst ir)) ig body) env st fun e2 s2 => Ext st s2 ∧ I e2 :=
  for_list I hir hl hI fun x hx e he s => by
    obtain ⟨e1, h1, e2, s2, h2, h3⟩ := h x hx e he s
    exact ⟨e1, e2, s2, h1, h2, h3⟩
end
theorem rT {st : Sto} : eqP st (.str ("True" : Str)) (.str ("True" : Str)) = some true := by
  rw [eqP_s, if_pos (by decide +kernel)]
  simp
theorem rF {st : Sto} : eqP st (.str ("False" : Str)) (.str ("False" : Str)) = some true := by
  rw [eqP_s, if_pos (by decide +kernel)]
  simp
theorem Goes.mono {p : IS} {env : PEnv} {st : Sto} {Q R : PEnv → Sto → Prop} (h : Goes p env st Q) (k : ∀ e s, Q e s → R e s) : Goes p env st R := by
  obtain ⟨e, s, h1, h2⟩ := h
  exact ⟨e, s, h1, k e s h2⟩
section
variable {n m : Nat} {st : Sto} {s c : Nat}
/-! ### bounds and types of values -/
theorem p_vI (z : Int) (b : Bool) (hb : decide (-1000000000000 ≤ z ∧ z ≤ 1000000000000) = b) : Pu (FF (n + 7) 20) [vI z] (.bl b) := by
  subst hb
  exact pu (v_I (n := n + 4) z)
theorem p_ofI (z : Int) (b : Bool) (hb : decide (-1000000000000 ≤ z ∧ z ≤ 1000000000000) = b) : Pu (FF (n + 7) 21) [vI z, .str S_int] (.bl b) := by
  subst hb
  exact pu (of_I (n := n + 3) z)
theorem p_vT (t : Str) (b : Bool) (hl : t.length < 1000) (hb : lettersOk t = b) : Pu (FF (n + 7) 20) [vT t] (.bl b) := by
  subst hb
  exact pu (v_T (n := n + 3) t hl)
theorem p_ofT (t : Str) (b : Bool) (hl : t.length < 1000) (hb : lettersOk t = b) : Pu (FF (n + 7) 21) [vT t, .str S_text] (.bl b) := by
  subst hb
  exact pu (of_T (n := n + 2) t hl)
theorem p_vL (xs : List PV) (is : List Int) (b : Bool) (e : xs = is.map vI) (hl : is.length < 1000) (hb : (decide (is.length ≤ 20) && (is.map vI).all inBI) = b) : Pu (FF (n + 7) 20) [vL xs] (.bl b) := by
  subst hb
  subst e
  exact pu (v_L (n := n + 3) is hl)
theorem p_deep : Pu (FF (n + 7) 20) [deep] (.bl true) := pu (v_deep (n := n + 2))
theorem p_ofdeep (b : Bool) {j : Nat} (hj : j < 32) (hb : decide (15 = j) = b) (hs : simpleK j = true) : Pu (FF (n + 7) 21) [deep, .tup [.str S_list, .tup [.str S_list, .str (Sx j)]]] (.bl b) := pu fun st => by
  have e := e_of (m := n + 6) (st := st) (fun st => e_type2 (n := n + 5) hj) (v_deep (n := n + 1)) (fits_deep (n := n + 1) b hj hb)
  rw [hs] at e
  simpa using e
theorem p_ofE {j : Nat} (hj : j < 32) (hs : simpleK j = true) : Pu (FF (n + 7) 21) [vL [], .tup [.str S_list, .str (Sx j)]] (.bl true) := pu fun st => by
  have hf : ∀ st : Sto, ∃ l, FF (n + 6) 5 [vL [], .tup [.str S_list, .str (Sx j)]] st = some (.bl true, st ++ l) := fun st => e_fitsL (m := n + 5) (st := st) (xs := []) (k := .str (Sx j)) (fun _ => true) (fun x hx => by simp at hx) (by decide)
  have e := e_of (m := n + 6) (st := st) (fun st => e_type1 (n := n + 5) hj) (v_L (n := n + 2) [] (by decide)) hf
  rw [hs] at e
  simpa using e
theorem p_ofN : Pu (FF (n + 7) 21) [vN, .str S_nothing] (.bl true) := pu fun st => by
  have e := e_of (m := n + 6) (st := st) (x := vN) (k := .str S_nothing) (b := true) (fun st => e_type0 (n := n + 5) (j := 30) (by omega))
    (fun st => e_value (m := n + 5) (k := .str S_nothing) (e_bounded (m := n + 4) (app_nil (e_boundN 0))) (fun st => app_nil (e_known0 (n := n + 4) (t := 30) (by omega) (by omega) rfl)) rfl)
    (fun st => app_nil (e_fits0 (n := n + 5) (t := 30) (j := 30) (by omega) (by omega) (by omega) rfl))
  simpa [simpleK] using e
theorem p_ofB : Pu (FF (n + 7) 21) [vB true, .str S_int] (.bl false) := pu fun st => by
  have e := e_of (m := n + 6) (st := st) (x := vB true) (k := .str S_int) (b := true) (fun st => e_type0 (n := n + 5) (j := 3) (by omega))
    (fun st => e_value (m := n + 5) (k := .str S_bool) (e_bounded (m := n + 4) (app_nil (e_boundB true 0))) (fun st => app_nil (e_known0 (n := n + 4) (t := 15) (by omega) (by omega) rfl)) rfl)
    (fun st => app_nil (e_fits0 (n := n + 5) (t := 15) (j := 3) (by omega) (by omega) (by omega) rfl))
  simpa [simpleK] using e
theorem p_ofLn : Pu (FF (n + 7) 21) [vL [], .str S_int] (.bl false) := pu fun st => by
  have e := e_of (m := n + 6) (st := st) (x := vL []) (k := .str S_int) (fun st => e_type0 (n := n + 5) (j := 3) (by omega)) (v_L (n := n + 2) [] (by decide)) (fun st => app_nil (e_fitsN (n := n + 5) (j := 3) (by omega)))
  simpa [simpleK] using e
theorem p_ofIl : Pu (FF (n + 7) 21) [vI 1, .tup [.str S_list, .str S_int]] (.bl false) := pu fun st => by
  have e := e_of (m := n + 6) (st := st) (x := vI 1) (k := .tup [.str S_list, .str S_int]) (fun st => e_type1 (n := n + 5) (j := 3) (by omega)) (v_I (n := n + 3) 1) (fun st => app_nil (e_fits1 (n := n + 5) (t := 3) (by omega) (by omega) rfl (by simp [gd, gds])))
  simpa [simpleK] using e
theorem e_bounds {x : PV} : ∃ s', FF (n + 8) 30 [x] st = some (.bl true, s') := by
  show ∃ s', iDef 1 7 (b__law_bounds (FF (n + 7))) [x] st = _
  have key : Ends (b__law_bounds (FF (n + 7))) [some x, none, none, none, none, none, none] st (.bl true) fun _ => True := by
    unfold b__law_bounds
    refine ends_seq (fun e s => ∃ o1 o2, e = [some x, o1, o2, none, none, none, none]) ?_ ?_
    · refine Goes.mono (goes_list (xs := [.tup [.int 1000000000001, .bl false], .tup [.int (-1000000000001), .bl false], .tup [.int (-1000000000000), .bl true]]) (fun e => ∃ o1 o2, e = [some x, o1, o2, none, none, none, none]) (by simp) (by simp) ⟨_, _, rfl⟩ (fun y hy e he s => ?_)) (fun _ _ h => h.2)
      obtain ⟨o1, o2, rfl⟩ := he
      have hz : ∃ z b, y = .tup [.int z, .bl b] ∧ decide (-1000000000000 ≤ z ∧ z ≤ 1000000000000) = b := by
        simp at hy
        rcases hy with rfl | rfl | rfl <;> exact ⟨_, _, rfl, by decide⟩
      obtain ⟨z, b, rfl, hb⟩ := hz
      obtain ⟨g1, a1, a2⟩ := p_vI (n := n) z b hb
      obtain ⟨g2, b1, b2⟩ := p_ofI (n := n) z b hb
      refine ⟨[some x, some (.int z), some (.bl b), none, none, none, none], rfl, [some x, some (.int z), some (.bl b), none, none, none, none], g2 (g1 s), ?_, (a2 _).trans (b2 _), _, _, rfl⟩
      cases b <;> simp [a1, b1, rT, rF]
    · rintro e s0 ⟨o1, o2, rfl⟩
      refine ends_seq (fun e s => ∃ o1 o2 o3, e = [some x, o1, o2, o3, none, none, none]) ?_ ?_
      · have k61 : ∀ st, fMul (.str S_x) (.int 61) st = some (.str (repStr S_x 61), st) := fun st => by
          show (if cRep S_x.length 61 then some (PV.str (repStr S_x 61), st) else none) = _
          rw [if_pos (by decide +kernel)]
        have k30 : ∀ st, fMul (.str S_x7ex20) (.int 30) st = some (.str (repStr S_x7ex20 30), st) := fun st => by
          show (if cRep S_x7ex20.length 30 then some (PV.str (repStr S_x7ex20 30), st) else none) = _
          rw [if_pos (by decide +kernel)]
        refine Goes.mono (goes_list (xs := [.tup [vT (repStr S_x 61), .bl false], .tup [vT S_ax09, .bl false], .tup [vT (repStr S_x7ex20 30), .bl true]]) (fun e => ∃ o1 o2 o3, e = [some x, o1, o2, o3, none, none, none]) (by simp [k61, k30]) (by simp) ⟨_, _, _, rfl⟩ (fun y hy e he s => ?_)) (fun _ _ h => h.2)
        obtain ⟨o1, o2, o3, rfl⟩ := he
        have hz : ∃ t b, y = .tup [vT t, .bl b] ∧ t.length < 1000 ∧ lettersOk t = b := by
          simp at hy
          rcases hy with rfl | rfl | rfl <;> exact ⟨_, _, rfl, by decide +kernel, by decide +kernel⟩
        obtain ⟨t, b, rfl, hl, hb⟩ := hz
        obtain ⟨g1, a1, a2⟩ := p_vT (n := n) t b hl hb
        obtain ⟨g2, b1, b2⟩ := p_ofT (n := n) t b hl hb
        refine ⟨[some x, o1, some (.bl b), some (vT t), none, none, none], rfl, [some x, o1, some (.bl b), some (vT t), none, none, none], g2 (g1 s), ?_, (a2 _).trans (b2 _), _, _, _, rfl⟩
        cases b <;> simp [a1, b1, rT, rF]
      · rintro e s1 ⟨o1, o2, o3, rfl⟩
        have k21 : ∀ st, fMul (.tup [vI 1]) (.int 21) st = some (.tup ((List.replicate 21 (1 : Int)).map vI), st) := fun st => rfl
        obtain ⟨g1, a1, _⟩ := p_vL (n := n) ((List.replicate 21 (1 : Int)).map vI) (List.replicate 21 1) false rfl (by decide) (by decide)
        obtain ⟨g2, a2, _⟩ := p_deep (n := n)
        obtain ⟨g3, a3, _⟩ := p_ofdeep (n := n) true (j := 15) (by omega) (by decide) (by decide)
        obtain ⟨g4, a4, _⟩ := p_ofdeep (n := n) false (j := 3) (by omega) (by decide) (by decide)
        obtain ⟨g5, a5, _⟩ := p_ofE (n := n) (j := 4) (by omega) (by decide)
        obtain ⟨g6, a6, _⟩ := p_vL (n := n) [vI 1, vI 1000000000001] [1, 1000000000001] false rfl (by decide) (by decide)
        obtain ⟨g7, a7, _⟩ := p_ofN (n := n)
        obtain ⟨g8, a8, _⟩ := p_ofB (n := n)
        obtain ⟨g9, a9, _⟩ := p_ofLn (n := n)
        obtain ⟨g10, a10, _⟩ := p_ofIl (n := n)
        unfold Ends
        generalize (List.replicate 21 (1 : Int)).map vI = many at k21 a1
        simp [k21, a1, a2, a3, a4, a5, a6, a7, a8, a9, a10]
  obtain ⟨s', h, _⟩ := key
  exact ⟨s', by show iDef 1 7 (b__law_bounds (FF (n + 7))) [x] st = _; simp [iDef, h]⟩
end
end M30

namespace M30
open PySem PySem.Spec PyProof.Rows L2 IL
/-! ### values and tests that only add to the store -/
def Vl (A : IE) (env : PEnv) (v : PV) : Prop := ∀ st, ∃ s, A env st = some (v, s) ∧ Ext st s
def Tl (t : IT) (env : PEnv) (b : Bool) : Prop := ∀ st, ∃ s, t env st = some (b, s) ∧ Ext st s
section
variable {env : PEnv} {v w : PV} {A B : IE} {t u : IT} {p q : IS} {st : Sto}
theorem vl_pure (h : ∀ st, A env st = some (v, st)) : Vl A env v := fun st => ⟨st, h st, Ext.refl⟩
theorem vl_call {F : FA} {ir : IA} {as : List PV} (hir : ∀ st, ir env st = some (as, st)) (h : Pu F as v) : Vl (iCall F ir) env v := fun st => by
  obtain ⟨g, h1, h2⟩ := h
  exact ⟨g st, by rw [iCall_e, hir]; exact h1 st, h2 st⟩
theorem vl_sh {F : FA} {ir : IA} {k : PV} {as : List PV} (hir : ∀ st, ir env st = some (as, st)) (hl : as.length ≤ 100000) (h : ∀ (st : Sto) (p : Nat), st[p]? = some (.lst as) → ∃ l, F [k, .ref p] st = some (v, st ++ l)) : Vl (iCall F (iCons (iC k) (iCons (iLst ir) iNil))) env v := fun st => by
  obtain ⟨l, e⟩ := h (st ++ [.lst as]) st.length new_at
  refine ⟨st ++ [.lst as] ++ l, ?_, Ext.app ⟨_, rfl⟩⟩
  simp only [iCall_e, iCons_e, iC_e, iLst_e, iNil_e, hir, ob_s, if_pos hl]
  exact e
theorem tl_ne (h1 : Vl A env v) (h2 : Vl B env v) (hg : gd v 60 = true) : Tl (iTestB (iBin fNe A B)) env false := fun st => by
  obtain ⟨s1, a1, a2⟩ := h1 st
  obtain ⟨s2, b1, b2⟩ := h2 s1
  refine ⟨s2, ?_, a2.trans b2⟩
  simp [a1, b1, eqP_gd_self (st := s2) hg]
theorem tl_or (h1 : Tl t env false) (h2 : Tl u env false) : Tl (iOr t u) env false := fun st => by
  obtain ⟨s1, a1, a2⟩ := h1 st
  obtain ⟨s2, b1, b2⟩ := h2 s1
  exact ⟨s2, by simp [a1, b1], a2.trans b2⟩
theorem tl_not (h : Vl A env (.bl true)) : Tl (iNot (iTest A)) env false := fun st => by
  obtain ⟨s1, a1, a2⟩ := h st
  exact ⟨s1, by simp [a1], a2⟩
theorem goes_if (h : Tl t env false) : Goes (iIfS t p iSkip) env st fun e s => e = env ∧ Ext st s := by
  obtain ⟨s1, a1, a2⟩ := h st
  exact ⟨env, s1, by simp [a1], rfl, a2⟩
end
theorem LS.ext {a b : Sto} {s c : Nat} (L : LS a s c) (h : Ext a b) : LS b s c := by
  obtain ⟨l, rfl⟩ := h
  exact L.app
/-! ### both sides the same -/
theorem gd_num (z : Int) : gd (num z) 60 = true := by
  unfold num
  split <;> simp [gd, gds]
theorem gd_quo (a b : Int) : gd (quo a b) 60 = true := by
  unfold quo
  split
  · simp [gd, gds]
  · exact gd_num _
theorem gd_ok {v : PV} (h : gd v 59 = true) : gd (ok v) 60 = true := by simp [gd, gds, h]
theorem gd_okB (b : Bool) : gd (ok (vB b)) 60 = true := by simp [gd, gds]
def Same (n : Nat) (k : Str) (x y : PV) : Prop := ∃ v, Pu (FF (n + 8) 13) [.str k, x, y] v ∧ Pu (FF (n + 8) 25) [.str k, x, y] v ∧ gd v 60 = true
section
variable {n : Nat}
theorem same_eq {x y : PV} {b : Bool} (h : ∀ st, eqP st x y = some b) {xs ys : List PV} (hx : x = .tup xs) (hy : y = .tup ys) : Same n S_x3d x y :=
  ⟨_, pu0 fun st => o_eq h hx hy, pu0 fun st => l_eq h hx hy, gd_okB _⟩
theorem same_ne {x y : PV} {b : Bool} (h : ∀ st, eqP st x y = some b) {xs ys : List PV} (hx : x = .tup xs) (hy : y = .tup ys) : Same n S_x21x3d x y :=
  ⟨_, pu0 fun st => o_ne h hx hy, pu0 fun st => l_ne h hx hy, gd_okB _⟩
theorem same_int {k : Str} (hk : k ∈ [S_x2b, S_x2d, S_x2a, S_x2f, S_x3d, S_x21x3d, S_x3c, S_x3cx3d]) {a b : Int} (ha : InB a) (hb : InB b) : Same n k (vI a) (vI b) := by
  simp only [List.mem_cons, List.not_mem_nil, or_false] at hk
  rcases hk with rfl | rfl | rfl | rfl | rfl | rfl | rfl | rfl
  · exact ⟨_, pu0 fun st => o_add a b, pu0 fun st => l_add a b, gd_num _⟩
  · exact ⟨_, pu0 fun st => o_sub a b, pu0 fun st => l_sub a b, gd_num _⟩
  · exact ⟨_, pu0 fun st => o_mul a b ha, pu0 fun st => l_mul a b ha, gd_num _⟩
  · exact ⟨_, pu0 fun st => o_div a b hb, pu0 fun st => l_div a b ha hb, gd_quo _ _⟩
  · exact same_eq (fun st => eq_vI a b) rfl rfl
  · exact same_ne (fun st => eq_vI a b) rfl rfl
  · exact ⟨_, pu0 fun st => o_lt fun st => rfl, pu0 fun st => l_lt (lt1_i a b), gd_okB _⟩
  · exact ⟨_, pu0 fun st => o_le fun st => rfl, pu0 fun st => l_le (le1_i a b), gd_okB _⟩
theorem strOk_app {a b : Str} (ha : PyData.strOk a = true) (hb : PyData.strOk b = true) : PyData.strOk (a ++ b) = true := by
  unfold PyData.strOk at *
  show ((a.cps ++ b.cps).all _) = true
  rw [Array.all_append, ha, hb]; rfl
theorem gd_catT {a b : Str} (ha : goodT a) (hb : goodT b) : gd (catT a b) 60 = true := by
  unfold catT
  split
  · simp [gd, gds, strOk_app ha.1 hb.1]
  · simp [gd, gds]
theorem same_text {k : Str} (hk : k ∈ [S_x26, S_x3d, S_x21x3d, S_x3c, S_x3cx3d]) {a b : Str} (ha : goodT a) (hb : goodT b) : Same n k (vT a) (vT b) := by
  simp only [List.mem_cons, List.not_mem_nil, or_false] at hk
  rcases hk with rfl | rfl | rfl | rfl | rfl
  · exact ⟨_, pu0 fun st => o_catT a b ha.2.1 hb.2.1, pu fun st => l_catT a b ha.2.1 hb.2.1, gd_catT ha hb⟩
  · exact same_eq (eq_gd (gd_vT ha.1) (gd_vT hb.1)) rfl rfl
  · exact same_ne (eq_gd (gd_vT ha.1) (gd_vT hb.1)) rfl rfl
  · exact ⟨_, pu0 fun st => o_lt fun st => rfl, pu0 fun st => l_lt (lt1_s a b), gd_okB _⟩
  · exact ⟨_, pu0 fun st => o_le fun st => rfl, pu0 fun st => l_le (le1_s a b), gd_okB _⟩
theorem gd_lstR {xs : List PV} (h : AllI xs) : gd (lstR xs) 60 = true := by
  unfold lstR
  split
  · obtain ⟨is, rfl, _⟩ := h
    have : gds (is.map vI) 57 = true := gds_all fun x hx => by
      obtain ⟨i, _, rfl⟩ := List.mem_map.mp hx
      simp [gd, gds]
    simp [gd, gds, this]
  · simp [gd, gds]
theorem same_list {k : Str} (hk : k ∈ [S_x26, S_x3d, S_x21x3d]) {xs ys : List PV} (ha : AllI xs) (hb : AllI ys) (la : xs.length ≤ 20) (lb : ys.length ≤ 20) : Same n k (vL xs) (vL ys) := by
  simp only [List.mem_cons, List.not_mem_nil, or_false] at hk
  rcases hk with rfl | rfl | rfl
  · exact ⟨_, pu fun st => o_catL ha hb la lb, pu fun st => l_catL la lb, gd_lstR (ha.app hb)⟩
  · exact same_eq (eq_gd (gd_vL ha) (gd_vL hb)) rfl rfl
  · exact same_ne (eq_gd (gd_vL ha) (gd_vL hb)) rfl rfl
end
end M30

namespace M30
open PySem PySem.Spec PyProof.Rows L2 IL
section
variable {n : Nat} {st : Sto} {s c : Nat}
theorem gd_itemR {xs : List PV} (h : AllI xs) (i : Int) : gd (itemR xs i) 60 = true := by
  unfold itemR
  split
  · rename_i hi
    obtain ⟨is, rfl, _⟩ := h
    have hl : i.toNat < (is.map vI).length := by omega
    rw [List.getD_eq_getElem?_getD, List.getElem?_eq_getElem hl, List.getElem_map]
    simp [gd, gds]
  · simp [gd, gds]
theorem vl_dup {x : PV} {i : Nat} {env : PEnv} (he : env[i]? = some (some x)) (hf : Flat x) : Vl (iCall (FF (n + 8) 19) (iCons (iBin fMul (iLst (iCons (iVar i) iNil)) (iC (.int 21))) iNil)) env (fl 2) := fun st => by
  have hat : ((st ++ [SO.lst [x]]) ++ [SO.lst (List.replicate 21 x)])[st.length + 1]? = some (.lst (List.replicate 21 x)) := by
    rw [List.getElem?_append_right (by simp)]; simp
  have hm : fMul (.ref st.length) (.int 21) (st ++ [.lst [x]]) = some (.ref (st.length + 1), (st ++ [SO.lst [x]]) ++ [SO.lst (List.replicate 21 x)]) := by
    unfold fMul
    simp only [new_at]
    have hc : cRep [x].length 21 = true := by simp [cRep]
    rw [if_pos hc]
    show some (PV.ref (st ++ [SO.lst [x]]).length, _) = _
    rw [List.length_append]; rfl
  obtain ⟨l, e⟩ := e_listof (n := n + 5) (st := (st ++ [SO.lst [x]]) ++ [SO.lst (List.replicate 21 x)]) (x := .ref (st.length + 1)) (xs := List.replicate 21 x) (fun y hy => by
    rw [List.eq_of_mem_replicate hy]
    exact hf) (by simp) (by simp only [itemsOf_r, hat]) (fun l => by
      unfold lenP
      simp only [old_at hat])
  have hr : lstR (List.replicate 21 x) = fl 2 := by
    unfold lstR
    rw [if_neg (by simp)]
  rw [hr] at e
  refine ⟨st ++ [SO.lst [x]] ++ [SO.lst (List.replicate 21 x)] ++ l, ?_, Ext.app (Ext.app ⟨_, rfl⟩)⟩
  · simp only [iCall_e, iCons_e, iBin_e, iLst_e, iVar_e, he, ob_s, iNil_e, List.length_cons, List.length_nil, iC_e, hm]
    rw [if_pos (by decide)]
    simp only [ob_s, hm]
    exact e
theorem vl_lst {xs : List PV} {i : Nat} {env : PEnv} (he : env[i]? = some (some (vL xs))) (hf : ∀ x ∈ xs, Flat x) (hl : xs.length ≤ 20) : Vl (iCall (FF (n + 8) 19) (iCons (iCall (a1 fList) (iCons (iBin fSubA (iVar i) (iC (.int 1))) iNil)) iNil)) env (ok (vL xs)) := fun st => by
  obtain ⟨l, e⟩ := e_listof (n := n + 5) (st := st ++ [SO.lst xs]) (x := .ref st.length) (xs := xs) hf (by omega) (by simp only [itemsOf_r, new_at]) (fun l => by
      unfold lenP
      simp only [old_at new_at])
  have hr : lstR xs = ok (vL xs) := by
    unfold lstR
    rw [if_pos hl]
  rw [hr] at e
  refine ⟨st ++ [SO.lst xs] ++ l, ?_, Ext.app ⟨_, rfl⟩⟩
  · simp [he, -List.append_assoc, e]
def I13 (x : PV) (s c : Nat) (e : PEnv) (st : Sto) : Prop := (∃ o2 o3 o4 o5 o6 o7 o8 o9 o10 o11 o12, e = [some x, some (.ref s), o2, o3, o4, o5, o6, o7, o8, o9, o10, o11, o12]) ∧ LS st s c
theorem same_tl {k : Str} {x y : PV} (h : Same n k x y) {ka ia ib : IE} {env : PEnv} (hk : ∀ st, ka env st = some (.str k, st)) (ha : ∀ st, ia env st = some (x, st)) (hb : ∀ st, ib env st = some (y, st)) :
    Tl (iTestB (iBin fNe (iCall (FF (n + 8) 13) (iCons ka (iCons ia (iCons ib iNil)))) (iCall (FF (n + 8) 25) (iCons ka (iCons ia (iCons ib iNil)))))) env false := by
  obtain ⟨v, h1, h2, h3⟩ := h
  have hr : ∀ st, (iCons ka (iCons ia (iCons ib iNil))) env st = some ([.str k, x, y], st) := fun st => by simp [hk, ha, hb]
  exact tl_ne (vl_call hr h1) (vl_call hr h2) h3
theorem goes_par {i j : Nat} {ir : IA} {env : PEnv} {x y : PV} {s2 : Sto} (h : ir env st = some ([x, y], s2)) {Q : PEnv → Sto → Prop} (q : Q ((env.set i (some x)).set j (some y)) s2) : Goes (iPar i j ir) env st Q :=
  ⟨_, s2, by simp [h], q⟩
theorem goes_asg {i : Nat} {ie : IE} {env : PEnv} {x : PV} {s2 : Sto} (h : ie env st = some (x, s2)) {Q : PEnv → Sto → Prop} (q : Q (env.set i (some x)) s2) : Goes (iAsg (gN i) ie) env st Q :=
  ⟨_, s2, by simp [h], q⟩
theorem gd_text {t : Str} (h : PyData.strOk t = true) : gd (ok (vT t)) 60 = true := by simp [gd, gds, h]
theorem strOk_b (b : Bool) : PyData.strOk (bstr b) = true := by cases b <;> decide +kernel
theorem range3 {st : Sto} {env : PEnv} : iRange1 (iCons (iC (.int 3)) iNil) env st = some (srcR 0 3, st) := by
  have h : big 3 = true := by decide
  simp [iRange1, h]
theorem goes_range3 {st : Sto} {j : Nat} {body : IS} {env : PEnv} (I : PEnv → Sto → Prop) (hI : I env st) (h : ∀ (i : Int) e s, I e s → Goes body (e.set j (some (.int i))) s I) :
    Goes (iFor (iRange1 (iCons (iC (.int 3)) iNil)) (gN j) body) env st I := by
  obtain ⟨e', s', h1, h2⟩ := loop_inv (at_ := (srcR 0 3).at_) (ig := gN j) (body := body) (fun _ => I) 3 (fun e st _ => by simp [srcR]) (fun i e s hi he => by
    obtain ⟨e2, s2, h1, h2⟩ := h i e s he
    exact ⟨.int i, e.set j (some (.int i)), e2, s2, by simp [srcR, hi], rfl, .inl h1, h2⟩) 4 0 env st hI (by omega) (by omega)
  refine ⟨e', s', ?_, h2⟩
  rw [iFor_e, range3, ob_s]
  exact h1
theorem e_law (ns : List Int) : ∃ s', FF (n + 9) 31 [.frz (ns.map .int)] st = some (.bl true, s') := by
  show ∃ s', iDef 1 13 (b_law (FF (n + 8))) _ _ = _
  generalize hx : PV.frz (ns.map .int) = x
  have key : Ends (b_law (FF (n + 8))) [some x, none, none, none, none, none, none, none, none, none, none, none, none] st (.bl true) fun _ => True := by
    unfold b_law
    obtain ⟨s, c, s0, h0, L0⟩ := e_state (n := n + 7) (st := st) ns
    rw [hx] at h0
    refine ends_seq (I13 x s c) ⟨[some x, some (.ref s), none, none, none, none, none, none, none, none, none, none, none], s0, by simp [h0], ⟨_, _, _, _, _, _, _, _, _, _, _, rfl⟩, L0⟩ ?_
    rintro e st ⟨⟨_, _, _, _, _, _, _, _, _, _, _, rfl⟩, L⟩
    refine ends_seq (I13 x s c) ?_ ?_
    · refine goes_range3 (I13 x s c) ⟨⟨_, _, _, _, _, _, _, _, _, _, _, rfl⟩, L⟩ ?_
      rintro i e st ⟨⟨o2, o3, o4, o5, o6, o7, o8, o9, o10, o11, o12, rfl⟩, L⟩
      simp only [List.set_cons_succ, List.set_cons_zero]
      obtain ⟨za, s1, a1, a2, L1, F1⟩ := e_int (n := n + 6) L
      obtain ⟨zb, s2, b1, b2, L2, F2⟩ := e_int (n := n + 6) L1
      refine goes_seq (fun e st => e = [some x, some (.ref s), some (.int i), some (vI za), some (vI zb), o5, o6, o7, o8, o9, o10, o11, o12] ∧ LS st s c) (goes_par (by simp [a1, b1]) ⟨rfl, L2⟩) ?_
      rintro e st ⟨rfl, L⟩
      clear a1 b1 L1 L2 F1 F2
      obtain ⟨t1, s1, a1, ha, L1, F1⟩ := e_text (n := n + 6) L
      obtain ⟨t2, s2, b1, hb, L2, F2⟩ := e_text (n := n + 6) L1
      refine goes_seq (fun e st => e = [some x, some (.ref s), some (.int i), some (vI za), some (vI zb), some (vT t1), some (vT t2), o7, o8, o9, o10, o11, o12] ∧ LS st s c) (goes_par (by simp [a1, b1]) ⟨rfl, L2⟩) ?_
      rintro e st ⟨rfl, L⟩
      clear a1 b1 L1 L2 F1 F2
      obtain ⟨xs, s1, a1, hxs, lxs, L1, F1⟩ := e_list (n := n + 5) L
      obtain ⟨ys, s2, b1, hys, lys, L2, F2⟩ := e_list (n := n + 5) L1
      refine goes_seq (fun e st => (∃ o9, e = [some x, some (.ref s), some (.int i), some (vI za), some (vI zb), some (vT t1), some (vT t2), some (vL xs), some (vL ys), o9, o10, o11, o12]) ∧ LS st s c) (goes_par (by simp [a1, b1]) ⟨⟨_, rfl⟩, L2⟩) ?_
      rintro e st ⟨⟨o9, rfl⟩, L⟩
      clear a1 b1 L1 L2 F1 F2
      -- numbers
      refine goes_seq _ (goes_list (xs := [S_x2b, S_x2d, S_x2a, S_x2f, S_x3d, S_x21x3d, S_x3c, S_x3cx3d].map PV.str) (fun e => ∃ o9, e = [some x, some (.ref s), some (.int i), some (vI za), some (vI zb), some (vT t1), some (vT t2), some (vL xs), some (vL ys), o9, o10, o11, o12]) (by simp) (by simp) ⟨_, rfl⟩ (fun y hy e he st => ?_)) ?_
      · obtain ⟨o9, rfl⟩ := he
        obtain ⟨k, hk, rfl⟩ := List.mem_map.mp hy
        refine ⟨_, gN_e, Goes.mono (goes_if (tl_or (same_tl (same_int hk a2 b2) (fun _ => rfl) (fun _ => rfl) (fun _ => rfl)) (same_tl (same_int hk a2 a2) (fun _ => rfl) (fun _ => rfl) (fun _ => rfl)))) ?_⟩
        rintro e st ⟨rfl, h⟩
        exact ⟨h, _, rfl⟩
      rintro e st' ⟨hx, o9, rfl⟩
      replace L := L.ext hx
      clear hx
      -- texts
      refine goes_seq _ (goes_list (xs := [S_x26, S_x3d, S_x21x3d, S_x3c, S_x3cx3d].map PV.str) (fun e => ∃ o9, e = [some x, some (.ref s), some (.int i), some (vI za), some (vI zb), some (vT t1), some (vT t2), some (vL xs), some (vL ys), o9, o10, o11, o12]) (by simp) (by simp) ⟨_, rfl⟩ (fun y hy e he st => ?_)) ?_
      · obtain ⟨o9, rfl⟩ := he
        obtain ⟨k, hk, rfl⟩ := List.mem_map.mp hy
        refine ⟨_, gN_e, Goes.mono (goes_if (same_tl (same_text hk ha hb) (fun _ => rfl) (fun _ => rfl) (fun _ => rfl))) ?_⟩
        rintro e st ⟨rfl, h⟩
        exact ⟨h, _, rfl⟩
      rintro e st' ⟨hx, o9, rfl⟩
      replace L := L.ext hx
      clear hx
      -- lists
      refine goes_seq _ (goes_list (xs := [S_x26, S_x3d, S_x21x3d].map PV.str) (fun e => ∃ o9, e = [some x, some (.ref s), some (.int i), some (vI za), some (vI zb), some (vT t1), some (vT t2), some (vL xs), some (vL ys), o9, o10, o11, o12]) (by simp) (by simp) ⟨_, rfl⟩ (fun y hy e he st => ?_)) ?_
      · obtain ⟨o9, rfl⟩ := he
        obtain ⟨k, hk, rfl⟩ := List.mem_map.mp hy
        refine ⟨_, gN_e, Goes.mono (goes_if (same_tl (same_list hk hxs hys lxs lys) (fun _ => rfl) (fun _ => rfl) (fun _ => rfl))) ?_⟩
        rintro e st ⟨rfl, h⟩
        exact ⟨h, _, rfl⟩
      rintro e st' ⟨hx, o9, rfl⟩
      replace L := L.ext hx
      clear hx
      -- truths
      obtain ⟨r1, s1, a1, _, _, L1, _⟩ := e_take (n := n + 7) 2 (by omega) (by omega) L
      obtain ⟨r2, s2, b1, _, _, L2, _⟩ := e_take (n := n + 7) 2 (by omega) (by omega) L1
      refine goes_seq (fun e st => e = [some x, some (.ref s), some (.int i), some (vI za), some (vI zb), some (vT t1), some (vT t2), some (vL xs), some (vL ys), o9, some (vB (r1 == 0)), some (vB (r2 == 0)), o12] ∧ LS st s c) (goes_par (by simp [a1, b1]) ⟨rfl, L2⟩) ?_
      rintro e st ⟨rfl, L⟩
      clear a1 b1 L1 L2
      have hg := gd_vB (r1 == 0)
      have hh := gd_vB (r2 == 0)
      generalize (r1 == 0) = p1 at hg hh ⊢
      generalize (r2 == 0) = p2 at hg hh ⊢
      have hgh := eq_gd hg hh
      have hNN : ∀ st : Sto, eqP st vN vN = some true := fun st => eqP_gd_self gd_vN
      refine goes_seq (fun e st => e = [some x, some (.ref s), some (.int i), some (vI za), some (vI zb), some (vT t1), some (vT t2), some (vL xs), some (vL ys), o9, some (vB p1), some (vB p2), o12] ∧ LS st s c)
        (Goes.mono (goes_if (tl_ne (v := ok (vB (eqB (vB p1) (vB p2)))) (vl_call (fun _ => rfl) (pu0 fun st => o_eq (n := n + 6) hgh rfl rfl)) (vl_pure fun st => by simp [hgh]) (gd_okB _))) (fun e st h => ⟨h.1, L.ext h.2⟩)) ?_
      rintro e st ⟨rfl, L⟩
      refine goes_seq (fun e st => e = [some x, some (.ref s), some (.int i), some (vI za), some (vI zb), some (vT t1), some (vT t2), some (vL xs), some (vL ys), o9, some (vB p1), some (vB p2), o12] ∧ LS st s c)
        (Goes.mono (goes_if (tl_ne (v := ok (vB (!true))) (vl_call (fun _ => rfl) (pu0 fun st => o_ne (n := n + 6) hNN rfl rfl)) (vl_pure fun st => by simp) (gd_okB _))) (fun e st h => ⟨h.1, L.ext h.2⟩)) ?_
      rintro e st ⟨rfl, L⟩
      obtain ⟨r3, s1, a1, _, _, L1, _⟩ := e_take (n := n + 7) 24 (by omega) (by omega) L
      refine goes_seq (fun e st => e = [some x, some (.ref s), some (.int i), some (vI za), some (vI zb), some (vT t1), some (vT t2), some (vL xs), some (vL ys), o9, some (vB p1), some (vB p2), some (vI (r3 - 2))] ∧ LS st s c) (goes_asg (by simp [a1]) ⟨rfl, L1⟩) ?_
      rintro e st ⟨rfl, L⟩
      clear a1 L1
      generalize r3 - 2 = k
      -- items
      refine goes_seq (fun e st => e = [some x, some (.ref s), some (.int i), some (vI za), some (vI zb), some (vT t1), some (vT t2), some (vL xs), some (vL ys), o9, some (vB p1), some (vB p2), some (vI k)] ∧ LS st s c)
        (Goes.mono (goes_if (tl_or
          (tl_ne (v := itemR xs k) (vl_call (fun _ => rfl) (pu0 fun st => e_item (n := n + 7) xs k)) (vl_sh (fun _ => rfl) (by simp) fun st p h => app_nil (sh_item (n := n + 7) xs k h)) (gd_itemR hxs k))
          (tl_ne (v := itemR xs za) (vl_call (fun _ => rfl) (pu0 fun st => e_item (n := n + 7) xs za)) (vl_sh (fun _ => rfl) (by simp) fun st p h => app_nil (sh_item (n := n + 7) xs za h)) (gd_itemR hxs za)))) (fun e st h => ⟨h.1, L.ext h.2⟩)) ?_
      rintro e st ⟨rfl, L⟩
      -- not and neg
      have hneg : num (-za) = ok (vI (-za)) := by
        unfold num
        rw [if_pos (by unfold InB at a2; omega)]
      refine goes_seq (fun e st => e = [some x, some (.ref s), some (.int i), some (vI za), some (vI zb), some (vT t1), some (vT t2), some (vL xs), some (vL ys), o9, some (vB p1), some (vB p2), some (vI k)] ∧ LS st s c)
        (Goes.mono (goes_if (tl_or
          (tl_ne (v := ok (vB (!p1))) (vl_call (fun _ => rfl) (pu0 fun st => e_inv (n := n + 7) p1)) (vl_sh (fun _ => rfl) (by simp) fun st p h => app_nil (sh_not (n := n + 7) p1 h)) (gd_okB _))
          (tl_ne (v := ok (vI (-za))) (vl_call (fun _ => rfl) (pu0 fun st => by rw [← hneg]; exact e_neg (n := n + 6) za)) (vl_sh (fun _ => rfl) (by simp) fun st p h => app_nil (sh_neg (n := n + 7) za h)) (by simp [gd, gds])))) (fun e st h => ⟨h.1, L.ext h.2⟩)) ?_
      rintro e st ⟨rfl, L⟩
      -- text of
      refine goes_seq (fun e st => e = [some x, some (.ref s), some (.int i), some (vI za), some (vI zb), some (vT t1), some (vT t2), some (vL xs), some (vL ys), o9, some (vB p1), some (vB p2), some (vI k)] ∧ LS st s c)
        (Goes.mono (goes_if (tl_or
          (tl_ne (v := ok (vT (bstr p1))) (vl_call (fun _ => rfl) (pu0 fun st => e_textofB (n := n + 6) p1)) (vl_sh (fun _ => rfl) (by simp) fun st p h => sh_textB (n := n + 7) p1 h) (gd_text (strOk_b p1)))
          (tl_ne (v := ok (vT (str za))) (vl_call (fun _ => rfl) (pu0 fun st => e_textofI (n := n + 6) a2)) (vl_sh (fun _ => rfl) (by simp) fun st p h => app_nil (sh_textI (n := n + 7) za a2 h)) (gd_text (str_ok za))))) (fun e st h => ⟨h.1, L.ext h.2⟩)) ?_
      rintro e st ⟨rfl, L⟩
      -- sizes
      refine goes_seq (fun e st => e = [some x, some (.ref s), some (.int i), some (vI za), some (vI zb), some (vT t1), some (vT t2), some (vL xs), some (vL ys), o9, some (vB p1), some (vB p2), some (vI k)] ∧ LS st s c)
        (Goes.mono (goes_if (tl_or
          (tl_ne (v := ok (vI t1.length)) (vl_call (fun _ => rfl) (pu0 fun st => e_sizeT (n := n + 7) t1 ha.2.1)) (vl_sh (fun _ => rfl) (by simp) fun st p h => app_nil (sh_sizeT (n := n + 7) t1 ha.2.1 h)) (by simp [gd, gds]))
          (tl_ne (v := ok (vI xs.length)) (vl_call (fun _ => rfl) (pu0 fun st => e_sizeL (n := n + 7) xs)) (vl_sh (fun _ => rfl) (by simp) fun st p h => app_nil (sh_sizeL (n := n + 7) xs h)) (by simp [gd, gds])))) (fun e st h => ⟨h.1, L.ext h.2⟩)) ?_
      rintro e st ⟨rfl, L⟩
      -- lists
      refine goes_seq (fun e st => e = [some x, some (.ref s), some (.int i), some (vI za), some (vI zb), some (vT t1), some (vT t2), some (vL xs), some (vL ys), o9, some (vB p1), some (vB p2), some (vI k)] ∧ LS st s c)
        (Goes.mono (goes_if (tl_or
          (tl_ne (v := ok (vL xs)) (vl_lst rfl hxs.flat lxs) (vl_pure fun st => by simp) (by have := gd_lstR hxs; unfold lstR at this; rwa [if_pos lxs] at this))
          (tl_ne (v := fl 2) (vl_dup rfl (flat_vI za)) (vl_pure fun st => by simp) (by simp [gd, gds])))) (fun e st h => ⟨h.1, L.ext h.2⟩)) ?_
      rintro e st ⟨rfl, L⟩
      -- types
      have hl1 : lettersOk t1 = true := by
        unfold lettersOk
        rw [Bool.and_eq_true, decide_eq_true_eq, List.all_eq_true]
        exact ⟨ha.2.1, fun y hy => decide_eq_true (ha.2.2 y hy)⟩
      have hv : Pu (FF (n + 8) 21) [vL xs, .tup [.str S_list, .str S_int]] (.bl true) := by
        obtain ⟨is, rfl, hi⟩ := hxs
        rw [List.length_map] at lxs
        have e := pu (of_L (n := n + 3) is (by omega))
        have h2 : ((is.map vI).all inBI) = true := by
          rw [List.all_eq_true]
          intro y hy
          obtain ⟨j, hj, rfl⟩ := List.mem_map.mp hy
          exact decide_eq_true (hi j hj)
        rw [h2, decide_eq_true lxs] at e
        exact e
      refine Goes.mono (goes_if (tl_or (tl_not (vl_call (fun _ => rfl) (p_ofI (n := n + 1) za true (decide_eq_true a2)))) (tl_or (tl_not (vl_call (fun _ => rfl) (p_ofT (n := n + 1) t1 true (by have := ha.2.1; omega) hl1))) (tl_not (vl_call (fun _ => rfl) hv))))) (fun e st h => ?_)
      obtain ⟨rfl, h⟩ := h
      exact ⟨⟨_, _, _, _, _, _, _, _, _, _, _, rfl⟩, L.ext h⟩
    · rintro e st ⟨⟨_, _, _, _, _, _, _, _, _, _, _, rfl⟩, L⟩
      obtain ⟨s', h⟩ := e_bounds (n := n) (st := st) (x := .ref s)
      exact ⟨s', by simp [h], trivial⟩
  obtain ⟨s', h, _⟩ := key
  exact ⟨s', by simp [iDef, h]⟩
end
end M30

namespace M30
open PySem PySem.Spec PyProof.Rows L2 IL
def spLaw (K : PySem.W.Frag) : Sp := fun vs H Q _ => ∃ (a : Addr) (ns : List Int), vs = [.ref a] ∧ SqL K H a (ns.map V.int) ∧ ns.length ≤ 63 ∧ ∀ H', Q (.bl true) H'
theorem its_small {vs : List V} {its : Array Value} (v : Vals vs its.toList) (h : vs.length ≤ sizeLine) : its.size ≤ sizeLine := by
  rw [← Array.length_toList, ← v.length]
  exact h
theorem reps_ints {K : PySem.W.Frag} {H : Hp} {ρ : List Addr} : ∀ ns : List Int, Reps K H ρ (ns.map PV.int) (ns.map V.int)
  | [] => by simp [Reps]
  | n :: ns => by
    show Reps K H ρ (PV.int n :: ns.map PV.int) (V.int n :: ns.map V.int)
    unfold Reps
    exact ⟨_, _, rfl, by unfold Rep; rfl, reps_ints ns⟩
theorem law_sp {K : PySem.W.Frag} {vs : List V} {H : Hp} {Q : VK} {E : XK} (h : spLaw K vs H Q E) : spI K 1 (FF 9 31) vs H Q E := by
  obtain ⟨a, ns, rfl, hS, hlen, q⟩ := h
  obtain ⟨s', hl⟩ := e_law (n := 0) (st := []) ns 
  refine ⟨rfl, [], [], [.frz (ns.map .int)], .bl true, s', ⟨rfl, List.nodup_nil, fun n so h => by simp at h⟩, ?_, hl, fun v H' ρ' _ _ h => ?_⟩
  · unfold Reps
    refine ⟨.ref a, [], rfl, ?_, by unfold Reps; rfl⟩
    unfold Rep
    refine ⟨a, ns.map V.int, rfl, ?_, reps_ints ns⟩
    rcases hS with h | h
    · exact .inl ⟨h, by simp⟩
    · exact .inr h
  · unfold Rep at h
    subst h
    exact q _
set_option maxHeartbeats 0 in
theorem all_mk {l : PySem.W.OpenLaw} {w : World} {K : PySem.W.Frag} {h : Heap} {mg : Str → Option Value} {fa : Addr} (X : K.In h) (G : h.Ns mainGlobals mg) (hfa : mg "law" = some (.ref fa))
    {f0 f1 f2 f3 f4 f5 f6 f7 f8 f9 f10 f11 f12 f13 f14 f15 f16 f17 f18 f19 f20 f21 f22 f23 f24 f25 f26 f27 f28 f29 f30 f31 : Addr} {od0 an0 od1 an1 od2 an2 od3 an3 od4 an4 od5 an5 od6 an6 od7 an7 od8 an8 od9 an9 od10 an10 od11 an11 od12 an12 od13 an13 od14 an14 od15 an15 od16 an16 od17 an17 od18 an18 od19 an19 od20 an20 od21 an21 od22 an22 od23 an23 od24 an24 od25 an25 od26 an26 od27 an27 od28 an28 od29 an29 od30 an30 od31 an31 : Option Addr} {sl0 sl1 sl2 sl3 sl4 sl5 sl6 sl7 sl8 sl9 sl10 sl11 sl12 sl13 sl14 sl15 sl16 sl17 sl18 sl19 sl20 sl21 sl22 sl23 sl24 sl25 sl26 sl27 sl28 sl29 sl30 sl31 : Array (Option Value)} {oc0 kV0 dc0 pm0 cd0 ct0 oc1 kV1 dc1 pm1 cd1 ct1 oc2 kV2 dc2 pm2 cd2 ct2 oc3 kV3 dc3 pm3 cd3 ct3 oc4 kV4 dc4 pm4 cd4 ct4 oc5 kV5 dc5 pm5 cd5 ct5 oc6 kV6 dc6 pm6 cd6 ct6 oc7 kV7 dc7 pm7 cd7 ct7 oc8 kV8 dc8 pm8 cd8 ct8 oc9 kV9 dc9 pm9 cd9 ct9 oc10 kV10 dc10 pm10 cd10 ct10 oc11 kV11 dc11 pm11 cd11 ct11 oc12 kV12 dc12 pm12 cd12 ct12 oc13 kV13 dc13 pm13 cd13 ct13 oc14 kV14 dc14 pm14 cd14 ct14 oc15 kV15 dc15 pm15 cd15 ct15 oc16 kV16 dc16 pm16 cd16 ct16 oc17 kV17 dc17 pm17 cd17 ct17 oc18 kV18 dc18 pm18 cd18 ct18 oc19 kV19 dc19 pm19 cd19 ct19 oc20 kV20 dc20 pm20 cd20 ct20 oc21 kV21 dc21 pm21 cd21 ct21 oc22 kV22 dc22 pm22 cd22 ct22 oc23 kV23 dc23 pm23 cd23 ct23 oc24 kV24 dc24 pm24 cd24 ct24 oc25 kV25 dc25 pm25 cd25 ct25 oc26 kV26 dc26 pm26 cd26 ct26 oc27 kV27 dc27 pm27 cd27 ct27 oc28 kV28 dc28 pm28 cd28 ct28 oc29 kV29 dc29 pm29 cd29 ct29 oc30 kV30 dc30 pm30 cd30 ct30 oc31 kV31 dc31 pm31 cd31 ct31 : Value}
    {tok_NO_QUOTIENT : Tok} {tok_TOO_GREAT : Tok} {tok_NO_ITEM : Tok} {f_SIMPLE_KINDS : Addr} {od_SIMPLE_KINDS : Option Addr} {its_SIMPLE_KINDS : Array Value} {nn_SIMPLE_KINDS : Nat} {sl_SIMPLE_KINDS : Array (Option Value)} {tok_MOST_NUMBER : Tok} {tok_MOST_LETTERS : Tok} {tok_MOST_ITEMS : Tok} {tok_MOST_DEPTH : Tok}
    (a0 : PySem.W.nsIn K mainGlobals "is_type" = some (some (.ref f0))) (l0 : K.lookup f0 = some ⟨oc0, od0, .func (PySem.W.fnOf "is_type" "is_type" (C8.fnArgs s_is_type) (C8.fnBody s_is_type) (C8.fnScope s_is_type) .none kV0 dc0 pm0 an0 cd0 ct0), sl0⟩) (c0 : PySem.W.codeIn K cd0 "is_type" = true) (k0 : PySem.W.keepIn K (.ref f0) = true)
    (a1 : PySem.W.nsIn K mainGlobals "is_letter" = some (some (.ref f1))) (l1 : K.lookup f1 = some ⟨oc1, od1, .func (PySem.W.fnOf "is_letter" "is_letter" (C8.fnArgs s_is_letter) (C8.fnBody s_is_letter) (C8.fnScope s_is_letter) .none kV1 dc1 pm1 an1 cd1 ct1), sl1⟩) (c1 : PySem.W.codeIn K cd1 "is_letter" = true) (k1 : PySem.W.keepIn K (.ref f1) = true)
    (a2 : PySem.W.nsIn K mainGlobals "list_depth" = some (some (.ref f2))) (l2 : K.lookup f2 = some ⟨oc2, od2, .func (PySem.W.fnOf "list_depth" "list_depth" (C8.fnArgs s_list_depth) (C8.fnBody s_list_depth) (C8.fnScope s_list_depth) .none kV2 dc2 pm2 an2 cd2 ct2), sl2⟩) (c2 : PySem.W.codeIn K cd2 "list_depth" = true) (k2 : PySem.W.keepIn K (.ref f2) = true)
    (a3 : PySem.W.nsIn K mainGlobals "_bounded_at" = some (some (.ref f3))) (l3 : K.lookup f3 = some ⟨oc3, od3, .func (PySem.W.fnOf "_bounded_at" "_bounded_at" (C8.fnArgs s__bounded_at) (C8.fnBody s__bounded_at) (C8.fnScope s__bounded_at) .none kV3 dc3 pm3 an3 cd3 ct3), sl3⟩) (c3 : PySem.W.codeIn K cd3 "_bounded_at" = true) (k3 : PySem.W.keepIn K (.ref f3) = true)
    (a4 : PySem.W.nsIn K mainGlobals "is_bounded" = some (some (.ref f4))) (l4 : K.lookup f4 = some ⟨oc4, od4, .func (PySem.W.fnOf "is_bounded" "is_bounded" (C8.fnArgs s_is_bounded) (C8.fnBody s_is_bounded) (C8.fnScope s_is_bounded) .none kV4 dc4 pm4 an4 cd4 ct4), sl4⟩) (c4 : PySem.W.codeIn K cd4 "is_bounded" = true) (k4 : PySem.W.keepIn K (.ref f4) = true)
    (a5 : PySem.W.nsIn K mainGlobals "fits" = some (some (.ref f5))) (l5 : K.lookup f5 = some ⟨oc5, od5, .func (PySem.W.fnOf "fits" "fits" (C8.fnArgs s_fits) (C8.fnBody s_fits) (C8.fnScope s_fits) .none kV5 dc5 pm5 an5 cd5 ct5), sl5⟩) (c5 : PySem.W.codeIn K cd5 "fits" = true) (k5 : PySem.W.keepIn K (.ref f5) = true)
    (a6 : PySem.W.nsIn K mainGlobals "known_type" = some (some (.ref f6))) (l6 : K.lookup f6 = some ⟨oc6, od6, .func (PySem.W.fnOf "known_type" "known_type" (C8.fnArgs s_known_type) (C8.fnBody s_known_type) (C8.fnScope s_known_type) .none kV6 dc6 pm6 an6 cd6 ct6), sl6⟩) (c6 : PySem.W.codeIn K cd6 "known_type" = true) (k6 : PySem.W.keepIn K (.ref f6) = true)
    (a7 : PySem.W.nsIn K mainGlobals "joined" = some (some (.ref f7))) (l7 : K.lookup f7 = some ⟨oc7, od7, .func (PySem.W.fnOf "joined" "joined" (C8.fnArgs s_joined) (C8.fnBody s_joined) (C8.fnScope s_joined) .none kV7 dc7 pm7 an7 cd7 ct7), sl7⟩) (c7 : PySem.W.codeIn K cd7 "joined" = true) (k7 : PySem.W.keepIn K (.ref f7) = true)
    (a8 : PySem.W.nsIn K mainGlobals "_number" = some (some (.ref f8))) (l8 : K.lookup f8 = some ⟨oc8, od8, .func (PySem.W.fnOf "_number" "_number" (C8.fnArgs s__number) (C8.fnBody s__number) (C8.fnScope s__number) .none kV8 dc8 pm8 an8 cd8 ct8), sl8⟩) (c8 : PySem.W.codeIn K cd8 "_number" = true) (k8 : PySem.W.keepIn K (.ref f8) = true)
    (a9 : PySem.W.nsIn K mainGlobals "_letters" = some (some (.ref f9))) (l9 : K.lookup f9 = some ⟨oc9, od9, .func (PySem.W.fnOf "_letters" "_letters" (C8.fnArgs s__letters) (C8.fnBody s__letters) (C8.fnScope s__letters) .none kV9 dc9 pm9 an9 cd9 ct9), sl9⟩) (c9 : PySem.W.codeIn K cd9 "_letters" = true) (k9 : PySem.W.keepIn K (.ref f9) = true)
    (a10 : PySem.W.nsIn K mainGlobals "_calculated" = some (some (.ref f10))) (l10 : K.lookup f10 = some ⟨oc10, od10, .func (PySem.W.fnOf "_calculated" "_calculated" (C8.fnArgs s__calculated) (C8.fnBody s__calculated) (C8.fnScope s__calculated) .none kV10 dc10 pm10 an10 cd10 ct10), sl10⟩) (c10 : PySem.W.codeIn K cd10 "_calculated" = true) (k10 : PySem.W.keepIn K (.ref f10) = true)
    (a11 : PySem.W.nsIn K mainGlobals "_joined_up" = some (some (.ref f11))) (l11 : K.lookup f11 = some ⟨oc11, od11, .func (PySem.W.fnOf "_joined_up" "_joined_up" (C8.fnArgs s__joined_up) (C8.fnBody s__joined_up) (C8.fnScope s__joined_up) .none kV11 dc11 pm11 an11 cd11 ct11), sl11⟩) (c11 : PySem.W.codeIn K cd11 "_joined_up" = true) (k11 : PySem.W.keepIn K (.ref f11) = true)
    (a12 : PySem.W.nsIn K mainGlobals "_compared" = some (some (.ref f12))) (l12 : K.lookup f12 = some ⟨oc12, od12, .func (PySem.W.fnOf "_compared" "_compared" (C8.fnArgs s__compared) (C8.fnBody s__compared) (C8.fnScope s__compared) .none kV12 dc12 pm12 an12 cd12 ct12), sl12⟩) (c12 : PySem.W.codeIn K cd12 "_compared" = true) (k12 : PySem.W.keepIn K (.ref f12) = true)
    (a13 : PySem.W.nsIn K mainGlobals "operate" = some (some (.ref f13))) (l13 : K.lookup f13 = some ⟨oc13, od13, .func (PySem.W.fnOf "operate" "operate" (C8.fnArgs s_operate) (C8.fnBody s_operate) (C8.fnScope s_operate) .none kV13 dc13 pm13 an13 cd13 ct13), sl13⟩) (c13 : PySem.W.codeIn K cd13 "operate" = true) (k13 : PySem.W.keepIn K (.ref f13) = true)
    (a14 : PySem.W.nsIn K mainGlobals "inverted" = some (some (.ref f14))) (l14 : K.lookup f14 = some ⟨oc14, od14, .func (PySem.W.fnOf "inverted" "inverted" (C8.fnArgs s_inverted) (C8.fnBody s_inverted) (C8.fnScope s_inverted) .none kV14 dc14 pm14 an14 cd14 ct14), sl14⟩) (c14 : PySem.W.codeIn K cd14 "inverted" = true) (k14 : PySem.W.keepIn K (.ref f14) = true)
    (a15 : PySem.W.nsIn K mainGlobals "negated" = some (some (.ref f15))) (l15 : K.lookup f15 = some ⟨oc15, od15, .func (PySem.W.fnOf "negated" "negated" (C8.fnArgs s_negated) (C8.fnBody s_negated) (C8.fnScope s_negated) .none kV15 dc15 pm15 an15 cd15 ct15), sl15⟩) (c15 : PySem.W.codeIn K cd15 "negated" = true) (k15 : PySem.W.keepIn K (.ref f15) = true)
    (a16 : PySem.W.nsIn K mainGlobals "item_of" = some (some (.ref f16))) (l16 : K.lookup f16 = some ⟨oc16, od16, .func (PySem.W.fnOf "item_of" "item_of" (C8.fnArgs s_item_of) (C8.fnBody s_item_of) (C8.fnScope s_item_of) .none kV16 dc16 pm16 an16 cd16 ct16), sl16⟩) (c16 : PySem.W.codeIn K cd16 "item_of" = true) (k16 : PySem.W.keepIn K (.ref f16) = true)
    (a17 : PySem.W.nsIn K mainGlobals "size_of" = some (some (.ref f17))) (l17 : K.lookup f17 = some ⟨oc17, od17, .func (PySem.W.fnOf "size_of" "size_of" (C8.fnArgs s_size_of) (C8.fnBody s_size_of) (C8.fnScope s_size_of) .none kV17 dc17 pm17 an17 cd17 ct17), sl17⟩) (c17 : PySem.W.codeIn K cd17 "size_of" = true) (k17 : PySem.W.keepIn K (.ref f17) = true)
    (a18 : PySem.W.nsIn K mainGlobals "text_of" = some (some (.ref f18))) (l18 : K.lookup f18 = some ⟨oc18, od18, .func (PySem.W.fnOf "text_of" "text_of" (C8.fnArgs s_text_of) (C8.fnBody s_text_of) (C8.fnScope s_text_of) .none kV18 dc18 pm18 an18 cd18 ct18), sl18⟩) (c18 : PySem.W.codeIn K cd18 "text_of" = true) (k18 : PySem.W.keepIn K (.ref f18) = true)
    (a19 : PySem.W.nsIn K mainGlobals "list_of" = some (some (.ref f19))) (l19 : K.lookup f19 = some ⟨oc19, od19, .func (PySem.W.fnOf "list_of" "list_of" (C8.fnArgs s_list_of) (C8.fnBody s_list_of) (C8.fnScope s_list_of) .none kV19 dc19 pm19 an19 cd19 ct19), sl19⟩) (c19 : PySem.W.codeIn K cd19 "list_of" = true) (k19 : PySem.W.keepIn K (.ref f19) = true)
    (a20 : PySem.W.nsIn K mainGlobals "is_value" = some (some (.ref f20))) (l20 : K.lookup f20 = some ⟨oc20, od20, .func (PySem.W.fnOf "is_value" "is_value" (C8.fnArgs s_is_value) (C8.fnBody s_is_value) (C8.fnScope s_is_value) .none kV20 dc20 pm20 an20 cd20 ct20), sl20⟩) (c20 : PySem.W.codeIn K cd20 "is_value" = true) (k20 : PySem.W.keepIn K (.ref f20) = true)
    (a21 : PySem.W.nsIn K mainGlobals "is_of" = some (some (.ref f21))) (l21 : K.lookup f21 = some ⟨oc21, od21, .func (PySem.W.fnOf "is_of" "is_of" (C8.fnArgs s_is_of) (C8.fnBody s_is_of) (C8.fnScope s_is_of) .none kV21 dc21 pm21 an21 cd21 ct21), sl21⟩) (c21 : PySem.W.codeIn K cd21 "is_of" = true) (k21 : PySem.W.keepIn K (.ref f21) = true)
    (a22 : PySem.W.nsIn K mainGlobals "_law_state" = some (some (.ref f22))) (l22 : K.lookup f22 = some ⟨oc22, od22, .func (PySem.W.fnOf "_law_state" "_law_state" (C8.fnArgs s__law_state) (C8.fnBody s__law_state) (C8.fnScope s__law_state) .none kV22 dc22 pm22 an22 cd22 ct22), sl22⟩) (c22 : PySem.W.codeIn K cd22 "_law_state" = true) (k22 : PySem.W.keepIn K (.ref f22) = true)
    (a23 : PySem.W.nsIn K mainGlobals "_law_take" = some (some (.ref f23))) (l23 : K.lookup f23 = some ⟨oc23, od23, .func (PySem.W.fnOf "_law_take" "_law_take" (C8.fnArgs s__law_take) (C8.fnBody s__law_take) (C8.fnScope s__law_take) .none kV23 dc23 pm23 an23 cd23 ct23), sl23⟩) (c23 : PySem.W.codeIn K cd23 "_law_take" = true) (k23 : PySem.W.keepIn K (.ref f23) = true)
    (a24 : PySem.W.nsIn K mainGlobals "_law_number" = some (some (.ref f24))) (l24 : K.lookup f24 = some ⟨oc24, od24, .func (PySem.W.fnOf "_law_number" "_law_number" (C8.fnArgs s__law_number) (C8.fnBody s__law_number) (C8.fnScope s__law_number) .none kV24 dc24 pm24 an24 cd24 ct24), sl24⟩) (c24 : PySem.W.codeIn K cd24 "_law_number" = true) (k24 : PySem.W.keepIn K (.ref f24) = true)
    (a25 : PySem.W.nsIn K mainGlobals "_law_operated" = some (some (.ref f25))) (l25 : K.lookup f25 = some ⟨oc25, od25, .func (PySem.W.fnOf "_law_operated" "_law_operated" (C8.fnArgs s__law_operated) (C8.fnBody s__law_operated) (C8.fnScope s__law_operated) .none kV25 dc25 pm25 an25 cd25 ct25), sl25⟩) (c25 : PySem.W.codeIn K cd25 "_law_operated" = true) (k25 : PySem.W.keepIn K (.ref f25) = true)
    (a26 : PySem.W.nsIn K mainGlobals "_law_shaped" = some (some (.ref f26))) (l26 : K.lookup f26 = some ⟨oc26, od26, .func (PySem.W.fnOf "_law_shaped" "_law_shaped" (C8.fnArgs s__law_shaped) (C8.fnBody s__law_shaped) (C8.fnScope s__law_shaped) .none kV26 dc26 pm26 an26 cd26 ct26), sl26⟩) (c26 : PySem.W.codeIn K cd26 "_law_shaped" = true) (k26 : PySem.W.keepIn K (.ref f26) = true)
    (a27 : PySem.W.nsIn K mainGlobals "_law_int" = some (some (.ref f27))) (l27 : K.lookup f27 = some ⟨oc27, od27, .func (PySem.W.fnOf "_law_int" "_law_int" (C8.fnArgs s__law_int) (C8.fnBody s__law_int) (C8.fnScope s__law_int) .none kV27 dc27 pm27 an27 cd27 ct27), sl27⟩) (c27 : PySem.W.codeIn K cd27 "_law_int" = true) (k27 : PySem.W.keepIn K (.ref f27) = true)
    (a28 : PySem.W.nsIn K mainGlobals "_law_text" = some (some (.ref f28))) (l28 : K.lookup f28 = some ⟨oc28, od28, .func (PySem.W.fnOf "_law_text" "_law_text" (C8.fnArgs s__law_text) (C8.fnBody s__law_text) (C8.fnScope s__law_text) .none kV28 dc28 pm28 an28 cd28 ct28), sl28⟩) (c28 : PySem.W.codeIn K cd28 "_law_text" = true) (k28 : PySem.W.keepIn K (.ref f28) = true)
    (a29 : PySem.W.nsIn K mainGlobals "_law_list" = some (some (.ref f29))) (l29 : K.lookup f29 = some ⟨oc29, od29, .func (PySem.W.fnOf "_law_list" "_law_list" (C8.fnArgs s__law_list) (C8.fnBody s__law_list) (C8.fnScope s__law_list) .none kV29 dc29 pm29 an29 cd29 ct29), sl29⟩) (c29 : PySem.W.codeIn K cd29 "_law_list" = true) (k29 : PySem.W.keepIn K (.ref f29) = true)
    (a30 : PySem.W.nsIn K mainGlobals "_law_bounds" = some (some (.ref f30))) (l30 : K.lookup f30 = some ⟨oc30, od30, .func (PySem.W.fnOf "_law_bounds" "_law_bounds" (C8.fnArgs s__law_bounds) (C8.fnBody s__law_bounds) (C8.fnScope s__law_bounds) .none kV30 dc30 pm30 an30 cd30 ct30), sl30⟩) (c30 : PySem.W.codeIn K cd30 "_law_bounds" = true) (k30 : PySem.W.keepIn K (.ref f30) = true)
    (a31 : PySem.W.nsIn K mainGlobals "law" = some (some (.ref f31))) (l31 : K.lookup f31 = some ⟨oc31, od31, .func (PySem.W.fnOf "law" "law" (C8.fnArgs s_law) (C8.fnBody s_law) (C8.fnScope s_law) .none kV31 dc31 pm31 an31 cd31 ct31), sl31⟩) (c31 : PySem.W.codeIn K cd31 "law" = true) (k31 : PySem.W.keepIn K (.ref f31) = true)
    (z_abs : PySem.W.nsIn K mainGlobals "abs" = some none) (z_all : PySem.W.nsIn K mainGlobals "all" = some none) (z_int : PySem.W.nsIn K mainGlobals "int" = some none) (z_isinstance : PySem.W.nsIn K mainGlobals "isinstance" = some none) (z_len : PySem.W.nsIn K mainGlobals "len" = some none) (z_list : PySem.W.nsIn K mainGlobals "list" = some none) (z_max : PySem.W.nsIn K mainGlobals "max" = some none) (z_range : PySem.W.nsIn K mainGlobals "range" = some none) (z_repr : PySem.W.nsIn K mainGlobals "repr" = some none) (z_str : PySem.W.nsIn K mainGlobals "str" = some none) (z_tuple : PySem.W.nsIn K mainGlobals "tuple" = some none)
    (n_NO_QUOTIENT : PySem.W.nsIn K mainGlobals "NO_QUOTIENT" = some (some (.int 1 tok_NO_QUOTIENT))) (n_TOO_GREAT : PySem.W.nsIn K mainGlobals "TOO_GREAT" = some (some (.int 2 tok_TOO_GREAT))) (n_NO_ITEM : PySem.W.nsIn K mainGlobals "NO_ITEM" = some (some (.int 3 tok_NO_ITEM))) (n_SIMPLE_KINDS : PySem.W.nsIn K mainGlobals "SIMPLE_KINDS" = some (some (.ref f_SIMPLE_KINDS))) (l_SIMPLE_KINDS : K.lookup f_SIMPLE_KINDS = some ⟨.type "tuple", od_SIMPLE_KINDS, .seq its_SIMPLE_KINDS nn_SIMPLE_KINDS, sl_SIMPLE_KINDS⟩) (v_SIMPLE_KINDS : Vals [V.str S_int, V.str S_bool, V.str S_text, V.str S_nothing] its_SIMPLE_KINDS.toList) (n_MOST_NUMBER : PySem.W.nsIn K mainGlobals "MOST_NUMBER" = some (some (.int 1000000000000 tok_MOST_NUMBER))) (n_MOST_LETTERS : PySem.W.nsIn K mainGlobals "MOST_LETTERS" = some (some (.int 60 tok_MOST_LETTERS))) (n_MOST_ITEMS : PySem.W.nsIn K mainGlobals "MOST_ITEMS" = some (some (.int 20 tok_MOST_ITEMS))) (n_MOST_DEPTH : PySem.W.nsIn K mainGlobals "MOST_DEPTH" = some (some (.int 6 tok_MOST_DEPTH))) :
    ∃ fd : FuncData, (∀ (s : Shared) (v : Value), BindsTo s fd ⟨[v], []⟩ [("script", v)]) ∧ ∀ base : Heap, K.In base → base.Ns mainGlobals mg → FnOk l.prog w K mg base CX0 9 fa fd ["script"] (spLaw K) := by
  have e := hfa.symm.trans (PySem.W.mg_of X G a31)
  cases e
  refine ⟨(PySem.W.fnOf "law" "law" (C8.fnArgs s_law) (C8.fnBody s_law) (C8.fnScope s_law) .none kV31 dc31 pm31 an31 cd31 ct31), fun s v => .of_eq rfl, fun base _ _ => ?_⟩
  exact ((all_tb X G a0 l0 c0 k0 a1 l1 c1 k1 a2 l2 c2 k2 a3 l3 c3 k3 a4 l4 c4 k4 a5 l5 c5 k5 a6 l6 c6 k6 a7 l7 c7 k7 a8 l8 c8 k8 a9 l9 c9 k9 a10 l10 c10 k10 a11 l11 c11 k11 a12 l12 c12 k12 a13 l13 c13 k13 a14 l14 c14 k14 a15 l15 c15 k15 a16 l16 c16 k16 a17 l17 c17 k17 a18 l18 c18 k18 a19 l19 c19 k19 a20 l20 c20 k20 a21 l21 c21 k21 a22 l22 c22 k22 a23 l23 c23 k23 a24 l24 c24 k24 a25 l25 c25 k25 a26 l26 c26 k26 a27 l27 c27 k27 a28 l28 c28 k28 a29 l29 c29 k29 a30 l30 c30 k30 a31 l31 c31 k31 z_abs z_all z_int z_isinstance z_len z_list z_max z_range z_repr z_str z_tuple ⟨_, .int 1, PySem.W.mg_of X G n_NO_QUOTIENT, ⟨_, rfl⟩, fun _ _ => rfl⟩ ⟨_, .int 2, PySem.W.mg_of X G n_TOO_GREAT, ⟨_, rfl⟩, fun _ _ => rfl⟩ ⟨_, .int 3, PySem.W.mg_of X G n_NO_ITEM, ⟨_, rfl⟩, fun _ _ => rfl⟩ ⟨_, .ref f_SIMPLE_KINDS, PySem.W.mg_of X G n_SIMPLE_KINDS, rfl, fun H ρ => ⟨f_SIMPLE_KINDS, [V.str S_int, V.str S_bool, V.str S_text, V.str S_nothing], rfl, .inr ⟨_, _, _, l_SIMPLE_KINDS, rfl, rfl, its_small v_SIMPLE_KINDS (by decide), v_SIMPLE_KINDS⟩, by simp [Reps, Rep]⟩⟩ ⟨_, .int 1000000000000, PySem.W.mg_of X G n_MOST_NUMBER, ⟨_, rfl⟩, fun _ _ => rfl⟩ ⟨_, .int 60, PySem.W.mg_of X G n_MOST_LETTERS, ⟨_, rfl⟩, fun _ _ => rfl⟩ ⟨_, .int 20, PySem.W.mg_of X G n_MOST_ITEMS, ⟨_, rfl⟩, fun _ _ => rfl⟩ ⟨_, .int 6, PySem.W.mg_of X G n_MOST_DEPTH, ⟨_, rfl⟩, fun _ _ => rfl⟩) 8).2.imp fun vs H Q E h => law_sp h
end M30
open PySem PySem.W PyProof.Rows
set_option maxRecDepth 100000 in
set_option maxHeartbeats 0 in
theorem PySem.Challenge.cw_flowreprise_k30_operations_holds : PySem.Challenge.rw_flowreprise_k30_operations.Holds := by
  w_on; o_law; k_head; (case hw => w_witness2)
  k_fill
  refine L2.walk_of (l := PySem.Challenge.rw_flowreprise_k30_operations) (n := 63) (k := 9) (x := "script") (CX := fun _ => L2.CX0) (sp := fun w => M30.spLaw _) rfl (by decide) rfl ⟨rfl, by decide, by decide⟩ (fun w h Y => PySem.W.kIn_of Y) ?F (fun _ _ a ns hl _ hS => ⟨a, ns, rfl, hS, hl, fun _ => rfl⟩) (fun _ _ _ _ _ h => h)
  case F =>
    intro w mg fa h KX G hmg
    refine' M30.all_mk KX G hmg ?a0 ?l0 ?c0 ?k0 ?a1 ?l1 ?c1 ?k1 ?a2 ?l2 ?c2 ?k2 ?a3 ?l3 ?c3 ?k3 ?a4 ?l4 ?c4 ?k4 ?a5 ?l5 ?c5 ?k5 ?a6 ?l6 ?c6 ?k6 ?a7 ?l7 ?c7 ?k7 ?a8 ?l8 ?c8 ?k8 ?a9 ?l9 ?c9 ?k9 ?a10 ?l10 ?c10 ?k10 ?a11 ?l11 ?c11 ?k11 ?a12 ?l12 ?c12 ?k12 ?a13 ?l13 ?c13 ?k13 ?a14 ?l14 ?c14 ?k14 ?a15 ?l15 ?c15 ?k15 ?a16 ?l16 ?c16 ?k16 ?a17 ?l17 ?c17 ?k17 ?a18 ?l18 ?c18 ?k18 ?a19 ?l19 ?c19 ?k19 ?a20 ?l20 ?c20 ?k20 ?a21 ?l21 ?c21 ?k21 ?a22 ?l22 ?c22 ?k22 ?a23 ?l23 ?c23 ?k23 ?a24 ?l24 ?c24 ?k24 ?a25 ?l25 ?c25 ?k25 ?a26 ?l26 ?c26 ?k26 ?a27 ?l27 ?c27 ?k27 ?a28 ?l28 ?c28 ?k28 ?a29 ?l29 ?c29 ?k29 ?a30 ?l30 ?c30 ?k30 ?a31 ?l31 ?c31 ?k31 ?z_abs ?z_all ?z_int ?z_isinstance ?z_len ?z_list ?z_max ?z_range ?z_repr ?z_str ?z_tuple ?n_NO_QUOTIENT ?n_TOO_GREAT ?n_NO_ITEM ?n_SIMPLE_KINDS ?l_SIMPLE_KINDS ?v_SIMPLE_KINDS ?n_MOST_NUMBER ?n_MOST_LETTERS ?n_MOST_ITEMS ?n_MOST_DEPTH
    (case a0 => k_is)
    (case l0 => k_is)
    (case c0 => k_is)
    (case k0 => k_is)
    (case a1 => k_is)
    (case l1 => k_is)
    (case c1 => k_is)
    (case k1 => k_is)
    (case a2 => k_is)
    (case l2 => k_is)
    (case c2 => k_is)
    (case k2 => k_is)
    (case a3 => k_is)
    (case l3 => k_is)
    (case c3 => k_is)
    (case k3 => k_is)
    (case a4 => k_is)
    (case l4 => k_is)
    (case c4 => k_is)
    (case k4 => k_is)
    (case a5 => k_is)
    (case l5 => k_is)
    (case c5 => k_is)
    (case k5 => k_is)
    (case a6 => k_is)
    (case l6 => k_is)
    (case c6 => k_is)
    (case k6 => k_is)
    (case a7 => k_is)
    (case l7 => k_is)
    (case c7 => k_is)
    (case k7 => k_is)
    (case a8 => k_is)
    (case l8 => k_is)
    (case c8 => k_is)
    (case k8 => k_is)
    (case a9 => k_is)
    (case l9 => k_is)
    (case c9 => k_is)
    (case k9 => k_is)
    (case a10 => k_is)
    (case l10 => k_is)
    (case c10 => k_is)
    (case k10 => k_is)
    (case a11 => k_is)
    (case l11 => k_is)
    (case c11 => k_is)
    (case k11 => k_is)
    (case a12 => k_is)
    (case l12 => k_is)
    (case c12 => k_is)
    (case k12 => k_is)
    (case a13 => k_is)
    (case l13 => k_is)
    (case c13 => k_is)
    (case k13 => k_is)
    (case a14 => k_is)
    (case l14 => k_is)
    (case c14 => k_is)
    (case k14 => k_is)
    (case a15 => k_is)
    (case l15 => k_is)
    (case c15 => k_is)
    (case k15 => k_is)
    (case a16 => k_is)
    (case l16 => k_is)
    (case c16 => k_is)
    (case k16 => k_is)
    (case a17 => k_is)
    (case l17 => k_is)
    (case c17 => k_is)
    (case k17 => k_is)
    (case a18 => k_is)
    (case l18 => k_is)
    (case c18 => k_is)
    (case k18 => k_is)
    (case a19 => k_is)
    (case l19 => k_is)
    (case c19 => k_is)
    (case k19 => k_is)
    (case a20 => k_is)
    (case l20 => k_is)
    (case c20 => k_is)
    (case k20 => k_is)
    (case a21 => k_is)
    (case l21 => k_is)
    (case c21 => k_is)
    (case k21 => k_is)
    (case a22 => k_is)
    (case l22 => k_is)
    (case c22 => k_is)
    (case k22 => k_is)
    (case a23 => k_is)
    (case l23 => k_is)
    (case c23 => k_is)
    (case k23 => k_is)
    (case a24 => k_is)
    (case l24 => k_is)
    (case c24 => k_is)
    (case k24 => k_is)
    (case a25 => k_is)
    (case l25 => k_is)
    (case c25 => k_is)
    (case k25 => k_is)
    (case a26 => k_is)
    (case l26 => k_is)
    (case c26 => k_is)
    (case k26 => k_is)
    (case a27 => k_is)
    (case l27 => k_is)
    (case c27 => k_is)
    (case k27 => k_is)
    (case a28 => k_is)
    (case l28 => k_is)
    (case c28 => k_is)
    (case k28 => k_is)
    (case a29 => k_is)
    (case l29 => k_is)
    (case c29 => k_is)
    (case k29 => k_is)
    (case a30 => k_is)
    (case l30 => k_is)
    (case c30 => k_is)
    (case k30 => k_is)
    (case a31 => k_is)
    (case l31 => k_is)
    (case c31 => k_is)
    (case k31 => k_is)
    (case z_abs => k_is)
    (case z_all => k_is)
    (case z_int => k_is)
    (case z_isinstance => k_is)
    (case z_len => k_is)
    (case z_list => k_is)
    (case z_max => k_is)
    (case z_range => k_is)
    (case z_repr => k_is)
    (case z_str => k_is)
    (case z_tuple => k_is)
    (case n_NO_QUOTIENT => k_is)
    (case n_TOO_GREAT => k_is)
    (case n_NO_ITEM => k_is)
    (case n_SIMPLE_KINDS => k_is)
    (case l_SIMPLE_KINDS => k_is)
    (case v_SIMPLE_KINDS => exact (.cons ⟨_, rfl⟩ (.cons ⟨_, rfl⟩ (.cons ⟨_, rfl⟩ (.cons ⟨_, rfl⟩ .nil)))))
    (case n_MOST_NUMBER => k_is)
    (case n_MOST_LETTERS => k_is)
    (case n_MOST_ITEMS => k_is)
    (case n_MOST_DEPTH => k_is)
