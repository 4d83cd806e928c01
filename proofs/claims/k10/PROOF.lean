import PyProof.Rows.All
import Wide.All
import OpenK.AllK
import Wide.FinOn
import HandS.ForMost
import HandS.Codes
import HandS.TupLe
import HandS.TupAny
import HandS.TupMul
import HandS.Wide
import HandS.IsInst
import HandS.Style
import HandS.Flow
import HandS.SortKw
import HandS.Deep
import KE.DatumOrd
import PySem.Challenge.RW_flowreprise_k10_types_and_values
set_option Elab.async false
set_option linter.all false
set_option maxRecDepth 100000
namespace IL
open PySem PySem.Spec PyProof.Rows L2

/-- a value, data as trees, what may change by its number in the store -/
inductive PV where
  | non | bl (b : Bool) | int (i : Int) | str (x : Str) | tup (xs : List PV) | frz (xs : List PV) | ref (n : Nat) | ty (n : String)
/-- what may change -/
inductive SO where
  | lst (xs : List PV)
  | dK (kvs : List (Key × PV))
abbrev Sto := List SO
abbrev PEnv := List (Option PV)

section
variable (K : PySem.W.Frag) (H : Hp) (ρ : List Addr)
/-- a list that nobody writes -/
def FrzAt (a : Addr) (vs : List V) : Prop :=
  (Rd H a (.lst vs) ∧ a ∉ ρ) ∨ ∃ (o : Obj) (its : Array Value) (n : Nat), K.lookup a = some o ∧ o.cls = .type "list" ∧ o.dict = none ∧ o.data = .seq its n ∧ its.size ≤ sizeLine ∧ Vals vs its.toList
mutual
def Rep : PV → V → Prop
  | .non, v => v = .non
  | .bl b, v => v = .bl b
  | .int i, v => v = .int i
  | .str x, v => v = .str x
  | .tup xs, v => ∃ a vs, v = .ref a ∧ SqT K H a vs ∧ Reps xs vs
  | .frz xs, v => ∃ a vs, v = .ref a ∧ FrzAt K H ρ a vs ∧ Reps xs vs
  | .ref n, v => ∃ a, v = .ref a ∧ ρ[n]? = some a
  | .ty n, v => v = .ty n
def Reps : List PV → List V → Prop
  | [], vs => vs = []
  | x :: xs, vs => ∃ v r, vs = v :: r ∧ Rep x v ∧ Reps xs r
end
def RepK : List (Key × PV) → List (Key × V) → Prop
  | [], vs => vs = []
  | x :: xs, vs => ∃ v r, vs = (x.1, v) :: r ∧ Rep K H ρ x.2 v ∧ RepK xs r
def RepO : SO → Addr → Prop
  | .lst xs, a => ∃ vs, H a = some (.lst vs) ∧ Reps K H ρ xs vs
  | .dK kvs, a => ∃ vs, H a = some (.dK vs) ∧ RepK K H ρ kvs vs
structure RepS (st : Sto) : Prop where
  len : ρ.length = st.length
  nd : ρ.Nodup
  at_ : ∀ (n : Nat) (so : SO), st[n]? = some so → ∃ a, ρ[n]? = some a ∧ RepO K H ρ so a
structure RepE (env : PEnv) (σ : L2.St) : Prop where
  len : env.length = σ.length
  at_ : ∀ (i : Nat) (x : PV), env[i]? = some (some x) → ∃ v, σ[i]? = some (some v) ∧ Rep K H ρ x v
end
structure Grow (H : Hp) (ρ : List Addr) (H' : Hp) (ρ' : List Addr) : Prop where
  ext : ∃ l, ρ' = ρ ++ l ∧ ∀ b ∈ l, H b = none
  keep : ∀ b o, b ∉ ρ → H b = some o → H' b = some o
  dom : ∀ b, H' b = none → H b = none

section
variable {K : PySem.W.Frag} {H H' H1 H2 : Hp} {ρ ρ' ρ1 ρ2 : List Addr} {st st' : Sto} {env : PEnv} {σ : L2.St}
theorem Grow.refl : Grow H ρ H ρ := ⟨⟨[], by simp, fun _ h => by simp at h⟩, fun _ _ _ h => h, fun _ h => h⟩
theorem Grow.trans (a : Grow H ρ H1 ρ1) (b : Grow H1 ρ1 H2 ρ2) : Grow H ρ H2 ρ2 := by
  obtain ⟨l1, e1, f1⟩ := a.ext
  obtain ⟨l2, e2, f2⟩ := b.ext
  refine ⟨⟨l1 ++ l2, by rw [e2, e1, List.append_assoc], fun x hx => ?_⟩, fun x o hx ho => ?_, fun x hx => a.dom x (b.dom x hx)⟩
  · rcases List.mem_append.mp hx with h | h
    · exact f1 x h
    · exact a.dom x (f2 x h)
  · refine b.keep x o (fun hm => ?_) (a.keep x o hx ho)
    rw [e1] at hm
    rcases List.mem_append.mp hm with h | h
    · exact hx h
    · rw [f1 x h] at ho; cases ho
theorem Grow.ix (g : Grow H ρ H' ρ') {n : Nat} {a : Addr} (h : ρ[n]? = some a) : ρ'[n]? = some a := by
  obtain ⟨l, e, _⟩ := g.ext
  rw [e, List.getElem?_append_left (List.getElem?_eq_some_iff.mp h).1]
  exact h
theorem RepS.mem (S : RepS K H ρ st) {a : Addr} (h : a ∈ ρ) : ∃ (n : Nat) (so : SO), ρ[n]? = some a ∧ st[n]? = some so ∧ RepO K H ρ so a := by
  obtain ⟨n, hn, e⟩ := List.mem_iff_getElem.mp h
  have hs : n < st.length := by have := S.len; omega
  obtain ⟨b, hb, r⟩ := S.at_ n st[n] (List.getElem?_eq_getElem hs)
  have e2 : ρ[n]? = some a := by rw [List.getElem?_eq_getElem hn, e]
  rw [e2] at hb; cases hb
  exact ⟨n, st[n], e2, List.getElem?_eq_getElem hs, r⟩
theorem RepO.some {so : SO} {a : Addr} (h : RepO K H ρ so a) : (∃ vs, H a = some (.lst vs)) ∨ ∃ vs, H a = some (.dK vs) := by
  cases so with
  | lst xs => obtain ⟨vs, h, _⟩ := h; exact .inl ⟨vs, h⟩
  | dK xs => obtain ⟨vs, h, _⟩ := h; exact .inr ⟨vs, h⟩
theorem RepS.notT (S : RepS K H ρ st) {a : Addr} {vs : List V} (h : Rd H a (.tup vs)) : a ∉ ρ := fun hm => by
  obtain ⟨n, so, _, _, r⟩ := S.mem hm
  rcases r.some with ⟨w, e⟩ | ⟨w, e⟩ <;> rcases h with h | ⟨o, h⟩ <;> (rw [e] at h; cases h)
theorem RepS.fresh (S : RepS K H ρ st) {p : Addr} (h : H p = none) : p ∉ ρ := fun hm => by
  obtain ⟨n, so, _, _, r⟩ := S.mem hm
  rcases r.some with ⟨w, e⟩ | ⟨w, e⟩ <;> (rw [e] at h; cases h)
theorem Grow.rd (g : Grow H ρ H' ρ') {a : Addr} {u : HO} (n : a ∉ ρ) (h : Rd H a u) : Rd H' a u := by
  rcases h with h | ⟨o, h⟩
  · exact .inl (g.keep a _ n h)
  · exact .inr ⟨o, g.keep a _ n h⟩
theorem Rd.ne_none {a : Addr} {u : HO} (h : Rd H a u) : H a ≠ none := fun e => by
  rcases h with h | ⟨o, h⟩ <;> (rw [e] at h; cases h)
theorem Grow.notin (g : Grow H ρ H' ρ') {a : Addr} (n : a ∉ ρ) (h : H a ≠ none) : a ∉ ρ' := fun hm => by
  obtain ⟨l, e, f⟩ := g.ext
  rw [e] at hm
  rcases List.mem_append.mp hm with hm | hm
  · exact n hm
  · exact h (f a hm)
theorem SqT.grow (S : RepS K H ρ st) (g : Grow H ρ H' ρ') {a : Addr} {vs : List V} (h : SqT K H a vs) : SqT K H' a vs := by
  rcases h with h | h
  · exact .inl (g.rd (S.notT h) h)
  · exact .inr h
theorem FrzAt.grow (g : Grow H ρ H' ρ') {a : Addr} {vs : List V} (h : FrzAt K H ρ a vs) : FrzAt K H' ρ' a vs := by
  rcases h with ⟨h, n⟩ | h
  · exact .inl ⟨g.rd n h, g.notin n (Rd.ne_none h)⟩
  · exact .inr h
theorem FrzAt.sq {a : Addr} {vs : List V} (h : FrzAt K H ρ a vs) : SqL K H a vs := by
  rcases h with ⟨h, _⟩ | h
  · exact .inl h
  · exact .inr h
mutual
theorem Rep.grow (S : RepS K H ρ st) (g : Grow H ρ H' ρ') : ∀ (x : PV) (v : V), Rep K H ρ x v → Rep K H' ρ' x v
  | .non, v, h => by unfold Rep at *; exact h
  | .bl b, v, h => by unfold Rep at *; exact h
  | .int i, v, h => by unfold Rep at *; exact h
  | .str x, v, h => by unfold Rep at *; exact h
  | .tup xs, v, h => by
    unfold Rep at *
    obtain ⟨a, vs, e, h1, h2⟩ := h
    exact ⟨a, vs, e, SqT.grow S g h1, Reps.grow S g xs vs h2⟩
  | .frz xs, v, h => by
    unfold Rep at *
    obtain ⟨a, vs, e, h1, h2⟩ := h
    exact ⟨a, vs, e, h1.grow g, Reps.grow S g xs vs h2⟩
  | .ref n, v, h => by
    unfold Rep at *
    obtain ⟨a, e, h1⟩ := h
    exact ⟨a, e, g.ix h1⟩
  | .ty n, v, h => by unfold Rep at *; exact h
theorem Reps.grow (S : RepS K H ρ st) (g : Grow H ρ H' ρ') : ∀ (xs : List PV) (vs : List V), Reps K H ρ xs vs → Reps K H' ρ' xs vs
  | [], vs, h => by unfold Reps at *; exact h
  | x :: xs, vs, h => by
    unfold Reps at *
    obtain ⟨v, r, e, h1, h2⟩ := h
    exact ⟨v, r, e, Rep.grow S g x v h1, Reps.grow S g xs r h2⟩
end
theorem RepK.grow (S : RepS K H ρ st) (g : Grow H ρ H' ρ') : ∀ (xs : List (Key × PV)) (vs : List (Key × V)), RepK K H ρ xs vs → RepK K H' ρ' xs vs
  | [], vs, h => h
  | x :: xs, vs, h => by
    obtain ⟨v, r, e, h1, h2⟩ := h
    exact ⟨v, r, e, Rep.grow S g _ v h1, RepK.grow S g xs r h2⟩
theorem RepE.grow (S : RepS K H ρ st) (g : Grow H ρ H' ρ') (E : RepE K H ρ env σ) : RepE K H' ρ' env σ :=
  ⟨E.len, fun i x h => by
    obtain ⟨v, h1, h2⟩ := E.at_ i x h
    exact ⟨v, h1, Rep.grow S g _ _ h2⟩⟩
theorem Reps.length : ∀ {xs : List PV} {vs : List V}, Reps K H ρ xs vs → xs.length = vs.length
  | [], vs, h => by unfold Reps at h; subst h; rfl
  | x :: xs, vs, h => by
    unfold Reps at h
    obtain ⟨v, r, rfl, _, h2⟩ := h
    simp [Reps.length h2]
theorem Reps.get : ∀ {xs : List PV} {vs : List V} {i : Nat} {x : PV}, Reps K H ρ xs vs → xs[i]? = some x → ∃ v, vs[i]? = some v ∧ Rep K H ρ x v
  | [], _, _, _, _, e => by simp at e
  | y :: ys, vs, 0, x, h, e => by
    unfold Reps at h
    obtain ⟨v, r, rfl, h1, _⟩ := h
    simp at e; subst e
    exact ⟨v, rfl, h1⟩
  | y :: ys, vs, i + 1, x, h, e => by
    unfold Reps at h
    obtain ⟨v, r, rfl, _, h2⟩ := h
    obtain ⟨w, a, b⟩ := Reps.get (i := i) (x := x) h2 (by simpa using e)
    exact ⟨w, by simpa using a, b⟩
theorem Reps.append : ∀ {xs ys : List PV} {vs ws : List V}, Reps K H ρ xs vs → Reps K H ρ ys ws → Reps K H ρ (xs ++ ys) (vs ++ ws)
  | [], _, _, _, h, h' => by unfold Reps at h; subst h; exact h'
  | x :: xs, _, _, _, h, h' => by
    unfold Reps at h
    obtain ⟨v, r, rfl, h1, h2⟩ := h
    show Reps K H ρ (x :: (xs ++ _)) (v :: (r ++ _))
    unfold Reps
    exact ⟨v, _, rfl, h1, Reps.append h2 h'⟩
theorem Reps.drop : ∀ {xs : List PV} {vs : List V} (n : Nat), Reps K H ρ xs vs → Reps K H ρ (xs.drop n) (vs.drop n)
  | _, _, 0, h => h
  | [], _, n + 1, h => by unfold Reps at h; subst h; simp [Reps]
  | x :: xs, _, n + 1, h => by
    unfold Reps at h
    obtain ⟨v, r, rfl, _, h2⟩ := h
    exact Reps.drop n h2
theorem Reps.take : ∀ {xs : List PV} {vs : List V} (n : Nat), Reps K H ρ xs vs → Reps K H ρ (xs.take n) (vs.take n)
  | _, _, 0, h => by simp [Reps]
  | [], _, n + 1, h => by unfold Reps at h; subst h; simp [Reps]
  | x :: xs, _, n + 1, h => by
    unfold Reps at h
    obtain ⟨v, r, rfl, h1, h2⟩ := h
    show Reps K H ρ (x :: xs.take n) (v :: r.take n)
    unfold Reps
    exact ⟨v, _, rfl, h1, Reps.take n h2⟩
theorem Reps.set {y : PV} {w : V} (hy : Rep K H ρ y w) : ∀ {xs : List PV} {vs : List V} (n : Nat), Reps K H ρ xs vs → Reps K H ρ (xs.set n y) (vs.set n w)
  | [], _, n, h => by unfold Reps at h; subst h; simp [Reps]
  | x :: xs, _, 0, h => by
    unfold Reps at h
    obtain ⟨v, r, rfl, h1, h2⟩ := h
    show Reps K H ρ (y :: xs) (w :: r)
    unfold Reps
    exact ⟨w, _, rfl, hy, h2⟩
  | x :: xs, _, n + 1, h => by
    unfold Reps at h
    obtain ⟨v, r, rfl, h1, h2⟩ := h
    show Reps K H ρ (x :: xs.set n y) (v :: r.set n w)
    unfold Reps
    exact ⟨v, _, rfl, h1, Reps.set hy n h2⟩
theorem RepE.set (E : RepE K H ρ env σ) {x : PV} {v : V} (h : Rep K H ρ x v) (i : Nat) : RepE K H ρ (env.set i (some x)) (σ.set i (some v)) := by
  refine ⟨by simpa using E.len, fun j y hj => ?_⟩
  by_cases e : i = j
  · subst e
    by_cases hl : i < env.length
    · rw [List.getElem?_set_self hl] at hj
      cases hj
      exact ⟨v, List.getElem?_set_self (by rw [← E.len]; exact hl), h⟩
    · rw [List.getElem?_eq_none (by simpa using hl)] at hj
      cases hj
  · rw [List.getElem?_set_ne e] at hj
    obtain ⟨w, a, b⟩ := E.at_ j y hj
    exact ⟨w, by rw [List.getElem?_set_ne e]; exact a, b⟩
/-- a new tuple -/
theorem grow_new {p : Addr} {o : HO} (h : H p = none) : Grow H ρ (upd H p o) ρ :=
  ⟨⟨[], by simp, fun _ h => by simp at h⟩, fun b u _ e => by rw [upd_ne (ne_of_none e h)]; exact e, fun b e => by
    by_cases hb : b = p
    · subst hb; exact h
    · rw [upd_ne hb] at e; exact e⟩
theorem grow_alloc {p : Addr} {o : HO} (h : H p = none) : Grow H ρ (upd H p o) (ρ ++ [p]) :=
  ⟨⟨[p], rfl, fun b hb => by simp at hb; subst hb; exact h⟩, (grow_new h (ρ := ρ)).keep, (grow_new h (ρ := ρ)).dom⟩
theorem grow_write {p : Addr} {o u : HO} (h : H p = some u) (m : p ∈ ρ) : Grow H ρ (upd H p o) ρ :=
  ⟨⟨[], by simp, fun _ h => by simp at h⟩, fun b w nb e => by rw [upd_ne (fun z => nb (by rw [z]; exact m))]; exact e, fun b e => by
    by_cases hb : b = p
    · subst hb; rw [upd_same] at e; cases e
    · rw [upd_ne hb] at e; exact e⟩
/-- the store as it was, one heap on -/
theorem RepO.grow (S : RepS K H ρ st) (g : Grow H ρ H' ρ') {so : SO} {a : Addr} (h : RepO K H ρ so a) (e : H' a = H a) : RepO K H' ρ' so a := by
  cases so with
  | lst xs => obtain ⟨vs, h1, h2⟩ := h; exact ⟨vs, by rw [e]; exact h1, Reps.grow S g _ _ h2⟩
  | dK xs => obtain ⟨vs, h1, h2⟩ := h; exact ⟨vs, by rw [e]; exact h1, RepK.grow S g _ _ h2⟩
theorem RepS.same (S : RepS K H ρ st) (g : Grow H ρ H' ρ) (e : ∀ a ∈ ρ, H' a = H a) : RepS K H' ρ st :=
  ⟨S.len, S.nd, fun n so h => by
    obtain ⟨a, h1, h2⟩ := S.at_ n so h
    exact ⟨a, h1, h2.grow S g (e a (List.mem_of_getElem? h1))⟩⟩
theorem RepS.new {p : Addr} {o : HO} (S : RepS K H ρ st) (h : H p = none) : RepS K (upd H p o) ρ st :=
  S.same (grow_new h) fun a ha => upd_ne fun e => S.fresh h (by rw [← e]; exact ha)
theorem RepS.alloc {p : Addr} {o : HO} {so : SO} (S : RepS K H ρ st) (h : H p = none) (r : RepO K (upd H p o) (ρ ++ [p]) so p) : RepS K (upd H p o) (ρ ++ [p]) (st ++ [so]) := by
  refine ⟨by simp [S.len], ?_, fun n so' hn => ?_⟩
  · exact List.nodup_append.mpr ⟨S.nd, by simp, fun a ha b hb => by simp at hb; subst hb; exact fun e => S.fresh h (by rw [← e]; exact ha)⟩
  · by_cases hl : n < st.length
    · rw [List.getElem?_append_left hl] at hn
      obtain ⟨a, h1, h2⟩ := S.at_ n so' hn
      exact ⟨a, (grow_alloc h (o := o)).ix h1, h2.grow S (grow_alloc h) (upd_ne fun e => S.fresh h (by rw [← e]; exact List.mem_of_getElem? h1))⟩
    · have e : n = st.length := by
        have := (List.getElem?_eq_some_iff.mp hn).1
        simp at this; omega
      subst e
      rw [List.getElem?_append_right (Nat.le_refl _)] at hn
      simp at hn; subst hn
      exact ⟨p, by rw [← S.len, List.getElem?_append_right (Nat.le_refl _)]; simp, r⟩
theorem RepS.write {p : Addr} {o u : HO} {so : SO} {n : Nat} (S : RepS K H ρ st) (hn : ρ[n]? = some p) (h : H p = some u) (r : RepO K (upd H p o) ρ so p) : RepS K (upd H p o) ρ (st.set n so) := by
  have g : Grow H ρ (upd H p o) ρ := grow_write h (List.mem_of_getElem? hn)
  refine ⟨by simpa using S.len, S.nd, fun m so' hm => ?_⟩
  by_cases e : n = m
  · subst e
    have hl : n < st.length := by have := (List.getElem?_eq_some_iff.mp hn).1; rw [S.len] at this; exact this
    rw [List.getElem?_set_self hl] at hm; cases hm
    exact ⟨p, hn, r⟩
  · rw [List.getElem?_set_ne e] at hm
    obtain ⟨a, h1, h2⟩ := S.at_ m so' hm
    refine ⟨a, h1, h2.grow S g (upd_ne fun z => e ?_)⟩
    subst z
    obtain ⟨l1, e1⟩ := List.getElem?_eq_some_iff.mp hn
    obtain ⟨l2, e2⟩ := List.getElem?_eq_some_iff.mp h1
    exact (List.getElem_inj S.nd).mp (e1.trans e2.symm)
end
end IL

namespace IL
open PySem PySem.Spec PyProof.Rows L2

/-! ### what is computed, by plain functions -/
def ob {α β : Type} (m : Option (α × Sto)) (k : α → Sto → Option β) : Option β := match m with
  | some (a, s) => k a s
  | none => none
theorem ob_some {α β : Type} {m : Option (α × Sto)} {k : α → Sto → Option β} {r : β} (h : ob m k = some r) : ∃ a s, m = some (a, s) ∧ k a s = some r := by
  unfold ob at h
  split at h
  · exact ⟨_, _, rfl, h⟩
  · cases h
abbrev IE := PEnv → Sto → Option (PV × Sto)
abbrev IA := PEnv → Sto → Option (List PV × Sto)
abbrev IT := PEnv → Sto → Option (Bool × Sto)
abbrev IO := PEnv → Sto → Option (Option Int × Sto)
inductive Fl where
  | nx (e : PEnv) (s : Sto) | rt (v : PV) (s : Sto) | bk (e : PEnv) (s : Sto) | ct (e : PEnv) (s : Sto)
abbrev IS := PEnv → Sto → Option Fl
/-- operations on values -/
abbrev F1 := PV → Sto → Option (PV × Sto)
abbrev F2 := PV → PV → Sto → Option (PV × Sto)
abbrev FA := List PV → Sto → Option (PV × Sto)

section
variable (K : PySem.W.Frag)
def tI (i : IE) : TE := fun σ H Q => ∃ env st ρ x st', RepE K H ρ env σ ∧ RepS K H ρ st ∧ i env st = some (x, st') ∧ ∀ v H' ρ', Grow H ρ H' ρ' → RepS K H' ρ' st' → Rep K H' ρ' x v → Q v H'
def tIA (i : IA) : TA := fun σ H Q => ∃ env st ρ x st', RepE K H ρ env σ ∧ RepS K H ρ st ∧ i env st = some (x, st') ∧ ∀ v H' ρ', Grow H ρ H' ρ' → RepS K H' ρ' st' → Reps K H' ρ' x v → Q v H'
def tIT (i : IT) : TT := fun σ H Q => ∃ env st ρ x st', RepE K H ρ env σ ∧ RepS K H ρ st ∧ i env st = some (x, st') ∧ ∀ H' ρ', Grow H ρ H' ρ' → RepS K H' ρ' st' → Q x H'
def tIO (i : IO) : TO := fun σ H Q => ∃ env st ρ x st', RepE K H ρ env σ ∧ RepS K H ρ st ∧ i env st = some (x, st') ∧ ∀ H' ρ', Grow H ρ H' ρ' → RepS K H' ρ' st' → Q x H'
def PostF (D : Ends) (H : Hp) (ρ : List Addr) : Fl → Prop
  | .nx e s => ∀ σ' H' ρ', Grow H ρ H' ρ' → RepS K H' ρ' s → RepE K H' ρ' e σ' → D.nx σ' H'
  | .bk e s => ∀ σ' H' ρ', Grow H ρ H' ρ' → RepS K H' ρ' s → RepE K H' ρ' e σ' → D.bk σ' H'
  | .ct e s => ∀ σ' H' ρ', Grow H ρ H' ρ' → RepS K H' ρ' s → RepE K H' ρ' e σ' → D.ct σ' H'
  | .rt x s => ∀ v H' ρ', Grow H ρ H' ρ' → RepS K H' ρ' s → Rep K H' ρ' x v → D.rt v H'
def tIS (i : IS) : TS := fun D σ H => ∃ env st ρ f, RepE K H ρ env σ ∧ RepS K H ρ st ∧ i env st = some f ∧ PostF K D H ρ f
/-- an operation's reading does what the function does -/
def OpI (r : R2) (f : F2) : Prop := ∀ H ρ st x y vx vy z st' (Q : VK), RepS K H ρ st → Rep K H ρ x vx → Rep K H ρ y vy → f x y st = some (z, st') → (∀ v H' ρ', Grow H ρ H' ρ' → RepS K H' ρ' st' → Rep K H' ρ' z v → Q v H') → r vx vy H Q
def UnI (r : V → Hp → VK → Prop) (f : F1) : Prop := ∀ H ρ st x vx z st' (Q : VK), RepS K H ρ st → Rep K H ρ x vx → f x st = some (z, st') → (∀ v H' ρ', Grow H ρ H' ρ' → RepS K H' ρ' st' → Rep K H' ρ' z v → Q v H') → r vx H Q
def CallI (r : List V → Hp → VK → Prop) (f : FA) : Prop := ∀ H ρ st xs vs z st' (Q : VK), RepS K H ρ st → Reps K H ρ xs vs → f xs st = some (z, st') → (∀ v H' ρ', Grow H ρ H' ρ' → RepS K H' ρ' st' → Rep K H' ρ' z v → Q v H') → r vs H Q
end
section
variable {X : Cx} {e : Expr}
theorem PE.imp {t t' : TE} (h : PE X e t) (m : ∀ σ H Q, t' σ H Q → t σ H Q) : PE X e t' := ⟨fun pins s σ H Q I q => h.run pins s σ H Q I (m σ H Q q)⟩
theorem PT.imp {t t' : TT} (h : PT X e t) (m : ∀ σ H Q, t' σ H Q → t σ H Q) : PT X e t' := ⟨fun pins s σ H Q I q => h.run pins s σ H Q I (m σ H Q q)⟩
theorem PA.imp {es : List Expr} {t t' : TA} (h : PA X es t) (m : ∀ σ H Q, t' σ H Q → t σ H Q) : PA X es t' := ⟨fun pos pins s σ H Q I q => h.run pos pins s σ H Q I (m σ H Q q)⟩
theorem PO.imp {e : Option Expr} {t t' : TO} (h : PO X e t) (m : ∀ σ H Q, t' σ H Q → t σ H Q) : PO X e t' := ⟨fun pins s σ H Q I q => h.run pins s σ H Q I (m σ H Q q)⟩
theorem PS.imp {st : Stmt} {t t' : TS} (h : PS X st t) (m : ∀ D σ H, t' D σ H → t D σ H) : PS X st t' := ⟨fun pins s σ H D I q => h.run pins s σ H D I (m D σ H q)⟩
theorem PSs.imp {st : List Stmt} {t t' : TS} (h : PSs X st t) (m : ∀ D σ H, t' D σ H → t D σ H) : PSs X st t' := ⟨fun pins s σ H D I q => h.run pins s σ H D I (m D σ H q)⟩
theorem OpR.or {f : Value → Value → Sem Value} {r r' : R2} (h : OpR X f r) (h' : OpR X f r') : OpR X f (fun x y H Q => r x y H Q ∨ r' x y H Q) := fun pins s σ H x y v u Q I rx ry q =>
  q.elim (h pins s σ H x y v u Q I rx ry) (h' pins s σ H x y v u Q I rx ry)
theorem CallR.or {f : Value} {r r' : List V → Hp → VK → Prop} (h : CallR X f r) (h' : CallR X f r') : CallR X f (fun x H Q => r x H Q ∨ r' x H Q) := fun pins s σ H xs us Q I rx q =>
  q.elim (h pins s σ H xs us Q I rx) (h' pins s σ H xs us Q I rx)
theorem SlR.or {r r' : V → Option Int → Option Int → Hp → VK → Prop} (h : SlR X r) (h' : SlR X r') : SlR X (fun x a b H Q => r x a b H Q ∨ r' x a b H Q) := fun pins s σ H x v vl vu lo hi sl Q I rx hs pl pu q =>
  q.elim (h pins s σ H x v vl vu lo hi sl Q I rx hs pl pu) (h' pins s σ H x v vl vu lo hi sl Q I rx hs pl pu)
end

section
variable {X : Cx} {a b c e : Expr} {es rest : List Expr} {pos : Pos} {ia ib ic : IE} {ta tb : IT}
/-! ### names, constants -/
def iVar (i : Nat) : IE := fun env st => match env[i]? with
  | some (some v) => some (v, st)
  | _ => none
theorem r_var {i : Nat} {x : Str} (hN : X.N[i]? = some x) (hv : Vis X.env.scope x) (hd : (x == ("__debug__" : Str)) = false := by decide) (hcd : (x == ("__classdict__" : Str)) = false := by decide) : PE X (.Name x pos) (tI X.K (iVar i)) :=
  PE.imp (pe_var hN hv hd hcd) fun σ H Q ⟨env, st, ρ, x, st', E, S, h, q⟩ => by
    unfold iVar at h
    split at h
    · rename_i v e
      cases h
      obtain ⟨w, h1, h2⟩ := E.at_ i _ e
      exact ⟨w, h1, q w H ρ Grow.refl S h2⟩
    · cases h
def iC (v : PV) : IE := fun _ st => some (v, st)
theorem r_c {x : PV} {v : V} (h : PE X e (tC v)) (r : ∀ H ρ, Rep X.K H ρ x v) : PE X e (tI X.K (iC x)) := PE.imp h fun σ H Q ⟨env, st, ρ, y, st', E, S, h, q⟩ => by
  cases h
  exact q v H ρ Grow.refl S (r H ρ)
theorem r_int {i j} : PE X (.Constant (.int i) j pos) (tI X.K (iC (.int i))) := r_c pe_int fun _ _ => by unfold Rep; rfl
theorem r_bl {i j} : PE X (.Constant (.bool i) j pos) (tI X.K (iC (.bl i))) := r_c pe_bl fun _ _ => by unfold Rep; rfl
theorem r_non {j} : PE X (.Constant .none j pos) (tI X.K (iC .non)) := r_c pe_non fun _ _ => by unfold Rep; rfl
theorem r_str {i j} : PE X (.Constant (.str i) j pos) (tI X.K (iC (.str i))) := r_c pe_str fun _ _ => by unfold Rep; rfl
/-- a module's constant -/
def GC (K : PySem.W.Frag) (mg : Str → Option Value) (x : Str) (y : PV) : Prop := ∃ u v, mg x = some u ∧ RelV v u ∧ ∀ H ρ, Rep K H ρ y v
theorem r_glob {x : Str} {y : PV} (hg : Gl X x) (h : GC X.K X.mg x y) (hd : (x == ("__debug__" : Str)) = false := by decide) : PE X (.Name x pos) (tI X.K (iC y)) := by
  obtain ⟨u, v, h1, h2, h3⟩ := h
  exact r_c (pe_glob hg h1 h2 hd) h3
/-- a built-in class as a value -/
theorem r_ty {x : Str} {n : String} (hg : Gl X x) (hm : X.mg x = none) (hv : bootBuiltins x = some (.type n)) (hn : x ≠ "__name__" := by decide) (hd : (x == ("__debug__" : Str)) = false := by decide) : PE X (.Name x pos) (tI X.K (iC (.ty n))) :=
  r_c (pe_bltn (v := .ty n) hg hm hv rfl hn hd) fun _ _ => by unfold Rep; rfl

/-! ### two in a row -/
def iBin (f : F2) (ia ib : IE) : IE := fun env st => ob (ia env st) fun x s1 => ob (ib env s1) fun y s2 => f x y s2
def iUn (f : F1) (ia : IE) : IE := fun env st => ob (ia env st) fun x s1 => f x s1
theorem bin_to {r : R2} {f : F2} {K : PySem.W.Frag} (hf : OpI K r f) {σ : L2.St} {H : Hp} {Q : VK} (h : tI K (iBin f ia ib) σ H Q) : tOp r (tI K ia) (tI K ib) σ H Q := by
  obtain ⟨env, st, ρ, z, st', E, S, h, q⟩ := h
  obtain ⟨x, s1, h1, h⟩ := ob_some h
  obtain ⟨y, s2, h2, h⟩ := ob_some h
  refine ⟨env, st, ρ, x, s1, E, S, h1, fun vx H1 ρ1 G1 S1 R1 => ⟨env, s1, ρ1, y, s2, E.grow S G1, S1, h2, fun vy H2 ρ2 G2 S2 R2 => ?_⟩⟩
  exact hf H2 ρ2 s2 x y vx vy z st' Q S2 (Rep.grow S1 G2 _ _ R1) R2 h fun v H3 ρ3 G3 S3 R3 => q v H3 ρ3 ((G1.trans G2).trans G3) S3 R3
theorem r_op {op : Operator} {r : R2} {f : F2} (ho : OpR X (binaryOp op) r) (hf : OpI X.K r f) (ha : PE X a (tI X.K ia)) (hb : PE X b (tI X.K ib)) : PE X (.BinOp a op b pos) (tI X.K (iBin f ia ib)) :=
  PE.imp (pe_op ho ha hb) fun _ _ _ h => bin_to hf h
theorem r_cmp {op : CmpOp} {r : R2} {f : F2} (ho : OpR X (compareOp op) r) (hf : OpI X.K r f) (ha : PE X a (tI X.K ia)) (hb : PE X b (tI X.K ib)) (hm : behindInMarks op b = false) : PE X (.Compare a [op] [b] pos) (tI X.K (iBin f ia ib)) :=
  PE.imp (pe_cmpR ho ha hb hm) fun _ _ _ h => bin_to hf h
theorem r_ix {r : R2} {f : F2} (ho : IxR X r) (hf : OpI X.K r f) (ha : PE X a (tI X.K ia)) (hb : PE X b (tI X.K ib)) (hs : PlainIx b) : PE X (.Subscript a b pos) (tI X.K (iBin f ia ib)) :=
  PE.imp (pe_ix ho ha hb hs) fun _ _ _ h => bin_to hf h
theorem r_un {op : UnaryOp} {r : V → Hp → VK → Prop} {f : F1} (ho : UnR X (unaryOp op) r) (hf : UnI X.K r f) (ha : PE X a (tI X.K ia)) : PE X (.UnaryOp op a pos) (tI X.K (iUn f ia)) :=
  PE.imp (pe_un ho ha) fun σ H Q ⟨env, st, ρ, z, st', E, S, h, q⟩ => by
    obtain ⟨x, s1, h1, h⟩ := ob_some h
    exact ⟨env, st, ρ, x, s1, E, S, h1, fun vx H1 ρ1 G1 S1 R1 => hf H1 ρ1 s1 x vx z st' Q S1 R1 h fun v H3 ρ3 G3 S3 R3 => q v H3 ρ3 (G1.trans G3) S3 R3⟩
/-- a chain of two comparisons -/
def iChain (f g : F2) (ia ib ic : IE) : IE := fun env st => ob (ia env st) fun x s1 => ob (ib env s1) fun y s2 => ob (f x y s2) fun z s3 => match z with
  | .bl true => ob (ic env s3) fun w s4 => g y w s4
  | .bl false => some (.bl false, s3)
  | _ => none
theorem r_chain {op op' : CmpOp} {r r' : R2} {f g : F2} (ho : OpR X (compareOp op) r) (hf : OpI X.K r f) (ho' : OpR X (compareOp op') r') (hg : OpI X.K r' g) (ha : PE X a (tI X.K ia)) (hb : PE X b (tI X.K ib)) (hc : PE X c (tI X.K ic))
    (hm : lastMarks [op, op'] [b, c] = false := by with_unfolding_all rfl) : PE X (.Compare a [op, op'] [b, c] pos) (tI X.K (iChain f g ia ib ic)) :=
  PE.imp (pe_chain ho ho' ha hb hc hm) fun σ H Q ⟨env, st, ρ, z, st', E, S, h, q⟩ => by
    obtain ⟨x, s1, h1, h⟩ := ob_some h
    obtain ⟨y, s2, h2, h⟩ := ob_some h
    obtain ⟨w, s3, h3, h⟩ := ob_some h
    refine ⟨env, st, ρ, x, s1, E, S, h1, fun vx H1 ρ1 G1 S1 R1 => ⟨env, s1, ρ1, y, s2, E.grow S G1, S1, h2, fun vy H2 ρ2 G2 S2 R2 => ?_⟩⟩
    refine hf H2 ρ2 s2 x y vx vy w s3 _ S2 (Rep.grow S1 G2 _ _ R1) R2 h3 fun v H3 ρ3 G3 S3 R3 => ?_
    split at h
    · unfold Rep at R3
      subst R3
      obtain ⟨w, s4, h4, h⟩ := ob_some h
      refine ⟨true, rfl, ?_⟩
      rw [if_pos rfl]
      refine ⟨env, s3, ρ3, w, s4, ((E.grow S G1).grow S1 G2).grow S2 G3, S3, h4, fun vw H4 ρ4 G4 S4 R4 => ?_⟩
      exact hg H4 ρ4 s4 y w vy vw z st' Q S4 (Rep.grow S3 G4 _ _ (Rep.grow S2 G3 _ _ R2)) R4 h fun v H5 ρ5 G5 S5 R5 => q v H5 ρ5 ((((G1.trans G2).trans G3).trans G4).trans G5) S5 R5
    · unfold Rep at R3
      subst R3
      cases h
      refine ⟨false, rfl, ?_⟩
      rw [if_neg Bool.false_ne_true]
      exact q _ H3 ρ3 ((G1.trans G2).trans G3) S3 (by unfold Rep; rfl)
    · cases h

/-! ### truth -/
def tru (st : Sto) : PV → Option Bool
  | .non => some false
  | .bl b => some b
  | .int i => some (i != 0)
  | .str x => if x.length ≤ 100000 then some ((x.length : Int) != 0) else none
  | .tup xs => some (!xs.isEmpty)
  | .frz xs => some (!xs.isEmpty)
  | .ref n => match st[n]? with
    | some (.lst xs) => some (!xs.isEmpty)
    | some (.dK kvs) => some (!kvs.isEmpty)
    | _ => none
  | .ty _ => none
theorem line5 {n : Nat} (h : n ≤ 100000) : n ≤ sizeLine := Nat.le_trans h (by decide)
theorem Reps.empty {K : PySem.W.Frag} {H : Hp} {ρ : List Addr} {xs : List PV} {vs : List V} (h : Reps K H ρ xs vs) : vs.isEmpty = xs.isEmpty := by
  have := h.length
  cases xs <;> cases vs <;> simp_all
theorem RepK.length {K : PySem.W.Frag} {H : Hp} {ρ : List Addr} : ∀ {xs : List (Key × PV)} {vs : List (Key × V)}, RepK K H ρ xs vs → xs.length = vs.length
  | [], vs, h => by subst h; rfl
  | x :: xs, vs, h => by
    obtain ⟨v, r, rfl, _, h2⟩ := h
    simp [RepK.length h2]
theorem RepK.empty {K : PySem.W.Frag} {H : Hp} {ρ : List Addr} {xs : List (Key × PV)} {vs : List (Key × V)} (h : RepK K H ρ xs vs) : vs.isEmpty = xs.isEmpty := by
  have := h.length
  cases xs <;> cases vs <;> simp_all
theorem tru_rep {K : PySem.W.Frag} {H : Hp} {ρ : List Addr} {st : Sto} (S : RepS K H ρ st) {x : PV} {v : V} {k : Bool} (R : Rep K H ρ x v) (h : tru st x = some k) : TruV K v H k := by
  cases x with
  | non => unfold Rep at R; subst R; cases h; rfl
  | bl b => unfold Rep at R; subst R; cases h; rfl
  | int i => unfold Rep at R; subst R; cases h; rfl
  | str y =>
    unfold Rep at R; subst R
    simp only [tru] at h
    split at h
    · cases h; exact ⟨line5 (by assumption), rfl⟩
    · cases h
  | tup xs =>
    unfold Rep at R
    obtain ⟨a, vs, rfl, h1, h2⟩ := R
    cases h
    exact .inr (.inl ⟨vs, h1, by rw [h2.empty]⟩)
  | frz xs =>
    unfold Rep at R
    obtain ⟨a, vs, rfl, h1, h2⟩ := R
    cases h
    exact .inl ⟨vs, h1.sq, by rw [h2.empty]⟩
  | ty n => cases h
  | ref n =>
    unfold Rep at R
    obtain ⟨a, rfl, h1⟩ := R
    simp only [tru] at h
    split at h
    · rename_i xs e
      obtain ⟨b, hb, vs, h2, h3⟩ := S.at_ _ _ e
      rw [h1] at hb; cases hb
      cases h
      exact .inl ⟨vs, .of h2, by rw [h3.empty]⟩
    · rename_i xs e
      obtain ⟨b, hb, vs, h2, h3⟩ := S.at_ _ _ e
      rw [h1] at hb; cases hb
      cases h
      exact .inr (.inr ⟨vs, h2, by rw [h3.empty]⟩)
    · cases h
def iTest (ia : IE) : IT := fun env st => ob (ia env st) fun x s1 => (tru s1 x).map fun k => (k, s1)
theorem map_pair {α : Type} {o : Option α} {s : Sto} {r : α × Sto} (h : (o.map fun k => (k, s)) = some r) : o = some r.1 ∧ r.2 = s := by
  cases o with
  | none => cases h
  | some k => cases h; exact ⟨rfl, rfl⟩
theorem r_truth (ha : PE X a (tI X.K ia)) (he : ∀ whole, isTrue a X.env whole = (do let v ← whole; standAt a.pos; holding [v] (truthy v))) : PT X a (tIT X.K (iTest ia)) :=
  PT.imp (pt_truth ha he) fun σ H Q ⟨env, st, ρ, z, st', E, S, h, q⟩ => by
    obtain ⟨x, s1, h1, h⟩ := ob_some h
    obtain ⟨h2, h3⟩ := map_pair h
    simp only at h2 h3
    subst h3
    exact ⟨env, st, ρ, x, _, E, S, h1, fun v H1 ρ1 G1 S1 R1 => ⟨z, tru_rep S1 R1 h2, q H1 ρ1 G1 S1⟩⟩
/-- a comparison as a test -/
def isBl : PV → Option Bool
  | .bl b => some b
  | _ => none
def iTestB (ia : IE) : IT := fun env st => ob (ia env st) fun x s1 => (isBl x).map fun k => (k, s1)
theorem testB_to {K : PySem.W.Frag} {σ : L2.St} {H : Hp} {Q : Bool → Hp → Prop} (h : tIT K (iTestB ia) σ H Q) : tTest (tI K ia) σ H Q := by
  obtain ⟨env, st, ρ, z, st', E, S, h, q⟩ := h
  obtain ⟨x, s1, h1, h⟩ := ob_some h
  obtain ⟨h2, h3⟩ := map_pair h
  simp only at h2 h3
  subst h3
  refine ⟨env, st, ρ, x, _, E, S, h1, fun v H1 ρ1 G1 S1 R1 => ?_⟩
  cases x <;> simp only [isBl, Option.some.injEq, reduceCtorEq] at h2
  subst h2
  unfold Rep at R1
  exact ⟨_, R1, q H1 ρ1 G1 S1⟩
theorem TE_test_mono {t t' : TE} (m : ∀ σ H Q, t' σ H Q → t σ H Q) {σ : L2.St} {H : Hp} {Q : Bool → Hp → Prop} (h : tTest t' σ H Q) : tTest t σ H Q := m _ _ _ h
theorem r_cmpT {op : CmpOp} {r : R2} {f : F2} (ho : OpR X (compareOp op) r) (hf : OpI X.K r f) (ha : PE X a (tI X.K ia)) (hb : PE X b (tI X.K ib)) (hm : behindInMarks op b = false) : PT X (.Compare a [op] [b] pos) (tIT X.K (iTestB (iBin f ia ib))) :=
  PT.imp (pt_cmpR ho ha hb hm) fun _ _ _ h => TE_test_mono (fun _ _ _ h => bin_to hf h) (testB_to h)
theorem chain_to {K : PySem.W.Frag} {r r' : R2} {f g : F2} (hf : OpI K r f) (hg : OpI K r' g) {σ : L2.St} {H : Hp} {Q : VK} (h : tI K (iChain f g ia ib ic) σ H Q) : tChain r r' (tI K ia) (tI K ib) (tI K ic) σ H Q := by
  obtain ⟨env, st, ρ, z, st', E, S, h, q⟩ := h
  obtain ⟨x, s1, h1, h⟩ := ob_some h
  obtain ⟨y, s2, h2, h⟩ := ob_some h
  obtain ⟨w, s3, h3, h⟩ := ob_some h
  refine ⟨env, st, ρ, x, s1, E, S, h1, fun vx H1 ρ1 G1 S1 R1 => ⟨env, s1, ρ1, y, s2, E.grow S G1, S1, h2, fun vy H2 ρ2 G2 S2 R2 => ?_⟩⟩
  refine hf H2 ρ2 s2 x y vx vy w s3 _ S2 (Rep.grow S1 G2 _ _ R1) R2 h3 fun v H3 ρ3 G3 S3 R3 => ?_
  split at h
  · unfold Rep at R3
    subst R3
    obtain ⟨w, s4, h4, h⟩ := ob_some h
    refine ⟨true, rfl, ?_⟩
    rw [if_pos rfl]
    refine ⟨env, s3, ρ3, w, s4, ((E.grow S G1).grow S1 G2).grow S2 G3, S3, h4, fun vw H4 ρ4 G4 S4 R4 => ?_⟩
    exact hg H4 ρ4 s4 y w vy vw z st' Q S4 (Rep.grow S3 G4 _ _ (Rep.grow S2 G3 _ _ R2)) R4 h fun v H5 ρ5 G5 S5 R5 => q v H5 ρ5 ((((G1.trans G2).trans G3).trans G4).trans G5) S5 R5
  · unfold Rep at R3
    subst R3
    cases h
    refine ⟨false, rfl, ?_⟩
    rw [if_neg Bool.false_ne_true]
    exact q _ H3 ρ3 ((G1.trans G2).trans G3) S3 (by unfold Rep; rfl)
  · cases h
theorem r_chainT {op op' : CmpOp} {r r' : R2} {f g : F2} (ho : OpR X (compareOp op) r) (hf : OpI X.K r f) (ho' : OpR X (compareOp op') r') (hg : OpI X.K r' g) (ha : PE X a (tI X.K ia)) (hb : PE X b (tI X.K ib)) (hc : PE X c (tI X.K ic))
    (hm : lastMarks [op, op'] [b, c] = false := by with_unfolding_all rfl) : PT X (.Compare a [op, op'] [b, c] pos) (tIT X.K (iTestB (iChain f g ia ib ic))) :=
  PT.imp (pt_chain ho ho' ha hb hc hm) fun _ _ _ h => TE_test_mono (fun _ _ _ h => chain_to hf hg h) (testB_to h)

/-! ### and, or, not -/
def iAnd (t u : IT) : IT := fun env st => ob (t env st) fun k s1 => match k with
  | true => u env s1
  | false => some (false, s1)
def iOr (t u : IT) : IT := fun env st => ob (t env st) fun k s1 => match k with
  | true => some (true, s1)
  | false => u env s1
def iNot (t : IT) : IT := fun env st => ob (t env st) fun k s1 => some (!k, s1)
theorem PW.imp {t t' : TT} (h : PW X e t) (m : ∀ σ H Q, t' σ H Q → t σ H Q) : PW X e t' := ⟨fun w pins s σ H Q I q => h.run w pins s σ H Q I (m σ H Q q)⟩
theorem w_and1 (ha : PT X a (tIT X.K ta)) : PW X (.BoolOp .And [a] pos) (tIT X.K ta) := pw_and1 ha
theorem w_or1 (ha : PT X a (tIT X.K ta)) : PW X (.BoolOp .Or [a] pos) (tIT X.K ta) := pw_or1 ha
theorem w_and (ha : PT X a (tIT X.K ta)) (hb : PW X (.BoolOp .And (b :: rest) pos) (tIT X.K tb)) : PW X (.BoolOp .And (a :: b :: rest) pos) (tIT X.K (iAnd ta tb)) :=
  PW.imp (pw_and ha hb) fun σ H Q ⟨env, st, ρ, z, st', E, S, h, q⟩ => by
    obtain ⟨k, s1, h1, h⟩ := ob_some h
    refine ⟨env, st, ρ, k, s1, E, S, h1, fun H1 ρ1 G1 S1 => ?_⟩
    cases k with
    | true =>
      rw [if_pos rfl]
      exact ⟨env, s1, ρ1, z, st', E.grow S G1, S1, h, fun H2 ρ2 G2 S2 => q H2 ρ2 (G1.trans G2) S2⟩
    | false =>
      rw [if_neg Bool.false_ne_true]
      cases h
      exact q H1 ρ1 G1 S1
theorem w_or (ha : PT X a (tIT X.K ta)) (hb : PW X (.BoolOp .Or (b :: rest) pos) (tIT X.K tb)) : PW X (.BoolOp .Or (a :: b :: rest) pos) (tIT X.K (iOr ta tb)) :=
  PW.imp (pw_or ha hb) fun σ H Q ⟨env, st, ρ, z, st', E, S, h, q⟩ => by
    obtain ⟨k, s1, h1, h⟩ := ob_some h
    refine ⟨env, st, ρ, k, s1, E, S, h1, fun H1 ρ1 G1 S1 => ?_⟩
    cases k with
    | true =>
      rw [if_pos rfl]
      cases h
      exact q H1 ρ1 G1 S1
    | false =>
      rw [if_neg Bool.false_ne_true]
      exact ⟨env, s1, ρ1, z, st', E.grow S G1, S1, h, fun H2 ρ2 G2 S2 => q H2 ρ2 (G1.trans G2) S2⟩
theorem r_not (ha : PT X a (tIT X.K ta)) : PT X (.UnaryOp .Not a pos) (tIT X.K (iNot ta)) :=
  PT.imp (pt_not ha) fun σ H Q ⟨env, st, ρ, z, st', E, S, h, q⟩ => by
    obtain ⟨k, s1, h1, h⟩ := ob_some h
    cases h
    exact ⟨env, st, ρ, k, _, E, S, h1, fun H1 ρ1 G1 S1 => q H1 ρ1 G1 S1⟩
/-- .. as values -/
def iAndV (ia ib : IE) : IE := fun env st => ob (ia env st) fun x s1 => match tru s1 x with
  | some true => ib env s1
  | some false => some (x, s1)
  | none => none
def iOrV (ia ib : IE) : IE := fun env st => ob (ia env st) fun x s1 => match tru s1 x with
  | some true => some (x, s1)
  | some false => ib env s1
  | none => none
def iNotV (ia : IE) : IE := fun env st => ob (ia env st) fun x s1 => (tru s1 x).map fun k => (.bl (!k), s1)
theorem r_one {op} (h : PE X a (tI X.K ia)) : PE X (.BoolOp op [a] pos) (tI X.K ia) := pe_one h
theorem r_andV (ha : PE X a (tI X.K ia)) (hb : PE X (.BoolOp .And (b :: rest) pos) (tI X.K ib)) : PE X (.BoolOp .And (a :: b :: rest) pos) (tI X.K (iAndV ia ib)) :=
  PE.imp (pe_andT ha hb) fun σ H Q ⟨env, st, ρ, z, st', E, S, h, q⟩ => by
    obtain ⟨x, s1, h1, h⟩ := ob_some h
    refine ⟨env, st, ρ, x, s1, E, S, h1, fun v H1 ρ1 G1 S1 R1 => ?_⟩
    split at h
    · rename_i e
      refine ⟨true, tru_rep S1 R1 e, ?_⟩
      rw [if_pos rfl]
      exact ⟨env, s1, ρ1, z, st', E.grow S G1, S1, h, fun v H2 ρ2 G2 S2 R2 => q v H2 ρ2 (G1.trans G2) S2 R2⟩
    · rename_i e
      refine ⟨false, tru_rep S1 R1 e, ?_⟩
      rw [if_neg Bool.false_ne_true]
      cases h
      exact q v H1 ρ1 G1 S1 R1
    · cases h
theorem r_orV (ha : PE X a (tI X.K ia)) (hb : PE X (.BoolOp .Or (b :: rest) pos) (tI X.K ib)) : PE X (.BoolOp .Or (a :: b :: rest) pos) (tI X.K (iOrV ia ib)) :=
  PE.imp (pe_orT ha hb) fun σ H Q ⟨env, st, ρ, z, st', E, S, h, q⟩ => by
    obtain ⟨x, s1, h1, h⟩ := ob_some h
    refine ⟨env, st, ρ, x, s1, E, S, h1, fun v H1 ρ1 G1 S1 R1 => ?_⟩
    split at h
    · rename_i e
      refine ⟨true, tru_rep S1 R1 e, ?_⟩
      rw [if_pos rfl]
      cases h
      exact q v H1 ρ1 G1 S1 R1
    · rename_i e
      refine ⟨false, tru_rep S1 R1 e, ?_⟩
      rw [if_neg Bool.false_ne_true]
      exact ⟨env, s1, ρ1, z, st', E.grow S G1, S1, h, fun v H2 ρ2 G2 S2 R2 => q v H2 ρ2 (G1.trans G2) S2 R2⟩
    · cases h
theorem r_notV (ha : PE X a (tI X.K ia)) : PE X (.UnaryOp .Not a pos) (tI X.K (iNotV ia)) :=
  PE.imp (pe_notT ha) fun σ H Q ⟨env, st, ρ, z, st', E, S, h, q⟩ => by
    obtain ⟨x, s1, h1, h⟩ := ob_some h
    refine ⟨env, st, ρ, x, s1, E, S, h1, fun v H1 ρ1 G1 S1 R1 => ?_⟩
    cases e : tru s1 x with
    | none => rw [e] at h; cases h
    | some k =>
      rw [e] at h
      obtain ⟨rfl, rfl⟩ : PV.bl (!k) = z ∧ s1 = st' := by simpa using h
      exact ⟨k, tru_rep S1 R1 e, q _ H1 ρ1 G1 S1 (by unfold Rep; rfl)⟩
def iIf (t : IT) (ia ib : IE) : IE := fun env st => ob (t env st) fun k s1 => match k with
  | true => ia env s1
  | false => ib env s1
theorem r_ifExp (hc : PT X c (tIT X.K ta)) (ha : PE X a (tI X.K ia)) (hb : PE X b (tI X.K ib)) : PE X (.IfExp c a b pos) (tI X.K (iIf ta ia ib)) :=
  PE.imp (pe_ifExp hc ha hb) fun σ H Q ⟨env, st, ρ, z, st', E, S, h, q⟩ => by
    obtain ⟨k, s1, h1, h⟩ := ob_some h
    refine ⟨env, st, ρ, k, s1, E, S, h1, fun H1 ρ1 G1 S1 => ?_⟩
    cases k with
    | true =>
      rw [if_pos rfl]
      exact ⟨env, s1, ρ1, z, st', E.grow S G1, S1, h, fun v H2 ρ2 G2 S2 R2 => q v H2 ρ2 (G1.trans G2) S2 R2⟩
    | false =>
      rw [if_neg Bool.false_ne_true]
      exact ⟨env, s1, ρ1, z, st', E.grow S G1, S1, h, fun v H2 ρ2 G2 S2 R2 => q v H2 ρ2 (G1.trans G2) S2 R2⟩

/-! ### arguments, displays -/
def iNil : IA := fun _ st => some ([], st)
def iCons (ia : IE) (ir : IA) : IA := fun env st => ob (ia env st) fun x s1 => ob (ir env s1) fun xs s2 => some (x :: xs, s2)
variable {ir : IA}
theorem a_nil : PA X [] (tIA X.K iNil) := PA.imp pa_nil fun σ H Q ⟨env, st, ρ, z, st', E, S, h, q⟩ => by
  cases h
  exact q [] H ρ Grow.refl S (by unfold Reps; rfl)
theorem a_cons (ha : PE X e (tI X.K ia)) (hr : PA X es (tIA X.K ir)) (hs : starEach (e :: es) X.env = (false, eval e X.env) :: starEach es X.env := by rfl) : PA X (e :: es) (tIA X.K (iCons ia ir)) :=
  PA.imp (pa_cons ha hr hs) fun σ H Q ⟨env, st, ρ, z, st', E, S, h, q⟩ => by
    obtain ⟨x, s1, h1, h⟩ := ob_some h
    obtain ⟨xs, s2, h2, h⟩ := ob_some h
    cases h
    refine ⟨env, st, ρ, x, s1, E, S, h1, fun v H1 ρ1 G1 S1 R1 => ⟨env, s1, ρ1, xs, _, E.grow S G1, S1, h2, fun vs H2 ρ2 G2 S2 R2 => ?_⟩⟩
    exact q (v :: vs) H2 ρ2 (G1.trans G2) S2 (by unfold Reps; exact ⟨v, vs, rfl, Rep.grow S1 G2 _ _ R1, R2⟩)
def iTup (ir : IA) : IE := fun env st => ob (ir env st) fun xs s1 => if xs.length ≤ 100000 then some (.tup xs, s1) else none
theorem new_tup {K : PySem.W.Frag} {H : Hp} {ρ : List Addr} {st : Sto} (S : RepS K H ρ st) {xs : List PV} {vs : List V} (R : Reps K H ρ xs vs) {p : Addr} (hp : H p = none) : Rep K (upd H p (.tup vs)) ρ (.tup xs) (.ref p) := by
  unfold Rep
  exact ⟨p, vs, rfl, .of upd_same, Reps.grow S (grow_new hp) _ _ R⟩
theorem r_tup {x1} (h : PA X es (tIA X.K ir)) : PE X (.Tuple es x1 pos) (tI X.K (iTup ir)) :=
  PE.imp (pe_tup h) fun σ H Q ⟨env, st, ρ, z, st', E, S, h, q⟩ => by
    obtain ⟨xs, s1, h1, h⟩ := ob_some h
    split at h
    · rename_i hl
      cases h
      exact ⟨env, st, ρ, xs, _, E, S, h1, fun vs H1 ρ1 G1 S1 R1 => ⟨line5 (by rw [← R1.length]; exact hl), fun p hp => q _ _ ρ1 (G1.trans (grow_new hp)) (S1.new hp) (new_tup S1 R1 hp)⟩⟩
    · cases h
/-- a new list -/
def alloc (so : SO) (st : Sto) : PV × Sto := (.ref st.length, st ++ [so])
theorem new_lst {K : PySem.W.Frag} {H : Hp} {ρ : List Addr} {st : Sto} (S : RepS K H ρ st) {xs : List PV} {vs : List V} (R : Reps K H ρ xs vs) {p : Addr} (hp : H p = none) :
    Grow H ρ (upd H p (.lst vs)) (ρ ++ [p]) ∧ RepS K (upd H p (.lst vs)) (ρ ++ [p]) (alloc (.lst xs) st).2 ∧ Rep K (upd H p (.lst vs)) (ρ ++ [p]) (alloc (.lst xs) st).1 (.ref p) := by
  have g : Grow H ρ (upd H p (.lst vs)) (ρ ++ [p]) := grow_alloc hp
  refine ⟨g, S.alloc hp ⟨vs, upd_same, Reps.grow S g _ _ R⟩, ?_⟩
  unfold alloc Rep
  refine ⟨p, rfl, ?_⟩
  rw [← S.len, List.getElem?_append_right (Nat.le_refl _)]
  simp
def iLst (ir : IA) : IE := fun env st => ob (ir env st) fun xs s1 => if xs.length ≤ 100000 then some (alloc (.lst xs) s1) else none
theorem r_lst (h : PA X es (tIA X.K ir)) : PE X (.List es pos) (tI X.K (iLst ir)) :=
  PE.imp (pe_lst h) fun σ H Q ⟨env, st, ρ, z, st', E, S, h, q⟩ => by
    obtain ⟨xs, s1, h1, h⟩ := ob_some h
    split at h
    · rename_i hl
      refine ⟨env, st, ρ, xs, _, E, S, h1, fun vs H1 ρ1 G1 S1 R1 => ⟨line5 (by rw [← R1.length]; exact hl), fun p hp => ?_⟩⟩
      obtain ⟨a1, a2, a3⟩ := new_lst S1 R1 hp
      have e := Option.some.inj h
      rw [e] at a2 a3
      exact q _ _ _ (G1.trans a1) a2 a3
    · cases h

/-! ### slices -/
def iNo : IO := fun _ st => some (none, st)
def iPart (ia : IE) : IO := fun env st => ob (ia env st) fun x s1 => match x with
  | .int i => some (some i, s1)
  | _ => none
theorem o_none : PO X none (tIO X.K iNo) := PO.imp po_none fun σ H Q ⟨env, st, ρ, z, st', E, S, h, q⟩ => by
  cases h
  exact q H ρ Grow.refl S
theorem o_some (ha : PE X e (tI X.K ia)) : PO X (some e) (tIO X.K (iPart ia)) := PO.imp (po_some ha) fun σ H Q ⟨env, st, ρ, z, st', E, S, h, q⟩ => by
  obtain ⟨x, s1, h1, h⟩ := ob_some h
  split at h
  · cases h
    exact ⟨env, st, ρ, _, _, E, S, h1, fun v H1 ρ1 G1 S1 R1 => by
      unfold Rep at R1
      exact ⟨_, R1, q H1 ρ1 G1 S1⟩⟩
  · cases h
abbrev FSl := PV → Option Int → Option Int → Sto → Option (PV × Sto)
def iSl (f : FSl) (ia : IE) (lo hi : IO) : IE := fun env st => ob (ia env st) fun x s1 => ob (lo env s1) fun l s2 => ob (hi env s2) fun u s3 => f x l u s3
def SlI (K : PySem.W.Frag) (r : V → Option Int → Option Int → Hp → VK → Prop) (f : FSl) : Prop :=
  ∀ H ρ st x vx lo hi z st' (Q : VK), RepS K H ρ st → Rep K H ρ x vx → f x lo hi st = some (z, st') → (∀ v H' ρ', Grow H ρ H' ρ' → RepS K H' ρ' st' → Rep K H' ρ' z v → Q v H') → r vx lo hi H Q
theorem r_slice {r : V → Option Int → Option Int → Hp → VK → Prop} {f : FSl} {lo hi : Option Expr} {il ih : IO} {p2 : Pos} (hr : SlR X r) (hf : SlI X.K r f) (ha : PE X e (tI X.K ia)) (hl : PO X lo (tIO X.K il)) (hh : PO X hi (tIO X.K ih)) :
    PE X (.Subscript e (.Slice lo hi none p2) pos) (tI X.K (iSl f ia il ih)) :=
  PE.imp (pe_slice hr ha hl hh) fun σ H Q ⟨env, st, ρ, z, st', E, S, h, q⟩ => by
    obtain ⟨x, s1, h1, h⟩ := ob_some h
    obtain ⟨l, s2, h2, h⟩ := ob_some h
    obtain ⟨u, s3, h3, h⟩ := ob_some h
    refine ⟨env, st, ρ, x, s1, E, S, h1, fun v H1 ρ1 G1 S1 R1 => ⟨env, s1, ρ1, l, s2, E.grow S G1, S1, h2, fun H2 ρ2 G2 S2 => ⟨env, s2, ρ2, u, s3, (E.grow S G1).grow S1 G2, S2, h3, fun H3 ρ3 G3 S3 => ?_⟩⟩⟩
    exact hf H3 ρ3 s3 x v l u z st' Q S3 (Rep.grow S2 G3 _ _ (Rep.grow S1 G2 _ _ R1)) h fun v H4 ρ4 G4 S4 R4 => q v H4 ρ4 (((G1.trans G2).trans G3).trans G4) S4 R4

/-! ### calls -/
def iCall (f : FA) (ir : IA) : IE := fun env st => ob (ir env st) fun xs s1 => f xs s1
variable {x : Str} {p : Pos}
theorem cb_to {K : PySem.W.Frag} {r : List V → Hp → VK → Prop} {f : FA} (hf : CallI K r f) {σ : L2.St} {H : Hp} {Q : VK} (h : tI K (iCall f ir) σ H Q) : tCB r (tIA K ir) σ H Q := by
  obtain ⟨env, st, ρ, z, st', E, S, h, q⟩ := h
  obtain ⟨xs, s1, h1, h⟩ := ob_some h
  exact ⟨env, st, ρ, xs, s1, E, S, h1, fun vs H1 ρ1 G1 S1 R1 => hf H1 ρ1 s1 xs vs z st' Q S1 R1 h fun v H2 ρ2 G2 S2 R2 => q v H2 ρ2 (G1.trans G2) S2 R2⟩
theorem r_callB {id : String} {r : List V → Hp → VK → Prop} {f : FA} (hc : CallR X (.builtin id) r) (hf : CallI X.K r f) (hg : Gl X x) (hm : X.mg x = none) (hv : bootBuiltins x = some (.builtin id)) (ha : PA X (e :: es) (tIA X.K ir)) (hn : x ≠ "__name__" := by decide) (hdb : (x == ("__debug__" : Str)) = false := by decide)
    (he : starEach (e :: es) X.env = (false, eval e X.env) :: starEach es X.env := by rfl) (hpl : (backTo pos (starEach es X.env)).any (·.1) = false := by rfl) : PE X (.Call (.Name x p) (e :: es) [] pos) (tI X.K (iCall f ir)) :=
  PE.imp (pe_callB hc hg hm hv ha hn hdb he hpl) fun _ _ _ h => cb_to hf h
theorem r_callTy {T : String} {r : List V → Hp → VK → Prop} {f : FA} (hc : CallR X (.type T) r) (hf : CallI X.K r f) (hg : Gl X x) (hm : X.mg x = none) (hv : bootBuiltins x = some (.type T)) (ha : PA X (e :: es) (tIA X.K ir)) (hn : x ≠ "__name__" := by decide) (hdb : (x == ("__debug__" : Str)) = false := by decide)
    (he : starEach (e :: es) X.env = (false, eval e X.env) :: starEach es X.env := by rfl) (hpl : (backTo pos (starEach es X.env)).any (·.1) = false := by rfl) : PE X (.Call (.Name x p) (e :: es) [] pos) (tI X.K (iCall f ir)) :=
  PE.imp (pe_callTy hc hg hm hv ha hn hdb he hpl) fun _ _ _ h => cb_to hf h
/-- a def's promise: it does what f does -/
def spI (K : PySem.W.Frag) (n : Nat) (f : FA) : Sp := fun vs H Q _ => vs.length = n ∧ ∃ st ρ xs z st', RepS K H ρ st ∧ Reps K H ρ xs vs ∧ f xs st = some (z, st') ∧ ∀ v H' ρ', Grow H ρ H' ρ' → RepS K H' ρ' st' → Rep K H' ρ' z v → Q v H'
/-- a def may be called, and does what f does -/
abbrev CalI (P : Program) (w : World) (K : PySem.W.Frag) (mg : Str → Option Value) (base : Heap) (k : Nat) (x : Str) (n : Nat) (f : FA) : Prop := C8.Cal P w K mg base k x (spI K n f) []
/-- f of so many values alone -/
def Ar (n : Nat) (f : FA) : Prop := ∀ xs st r, f xs st = some r → xs.length = n
theorem call_to {K : PySem.W.Frag} {n : Nat} {f : FA} (hn : Ar n f) {σ : L2.St} {H : Hp} {Q : VK} (h : tI K (iCall f ir) σ H Q) : tCall (spI K n f) [] E0 (tIA K ir) σ H Q := by
  obtain ⟨env, st, ρ, z, st', E, S, h, q⟩ := h
  obtain ⟨xs, s1, h1, h⟩ := ob_some h
  refine ⟨env, st, ρ, xs, s1, E, S, h1, fun vs H1 ρ1 G1 S1 R1 => ?_⟩
  show spI K n f (vs ++ []) H1 Q E0
  rw [List.append_nil]
  exact ⟨by rw [← R1.length]; exact hn _ _ _ h, s1, ρ1, xs, z, st', S1, R1, h, fun v H2 ρ2 G2 S2 R2 => q v H2 ρ2 (G1.trans G2) S2 R2⟩
theorem r_call {k j n : Nat} {f : FA} (c : CalI X.prog X.w X.K X.mg X.base k x n f) (hn : Ar n f) (hr : Room j X.A) (hk : k ≤ j) (hg : Gl X x) (ha : PA X (e :: es) (tIA X.K ir))
    (hdb : (x == ("__debug__" : Str)) = false := by decide) (he : starEach (e :: es) X.env = (false, eval e X.env) :: starEach es X.env := by rfl) (hpl : (backTo pos (starEach es X.env)).any (·.1) = false := by rfl) :
    PE X (.Call (.Name x p) (e :: es) [] pos) (tI X.K (iCall f ir)) :=
  PE.imp (C8.pe_c c hr hk hg ha hdb he hpl) fun _ _ _ h => call_to hn h
end
end IL

namespace IL
open PySem PySem.Spec PyProof.Rows L2

section
variable {K : PySem.W.Frag} {H H' : Hp} {ρ ρ' : List Addr} {st : Sto} {env : PEnv} {σ : L2.St} {D : Ends}
theorem PostF.grow (g : Grow H ρ H' ρ') : ∀ {f : Fl}, PostF K D H ρ f → PostF K D H' ρ' f
  | .nx _ _, h => fun σ' H2 ρ2 G S E => h σ' H2 ρ2 (g.trans G) S E
  | .bk _ _, h => fun σ' H2 ρ2 G S E => h σ' H2 ρ2 (g.trans G) S E
  | .ct _ _, h => fun σ' H2 ρ2 G S E => h σ' H2 ρ2 (g.trans G) S E
  | .rt _ _, h => fun v H2 ρ2 G S R => h v H2 ρ2 (g.trans G) S R
/-! ### targets -/
abbrev IG := PV → PEnv → Sto → Option PEnv
abbrev IGs := List PV → PEnv → Sto → Option PEnv
def tIG (K : PySem.W.Frag) (T : List Nat) (ig : IG) : TG := fun v σ H Q => ∃ env st ρ x env', RepE K H ρ env σ ∧ RepS K H ρ st ∧ Rep K H ρ x v ∧ ig x env st = some env' ∧
  ∀ σ' : L2.St, RepE K H ρ env' σ' → σ'.length = σ.length → (∀ i, i ∉ T → σ'[i]? = σ[i]?) → Q σ' H
def tIGs (K : PySem.W.Frag) (T : List Nat) (ig : IGs) : TGs := fun vs σ H Q => ∃ env st ρ xs env', RepE K H ρ env σ ∧ RepS K H ρ st ∧ Reps K H ρ xs vs ∧ ig xs env st = some env' ∧
  ∀ σ' : L2.St, RepE K H ρ env' σ' → σ'.length = σ.length → (∀ i, i ∉ T → σ'[i]? = σ[i]?) → Q σ' H
theorem PG.imp {X : Cx} {tg : Expr} {t t' : TG} (h : PG X tg t) (m : ∀ v σ H Q, t' v σ H Q → t v σ H Q) : PG X tg t' := ⟨fun pins s σ H v u Q I r q => h.run pins s σ H v u Q I r (m v σ H Q q)⟩
theorem PGs.imp {X : Cx} {tg : List Expr} {t t' : TGs} (h : PGs X tg t) (m : ∀ v σ H Q, t' v σ H Q → t v σ H Q) : PGs X tg t' := ⟨fun pins s σ H v u Q I r q => h.run pins s σ H v u Q I r (m v σ H Q q)⟩
def gN (i : Nat) : IG := fun x env _ => some (env.set i (some x))
def gNs : IGs := fun xs env _ => if xs.isEmpty then some env else none
def gCs (g : IG) (gs : IGs) : IGs := fun xs env st => match xs with
  | x :: r => match g x env st with
    | some env1 => gs r env1 st
    | none => none
  | [] => none
def gT (n : Nat) (gs : IGs) : IG := fun x env st => match x with
  | .tup xs => if xs.length = n then gs xs env st else none
  | _ => none
end
section
variable {X : Cx} {pos : Pos}
theorem g_name {i : Nat} {x : Str} (hN : X.N.Nodup) (hi : X.N[i]? = some x) (hx : Loc X.env.scope x) (hf : X.fn x = true ∨ X.env.scope.names.lookup x = some .local := by first | exact .inl rfl | exact .inr rfl | assumption) :
    PG X (.Name x pos) (tIG X.K [i] (gN i)) := PG.imp (pg_name hN hi hx hf) fun v σ H Q ⟨env, st, ρ, y, env', E, S, R, h, q⟩ => by
  cases h
  refine q _ (E.set R i) (by simp) fun j hj => ?_
  rw [List.getElem?_set_ne (fun e => hj (by simp [e]))]
theorem gs_nil : PGs X [] (tIGs X.K [] gNs) := PGs.imp pgs_nil fun v σ H Q ⟨env, st, ρ, y, env', E, S, R, h, q⟩ => by
  unfold gNs at h
  cases y with
  | nil =>
    unfold Reps at R
    cases h
    exact ⟨R, q σ E rfl fun _ _ => rfl⟩
  | cons => simp at h
theorem gs_cons {e : Expr} {es : List Expr} {T T' : List Nat} {g : IG} {gs : IGs} (h1 : PG X e (tIG X.K T g)) (h2 : PGs X es (tIGs X.K T' gs))
    (hs : (assignEach (e :: es) X.env).map (·.2) = assign e X.env :: (assignEach es X.env).map (·.2) := by rfl) : PGs X (e :: es) (tIGs X.K (T ++ T') (gCs g gs)) :=
  PGs.imp (pgs_cons h1 h2 hs) fun v σ H Q ⟨env, st, ρ, y, env', E, S, R, h, q⟩ => by
    cases y with
    | nil => cases h
    | cons y ys =>
      unfold Reps at R
      obtain ⟨w, r, rfl, R1, R2⟩ := R
      simp only [gCs] at h
      split at h
      · rename_i env1 h1
        refine ⟨w, r, rfl, env, st, ρ, y, env1, E, S, R1, h1, fun σ1 E1 l1 a1 => ⟨env1, st, ρ, ys, env', E1, S, R2, h, fun σ2 E2 l2 a2 => q σ2 E2 (l2.trans l1) fun i hi => ?_⟩⟩
        rw [a2 i (fun z => hi (List.mem_append_right _ z)), a1 i (fun z => hi (List.mem_append_left _ z))]
      · cases h
theorem g_tup {es : List Expr} {k : Nat} {T : List Nat} {gs : IGs} {n : Nat} (hc : X.calm = true) (h : PGs X es (tIGs X.K T gs))
    (hn : (assignEach es X.env).length = n := by rfl) (hst : (assignEach es X.env).findIdx? (·.1) = none := by rfl) : PG X (.Tuple es k pos) (tIG X.K T (gT n gs)) :=
  PG.imp (pg_tup hc h hn hst) fun v σ H Q ⟨env, st, ρ, y, env', E, S, R, h, q⟩ => by
    cases y with
    | tup xs =>
      unfold Rep at R
      obtain ⟨a, vs, rfl, h1, h2⟩ := R
      simp only [gT] at h
      split at h
      · rename_i hl
        exact ⟨a, vs, rfl, h1, by rw [← h2.length]; exact hl, env, st, ρ, xs, env', E, S, h2, h, q⟩
      · cases h
    | _ => cases h

/-! ### statements -/
def iSkip : IS := fun env st => some (.nx env st)
def iSeq (a b : IS) : IS := fun env st => match a env st with
  | some (.nx e s) => b e s
  | o => o
variable {st : Stmt} {rest : List Stmt} {e : Expr} {ia ib : IS} {ie : IE} {it : IT}
theorem s_nil : PSs X [] (tIS X.K iSkip) := PSs.imp pss_nil fun D σ H ⟨env, s, ρ, f, E, S, h, q⟩ => by
  cases h
  exact q σ H ρ Grow.refl S E
theorem s_cons (h1 : PS X st (tIS X.K ia)) (h2 : PSs X rest (tIS X.K ib)) : PSs X (st :: rest) (tIS X.K (iSeq ia ib)) := PSs.imp (pss_cons h1 h2) fun D σ H ⟨env, s, ρ, f, E, S, h, q⟩ => by
  unfold iSeq at h
  cases e1 : ia env s with
  | none => rw [e1] at h; cases h
  | some f1 =>
    rw [e1] at h
    refine ⟨env, s, ρ, f1, E, S, e1, ?_⟩
    cases f1 with
    | nx e s1 => exact fun σ' H' ρ' G S' E' => ⟨e, s1, ρ', f, E', S', h, q.grow G⟩
    | rt v s1 => cases h; exact q
    | bk e s1 => cases h; exact q
    | ct e s1 => cases h; exact q
theorem s_one (h1 : PS X st (tIS X.K ia)) : PSs X [st] (tIS X.K ia) := pss_one h1
theorem s_pass : PS X (.Pass pos) (tIS X.K iSkip) := PS.imp ps_pass fun D σ H ⟨env, s, ρ, f, E, S, h, q⟩ => by
  cases h
  exact q σ H ρ Grow.refl S E
def iBreak : IS := fun env st => some (.bk env st)
def iCont : IS := fun env st => some (.ct env st)
theorem s_break : PS X (.Break pos) (tIS X.K iBreak) := PS.imp ps_break fun D σ H ⟨env, s, ρ, f, E, S, h, q⟩ => by
  cases h
  exact q σ H ρ Grow.refl S E
theorem s_continue : PS X (.Continue pos) (tIS X.K iCont) := PS.imp ps_continue fun D σ H ⟨env, s, ρ, f, E, S, h, q⟩ => by
  cases h
  exact q σ H ρ Grow.refl S E
def iDrop (ie : IE) : IS := fun env st => ob (ie env st) fun _ s => some (.nx env s)
theorem s_expr (he : PE X e (tI X.K ie)) (hs : swapsWith e none pos.line X.env = pure false := by rfl) : PS X (.Expr e pos) (tIS X.K (iDrop ie)) := PS.imp (ps_expr he hs) fun D σ H ⟨env, s, ρ, f, E, S, h, q⟩ => by
  obtain ⟨x, s1, h1, h⟩ := ob_some h
  cases h
  exact ⟨env, s, ρ, x, _, E, S, h1, fun v H1 ρ1 G1 S1 R1 => q σ H1 ρ1 G1 S1 (E.grow S G1)⟩
def iRet (ie : IE) : IS := fun env st => ob (ie env st) fun x s => some (.rt x s)
theorem s_ret (he : PE X e (tI X.K ie)) : PS X (.Return (some e) pos) (tIS X.K (iRet ie)) := PS.imp (ps_ret he) fun D σ H ⟨env, s, ρ, f, E, S, h, q⟩ => by
  obtain ⟨x, s1, h1, h⟩ := ob_some h
  cases h
  exact ⟨env, s, ρ, x, _, E, S, h1, fun v H1 ρ1 G1 S1 R1 => q v H1 ρ1 G1 S1 R1⟩
def iRetN : IS := fun _ st => some (.rt .non st)
theorem s_retN : PS X (.Return none pos) (tIS X.K iRetN) := PS.imp ps_retN fun D σ H ⟨env, s, ρ, f, E, S, h, q⟩ => by
  cases h
  exact q .non H ρ Grow.refl S (by unfold Rep; rfl)
def iIfS (t : IT) (a b : IS) : IS := fun env st => ob (t env st) fun k s => match k with
  | true => a env s
  | false => b env s
theorem s_if {c : Expr} {p q : List Stmt} (hc : PT X c (tIT X.K it)) (ha : PSs X p (tIS X.K ia)) (hb : PSs X q (tIS X.K ib)) : PS X (.If c p q pos) (tIS X.K (iIfS it ia ib)) :=
  PS.imp (ps_if hc ha hb) fun D σ H ⟨env, s, ρ, f, E, S, h, q⟩ => by
    obtain ⟨k, s1, h1, h⟩ := ob_some h
    refine ⟨env, s, ρ, k, s1, E, S, h1, fun H1 ρ1 G1 S1 => ?_⟩
    cases k with
    | true =>
      rw [if_pos rfl]
      exact ⟨env, s1, ρ1, f, E.grow S G1, S1, h, q.grow G1⟩
    | false =>
      rw [if_neg Bool.false_ne_true]
      exact ⟨env, s1, ρ1, f, E.grow S G1, S1, h, q.grow G1⟩
def iAsg (ig : IG) (ie : IE) : IS := fun env st => ob (ie env st) fun x s => match ig x env s with
  | some env' => some (.nx env' s)
  | none => none
theorem s_asg {tg : Expr} {T : List Nat} {ig : IG} (he : PE X e (tI X.K ie)) (hg : PG X tg (tIG X.K T ig)) (hs : swapsWithSole [tg] e pos.line X.env = pure false := by rfl) (hw : swappedStores [tg] e X.env = pure none := by rfl)
    (h1 : (assignEach [tg] X.env).map (·.2) = [assign tg X.env] := by rfl) : PS X (.Assign [tg] e pos) (tIS X.K (iAsg ig ie)) := PS.imp (ps_asg he hg hs hw h1) fun D σ H ⟨env, s, ρ, f, E, S, h, q⟩ => by
  obtain ⟨x, s1, h1, h⟩ := ob_some h
  refine ⟨env, s, ρ, x, s1, E, S, h1, fun v H1 ρ1 G1 S1 R1 => ?_⟩
  split at h
  · rename_i env' hg
    cases h
    exact ⟨env, _, ρ1, x, env', E.grow S G1, S1, R1, hg, fun σ' E' _ _ => q σ' H1 ρ1 G1 S1 E'⟩
  · cases h
theorem s_set {i : Nat} {x : Str} {pos' : Pos} (hN : X.N.Nodup) (hi : X.N[i]? = some x) (hx : Loc X.env.scope x) (he : PE X e (tI X.K ie)) (hs : swapsWith e (some (.Name x pos')) pos.line X.env = pure false := by rfl)
    (hf : X.fn x = true ∨ X.env.scope.names.lookup x = some .local := by first | exact .inl rfl | exact .inr rfl | assumption) : PS X (.Assign [.Name x pos'] e pos) (tIS X.K (iAsg (gN i) ie)) :=
  PS.imp (ps_set hN hi hx he hs hf) fun D σ H ⟨env, s, ρ, f, E, S, h, q⟩ => by
    obtain ⟨x, s1, h1, h⟩ := ob_some h
    cases h
    exact ⟨env, s, ρ, x, _, E, S, h1, fun v H1 ρ1 G1 S1 R1 => q _ H1 ρ1 G1 S1 ((E.grow S G1).set R1 i)⟩
/-- a, b = x, y: two local names -/
def iPar (i j : Nat) (ir : IA) : IS := fun env st => ob (ir env st) fun xs s => match xs with
  | [x, y] => some (.nx ((env.set i (some x)).set j (some y)) s)
  | _ => none
theorem s_par {i j : Nat} {x y : Str} {a b : Expr} {ir : IA} {px py pt : Pos} {kt k2 pt2} (hc : X.calm = true) (hN : X.N.Nodup) (hi : X.N[i]? = some x) (hj : X.N[j]? = some y) (hij : i ≠ j)
    (hx : X.env.scope.names.lookup x = some .local) (hy : X.env.scope.names.lookup y = some .local) (ha : PA X [a, b] (tIA X.K ir))
    (hw : swappedStores [.Tuple [.Name x px, .Name y py] kt pt] (.Tuple [a, b] k2 pt2) X.env = pure (some [x, y]))
    (hs : swapsWithSole [.Tuple [.Name x px, .Name y py] kt pt] (.Tuple [a, b] k2 pt2) pos.line X.env = pure false := by rfl) :
    PS X (.Assign [.Tuple [.Name x px, .Name y py] kt pt] (.Tuple [a, b] k2 pt2) pos) (tIS X.K (iPar i j ir)) := PS.imp (ps_par hc hN hi hj hij hx hy ha hw hs) fun D σ H ⟨env, s, ρ, f, E, S, h, q⟩ => by
  obtain ⟨xs, s1, h1, h⟩ := ob_some h
  refine ⟨env, s, ρ, xs, s1, E, S, h1, fun v H1 ρ1 G1 S1 R1 => ?_⟩
  split at h
  · cases h
    unfold Reps at R1
    obtain ⟨v1, r, rfl, R1, R2⟩ := R1
    unfold Reps at R2
    obtain ⟨v2, r, rfl, R2, R3⟩ := R2
    unfold Reps at R3
    subst R3
    exact ⟨v1, v2, rfl, q _ H1 ρ1 G1 S1 (((E.grow S G1).set R1 i).set R2 j)⟩
  · cases h
/-- o[i] = v -/
abbrev FSet := PV → PV → PV → Sto → Option Sto
def SetI (K : PySem.W.Frag) (t : TSet) (f : FSet) : Prop := ∀ H ρ st o i x vo vi vx st' (Q : Hp → Prop), RepS K H ρ st → Rep K H ρ o vo → Rep K H ρ i vi → Rep K H ρ x vx → f o i x st = some st' → (∀ H' ρ', Grow H ρ H' ρ' → RepS K H' ρ' st' → Q H') → t vo vi vx H Q
def iSetIx (f : FSet) (io ii ie : IE) : IS := fun env st => ob (ie env st) fun x s1 => ob (io env s1) fun o s2 => ob (ii env s2) fun i s3 => (f o i x s3).map fun s4 => .nx env s4
theorem s_setIx {o i : Expr} {t : TSet} {f : FSet} {io ii : IE} {ps : Pos} (hs : PSet X t) (hf : SetI X.K t f) (ho : PE X o (tI X.K io)) (hi : PE X i (tI X.K ii)) (he : PE X e (tI X.K ie))
    (ha : ∀ v, assign (.Subscript o i ps) X.env v = (do
      let ov ← holding [v] (eval o X.env)
      let iv ← holding [v, ov] (eval i X.env)
      standAt ps
      holding [v, ov, iv] (setItem ov iv v)
      release [v, ov, iv] []) := by intro _; rfl)
    (hs1 : swapsWithSole [.Subscript o i ps] e pos.line X.env = pure false := by rfl) (hw : swappedStores [.Subscript o i ps] e X.env = pure none := by rfl) (h1 : (assignEach [.Subscript o i ps] X.env).map (·.2) = [assign (.Subscript o i ps) X.env] := by rfl) :
    PS X (.Assign [.Subscript o i ps] e pos) (tIS X.K (iSetIx f io ii ie)) := PS.imp (ps_asg he (pg_sub ho hi hs ha) hs1 hw h1) fun D σ H ⟨env, s, ρ, fl, E, S, h, q⟩ => by
  obtain ⟨x, s1, h1, h⟩ := ob_some h
  obtain ⟨o, s2, h2, h⟩ := ob_some h
  obtain ⟨i, s3, h3, h⟩ := ob_some h
  cases e4 : f o i x s3 with
  | none => rw [e4] at h; cases h
  | some s4 =>
    rw [e4] at h
    cases h
    refine ⟨env, s, ρ, x, s1, E, S, h1, fun vx H1 ρ1 G1 S1 R1 => ⟨env, s1, ρ1, o, s2, E.grow S G1, S1, h2, fun vo H2 ρ2 G2 S2 R2 => ⟨env, s2, ρ2, i, s3, (E.grow S G1).grow S1 G2, S2, h3, fun vi H3 ρ3 G3 S3 R3 => ?_⟩⟩⟩
    refine hf H3 ρ3 s3 o i x vo vi vx s4 _ S3 (Rep.grow S2 G3 _ _ R2) R3 (Rep.grow S2 G3 _ _ (Rep.grow S1 G2 _ _ R1)) e4 fun H4 ρ4 G4 S4 => ?_
    exact q σ H4 ρ4 (((G1.trans G2).trans G3).trans G4) S4 ((((E.grow S G1).grow S1 G2).grow S2 G3).grow S3 G4)

/-! ### what is walked -/
structure Src where
  n : Nat
  at_ : Sto → Nat → Option (Option PV)
def SrcOk (K : PySem.W.Frag) (src : Src) (J : It) (H0 : Hp) (ρ0 : List Addr) : Prop := ∀ H ρ st, Grow H0 ρ0 H ρ → RepS K H ρ st → ∀ i, (src.at_ st i = some none → J.stop i H) ∧
  ∀ x, src.at_ st i = some (some x) → J.go i H ∧ ∀ v H', J.yld i H v H' → ∃ ρ', Grow H ρ H' ρ' ∧ RepS K H' ρ' st ∧ Rep K H' ρ' x v
abbrev II := PEnv → Sto → Option (Src × Sto)
def tII (K : PySem.W.Frag) (ii : II) : TI := fun σ H R => ∃ env st ρ src st', RepE K H ρ env σ ∧ RepS K H ρ st ∧ ii env st = some (src, st') ∧ ∀ J H' ρ', Grow H ρ H' ρ' → RepS K H' ρ' st' → SrcOk K src J H' ρ' → R J H'
theorem PI.imp {tg iter : Expr} {t t' : TI} (h : PI X tg iter t) (m : ∀ σ H R, t' σ H R → t σ H R) : PI X tg iter t' := ⟨fun pins s σ H R I q => h.run pins s σ H R I (m σ H R q)⟩
theorem PI.or {tg iter : Expr} {t t' : TI} (h : PI X tg iter t) (h' : PI X tg iter t') : PI X tg iter (fun σ H R => t σ H R ∨ t' σ H R) := ⟨fun pins s σ H R I q => q.elim (h.run pins s σ H R I) (h'.run pins s σ H R I)⟩
def srcL (n k : Nat) : Src := ⟨k, fun st i => match st[n]? with
  | some (.lst xs) => some xs[i]?
  | _ => none⟩
def srcT (xs : List PV) : Src := ⟨xs.length, fun _ i => some xs[i]?⟩
def srcR (lo : Int) (n : Nat) : Src := ⟨n, fun _ i => some (if i < n then some (.int (lo + i)) else none)⟩
theorem srcL_ok {K : PySem.W.Frag} {H0 : Hp} {ρ0 : List Addr} {n k : Nat} {a : Addr} (h : ρ0[n]? = some a) : SrcOk K (srcL n k) (Itl K a) H0 ρ0 := fun H ρ st G S i => by
  have ha := G.ix h
  refine ⟨fun hs => ?_, fun x hs => ?_⟩
  · simp only [srcL] at hs
    split at hs
    · rename_i xs e
      obtain ⟨b, hb, vs, h1, h2⟩ := S.at_ _ _ e
      rw [ha] at hb; cases hb
      exact ⟨vs, .of h1, by rw [← h2.length]; simpa using hs⟩
    · cases hs
  · simp only [srcL] at hs
    split at hs
    · rename_i xs e
      obtain ⟨b, hb, vs, h1, h2⟩ := S.at_ _ _ e
      rw [ha] at hb; cases hb
      obtain ⟨v, hv, r⟩ := h2.get (by simpa using hs)
      refine ⟨⟨vs, v, .of h1, hv⟩, fun w H' y => ?_⟩
      obtain ⟨rfl, y⟩ := y
      have := y vs (.of h1)
      rw [hv] at this; cases this
      exact ⟨ρ, Grow.refl, S, r⟩
    · cases hs
theorem srcT_ok {K : PySem.W.Frag} {H0 : Hp} {ρ0 : List Addr} {st0 : Sto} {xs : List PV} {vs : List V} {a : Addr} (S0 : RepS K H0 ρ0 st0) (h : SqT K H0 a vs) (r : Reps K H0 ρ0 xs vs) : SrcOk K (srcT xs) (Itt K a) H0 ρ0 := fun H ρ st G S i => by
  have h1 := SqT.grow S0 G h
  have r1 := Reps.grow S0 G _ _ r
  refine ⟨fun hs => ?_, fun x hs => ?_⟩
  · simp only [srcT] at hs
    exact ⟨vs, h1, by rw [← r1.length]; simpa using hs⟩
  · simp only [srcT] at hs
    obtain ⟨v, hv, r⟩ := r1.get (by simpa using hs)
    refine ⟨⟨vs, v, h1, hv⟩, fun w H' y => ?_⟩
    obtain ⟨rfl, y⟩ := y
    have := y vs h1
    rw [hv] at this; cases this
    exact ⟨ρ, Grow.refl, S, r⟩
theorem srcF_ok {K : PySem.W.Frag} {H0 : Hp} {ρ0 : List Addr} {st0 : Sto} {xs : List PV} {vs : List V} {a : Addr} (S0 : RepS K H0 ρ0 st0) (h : FrzAt K H0 ρ0 a vs) (r : Reps K H0 ρ0 xs vs) : SrcOk K (srcT xs) (Itl K a) H0 ρ0 := fun H ρ st G S i => by
  have h1 := (h.grow G).sq
  have r1 := Reps.grow S0 G _ _ r
  refine ⟨fun hs => ?_, fun x hs => ?_⟩
  · simp only [srcT] at hs
    exact ⟨vs, h1, by rw [← r1.length]; simpa using hs⟩
  · simp only [srcT] at hs
    obtain ⟨v, hv, r⟩ := r1.get (by simpa using hs)
    refine ⟨⟨vs, v, h1, hv⟩, fun w H' y => ?_⟩
    obtain ⟨rfl, y⟩ := y
    have := y vs h1
    rw [hv] at this; cases this
    exact ⟨ρ, Grow.refl, S, r⟩
theorem srcR_ok {K : PySem.W.Frag} {H0 : Hp} {ρ0 : List Addr} {lo : Int} {n : Nat} : SrcOk K (srcR lo n) (Itr lo n) H0 ρ0 := fun H ρ st G S i => by
  refine ⟨fun hs => ?_, fun x hs => ?_⟩
  · simp only [srcR] at hs
    split at hs
    · cases hs
    · exact Nat.le_of_not_lt (by assumption)
  · simp only [srcR] at hs
    split at hs
    · rename_i hl
      cases hs
      refine ⟨hl, fun w H' y => ?_⟩
      obtain ⟨rfl, rfl⟩ := y
      exact ⟨ρ, Grow.refl, S, by unfold Rep; rfl⟩
    · cases hs
def srcS (x : Str) : Src := ⟨x.length, fun _ i => some ((x.cps[i]?).map fun c => .str ⟨#[c]⟩)⟩
theorem srcS_ok {K : PySem.W.Frag} {H0 : Hp} {ρ0 : List Addr} {x : Str} : SrcOk K (srcS x) (Its x) H0 ρ0 := fun H ρ st G S i => by
  refine ⟨fun hs => ?_, fun y hs => ?_⟩
  · simp only [srcS, Option.some.injEq, Option.map_eq_none_iff] at hs
    exact Array.getElem?_eq_none_iff.mp hs
  · simp only [srcS, Option.some.injEq] at hs
    cases e : x.cps[i]? with
    | none => rw [e] at hs; cases hs
    | some c =>
      rw [e] at hs
      cases hs
      refine ⟨(Array.getElem?_eq_some_iff.mp e).1, fun w H' y => ?_⟩
      obtain ⟨rfl, c', e', rfl⟩ := y
      rw [e] at e'; cases e'
      exact ⟨ρ, Grow.refl, S, by unfold Rep; rfl⟩
/-- a list, a tuple or a text is walked -/
def iWalk (ie : IE) : II := fun env st => ob (ie env st) fun x s => match x with
  | .str y => some (srcS y, s)
  | .tup xs => some (srcT xs, s)
  | .frz xs => some (srcT xs, s)
  | .ref n => match s[n]? with
    | some (.lst xs) => some (srcL n xs.length, s)
    | _ => none
  | _ => none
theorem i_walk {tg : Expr} (he : PE X e (tI X.K ie)) : PI X tg e (tII X.K (iWalk ie)) := PI.imp (PI.or (pi_list he) (PI.or (pi_tup he) (pi_str he))) fun σ H R ⟨env, s, ρ, src, st', E, S, h, q⟩ => by
  obtain ⟨x, s1, h1, h⟩ := ob_some h
  cases x with
  | str y =>
    cases h
    refine .inr (.inr ⟨env, s, ρ, _, _, E, S, h1, fun v H1 ρ1 G1 S1 R1 => ?_⟩)
    unfold Rep at R1
    exact ⟨y, R1, q _ H1 ρ1 G1 S1 srcS_ok⟩
  | tup xs =>
    cases h
    refine .inr (.inl ⟨env, s, ρ, _, _, E, S, h1, fun v H1 ρ1 G1 S1 R1 => ?_⟩)
    unfold Rep at R1
    obtain ⟨a, vs, rfl, t1, t2⟩ := R1
    exact ⟨a, rfl, ⟨vs, t1⟩, q _ H1 ρ1 G1 S1 (srcT_ok S1 t1 t2)⟩
  | frz xs =>
    cases h
    refine .inl ⟨env, s, ρ, _, _, E, S, h1, fun v H1 ρ1 G1 S1 R1 => ?_⟩
    unfold Rep at R1
    obtain ⟨a, vs, rfl, t1, t2⟩ := R1
    exact ⟨a, rfl, ⟨vs, t1.sq⟩, q _ H1 ρ1 G1 S1 (srcF_ok S1 t1 t2)⟩
  | ref n =>
    simp only at h
    split at h
    · rename_i xs e1
      cases h
      refine .inl ⟨env, s, ρ, _, _, E, S, h1, fun v H1 ρ1 G1 S1 R1 => ?_⟩
      unfold Rep at R1
      obtain ⟨a, rfl, t1⟩ := R1
      obtain ⟨b, hb, vs, h2, h3⟩ := S1.at_ _ _ e1
      rw [t1] at hb; cases hb
      exact ⟨a, rfl, ⟨vs, .of h2⟩, q _ H1 ρ1 G1 S1 (srcL_ok t1)⟩
    · cases h
  | _ => cases h
/-- range -/
def big (j : Int) : Bool := decide (-(2 ^ 62) ≤ j) && decide (j < 2 ^ 62)
theorem big_of {j : Int} (h : big j = true) : -(2 ^ 62) ≤ j ∧ j < 2 ^ 62 := by
  unfold big at h
  simp only [Bool.and_eq_true, decide_eq_true_eq] at h
  exact h
def iRange1 (ir : IA) : II := fun env st => ob (ir env st) fun xs s => match xs with
  | [.int j] => if big j then some (srcR 0 j.toNat, s) else none
  | _ => none
def iRange2 (ir : IA) : II := fun env st => ob (ir env st) fun xs s => match xs with
  | [.int i, .int j] => if big i && big j then some (srcR i (j - i).toNat, s) else none
  | _ => none
theorem i_range1 {tg a : Expr} {ir : IA} {p : Pos} (hg : Gl X "range") (hm : X.mg "range" = none) (ha : PA X [a] (tIA X.K ir)) (hs : starEach [a] X.env = [(false, eval a X.env)] := by rfl) : PI X tg (.Call (.Name "range" p) [a] [] pos) (tII X.K (iRange1 ir)) :=
  PI.imp (pi_range1 hg hm ha hs) fun σ H R ⟨env, s, ρ, src, st', E, S, h, q⟩ => by
    obtain ⟨xs, s1, h1, h⟩ := ob_some h
    split at h
    · rename_i j
      split at h
      · rename_i hb
        cases h
        refine ⟨env, s, ρ, _, _, E, S, h1, fun v H1 ρ1 G1 S1 R1 => ?_⟩
        unfold Reps at R1
        obtain ⟨w, r, rfl, R1, R2⟩ := R1
        unfold Reps at R2
        subst R2
        unfold Rep at R1
        subst R1
        obtain ⟨b1, b2⟩ := big_of hb
        exact ⟨j, rfl, b1, b2, q _ H1 ρ1 G1 S1 srcR_ok⟩
      · cases h
    · cases h
theorem i_range2 {tg a b : Expr} {ir : IA} {p : Pos} (hg : Gl X "range") (hm : X.mg "range" = none) (ha : PA X [a, b] (tIA X.K ir)) (hs : starEach [a, b] X.env = [(false, eval a X.env), (false, eval b X.env)] := by rfl) (hs2 : starEach [b] X.env = [(false, eval b X.env)] := by rfl) :
    PI X tg (.Call (.Name "range" p) [a, b] [] pos) (tII X.K (iRange2 ir)) :=
  PI.imp (pi_range2 hg hm ha hs hs2) fun σ H R ⟨env, s, ρ, src, st', E, S, h, q⟩ => by
    obtain ⟨xs, s1, h1, h⟩ := ob_some h
    split at h
    · rename_i i j
      split at h
      · rename_i hb
        cases h
        refine ⟨env, s, ρ, _, _, E, S, h1, fun v H1 ρ1 G1 S1 R1 => ?_⟩
        unfold Reps at R1
        obtain ⟨w, r, rfl, R1, R2⟩ := R1
        unfold Reps at R2
        obtain ⟨w2, r2, rfl, R2, R3⟩ := R2
        unfold Reps at R3
        subst R3
        unfold Rep at R1 R2
        subst R1 R2
        rw [Bool.and_eq_true] at hb
        obtain ⟨b1, b2⟩ := big_of hb.1
        obtain ⟨b3, b4⟩ := big_of hb.2
        exact ⟨i, j, rfl, ⟨b1, b2, b3, b4⟩, q _ H1 ρ1 G1 S1 srcR_ok⟩
      · cases h
    · cases h

/-! ### for -/
def loop (at_ : Sto → Nat → Option (Option PV)) (ig : IG) (body : IS) : Nat → Nat → PEnv → Sto → Option Fl
  | 0, _, _, _ => none
  | m + 1, i, env, st => match at_ st i with
    | none => none
    | some none => some (.nx env st)
    | some (some x) => match ig x env st with
      | none => none
      | some env1 => match body env1 st with
        | some (.nx e s) => loop at_ ig body m (i + 1) e s
        | some (.ct e s) => loop at_ ig body m (i + 1) e s
        | some (.bk e s) => some (.nx e s)
        | some (.rt v s) => some (.rt v s)
        | none => none
def iFor (ii : II) (ig : IG) (body : IS) : IS := fun env st => ob (ii env st) fun src s => loop src.at_ ig body (src.n + 1) 0 env s
theorem s_for {iter tg : Expr} {body : List Stmt} {ii : II} {T : List Nat} {ig : IG} (hp : PassesOwn (model X.prog X.w) X.A X.env X.xe) (hc : X.calm = true) (hi : PI X tg iter (tII X.K ii)) (hg : PG X tg (tIG X.K T ig)) (hb : PSs X body (tIS X.K ia))
    (hs : ∀ x, foldedSetIterable iter X.env x = pure x := by intro _; rfl) : PS X (.For tg iter body [] pos) (tIS X.K (iFor ii ig ia)) :=
  PS.imp (ps_for hp hc hi hg hb hs) fun D σ H ⟨env, s, ρ, f, E, S, h, q⟩ => by
    obtain ⟨src, s1, h1, h⟩ := ob_some h
    refine ⟨env, s, ρ, src, s1, E, S, h1, fun J H1 ρ1 G1 S1 O => ?_⟩
    refine ⟨fun i m σ' H' => ∃ env' st' ρ' f', Grow H1 ρ1 H' ρ' ∧ RepE X.K H' ρ' env' σ' ∧ RepS X.K H' ρ' st' ∧ loop src.at_ ig ia m i env' st' = some f' ∧ PostF X.K D H' ρ' f', ⟨src.n + 1, env, s1, ρ1, f, Grow.refl, E.grow S G1, S1, h, q.grow G1⟩, ?_⟩
    rintro i m σ' H' ⟨env', st', ρ', f', G', E', S', hl, q'⟩
    cases m with
    | zero => cases hl
    | succ m =>
      unfold loop at hl
      obtain ⟨o1, o2⟩ := O H' ρ' st' G' S' i
      split at hl
      · cases hl
      · rename_i e1
        cases hl
        exact .inl ⟨o1 e1, q' σ' H' ρ' Grow.refl S' E'⟩
      · rename_i x e1
        obtain ⟨go, yl⟩ := o2 x e1
        split at hl
        · cases hl
        · rename_i env1 e2
          refine .inr ⟨go, fun σ2 H2 => ∃ m', m' < m + 1 ∧ ∃ env' st' ρ' f', Grow H1 ρ1 H2 ρ' ∧ RepE X.K H2 ρ' env' σ2 ∧ RepS X.K H2 ρ' st' ∧ loop src.at_ ig ia m' (i + 1) env' st' = some f' ∧ PostF X.K D H2 ρ' f', fun σ2 H2 n => n, fun v H2 y => ?_⟩
          obtain ⟨ρ2, G2, S2, R2⟩ := yl v H2 y
          refine ⟨env', st', ρ2, x, env1, E'.grow S' G2, S2, R2, e2, fun σ3 E3 _ _ => ?_⟩
          cases e3 : ia env1 st' with
          | none => rw [e3] at hl; cases hl
          | some fl =>
            rw [e3] at hl
            refine ⟨env1, st', ρ2, fl, E3, S2, e3, ?_⟩
            cases fl with
            | nx e s => exact fun σ4 H4 ρ4 G4 S4 E4 => ⟨m, Nat.lt_succ_self m, e, s, ρ4, f', (G'.trans G2).trans G4, E4, S4, hl, q'.grow (G2.trans G4)⟩
            | ct e s => exact fun σ4 H4 ρ4 G4 S4 E4 => ⟨m, Nat.lt_succ_self m, e, s, ρ4, f', (G'.trans G2).trans G4, E4, S4, hl, q'.grow (G2.trans G4)⟩
            | bk e s => cases hl; exact fun σ4 H4 ρ4 G4 S4 E4 => q' σ4 H4 ρ4 (G2.trans G4) S4 E4
            | rt v s => cases hl; exact fun v H4 ρ4 G4 S4 R4 => q' v H4 ρ4 (G2.trans G4) S4 R4

/-! ### while -/
@[irreducible] def bigN : Nat := 1000000
def wloop (t : IT) (body : IS) : Nat → PEnv → Sto → Option Fl
  | 0, _, _ => none
  | m + 1, env, st => match t env st with
    | none => none
    | some (false, s) => some (.nx env s)
    | some (true, s) => match body env s with
      | some (.nx e s) => wloop t body m e s
      | some (.ct e s) => wloop t body m e s
      | some (.bk e s) => some (.nx e s)
      | some (.rt v s) => some (.rt v s)
      | none => none
def iWhile (t : IT) (body : IS) : IS := wloop t body bigN
theorem s_while {c : Expr} {body : List Stmt} (hp : PassesOwn (model X.prog X.w) X.A X.env X.xe) (hc : PT X c (tIT X.K it)) (hb : PSs X body (tIS X.K ia)) : PS X (.While c body [] pos) (tIS X.K (iWhile it ia)) :=
  PS.imp (ps_while hp hc hb) fun D σ H ⟨env, s, ρ, f, E, S, h, q⟩ => by
    refine ⟨fun m σ' H' => ∃ env' st' ρ' f', RepE X.K H' ρ' env' σ' ∧ RepS X.K H' ρ' st' ∧ wloop it ia m env' st' = some f' ∧ PostF X.K D H' ρ' f', ⟨bigN, env, s, ρ, f, E, S, h, q⟩, ?_⟩
    rintro m σ' H' ⟨env', st', ρ', f', E', S', hl, q'⟩
    cases m with
    | zero => cases hl
    | succ m =>
      unfold wloop at hl
      cases e1 : it env' st' with
      | none => rw [e1] at hl; cases hl
      | some r =>
        obtain ⟨b, s1⟩ := r
        rw [e1] at hl
        refine ⟨env', st', ρ', b, s1, E', S', e1, fun H1 ρ1 G1 S1 => ?_⟩
        cases b with
        | false =>
          cases hl
          rw [if_neg Bool.false_ne_true]
          exact q' σ' H1 ρ1 G1 S1 (E'.grow S' G1)
        | true =>
          rw [if_pos rfl]
          refine ⟨fun σ2 H2 => ∃ m', m' < m + 1 ∧ ∃ env' st' ρ' f', RepE X.K H2 ρ' env' σ2 ∧ RepS X.K H2 ρ' st' ∧ wloop it ia m' env' st' = some f' ∧ PostF X.K D H2 ρ' f', fun σ2 H2 n => n, ?_⟩
          cases e3 : ia env' s1 with
          | none => simp only [e3] at hl; cases hl
          | some fl =>
            simp only [e3] at hl
            refine ⟨env', s1, ρ1, fl, E'.grow S' G1, S1, e3, ?_⟩
            cases fl with
            | nx e s => exact fun σ4 H4 ρ4 G4 S4 E4 => ⟨m, Nat.lt_succ_self m, e, s, ρ4, f', E4, S4, hl, q'.grow (G1.trans G4)⟩
            | ct e s => exact fun σ4 H4 ρ4 G4 S4 E4 => ⟨m, Nat.lt_succ_self m, e, s, ρ4, f', E4, S4, hl, q'.grow (G1.trans G4)⟩
            | bk e s => cases hl; exact fun σ4 H4 ρ4 G4 S4 E4 => q' σ4 H4 ρ4 (G1.trans G4) S4 E4
            | rt v s => cases hl; exact fun v H4 ρ4 G4 S4 R4 => q' v H4 ρ4 (G1.trans G4) S4 R4

/-! ### comprehensions -/
def wipeE (env : PEnv) : List Nat → PEnv
  | [] => env
  | v :: vs => (wipeE env vs).set v none
theorem RepE.setNone {K : PySem.W.Frag} {H : Hp} {ρ : List Addr} {env : PEnv} {σ : L2.St} (E : RepE K H ρ env σ) (i : Nat) : RepE K H ρ (env.set i none) (σ.set i none) := by
  refine ⟨by simpa using E.len, fun j y hj => ?_⟩
  by_cases e : i = j
  · subst e
    by_cases hl : i < env.length
    · rw [List.getElem?_set_self hl] at hj
      cases hj
    · rw [List.getElem?_eq_none (by simpa using hl)] at hj
      cases hj
  · rw [List.getElem?_set_ne e] at hj
    obtain ⟨w, a, b⟩ := E.at_ j y hj
    exact ⟨w, by rw [List.getElem?_set_ne e]; exact a, b⟩
theorem RepE.wipe {K : PySem.W.Frag} {H : Hp} {ρ : List Addr} {env : PEnv} {σ : L2.St} (E : RepE K H ρ env σ) : ∀ vs : List Nat, RepE K H ρ (wipeE env vs) (L2.wipe σ vs)
  | [] => E
  | v :: vs => (RepE.wipe E vs).setNone v
theorem wipe_at {σ : L2.St} {i : Nat} : ∀ {vs : List Nat}, i ∈ vs → i < σ.length → (L2.wipe σ vs)[i]? = some none
  | [], h, _ => by simp at h
  | v :: vs, h, hl => by
    unfold L2.wipe
    by_cases e : v = i
    · subst e
      exact List.getElem?_set_self (by rw [L2.wipe_length]; exact hl)
    · rw [List.getElem?_set_ne e]
      exact wipe_at (by rcases List.mem_cons.mp h with h | h; exact absurd h.symm e; exact h) hl
theorem wipe_same {σ σ' : L2.St} {vs : List Nat} (hl : σ'.length = σ.length) (h : ∀ i, i ∉ vs → σ'[i]? = (L2.wipe σ vs)[i]?) : L2.wipe σ' vs = L2.wipe σ vs := by
  refine List.ext_getElem? fun i => ?_
  by_cases hi : i ∈ vs
  · by_cases hb : i < σ.length
    · rw [wipe_at hi hb, wipe_at hi (by rw [hl]; exact hb)]
    · rw [List.getElem?_eq_none (by rw [L2.wipe_length]; omega), List.getElem?_eq_none (by rw [L2.wipe_length]; omega)]
  · rw [L2.wipe_out hi, h i hi]
def lcLoop (at_ : Sto → Nat → Option (Option PV)) (ig : IG) (t : IT) (e : IE) (d : Nat) (env : PEnv) : Nat → Nat → Sto → Option Sto
  | 0, _, _ => none
  | m + 1, i, st => match at_ st i with
    | none => none
    | some none => some st
    | some (some x) => match ig x env st with
      | none => none
      | some env1 => match t env1 st with
        | none => none
        | some (false, s1) => lcLoop at_ ig t e d env m (i + 1) s1
        | some (true, s1) => match e env1 s1 with
          | none => none
          | some (y, s2) => match s2[d]? with
            | some (.lst acc) => if acc.length < 100000 then lcLoop at_ ig t e d env m (i + 1) (s2.set d (.lst (acc ++ [y]))) else none
            | _ => none
def iLc (ii : II) (ig : IG) (t : IT) (e : IE) (vs : List Nat) : IE := fun env st => ob (ii env st) fun src s =>
  (lcLoop src.at_ ig t e s.length (wipeE env vs) (src.n + 1) 0 (s ++ [.lst []])).map fun s' => (.ref s.length, s')
theorem line6 {n : Nat} (h : n < 100000) : n < sizeLine := Nat.lt_of_lt_of_le h (by decide)
theorem lc_to {K : PySem.W.Frag} {ii : II} {ig : IG} {T vs : List Nat} {σ : L2.St} {H : Hp} {Q : VK} (hT : ∀ i ∈ T, i ∈ vs) (h : tI K (iLc ii ig it ie vs) σ H Q) : tLc (tII K ii) (tIG K T ig) (tIT K it) (tI K ie) vs σ H Q := by
  obtain ⟨env, s, ρ, z, st', E, S, h, q⟩ := h
  obtain ⟨src, s1, h1, h⟩ := ob_some h
  obtain ⟨hl, hz⟩ : lcLoop src.at_ ig it ie s1.length (wipeE env vs) (src.n + 1) 0 (s1 ++ [.lst []]) = some st' ∧ z = .ref s1.length := by
    cases e : lcLoop src.at_ ig it ie s1.length (wipeE env vs) (src.n + 1) 0 (s1 ++ [.lst []]) with
    | none => rw [e] at h; cases h
    | some s' => rw [e] at h; cases h; exact ⟨rfl, rfl⟩
  subst hz
  refine ⟨env, s, ρ, src, s1, E, S, h1, fun J H1 ρ1 G1 S1 O Dl hD => ?_⟩
  have g0 : Grow H1 ρ1 (upd H1 Dl (.lst [])) (ρ1 ++ [Dl]) := grow_alloc hD
  have E1 : RepE K H1 ρ1 env σ := E.grow S G1
  refine ⟨fun i m H' => ∃ st2 ρ', Grow (upd H1 Dl (.lst [])) (ρ1 ++ [Dl]) H' ρ' ∧ RepS K H' ρ' st2 ∧ lcLoop src.at_ ig it ie s1.length (wipeE env vs) m i st2 = some st',
    ⟨src.n + 1, _, _, Grow.refl, S1.alloc (so := .lst []) hD ⟨[], upd_same, by unfold Reps; rfl⟩, hl⟩, ?_⟩
  rintro i m H' ⟨st2, ρ', G', S', hl⟩
  have ix : ρ'[s1.length]? = some Dl := G'.ix (by rw [← S1.len, List.getElem?_append_right (Nat.le_refl _)]; simp)
  cases m with
  | zero => cases hl
  | succ m =>
    unfold lcLoop at hl
    obtain ⟨o1, o2⟩ := O H' ρ' st2 (g0.trans G') S' i
    split at hl
    · cases hl
    · rename_i e1
      cases hl
      refine .inl ⟨o1 e1, q _ H' ρ' (G1.trans (g0.trans G')) S' ?_⟩
      unfold Rep
      exact ⟨Dl, rfl, ix⟩
    · rename_i x e1
      obtain ⟨go, yl⟩ := o2 x e1
      split at hl
      · cases hl
      · rename_i env1 e2
        refine .inr ⟨go, fun H2 => ∃ m', m' < m + 1 ∧ ∃ st2 ρ', Grow (upd H1 Dl (.lst [])) (ρ1 ++ [Dl]) H2 ρ' ∧ RepS K H2 ρ' st2 ∧ lcLoop src.at_ ig it ie s1.length (wipeE env vs) m' (i + 1) st2 = some st', fun H2 n => n, fun v H2 y => ?_⟩
        obtain ⟨ρ2, G2, S2, R2⟩ := yl v H2 y
        have Ew : RepE K H2 ρ2 (wipeE env vs) (L2.wipe σ vs) := (E1.wipe vs).grow S1 ((g0.trans G').trans G2)
        refine ⟨wipeE env vs, st2, ρ2, x, env1, Ew, S2, R2, e2, fun σ3 E3 l3 a3 => ⟨?_, ?_⟩⟩
        · rw [L2.wipe_length] at l3
          exact wipe_same l3 fun j hj => a3 j fun z => hj (hT j z)
        · cases e3 : it env1 st2 with
          | none => rw [e3] at hl; cases hl
          | some r =>
            obtain ⟨b, s3⟩ := r
            rw [e3] at hl
            refine ⟨env1, st2, ρ2, b, s3, E3, S2, e3, fun H3 ρ3 G3 S3 => ?_⟩
            cases b with
            | false =>
              rw [if_neg Bool.false_ne_true]
              exact ⟨m, Nat.lt_succ_self m, s3, ρ3, (G'.trans G2).trans G3, S3, hl⟩
            | true =>
              rw [if_pos rfl]
              simp only at hl
              cases e4 : ie env1 s3 with
              | none => rw [e4] at hl; cases hl
              | some r =>
                obtain ⟨y, s4⟩ := r
                rw [e4] at hl
                refine ⟨env1, s3, ρ3, y, s4, E3.grow S2 G3, S3, e4, fun w H4 ρ4 G4 S4 R4 => ?_⟩
                simp only at hl
                split at hl
                · rename_i acc e5
                  split at hl
                  · rename_i hlen
                    have ix4 : ρ4[s1.length]? = some Dl := (G2.trans (G3.trans G4)).ix ix
                    obtain ⟨b, hb, ws, h2, h3⟩ := S4.at_ _ _ e5
                    rw [ix4] at hb; cases hb
                    have gw : Grow H4 ρ4 (upd H4 Dl (.lst (ws ++ [w]))) ρ4 := grow_write h2 (List.mem_of_getElem? ix4)
                    refine ⟨ws, h2, line6 (by rw [← h3.length]; exact hlen), m, Nat.lt_succ_self m, _, ρ4, ((G'.trans G2).trans G3).trans (G4.trans gw), S4.write (so := .lst (acc ++ [y])) ix4 h2 ⟨_, upd_same, ?_⟩, hl⟩
                    exact Reps.grow S4 gw _ _ (Reps.append h3 (by unfold Reps; exact ⟨w, [], rfl, R4, by unfold Reps; rfl⟩))
                  · cases hl
                · cases hl
theorem r_lc {elt tg iter : Expr} {ifs : List Expr} {scope : Scope} {own : List (Str × Nat)} {ii : II} {T : List Nat} {ig : IG} (hc : X.calm = true) (hN : X.N.Nodup) (hi : PI X tg iter (tII X.K ii)) (ok : BlkOk X.N X.env.scope scope own)
    (hT : ∀ i ∈ T, i ∈ own.map (·.2))
    (hg : ∀ (s : Shared) (H : Hp) (C : Addr) (cl : List (Str × Addr)) (fp : List Addr), PG (X.blk s H scope (compEnvC scope cl C X.env) fp) tg (tIG X.K T ig)) (ht : ∀ (s : Shared) (H : Hp) (C : Addr) (cl : List (Str × Addr)) (fp : List Addr), PTs (X.blk s H scope (compEnvC scope cl C X.env) fp) ifs (tIT X.K it))
    (he : ∀ (s : Shared) (H : Hp) (C : Addr) (cl : List (Str × Addr)) (fp : List Addr), PE (X.blk s H scope (compEnvC scope cl C X.env) fp) elt (tI X.K ie)) (hs : ∀ x, foldedSetIterable iter X.env x = pure x := by intro _; rfl) :
    PE X (.ListComp elt [⟨tg, iter, ifs, 0⟩] scope pos) (tI X.K (iLc ii ig it ie (own.map (·.2)))) :=
  PE.imp (pe_lc hc hN hi ok hg ht he hs) fun _ _ _ h => lc_to hT h
theorem s_setLc {i : Nat} {y : Str} {py : Pos} {elt tg iter : Expr} {ifs : List Expr} {scope : Scope} {own : List (Str × Nat)} {spos : Pos} {ii : II} {T : List Nat} {ig : IG} (hy : X.N[i]? = some y) (hyl : X.env.scope.names.lookup y = some .local)
    (hsw : swapsWith (.ListComp elt [⟨tg, iter, ifs, 0⟩] scope pos) (some (.Name y py)) spos.line X.env = pure true) (hc : X.calm = true) (hN : X.N.Nodup) (hi : PI X tg iter (tII X.K ii)) (ok : BlkOk X.N X.env.scope scope own)
    (hT : ∀ i ∈ T, i ∈ own.map (·.2))
    (hg : ∀ (s : Shared) (H : Hp) (C : Addr) (cl : List (Str × Addr)) (fp : List Addr), PG (X.blk s H scope (compEnvC scope cl C X.env) fp) tg (tIG X.K T ig)) (ht : ∀ (s : Shared) (H : Hp) (C : Addr) (cl : List (Str × Addr)) (fp : List Addr), PTs (X.blk s H scope (compEnvC scope cl C X.env) fp) ifs (tIT X.K it))
    (he : ∀ (s : Shared) (H : Hp) (C : Addr) (cl : List (Str × Addr)) (fp : List Addr), PE (X.blk s H scope (compEnvC scope cl C X.env) fp) elt (tI X.K ie)) (hs : ∀ x, foldedSetIterable iter X.env x = pure x := by intro _; rfl) :
    PS X (.Assign [.Name y py] (.ListComp elt [⟨tg, iter, ifs, 0⟩] scope pos) spos) (tIS X.K (iAsg (gN i) (iLc ii ig it ie (own.map (·.2))))) :=
  PS.imp (ps_setLc hc hN hy hyl hsw hi ok hg ht he hs) fun D σ H ⟨env, s, ρ, f, E, S, h, q⟩ => by
    obtain ⟨x, s1, h1, h⟩ := ob_some h
    cases h
    exact lc_to hT ⟨env, s, ρ, x, _, E, S, h1, fun v H1 ρ1 G1 S1 R1 => q _ H1 ρ1 G1 S1 ((E.grow S G1).set R1 i)⟩
/-- x += e of ints -/
def iAugI (g : Int → Int → Int) (i : Nat) (ie : IE) : IS := fun env st => match env[i]? with
  | some (some (.int a)) => ob (ie env st) fun y s => match y with
    | .int b => some (.nx (env.set i (some (.int (g a b)))) s)
    | _ => none
  | _ => none
def iAugAdd : Nat → IE → IS := iAugI (· + ·)
def iAugSub : Nat → IE → IS := iAugI (· - ·)
theorem s_aug {g : Int → Int → Int} {op : Operator} {i : Nat} {x : Str} {pos' : Pos} (hp : PIp X op (ipI g)) (hN : X.N.Nodup) (hi : X.N[i]? = some x) (hx : Loc X.env.scope x) (he : PE X e (tI X.K ie)) (hf : X.fn x = true ∨ X.env.scope.names.lookup x = some .local) :
    PS X (.AugAssign (.Name x pos') op e pos) (tIS X.K (iAugI g i ie)) :=
  PS.imp (ps_aug hN hi hx he hp hf) fun D σ H ⟨env, s, ρ, f, E, S, h, q⟩ => by
    unfold iAugI at h
    split at h
    · rename_i a ea
      obtain ⟨y, s1, h1, h⟩ := ob_some h
      split at h
      · cases h
        obtain ⟨v, hv, rv⟩ := E.at_ _ _ ea
        refine ⟨v, hv, env, s, ρ, _, _, E, S, h1, fun w H1 ρ1 G1 S1 R1 => ?_⟩
        unfold Rep at rv R1
        subst rv R1
        exact ⟨_, _, rfl, rfl, q _ H1 ρ1 G1 S1 ((E.grow S G1).set (by unfold Rep; rfl) i)⟩
      · cases h
    · cases h
theorem s_augAdd {i : Nat} {x : Str} {pos' : Pos} (hN : X.N.Nodup) (hi : X.N[i]? = some x) (hx : Loc X.env.scope x) (he : PE X e (tI X.K ie)) (hf : X.fn x = true ∨ X.env.scope.names.lookup x = some .local := by first | exact .inl rfl | exact .inr rfl | assumption) :
    PS X (.AugAssign (.Name x pos') .Add e pos) (tIS X.K (iAugAdd i ie)) := s_aug ip_add hN hi hx he hf
theorem s_augSub {i : Nat} {x : Str} {pos' : Pos} (hN : X.N.Nodup) (hi : X.N[i]? = some x) (hx : Loc X.env.scope x) (he : PE X e (tI X.K ie)) (hf : X.fn x = true ∨ X.env.scope.names.lookup x = some .local := by first | exact .inl rfl | exact .inr rfl | assumption) :
    PS X (.AugAssign (.Name x pos') .Sub e pos) (tIS X.K (iAugSub i ie)) := s_aug ip_sub hN hi hx he hf
def iYes : IT := fun _ st => some (true, st)
theorem t_yes : PTs X [] (tIT X.K iYes) := ⟨fun pins s σ H Q I h => pts_nil.run pins s σ H Q I (by
  obtain ⟨env, st, ρ, z, st', E, S, h, q⟩ := h
  cases h
  exact q H ρ Grow.refl S)⟩
theorem t_one {c : Expr} (h : PT X c (tIT X.K it)) : PTs X [c] (tIT X.K it) := pts_one h
end

/-! ### defs -/
def iDef (n nN : Nat) (b : IS) : FA := fun xs st => if xs.length = n then (match b (xs.map some ++ List.replicate (nN - n) none) st with
  | some (.nx _ s) => some (.non, s)
  | some (.rt v s) => some (v, s)
  | _ => none) else none
theorem ar_def {n nN : Nat} {b : IS} : Ar n (iDef n nN b) := fun xs st r h => by
  unfold iDef at h
  split at h
  · assumption
  · cases h
theorem repE_start {K : PySem.W.Frag} {H : Hp} {ρ : List Addr} {xs : List PV} {vs : List V} (R : Reps K H ρ xs vs) (N : List Str) : RepE K H ρ (xs.map some ++ List.replicate (N.length - vs.length) none) (L2.start N vs) := by
  unfold L2.start
  refine ⟨by simp [R.length], fun i x h => ?_⟩
  by_cases hi : i < xs.length
  · rw [List.getElem?_append_left (by simpa using hi), List.getElem?_map] at h
    cases e : xs[i]? with
    | none => rw [e] at h; cases h
    | some y =>
      rw [e] at h
      cases h
      obtain ⟨v, hv, r⟩ := R.get e
      refine ⟨v, ?_, r⟩
      rw [List.getElem?_append_left (by simp [← R.length]; exact hi), List.getElem?_map, hv]
      rfl
  · rw [List.getElem?_append_right (by simpa using hi), List.getElem?_replicate] at h
    split at h <;> cases h
theorem hb_of {P : Program} {w : World} {K : PySem.W.Frag} {mg : Str → Option Value} {base : Heap} {x : Str} {scope : Scope} {body : List Stmt} {f : Addr} {N ps : List Str} {k : Nat} {ib : IS}
    (hb : ∀ (cdv : Value) (A : Around) (outer : List PySem.Env) (s : Shared) (H : Hp) (E : XK), Room k (A.deeper (envOfC x scope s.heap.objs.size f cdv)) → PSs (cxOf CX0 P w K mg base N x scope f cdv A outer s H E).nox body (tIS K ib)) :
    ∀ (cdv : Value) (A : Around) (outer : List PySem.Env) (s : Shared) (H : Hp) (vs : List V) (Q : VK) (E : XK), Room k (A.deeper (envOfC x scope s.heap.objs.size f cdv)) → spI K ps.length (iDef ps.length N.length ib) vs H Q E →
      ∃ t, PSs (cxOf CX0 P w K mg base N x scope f cdv A outer s H E).nox body t ∧ t { nx := fun _ H' => Q .non H', rt := Q } (L2.start N vs) H :=
  fun cdv A outer s H vs Q E hr hsp => ⟨tIS K ib, hb cdv A outer s H E hr, by
    obtain ⟨hl, s1, ρ, xs, z, st', S1, R1, h, q⟩ := hsp
    unfold iDef at h
    split at h
    · have E1 := repE_start R1 N
      rw [hl] at E1
      split at h
      · rename_i e1 s2 e
        cases h
        refine ⟨_, s1, ρ, _, E1, S1, e, fun σ' H' ρ' G S' E' => q .non H' ρ' G S' (by unfold Rep; rfl)⟩
      · rename_i v s2 e
        cases h
        exact ⟨_, s1, ρ, _, E1, S1, e, fun v H' ρ' G S' R' => q v H' ρ' G S' R'⟩
      · cases h
    · cases h⟩
theorem cal_def {P : Program} {w : World} {K : PySem.W.Frag} {mg : Str → Option Value} {base : Heap} {x : Str} {st : Stmt} {f : Addr} {fd : FuncData} {N ps : List Str} {k : Nat} {ib : IS} (F : C8.Def K mg x st f fd) (b : Binds K fd ps []) (S : FnScope N ps (C8.fnScope st))
    (hb : ∀ (cdv : Value) (A : Around) (outer : List PySem.Env) (s : Shared) (H : Hp) (E : XK), Room k (A.deeper (envOfC x (C8.fnScope st) s.heap.objs.size f cdv)) →
      PSs (cxOf CX0 P w K mg base N x (C8.fnScope st) f cdv A outer s H E).nox (C8.fnBody st) (tIS K ib)) : CalI P w K mg base (k + 1) x ps.length (iDef ps.length N.length ib) :=
  C8.cal0 F b .nil S (fun vs H Q E h => h.1) (hb_of hb)
end IL

namespace IL
open PySem PySem.Spec PyProof.Rows L2

section
variable {X : Cx}
/-! ### arithmetic, joining -/
def fAdd : F2 := fun x y st => match x, y with
  | .int a, .int b => some (.int (a + b), st)
  | .str a, .str b => if a.length + b.length ≤ 100000 then some (.str (a ++ b), st) else none
  | .tup a, .tup b => if a.length + b.length ≤ 100000 then some (.tup (a ++ b), st) else none
  | .ref n, .ref m => match st[n]?, st[m]? with
    | some (.lst a), some (.lst b) => if a.length + b.length ≤ 100000 then some (alloc (.lst (a ++ b)) st) else none
    | _, _ => none
  | _, _ => none
def rAdd (K : PySem.W.Frag) : R2 := fun x y H Q => (rI0 (fun i j => .int (i + j)) x y H Q) ∨ (∃ i j, x = .str i ∧ y = .str j ∧ i.length + j.length ≤ sizeLine ∧ Q (.str (i ++ j)) H) ∨ rCatA K x y H Q ∨ rCat x y H Q
theorem op_addI : OpR X (binaryOp .Add) (rAdd X.K) := OpR.or op_add (OpR.or op_add_str (OpR.or op_catA op_cat))
theorem f_add {K : PySem.W.Frag} : OpI K (rAdd K) fAdd := by
  intro H ρ st x y vx vy z st' Q S Rx Ry h q
  unfold fAdd at h
  split at h
  · unfold Rep at Rx Ry
    subst Rx Ry
    cases h
    exact .inl ⟨_, _, rfl, rfl, q _ H ρ Grow.refl S (by unfold Rep; rfl)⟩
  · split at h
    · rename_i hl
      unfold Rep at Rx Ry
      subst Rx Ry
      cases h
      exact .inr (.inl ⟨_, _, rfl, rfl, line5 hl, q _ H ρ Grow.refl S (by unfold Rep; rfl)⟩)
    · cases h
  · rename_i a b
    split at h
    · rename_i hl
      unfold Rep at Rx Ry
      obtain ⟨p1, vs1, rfl, t1, r1⟩ := Rx
      obtain ⟨p2, vs2, rfl, t2, r2⟩ := Ry
      cases h
      refine .inr (.inr (.inl ⟨p1, p2, vs1, vs2, rfl, rfl, t1, t2, line5 (by rw [← r1.length, ← r2.length]; exact hl), fun e => ?_, fun _ e => ?_, fun _ _ p hp => ?_⟩))
      · subst e
        have : a = [] := by have := r1.length; cases a; rfl; simp at this
        subst this
        exact q _ H ρ Grow.refl S (by unfold Rep; exact ⟨p2, vs2, rfl, t2, r2⟩)
      · subst e
        have : b = [] := by have := r2.length; cases b; rfl; simp at this
        subst this
        exact q _ H ρ Grow.refl S (by unfold Rep; exact ⟨p1, vs1, rfl, t1, by rw [List.append_nil]; exact r1⟩)
      · exact q _ _ ρ (grow_new hp) (S.new hp) (new_tup S (Reps.append r1 r2) hp)
    · cases h
  · split at h
    · rename_i a b e1 e2
      split at h
      · rename_i hl
        unfold Rep at Rx Ry
        obtain ⟨p1, rfl, i1⟩ := Rx
        obtain ⟨p2, rfl, i2⟩ := Ry
        obtain ⟨b1, hb1, vs1, h1, r1⟩ := S.at_ _ _ e1
        obtain ⟨b2, hb2, vs2, h2, r2⟩ := S.at_ _ _ e2
        rw [i1] at hb1; cases hb1
        rw [i2] at hb2; cases hb2
        refine .inr (.inr (.inr ⟨p1, p2, vs1, vs2, rfl, rfl, h1, h2, line5 (by rw [← r1.length, ← r2.length]; exact hl), fun p hp => ?_⟩))
        obtain ⟨a1, a2, a3⟩ := new_lst S (Reps.append r1 r2) hp
        have e := Option.some.inj h
        rw [e] at a2 a3
        exact q _ _ _ a1 a2 a3
      · cases h
    · cases h
  · cases h
def fInt (C : Int → Int → Bool) (g : Int → Int → Int) : F2 := fun x y st => match x, y with
  | .int a, .int b => if C a b then some (.int (g a b), st) else none
  | _, _ => none
theorem f_int {K : PySem.W.Frag} {C : Int → Int → Prop} {C' : Int → Int → Bool} {g : Int → Int → Int} (hC : ∀ a b, C' a b = true → C a b) : OpI K (rI C fun i j => .int (g i j)) (fInt C' g) := by
  intro H ρ st x y vx vy z st' Q S Rx Ry h q
  unfold fInt at h
  split at h
  · split at h
    · rename_i hc
      unfold Rep at Rx Ry
      subst Rx Ry
      cases h
      exact ⟨_, _, rfl, rfl, hC _ _ hc, q _ H ρ Grow.refl S (by unfold Rep; rfl)⟩
    · cases h
  · cases h
def fSub : F2 := fInt (fun _ _ => true) (· - ·)
theorem op_subI : OpR X (binaryOp .Sub) (rI (fun _ _ => True) fun i j => .int (i - j)) := opI fun _ _ _ _ _ _ _ _ q => sub_int q
theorem f_sub {K : PySem.W.Frag} : OpI K (rI (fun _ _ => True) fun i j => .int (i - j)) fSub := f_int fun _ _ _ => trivial
def cDiv (_ b : Int) : Bool := decide (b ≠ 0) && decide (b.natAbs < 2 ^ 64)
def fDiv : F2 := fInt cDiv Int.fdiv
theorem op_divI : OpR X (binaryOp .FloorDiv) (rI (fun _ j => j ≠ 0 ∧ j.natAbs < 2 ^ 64) fun i j => .int (i.fdiv j)) := opI fun i j _ _ _ _ _ hc q => floordiv_int hc.1 q (.inl (PyProof.noPylong_of_log2 (Nat.lt_of_lt_of_le (PySem.Flt.log2_lt_of (by decide) hc.2) (by decide))))
theorem f_div {K : PySem.W.Frag} : OpI K (rI (fun _ j => j ≠ 0 ∧ j.natAbs < 2 ^ 64) fun i j => .int (i.fdiv j)) fDiv := f_int fun a b h => by
  unfold cDiv at h
  simp only [Bool.and_eq_true, decide_eq_true_eq] at h
  exact h
def fMod : F2 := fInt (fun _ b => decide (b ≠ 0)) Int.fmod
theorem f_mod {K : PySem.W.Frag} : OpI K (rI (fun _ j => j ≠ 0) fun i j => .int (i.fmod j)) fMod := f_int fun a b h => of_decide_eq_true h
def cMul (a b : Int) : Bool := (decide (-(2 ^ 64) < a) && decide (a < 2 ^ 64)) || (decide (-(2 ^ 64) < b) && decide (b < 2 ^ 64))
theorem cMul_of {a b : Int} (h : cMul a b = true) : CMul a b := by
  unfold cMul at h
  simp only [Bool.or_eq_true, Bool.and_eq_true, decide_eq_true_eq] at h
  exact h
/-- * : ints; a text, a list, a tuple and an int from 2 to 1000 -/
def cRep (n : Nat) (k : Int) : Bool := decide (0 < n) && decide (n ≤ 1000) && decide (2 ≤ k) && decide (k ≤ 1000)
theorem cRep_of {n : Nat} {k : Int} (h : cRep n k = true) : 0 < n ∧ n ≤ 1000 ∧ 2 ≤ k ∧ k ≤ 1000 := by
  unfold cRep at h
  simp only [Bool.and_eq_true, decide_eq_true_eq] at h
  omega
def repStr (a : Str) (k : Nat) : Str := ⟨(List.replicate k a.cps.toList).flatten.toArray⟩
theorem rep_fold (c : Array Nat) : ∀ (k : Nat) (acc : Array Nat), (List.replicate k c).foldl (fun x1 x2 => x1 ++ x2) acc = acc ++ (List.replicate k c.toList).flatten.toArray
  | 0, acc => by simp
  | k + 1, acc => by
    rw [List.replicate_succ, List.foldl_cons, rep_fold c k, List.replicate_succ, List.flatten_cons]
    apply Array.ext'
    simp
theorem repStr_eq (a : Str) (k : Nat) : (⟨(List.replicate k a.cps).foldl (fun x1 x2 => x1 ++ x2) #[]⟩ : Str) = repStr a k := by
  rw [rep_fold]
  unfold repStr
  simp
theorem repStr_len (a : Str) (k : Nat) : (repStr a k).length = k * a.length := by
  unfold repStr Str.length
  simp
def fMul : F2 := fun x y st => match x, y with
  | .int a, .int b => if cMul a b then some (.int (a * b), st) else none
  | .str a, .int k => if cRep a.length k then some (.str (repStr a k.toNat), st) else none
  | .tup a, .int k => if cRep a.length k then some (.tup (List.replicate k.toNat a).flatten, st) else none
  | .ref n, .int k => match st[n]? with
    | some (.lst a) => if cRep a.length k then some (alloc (.lst (List.replicate k.toNat a).flatten) st) else none
    | _ => none
  | _, _ => none
def rMulS : R2 := fun x y H Q => ∃ a k, x = .str a ∧ y = .int k ∧ (0 < a.length ∧ a.length ≤ 1000 ∧ 2 ≤ k ∧ k ≤ 1000) ∧ Q (.str (repStr a k.toNat)) H
theorem op_mulS : OpR X (binaryOp .Mult) rMulS := by
  intro pins s σ H x y v u Q I rx ry h
  obtain ⟨a, k, rfl, rfl, ⟨h0, h1, h2, h3⟩, q⟩ := h
  obtain ⟨t, rfl⟩ := rx
  obtain ⟨t', rfl⟩ := ry
  have hs := sizeLine_eq
  have hle : a.length * k.toNat ≤ 1000 * 1000 := Nat.mul_le_mul h1 (by omega)
  have hn : (k == 1 || a.length == 0) = false := by
    rw [Bool.or_eq_false_iff]
    exact ⟨beq_eq_false_iff_ne.mpr (by omega), beq_eq_false_iff_ne.mpr (by omega)⟩
  refine PySem.P.mul_str ?_ (fun _ _ => ?_) (fun _ _ => ?_) ?_
  · rw [decide_eq_false (by omega), decide_eq_false (by omega)]; rfl
  · have h9 : (1000 : Int) ≤ (2 ^ 63 - 1) / k := by
      rw [Int.le_ediv_iff_mul_le (by omega)]
      omega
    omega
  · unfold Builtin.Str.tooLong
    simp only [decide_eq_false_iff_not]
    omega
  · rw [if_neg (by omega), if_neg (by rw [hn]; decide), repStr_eq]
    refine ⟨?_, ⟨.str _, H, I.tok _, ⟨_, rfl⟩, q⟩⟩
    have e := repStr_len a k.toNat
    rw [Nat.mul_comm] at e
    show (repStr a k.toNat).length ≤ sizeLine
    omega
def rMul (K : PySem.W.Frag) : R2 := fun x y H Q => (rI CMul fun i j => .int (i * j)) x y H Q ∨ rMulS x y H Q ∨ rRepT K x y H Q ∨ rRep x y H Q
theorem op_mulI : OpR X (binaryOp .Mult) (rMul X.K) := OpR.or op_mul (OpR.or op_mulS (OpR.or op_repT op_rep))
theorem Reps.rep {K : PySem.W.Frag} {H : Hp} {ρ : List Addr} {xs : List PV} {vs : List V} (R : Reps K H ρ xs vs) : ∀ k : Nat, Reps K H ρ (List.replicate k xs).flatten (List.replicate k vs).flatten
  | 0 => by simp [Reps]
  | k + 1 => by
    rw [List.replicate_succ, List.replicate_succ, List.flatten_cons, List.flatten_cons]
    exact Reps.append R (Reps.rep R k)
theorem f_mul {K : PySem.W.Frag} : OpI K (rMul K) fMul := by
  intro H ρ st x y vx vy z st' Q S Rx Ry h q
  unfold fMul at h
  split at h
  · split at h
    · rename_i hc
      unfold Rep at Rx Ry
      subst Rx Ry
      cases h
      exact .inl ⟨_, _, rfl, rfl, cMul_of hc, q _ H ρ Grow.refl S (by unfold Rep; rfl)⟩
    · cases h
  · split at h
    · rename_i hl
      unfold Rep at Rx Ry
      subst Rx Ry
      cases h
      exact .inr (.inl ⟨_, _, rfl, rfl, cRep_of hl, q _ H ρ Grow.refl S (by unfold Rep; rfl)⟩)
    · cases h
  · rename_i a k
    split at h
    · rename_i hl
      obtain ⟨c1, c2, c3, c4⟩ := cRep_of hl
      unfold Rep at Rx Ry
      subst Ry
      obtain ⟨p1, vs1, rfl, t1, r1⟩ := Rx
      cases h
      have e := r1.length
      refine .inr (.inr (.inl ⟨p1, _, vs1, rfl, rfl, t1, (by intro z; rw [z, List.length_nil] at e; omega), c3, c4, by omega, fun p hp => ?_⟩))
      exact q _ _ ρ (grow_new hp) (S.new hp) (new_tup S (r1.rep _) hp)
    · cases h
  · rename_i n k
    split at h
    · rename_i a e1
      split at h
      · rename_i hl
        obtain ⟨c1, c2, c3, c4⟩ := cRep_of hl
        unfold Rep at Rx Ry
        subst Ry
        obtain ⟨p1, rfl, i1⟩ := Rx
        obtain ⟨b1, hb1, vs1, h1, r1⟩ := S.at_ _ _ e1
        rw [i1] at hb1; cases hb1
        have e := r1.length
        have hle : vs1.length * k.toNat ≤ 1000 * 1000 := Nat.mul_le_mul (by omega) (by omega)
        have hs := sizeLine_eq
        refine .inr (.inr (.inr ⟨p1, _, vs1, rfl, rfl, h1, by omega, by omega, by omega, fun p hp => ?_⟩))
        obtain ⟨a1, a2, a3⟩ := new_lst S (r1.rep k.toNat) hp
        have e := Option.some.inj h
        rw [e] at a2 a3
        exact q _ _ _ a1 a2 a3
      · cases h
    · cases h
  · cases h
def fNeg : F1 := fun x st => match x with
  | .int a => some (.int (-a), st)
  | _ => none
theorem f_neg {K : PySem.W.Frag} : UnI K (rU fun i => .int (-i)) fNeg := by
  intro H ρ st x vx z st' Q S Rx h q
  unfold fNeg at h
  split at h
  · unfold Rep at Rx
    subst Rx
    cases h
    exact ⟨_, rfl, q _ H ρ Grow.refl S (by unfold Rep; rfl)⟩
  · cases h

/-! ### order -/
def ltS (a b : Str) : Bool := decide (a.cps.toList < b.cps.toList)
/-- two ints or two texts: are they the same, is the first less -/
def scal2 : PV → PV → Option (Bool × Bool)
  | .int a, .int b => some (a == b, decide (a < b))
  | .str a, .str b => some (a == b, ltS a b)
  | _, _ => none
def fLt : F2 := fun x y st => match x, y with
  | .int a, .int b => some (.bl (decide (a < b)), st)
  | .str a, .str b => some (.bl (ltS a b), st)
  | .tup [a], .tup [b] => match scal2 a b with
    | some (e, l) => some (.bl (if e then false else l), st)
    | none => none
  | _, _ => none
def fLe : F2 := fun x y st => match x, y with
  | .int a, .int b => some (.bl (decide (a ≤ b)), st)
  | .str a, .str b => some (.bl (!ltS b a), st)
  | .tup [a], .tup [b] => match scal2 a b, scal2 b a with
    | some (e, _), some (_, l) => some (.bl (if e then true else !l), st)
    | _, _ => none
  | _, _ => none
def fGt : F2 := fun x y st => match x, y with
  | .int a, .int b => some (.bl (decide (b < a)), st)
  | .str a, .str b => some (.bl (ltS b a), st)
  | _, _ => none
def fGe : F2 := fun x y st => match x, y with
  | .int a, .int b => some (.bl (decide (b ≤ a)), st)
  | _, _ => none
inductive Sc2 : V → V → Bool → Bool → Prop where
  | int (a b : Int) : Sc2 (.int a) (.int b) (a == b) (decide (a < b))
  | str (a b : Str) : Sc2 (.str a) (.str b) (a == b) (ltS a b)
theorem sc2_rep {K : PySem.W.Frag} {H : Hp} {ρ : List Addr} {x y : PV} {v w : V} {e l : Bool} (h : scal2 x y = some (e, l)) (Rx : Rep K H ρ x v) (Ry : Rep K H ρ y w) : Sc2 v w e l := by
  unfold scal2 at h
  split at h
  · unfold Rep at Rx Ry
    subst Rx Ry
    cases h
    exact .int _ _
  · unfold Rep at Rx Ry
    subst Rx Ry
    cases h
    exact .str _ _
  · cases h
def rLt1 (K : PySem.W.Frag) : R2 := fun x y H Q => ∃ p q v w e l, x = .ref p ∧ y = .ref q ∧ SqT K H p [v] ∧ SqT K H q [w] ∧ Sc2 v w e l ∧ Q (.bl (if e then false else l)) H
def rLe1 (K : PySem.W.Frag) : R2 := fun x y H Q => ∃ p q v w e l e', x = .ref p ∧ y = .ref q ∧ SqT K H p [v] ∧ SqT K H q [w] ∧ Sc2 v w e e' ∧ (∃ e2, Sc2 w v e2 l) ∧ Q (.bl (if e then true else !l)) H
theorem Sc2.flat {v w : V} {e l : Bool} (h : Sc2 v w e l) : flatV v = true ∧ flatV w = true ∧ eqV v w = e := by
  cases h
  · exact ⟨rfl, rfl, rfl⟩
  · exact ⟨rfl, rfl, rfl⟩
theorem op_lt1 (hu : X.A.units < cLine) : OpR X (compareOp .Lt) (rLt1 X.K) := by
  intro pins s σ H x y v u Q I rx ry h
  obtain ⟨p, q, v1, w1, e, l, rfl, rfl, ha, hb, sc, hq⟩ := h
  cases rx
  cases ry
  obtain ⟨its, r1, p1, _⟩ := I.tuple ha
  obtain ⟨its2, r2, p2, _⟩ := I.tuple hb
  obtain ⟨u1, rfl, ru⟩ := vals1 r1
  obtain ⟨u2, rfl, rw2⟩ := vals1 r2
  obtain ⟨f1, f2, fe⟩ := sc.flat
  have R := Ob.RcOp.tuples_lt (A := X.A) (s := s) (e := fun _ => e) (r := fun _ => l) p1 p2 hu (fun j h1 h2 => by
    have hj : j = 0 := by simp at h1; omega
    subst hj
    show SeqAt.EqAt _ _ u1 u2 e
    rw [← fe]
    exact eqAt_V ru rw2 f1 f2) (fun j h1 h2 _ => by
    have hj : j = 0 := by simp at h1; omega
    subst hj
    show Ob.RcOp .Lt _ _ u1 u2 l
    cases sc with
    | int a b =>
      obtain ⟨t, rfl⟩ := ru
      obtain ⟨t', rfl⟩ := rw2
      exact Ob.RcOp.lt_int a b t t'
    | str a b =>
      obtain ⟨t, rfl⟩ := ru
      obtain ⟨t', rfl⟩ := rw2
      exact fun prog w E Q h => PyProof.Rows.lt_str h)
  refine R X.prog X.w _ _ ?_
  have z : Ob.lexAt (fun _ => e) (fun _ => l) (decide ([u1].toArray.size < [u2].toArray.size)) 0 (min [u1].toArray.size [u2].toArray.size) = (if e then false else l) := by
    show Ob.lexAt (fun _ => e) (fun _ => l) (decide (1 < 1)) 0 1 = _
    rw [Ob.lexAt_succ, Ob.lexAt_zero]
    cases e <;> rfl
  rw [z]
  exact ⟨.bl _, H, I, rfl, hq⟩
theorem op_le1 (hu : X.A.units < cLine) : OpR X (compareOp .LtE) (rLe1 X.K) := by
  intro pins s σ H x y v u Q I rx ry h
  obtain ⟨p, q, v1, w1, e, l, e', rfl, rfl, ha, hb, sc, ⟨e2, sc2⟩, hq⟩ := h
  cases rx
  cases ry
  obtain ⟨its, r1, p1, _⟩ := I.tuple ha
  obtain ⟨its2, r2, p2, _⟩ := I.tuple hb
  obtain ⟨u1, rfl, ru⟩ := vals1 r1
  obtain ⟨u2, rfl, rw2⟩ := vals1 r2
  obtain ⟨f1, f2, fe⟩ := sc.flat
  have R := Ob.RcOp.tuples_le (A := X.A) (s := s) (e := fun _ => e) (r := fun _ => !l) p1 p2 hu (fun j h1 h2 => by
    have hj : j = 0 := by simp at h1; omega
    subst hj
    show SeqAt.EqAt _ _ u1 u2 e
    rw [← fe]
    exact eqAt_V ru rw2 f1 f2) (fun j h1 h2 _ => by
    have hj : j = 0 := by simp at h1; omega
    subst hj
    show Ob.RcOp .LtE _ _ u1 u2 (!l)
    cases sc2 with
    | int a b =>
      obtain ⟨t, rfl⟩ := ru
      obtain ⟨t', rfl⟩ := rw2
      have := Ob.RcOp.le_int (A := X.A.in1) (s := s) b a t t'
      have ez : decide (b ≤ a) = !decide (a < b) := by
        by_cases hz : a < b
        · rw [decide_eq_true hz, decide_eq_false (by omega)]; rfl
        · rw [decide_eq_false hz, decide_eq_true (by omega)]; rfl
      rw [← ez]
      exact this
    | str a b =>
      obtain ⟨t, rfl⟩ := ru
      obtain ⟨t', rfl⟩ := rw2
      exact fun prog w E Q h => PySem.P.le_str h)
  refine R X.prog X.w _ _ ?_
  have z : Ob.lexAt (fun _ => e) (fun _ => !l) (decide ([u1].toArray.size ≤ [u2].toArray.size)) 0 (min [u1].toArray.size [u2].toArray.size) = (if e then true else !l) := by
    show Ob.lexAt (fun _ => e) (fun _ => !l) (decide (1 ≤ 1)) 0 1 = _
    rw [Ob.lexAt_succ, Ob.lexAt_zero]
    cases e <;> rfl
  rw [z]
  exact ⟨.bl _, H, I, rfl, hq⟩
def rSt (g : Str → Str → Bool) : R2 := fun x y H Q => ∃ i j, x = .str i ∧ y = .str j ∧ Q (.bl (g i j)) H
def rLtA (K : PySem.W.Frag) : R2 := fun x y H Q => (rI0 fun i j => .bl (decide (i < j))) x y H Q ∨ rSt ltS x y H Q ∨ rLt1 K x y H Q
def rLeA (K : PySem.W.Frag) : R2 := fun x y H Q => (rI0 fun i j => .bl (decide (i ≤ j))) x y H Q ∨ rSt (fun i j => !ltS j i) x y H Q ∨ rLe1 K x y H Q
def rGtA : R2 := fun x y H Q => (rI0 fun i j => .bl (decide (j < i))) x y H Q ∨ rSt (fun i j => ltS j i) x y H Q
theorem op_ltA (hu : X.A.units < cLine) : OpR X (compareOp .Lt) (rLtA X.K) := OpR.or op_lt (OpR.or op_lt_str (op_lt1 hu))
theorem op_leA (hu : X.A.units < cLine) : OpR X (compareOp .LtE) (rLeA X.K) := OpR.or op_le (OpR.or op_le_str (op_le1 hu))
theorem op_gtA : OpR X (compareOp .Gt) rGtA := OpR.or op_gt op_gt_str
theorem one_rep {K : PySem.W.Frag} {H : Hp} {ρ : List Addr} {x : PV} {v : V} (R : Rep K H ρ (.tup [x]) v) : ∃ p w, v = .ref p ∧ SqT K H p [w] ∧ Rep K H ρ x w := by
  unfold Rep at R
  obtain ⟨p, vs, rfl, t, r⟩ := R
  unfold Reps at r
  obtain ⟨w, r, rfl, r1, r2⟩ := r
  unfold Reps at r2
  subst r2
  exact ⟨p, w, rfl, t, r1⟩
theorem f_lt {K : PySem.W.Frag} : OpI K (rLtA K) fLt := by
  intro H ρ st x y vx vy z st' Q S Rx Ry h q
  unfold fLt at h
  split at h
  · unfold Rep at Rx Ry
    subst Rx Ry
    cases h
    exact .inl ⟨_, _, rfl, rfl, q _ H ρ Grow.refl S (by unfold Rep; rfl)⟩
  · unfold Rep at Rx Ry
    subst Rx Ry
    cases h
    exact .inr (.inl ⟨_, _, rfl, rfl, q _ H ρ Grow.refl S (by unfold Rep; rfl)⟩)
  · split at h
    · rename_i e l hs
      cases h
      obtain ⟨p1, w1, rfl, t1, r1⟩ := one_rep Rx
      obtain ⟨p2, w2, rfl, t2, r2⟩ := one_rep Ry
      exact .inr (.inr ⟨p1, p2, w1, w2, e, l, rfl, rfl, t1, t2, sc2_rep hs r1 r2, q _ H ρ Grow.refl S (by unfold Rep; rfl)⟩)
    · cases h
  · cases h
theorem f_le {K : PySem.W.Frag} : OpI K (rLeA K) fLe := by
  intro H ρ st x y vx vy z st' Q S Rx Ry h q
  unfold fLe at h
  split at h
  · unfold Rep at Rx Ry
    subst Rx Ry
    cases h
    exact .inl ⟨_, _, rfl, rfl, q _ H ρ Grow.refl S (by unfold Rep; rfl)⟩
  · unfold Rep at Rx Ry
    subst Rx Ry
    cases h
    exact .inr (.inl ⟨_, _, rfl, rfl, q _ H ρ Grow.refl S (by unfold Rep; rfl)⟩)
  · split at h
    · rename_i e e' e2 l hs hs2
      cases h
      obtain ⟨p1, w1, rfl, t1, r1⟩ := one_rep Rx
      obtain ⟨p2, w2, rfl, t2, r2⟩ := one_rep Ry
      exact .inr (.inr ⟨p1, p2, w1, w2, e, l, e', rfl, rfl, t1, t2, sc2_rep hs r1 r2, ⟨_, sc2_rep hs2 r2 r1⟩, q _ H ρ Grow.refl S (by unfold Rep; rfl)⟩)
    · cases h
  · cases h
theorem f_gt {K : PySem.W.Frag} : OpI K rGtA fGt := by
  intro H ρ st x y vx vy z st' Q S Rx Ry h q
  unfold fGt at h
  split at h
  · unfold Rep at Rx Ry
    subst Rx Ry
    cases h
    exact .inl ⟨_, _, rfl, rfl, q _ H ρ Grow.refl S (by unfold Rep; rfl)⟩
  · unfold Rep at Rx Ry
    subst Rx Ry
    cases h
    exact .inr ⟨_, _, rfl, rfl, q _ H ρ Grow.refl S (by unfold Rep; rfl)⟩
  · cases h
theorem f_ge {K : PySem.W.Frag} : OpI K (rI0 fun i j => .bl (decide (j ≤ i))) fGe := by
  intro H ρ st x y vx vy z st' Q S Rx Ry h q
  unfold fGe at h
  split at h
  · unfold Rep at Rx Ry
    subst Rx Ry
    cases h
    exact ⟨_, _, rfl, rfl, q _ H ρ Grow.refl S (by unfold Rep; rfl)⟩
  · cases h

/-! ### == of data -/
def mapO {α β : Type} (f : α → Option β) : List α → Option (List β)
  | [] => some []
  | x :: xs => match f x, mapO f xs with
    | some y, some ys => some (y :: ys)
    | _, _ => none
def toD (st : Sto) : Nat → PV → Option PyData
  | 0, _ => none
  | f + 1, x => match x with
    | .non => some .none
    | .bl b => some (.bool b)
    | .int i => some (.int i)
    | .str y => some (.str y)
    | .tup xs => (mapO (toD st f) xs).map .tuple
    | .frz xs => (mapO (toD st f) xs).map .list
    | .ref n => match st[n]? with
      | some (.lst xs) => (mapO (toD st f) xs).map .list
      | _ => none
    | .ty _ => none
theorem mapO_dp {K : PySem.W.Frag} {H : Hp} {ρ : List Addr} {f : PV → Option PyData} (hf : ∀ x v d, Rep K H ρ x v → f x = some d → Dp K H v d) : ∀ {xs : List PV} {vs : List V} {ds : List PyData}, Reps K H ρ xs vs → mapO f xs = some ds → DpAll K H vs ds
  | [], vs, ds, R, h => by
    unfold Reps at R
    subst R
    cases h
    exact .nil
  | x :: xs, vs, ds, R, h => by
    unfold Reps at R
    obtain ⟨v, r, rfl, r1, r2⟩ := R
    unfold mapO at h
    split at h
    · rename_i e1 e2
      cases h
      exact .cons (hf _ _ _ r1 e1) (mapO_dp hf r2 e2)
    · cases h
theorem map_some {α β : Type} {o : Option α} {g : α → β} {r : β} (h : o.map g = some r) : ∃ a, o = some a ∧ g a = r := by
  cases o with
  | none => cases h
  | some a => cases h; exact ⟨a, rfl, rfl⟩
theorem toD_dp {K : PySem.W.Frag} {H : Hp} {ρ : List Addr} {st : Sto} (S : RepS K H ρ st) : ∀ (f : Nat) (x : PV) (v : V) (d : PyData), Rep K H ρ x v → toD st f x = some d → Dp K H v d
  | 0, _, _, _, _, h => by cases h
  | f + 1, x, v, d, R, h => by
    cases x with
    | non => unfold Rep at R; subst R; cases h; exact .non
    | bl b => unfold Rep at R; subst R; cases h; exact .bl b
    | int i => unfold Rep at R; subst R; cases h; exact .int i
    | str y => unfold Rep at R; subst R; cases h; exact .str y
    | ty n => cases h
    | tup xs =>
      unfold Rep at R
      obtain ⟨a, vs, rfl, t, r⟩ := R
      obtain ⟨ds, e, rfl⟩ := map_some (show (mapO (toD st f) xs).map .tuple = some d from h)
      exact .tup t (mapO_dp (toD_dp S f) r e)
    | frz xs =>
      unfold Rep at R
      obtain ⟨a, vs, rfl, t, r⟩ := R
      obtain ⟨ds, e, rfl⟩ := map_some (show (mapO (toD st f) xs).map .list = some d from h)
      exact .lst t.sq (mapO_dp (toD_dp S f) r e)
    | ref n =>
      unfold Rep at R
      obtain ⟨a, rfl, i1⟩ := R
      simp only [toD] at h
      split at h
      · rename_i xs e1
        obtain ⟨b1, hb1, vs1, h1, r1⟩ := S.at_ _ _ e1
        rw [i1] at hb1; cases hb1
        obtain ⟨ds, e, rfl⟩ := map_some h
        exact .lst (.of h1) (mapO_dp (toD_dp S f) r1 e)
      · cases h
def eqP (st : Sto) (x y : PV) : Option Bool := match toD st 70 x, toD st 70 y with
  | some d, some e => if SeqAt.shaped d && SeqAt.shaped e then some (PyData.eqv d e) else none
  | _, _ => none
def fEq : F2 := fun x y st => (eqP st x y).map fun b => (.bl b, st)
def fNe : F2 := fun x y st => (eqP st x y).map fun b => (.bl (!b), st)
theorem eqP_dp {K : PySem.W.Frag} {H : Hp} {ρ : List Addr} {st : Sto} (S : RepS K H ρ st) {x y : PV} {v w : V} {b : Bool} (Rx : Rep K H ρ x v) (Ry : Rep K H ρ y w) (h : eqP st x y = some b) :
    ∃ d e, Dp K H v d ∧ Dp K H w e ∧ SeqAt.shaped d = true ∧ SeqAt.shaped e = true ∧ PyData.eqv d e = b := by
  unfold eqP at h
  split at h
  · rename_i d e e1 e2
    split at h
    · rename_i hs
      rw [Bool.and_eq_true] at hs
      cases h
      exact ⟨d, e, toD_dp S _ _ _ _ Rx e1, toD_dp S _ _ _ _ Ry e2, hs.1, hs.2, rfl⟩
    · cases h
  · cases h
theorem f_eq {K : PySem.W.Frag} : OpI K (rEqD K) fEq := by
  intro H ρ st x y vx vy z st' Q S Rx Ry h q
  obtain ⟨b, e0, hz⟩ := map_some h
  cases hz
  obtain ⟨d, e, h1, h2, h3, h4, rfl⟩ := eqP_dp S Rx Ry e0
  exact ⟨d, e, h1, h2, h3, h4, q _ H ρ Grow.refl S (by unfold Rep; rfl)⟩
theorem f_ne {K : PySem.W.Frag} : OpI K (rNeD K) fNe := by
  intro H ρ st x y vx vy z st' Q S Rx Ry h q
  obtain ⟨b, e0, hz⟩ := map_some h
  cases hz
  obtain ⟨d, e, h1, h2, h3, h4, rfl⟩ := eqP_dp S Rx Ry e0
  exact ⟨d, e, h1, h2, h3, h4, q _ H ρ Grow.refl S (by unfold Rep; rfl)⟩

/-! ### is -/
def isNone : PV → Bool
  | .non => true
  | _ => false
def isBool (b : Bool) : PV → Bool
  | .bl c => c == b
  | _ => false
def fIs : F2 := fun x y st => match y with
  | .non => some (.bl (isNone x), st)
  | .bl b => some (.bl (isBool b x), st)
  | _ => none
def fIsNot : F2 := fun x y st => match y with
  | .non => some (.bl (!isNone x), st)
  | .bl b => some (.bl (!isBool b x), st)
  | _ => none
theorem isNone_rep {K : PySem.W.Frag} {H : Hp} {ρ : List Addr} {x : PV} {v : V} (R : Rep K H ρ x v) : decide (v = .non) = isNone x := by
  cases x <;> unfold Rep at R <;> first | (subst R; simp [isNone]) | (obtain ⟨a, vs, rfl, _⟩ := R; simp [isNone]) | (obtain ⟨a, rfl, _⟩ := R; simp [isNone])
theorem isBool_rep {K : PySem.W.Frag} {H : Hp} {ρ : List Addr} {x : PV} {v : V} {b : Bool} (R : Rep K H ρ x v) : decide (v = .bl b) = isBool b x := by
  cases x <;> unfold Rep at R <;> first | (subst R; simp [isBool]; done) | (obtain ⟨a, vs, rfl, _⟩ := R; simp [isBool]; done) | (obtain ⟨a, rfl, _⟩ := R; simp [isBool]; done) | skip
  · subst R
    rename_i c
    cases b <;> cases c <;> rfl
def rIsB1 : R2 := fun x y H Q => ∃ b : Bool, y = .bl b ∧ Q (.bl (decide (x = .bl b))) H
def rIsNotB1 : R2 := fun x y H Q => ∃ b : Bool, y = .bl b ∧ Q (.bl (!decide (x = .bl b))) H
theorem relV_bool {x : V} {v : Value} {b : Bool} (r : RelV x v) : (v == Value.bool b) = decide (x = .bl b) := by
  cases x with
  | bl c => cases r; cases b <;> cases c <;> rfl
  | non => cases r; rfl
  | int _ => obtain ⟨t, rfl⟩ := r; rfl
  | str _ => obtain ⟨t, rfl⟩ := r; rfl
  | byt _ => obtain ⟨t, rfl⟩ := r; rfl
  | flt _ => obtain ⟨t, rfl⟩ := r; rfl
  | ref _ => cases r; rfl
  | ty _ => cases r; rfl
theorem op_isB1 : OpR X (compareOp .Is) rIsB1 := by
  intro pins s σ H x y v u Q I rx ry h
  obtain ⟨b, rfl, q⟩ := h
  cases (show u = Value.bool b from ry)
  have g : EP X pins σ Q (.bool (v == Value.bool b)) s := ⟨.bl _, H, I, by rw [relV_bool rx]; rfl, q⟩
  cases x <;> first | (cases rx; exact wpAny_pure g) | (obtain ⟨t, rfl⟩ := rx; exact wpAny_pure g)
theorem op_isNotB1 : OpR X (compareOp .IsNot) rIsNotB1 := by
  intro pins s σ H x y v u Q I rx ry h
  obtain ⟨b, rfl, q⟩ := h
  cases (show u = Value.bool b from ry)
  have g : EP X pins σ Q (.bool (!(v == Value.bool b))) s := ⟨.bl _, H, I, by rw [relV_bool rx]; rfl, q⟩
  cases x <;> first | (cases rx; exact wpAny_pure g) | (obtain ⟨t, rfl⟩ := rx; exact wpAny_pure g)
def rIsA : R2 := fun x y H Q => (y = .non ∧ Q (.bl (decide (x = .non))) H) ∨ rIsB1 x y H Q
def rIsNotA : R2 := fun x y H Q => (y = .non ∧ Q (.bl (!decide (x = .non))) H) ∨ rIsNotB1 x y H Q
theorem op_isA : OpR X (compareOp .Is) rIsA := OpR.or op_isN op_isB1
theorem op_isNotA : OpR X (compareOp .IsNot) rIsNotA := OpR.or op_notN op_isNotB1
theorem f_is {K : PySem.W.Frag} : OpI K rIsA fIs := by
  intro H ρ st x y vx vy z st' Q S Rx Ry h q
  unfold fIs at h
  split at h
  · unfold Rep at Ry
    subst Ry
    cases h
    exact .inl ⟨rfl, q _ H ρ Grow.refl S (by unfold Rep; rw [isNone_rep Rx])⟩
  · unfold Rep at Ry
    subst Ry
    cases h
    exact .inr ⟨_, rfl, q _ H ρ Grow.refl S (by unfold Rep; rw [isBool_rep Rx])⟩
  · cases h
theorem f_isNot {K : PySem.W.Frag} : OpI K rIsNotA fIsNot := by
  intro H ρ st x y vx vy z st' Q S Rx Ry h q
  unfold fIsNot at h
  split at h
  · unfold Rep at Ry
    subst Ry
    cases h
    exact .inl ⟨rfl, q _ H ρ Grow.refl S (by unfold Rep; rw [isNone_rep Rx])⟩
  · unfold Rep at Ry
    subst Ry
    cases h
    exact .inr ⟨_, rfl, q _ H ρ Grow.refl S (by unfold Rep; rw [isBool_rep Rx])⟩
  · cases h

/-! ### in a list, a tuple of flat things -/
def flatP : PV → Option V
  | .non => some .non
  | .bl b => some (.bl b)
  | .int i => some (.int i)
  | .str x => some (.str x)
  | _ => none
theorem flatP_rep {K : PySem.W.Frag} {H : Hp} {ρ : List Addr} {x : PV} {v w : V} (R : Rep K H ρ x v) (h : flatP x = some w) : v = w ∧ flatV w = true := by
  cases x <;> simp only [flatP, Option.some.injEq, reduceCtorEq] at h <;> (unfold Rep at R; subst R; subst h; exact ⟨rfl, rfl⟩)
theorem flatP_reps {K : PySem.W.Frag} {H : Hp} {ρ : List Addr} : ∀ {xs : List PV} {vs ws : List V}, Reps K H ρ xs vs → mapO flatP xs = some ws → vs = ws ∧ ws.all flatV = true
  | [], vs, ws, R, h => by
    unfold Reps at R
    subst R
    cases h
    exact ⟨rfl, rfl⟩
  | x :: xs, vs, ws, R, h => by
    unfold Reps at R
    obtain ⟨v, r, rfl, r1, r2⟩ := R
    unfold mapO at h
    split at h
    · rename_i e1 e2
      cases h
      obtain ⟨rfl, f1⟩ := flatP_rep r1 e1
      obtain ⟨rfl, f2⟩ := flatP_reps r2 e2
      exact ⟨rfl, by rw [List.all_cons, f1, f2]; rfl⟩
    · cases h
def itemsOf (st : Sto) : PV → Option (List PV)
  | .tup xs => some xs
  | .frz xs => some xs
  | .ref n => match st[n]? with
    | some (.lst xs) => some xs
    | _ => none
  | _ => none
theorem items_rep {K : PySem.W.Frag} {H : Hp} {ρ : List Addr} {st : Sto} (S : RepS K H ρ st) {x : PV} {v : V} {xs : List PV} (R : Rep K H ρ x v) (h : itemsOf st x = some xs) : ∃ a vs, v = .ref a ∧ (SqL K H a vs ∨ SqT K H a vs) ∧ Reps K H ρ xs vs := by
  cases x with
  | tup ys =>
    unfold Rep at R
    obtain ⟨a, vs, rfl, t, r⟩ := R
    cases h
    exact ⟨a, vs, rfl, .inr t, r⟩
  | frz ys =>
    unfold Rep at R
    obtain ⟨a, vs, rfl, t, r⟩ := R
    cases h
    exact ⟨a, vs, rfl, .inl t.sq, r⟩
  | ref n =>
    unfold Rep at R
    obtain ⟨a, rfl, i1⟩ := R
    simp only [itemsOf] at h
    split at h
    · rename_i ys e1
      obtain ⟨b1, hb1, vs1, h1, r1⟩ := S.at_ _ _ e1
      rw [i1] at hb1; cases hb1
      cases h
      exact ⟨a, vs1, rfl, .inl (.of h1), r1⟩
    · cases h
  | _ => cases h
def listOf (st : Sto) : PV → Option (List PV)
  | .frz xs => some xs
  | .ref n => match st[n]? with
    | some (.lst xs) => some xs
    | _ => none
  | _ => none
theorem list_rep {K : PySem.W.Frag} {H : Hp} {ρ : List Addr} {st : Sto} (S : RepS K H ρ st) {x : PV} {v : V} {xs : List PV} (R : Rep K H ρ x v) (h : listOf st x = some xs) : ∃ a vs, v = .ref a ∧ SqL K H a vs ∧ Reps K H ρ xs vs := by
  cases x with
  | frz ys =>
    unfold Rep at R
    obtain ⟨a, vs, rfl, t, r⟩ := R
    cases h
    exact ⟨a, vs, rfl, t.sq, r⟩
  | ref n =>
    unfold Rep at R
    obtain ⟨a, rfl, i1⟩ := R
    simp only [listOf] at h
    split at h
    · rename_i ys e1
      obtain ⟨b1, hb1, vs1, h1, r1⟩ := S.at_ _ _ e1
      rw [i1] at hb1; cases hb1
      cases h
      exact ⟨a, vs1, rfl, .of h1, r1⟩
    · cases h
  | _ => cases h
def inP (st : Sto) (x y : PV) : Option Bool := match flatP x, itemsOf st y with
  | some v, some ys => (mapO flatP ys).map fun ws => inV v ws
  | _, _ => none
def fIn : F2 := fun x y st => (inP st x y).map fun b => (.bl b, st)
def fNotIn : F2 := fun x y st => (inP st x y).map fun b => (.bl (!b), st)
theorem inP_rep {K : PySem.W.Frag} {H : Hp} {ρ : List Addr} {st : Sto} (S : RepS K H ρ st) {x y : PV} {v w : V} {b : Bool} (Rx : Rep K H ρ x v) (Ry : Rep K H ρ y w) (h : inP st x y = some b) :
    ∃ p xs, w = .ref p ∧ (SqL K H p xs ∨ SqT K H p xs) ∧ flatV v = true ∧ xs.all flatV = true ∧ inV v xs = b := by
  unfold inP at h
  split at h
  · rename_i e1 e2
    obtain ⟨ws, e3, rfl⟩ := map_some h
    obtain ⟨rfl, f1⟩ := flatP_rep Rx e1
    obtain ⟨a, vs, rfl, t, r⟩ := items_rep S Ry e2
    obtain ⟨rfl, f2⟩ := flatP_reps r e3
    exact ⟨a, vs, rfl, t, f1, f2, rfl⟩
  · cases h
theorem f_in {K : PySem.W.Frag} : OpI K (rIn K false) fIn := by
  intro H ρ st x y vx vy z st' Q S Rx Ry h q
  obtain ⟨b, e, hz⟩ := map_some h
  cases hz
  obtain ⟨p, xs, h1, h2, h3, h4, rfl⟩ := inP_rep S Rx Ry e
  exact ⟨p, xs, h1, h2, h3, h4, q _ H ρ Grow.refl S (by unfold Rep; rfl)⟩
theorem f_notIn {K : PySem.W.Frag} : OpI K (rIn K true) fNotIn := by
  intro H ρ st x y vx vy z st' Q S Rx Ry h q
  obtain ⟨b, e, hz⟩ := map_some h
  cases hz
  obtain ⟨p, xs, h1, h2, h3, h4, rfl⟩ := inP_rep S Rx Ry e
  exact ⟨p, xs, h1, h2, h3, h4, q _ H ρ Grow.refl S (by unfold Rep; rfl)⟩

/-! ### subscripts -/
def fIx : F2 := fun x y st => match y with
  | .int i => match x with
    | .str z => if z.length ≤ 100000 then (atI z.cps.toList i).map fun c => (.str ⟨#[c]⟩, st) else none
    | _ => match itemsOf st x with
      | some xs => (atI xs i).map fun v => (v, st)
      | none => none
  | _ => none
theorem atI_rep {K : PySem.W.Frag} {H : Hp} {ρ : List Addr} {xs : List PV} {vs : List V} {i : Int} {x : PV} (R : Reps K H ρ xs vs) (h : atI xs i = some x) : ∃ v, atI vs i = some v ∧ Rep K H ρ x v := by
  unfold atI at h ⊢
  rw [← R.length]
  cases e : ixN xs.length i with
  | none => rw [e] at h; cases h
  | some j =>
    rw [e] at h
    exact R.get h
def rIxA (K : PySem.W.Frag) : R2 := fun x y H Q => rIxL K x y H Q ∨ rIxT K x y H Q ∨ rIxS x y H Q
theorem ix_any : IxR X (rIxA X.K) := ix_list.or (ix_tup.or ix_str)
theorem f_ix {K : PySem.W.Frag} : OpI K (rIxA K) fIx := by
  intro H ρ st x y vx vy z st' Q S Rx Ry h q
  unfold fIx at h
  split at h
  · rename_i i
    unfold Rep at Ry
    subst Ry
    split at h
    · rename_i w
      split at h
      · rename_i hl
        obtain ⟨c, e, hz⟩ := map_some h
        cases hz
        unfold Rep at Rx
        subst Rx
        exact .inr (.inr ⟨_, _, c, rfl, rfl, line5 hl, e, q _ H ρ Grow.refl S (by unfold Rep; rfl)⟩)
      · cases h
    · split at h
      · rename_i xs e1
        obtain ⟨w, e, hz⟩ := map_some h
        cases hz
        obtain ⟨a, vs, rfl, t, r⟩ := items_rep S Rx e1
        obtain ⟨v, hv, rv⟩ := atI_rep r e
        rcases t with t | t
        · exact .inl ⟨a, vs, i, v, rfl, rfl, t, hv, q _ H ρ Grow.refl S rv⟩
        · exact .inr (.inl ⟨a, vs, i, v, rfl, rfl, t, hv, q _ H ρ Grow.refl S rv⟩)
      · cases h
  · cases h
/-! ### slices -/
def cutP (xs : List PV) (lo hi : Option Int) : List PV := (xs.drop (HT.sIx xs.length 0 lo)).take (HT.sIx xs.length xs.length hi - HT.sIx xs.length 0 lo)
def fSl : FSl := fun x lo hi st => match x with
  | .str z => if z.length ≤ 100000 then some (.str (cutS z lo hi), st) else none
  | .tup xs => some (.tup (cutP xs lo hi), st)
  | _ => match listOf st x with
    | some xs => some (alloc (.lst (cutP xs lo hi)) st)
    | none => none
def rSlAny (K : PySem.W.Frag) : V → Option Int → Option Int → Hp → VK → Prop := fun x lo hi H Q => rSlL K x lo hi H Q ∨ rSlA K x lo hi H Q ∨ rSlS x lo hi H Q
theorem sl_any : SlR X (rSlAny X.K) := SlR.or sl_list (SlR.or sl_tupA sl_str)
theorem cut_rep {K : PySem.W.Frag} {H : Hp} {ρ : List Addr} {xs : List PV} {vs : List V} {lo hi : Option Int} (R : Reps K H ρ xs vs) : Reps K H ρ (cutP xs lo hi) (cutV vs lo hi) := by
  unfold cutP cutV
  rw [R.length]
  exact Reps.take _ (Reps.drop _ R)
theorem f_sl {K : PySem.W.Frag} : SlI K (rSlAny K) fSl := by
  intro H ρ st x vx lo hi z st' Q S Rx h q
  unfold fSl at h
  split at h
  · rename_i w
    split at h
    · rename_i hl
      cases h
      unfold Rep at Rx
      subst Rx
      exact .inr (.inr ⟨_, rfl, line5 hl, q _ H ρ Grow.refl S (by unfold Rep; rfl)⟩)
    · cases h
  · rename_i xs
    cases h
    unfold Rep at Rx
    obtain ⟨a, vs, rfl, t, r⟩ := Rx
    refine .inr (.inl ⟨a, vs, rfl, t, fun ⟨e1, e2⟩ => ?_, fun _ p hp => ?_⟩)
    · have e : cutP xs lo hi = xs := by
        unfold cutP
        rw [r.length, e1, e2, List.drop_zero, Nat.sub_zero, ← r.length, List.take_length]
      rw [e] at q
      exact q _ H ρ Grow.refl S (by unfold Rep; exact ⟨a, vs, rfl, t, r⟩)
    · exact q _ _ ρ (grow_new hp) (S.new hp) (new_tup S (cut_rep r) hp)
  · rename_i n1 n2
    split at h
    · rename_i xs e1
      obtain ⟨a, vs, rfl, t, r⟩ := list_rep S Rx e1
      refine .inl ⟨a, vs, rfl, t, fun p hp => ?_⟩
      obtain ⟨a1, a2, a3⟩ := new_lst S (cut_rep (lo := lo) (hi := hi) r) hp
      have e := Option.some.inj h
      rw [e] at a2 a3
      exact q _ _ _ a1 a2 a3
    · cases h
end
end IL

namespace IL
open PySem PySem.Spec PyProof.Rows L2

section
variable {X : Cx}
theorem one_arg {K : PySem.W.Frag} {H : Hp} {ρ : List Addr} {x : PV} {vs : List V} (R : Reps K H ρ [x] vs) : ∃ v, vs = [v] ∧ Rep K H ρ x v := by
  unfold Reps at R
  obtain ⟨v, r, rfl, r1, r2⟩ := R
  unfold Reps at r2
  subst r2
  exact ⟨v, rfl, r1⟩
theorem two_args {K : PySem.W.Frag} {H : Hp} {ρ : List Addr} {x y : PV} {vs : List V} (R : Reps K H ρ [x, y] vs) : ∃ v w, vs = [v, w] ∧ Rep K H ρ x v ∧ Rep K H ρ y w := by
  unfold Reps at R
  obtain ⟨v, r, rfl, r1, r2⟩ := R
  obtain ⟨w, rfl, r3⟩ := one_arg r2
  exact ⟨v, w, rfl, r1, r3⟩
/-- a function of one value -/
def a1 (f : F1) : FA := fun xs st => match xs with
  | [x] => f x st
  | _ => none
def a2 (f : F2) : FA := fun xs st => match xs with
  | [x, y] => f x y st
  | _ => none
theorem call1 {K : PySem.W.Frag} {r : List V → Hp → VK → Prop} {f : F1} (hf : ∀ H ρ st x vx z st' (Q : VK), RepS K H ρ st → Rep K H ρ x vx → f x st = some (z, st') → (∀ v H' ρ', Grow H ρ H' ρ' → RepS K H' ρ' st' → Rep K H' ρ' z v → Q v H') → r [vx] H Q) : CallI K r (a1 f) := by
  intro H ρ st xs vs z st' Q S R h q
  unfold a1 at h
  split at h
  · obtain ⟨v, rfl, r1⟩ := one_arg R
    exact hf H ρ st _ v z st' Q S r1 h q
  · cases h
theorem call2 {K : PySem.W.Frag} {r : List V → Hp → VK → Prop} {f : F2} (hf : ∀ H ρ st x y vx vy z st' (Q : VK), RepS K H ρ st → Rep K H ρ x vx → Rep K H ρ y vy → f x y st = some (z, st') → (∀ v H' ρ', Grow H ρ H' ρ' → RepS K H' ρ' st' → Rep K H' ρ' z v → Q v H') → r [vx, vy] H Q) : CallI K r (a2 f) := by
  intro H ρ st xs vs z st' Q S R h q
  unfold a2 at h
  split at h
  · obtain ⟨v, w, rfl, r1, r2⟩ := two_args R
    exact hf H ρ st _ _ v w z st' Q S r1 r2 h q
  · cases h
/-- len -/
def lenP (st : Sto) : PV → Option Nat
  | .str x => if x.length ≤ 100000 then some x.length else none
  | .tup xs => some xs.length
  | .frz xs => some xs.length
  | .ref n => match st[n]? with
    | some (.lst xs) => some xs.length
    | some (.dK kvs) => some kvs.length
    | _ => none
  | _ => none
def fLen : F1 := fun x st => (lenP st x).map fun n : Nat => (.int (n : Int), st)
def rLenA (K : PySem.W.Frag) : List V → Hp → VK → Prop := fun xs H Q => (∃ x n, xs = [x] ∧ LenV K x H n ∧ Q (.int n) H) ∨ ∃ (p : Addr) (kvs : List (Key × V)), xs = [.ref p] ∧ H p = some (.dK kvs) ∧ Q (.int ((kvs.length : Nat) : Int)) H
theorem cr_len : CallR X (.builtin "len") (rLenA X.K) := CallR.or call_len call_lenD
theorem f_len {K : PySem.W.Frag} : CallI K (rLenA K) (a1 fLen) := call1 fun H ρ st x vx z st' Q S R h q => by
  obtain ⟨n, e, hz⟩ := map_some h
  cases hz
  have fin := q (.int n) H ρ Grow.refl S (by unfold Rep; rfl)
  cases x with
  | str y =>
    simp only [lenP] at e
    split at e
    · rename_i hl
      unfold Rep at R
      subst R
      cases e
      exact .inl ⟨_, _, rfl, ⟨line5 hl, rfl⟩, fin⟩
    · cases e
  | tup xs =>
    unfold Rep at R
    obtain ⟨a, vs, rfl, t, r⟩ := R
    cases e
    exact .inl ⟨_, _, rfl, .inr ⟨vs, t, r.length⟩, fin⟩
  | frz xs =>
    unfold Rep at R
    obtain ⟨a, vs, rfl, t, r⟩ := R
    cases e
    exact .inl ⟨_, _, rfl, .inl ⟨vs, t.sq, r.length⟩, fin⟩
  | ref m =>
    unfold Rep at R
    obtain ⟨a, rfl, i1⟩ := R
    simp only [lenP] at e
    split at e
    · rename_i ys e1
      obtain ⟨b1, hb1, vs1, h1, r1⟩ := S.at_ _ _ e1
      rw [i1] at hb1; cases hb1
      cases e
      exact .inl ⟨_, _, rfl, .inl ⟨vs1, .of h1, r1.length⟩, fin⟩
    · rename_i ys e1
      obtain ⟨b1, hb1, vs1, h1, r1⟩ := S.at_ _ _ e1
      rw [i1] at hb1; cases hb1
      cases e
      refine .inr ⟨a, vs1, rfl, h1, ?_⟩
      rw [← r1.length]
      exact fin
    · cases e
  | _ => cases e
/-- tuple(xs), list(xs) -/
def fTuple : F1 := fun x st => (itemsOf st x).map fun xs => (.tup xs, st)
def fList : F1 := fun x st => (itemsOf st x).map fun xs => alloc (.lst xs) st
theorem f_tuple {K : PySem.W.Frag} : CallI K (fun xs H Q => ∃ p ys, xs = [.ref p] ∧ ((SqL K H p ys ∧ ∀ l, H l = none → Q (.ref l) (upd H l (.tup ys))) ∨ (SqT K H p ys ∧ Q (.ref p) H))) (a1 fTuple) := call1 fun H ρ st x vx z st' Q S R h q => by
  obtain ⟨xs, e, hz⟩ := map_some h
  cases hz
  obtain ⟨a, vs, rfl, t, r⟩ := items_rep S R e
  refine ⟨a, vs, rfl, ?_⟩
  rcases t with t | t
  · exact .inl ⟨t, fun p hp => q _ _ ρ (grow_new hp) (S.new hp) (new_tup S r hp)⟩
  · exact .inr ⟨t, q _ H ρ Grow.refl S (by unfold Rep; exact ⟨a, vs, rfl, t, r⟩)⟩
theorem f_list {K : PySem.W.Frag} : CallI K (fun xs H Q => ∃ p ys, xs = [.ref p] ∧ (SqL K H p ys ∨ SqT K H p ys) ∧ ∀ l, H l = none → Q (.ref l) (upd H l (.lst ys))) (a1 fList) := call1 fun H ρ st x vx z st' Q S R h q => by
  obtain ⟨xs, e, hz⟩ := map_some h
  obtain ⟨a, vs, rfl, t, r⟩ := items_rep S R e
  refine ⟨a, vs, rfl, t, fun p hp => ?_⟩
  obtain ⟨b1, b2, b3⟩ := new_lst S r hp
  rw [hz] at b2 b3
  exact q _ _ _ b1 b2 b3
/-- str(n) -/
def fStr : F1 := fun x st => match x with
  | .int i => if i.natAbs < 2 ^ 1000 then some (.str (toString i), st) else none
  | _ => none
theorem f_str {K : PySem.W.Frag} : CallI K (fun xs H Q => ∃ i : Int, xs = [.int i] ∧ i.natAbs.log2 < 1920 ∧ Q (.str (toString i)) H) (a1 fStr) := call1 fun H ρ st x vx z st' Q S R h q => by
  unfold fStr at h
  split at h
  · split at h
    · rename_i hl
      unfold Rep at R
      subst R
      cases h
      exact ⟨_, rfl, Nat.lt_of_lt_of_le (PySem.Flt.log2_lt_of (by decide) hl) (by decide), q _ H ρ Grow.refl S (by unfold Rep; rfl)⟩
    · cases h
  · cases h
/-- int(n), int(b); abs -/
def fInt1 : F1 := fun x st => match x with
  | .int i => some (.int i, st)
  | .bl b => some (.int (if b then 1 else 0), st)
  | _ => none
theorem f_int1 {K : PySem.W.Frag} : CallI K (fun xs H Q => (∃ i, xs = [.int i] ∧ Q (.int i) H) ∨ ∃ k : Bool, xs = [.bl k] ∧ Q (.int (if k then 1 else 0)) H) (a1 fInt1) := call1 fun H ρ st x vx z st' Q S R h q => by
  unfold fInt1 at h
  split at h
  · unfold Rep at R
    subst R
    cases h
    exact .inl ⟨_, rfl, q _ H ρ Grow.refl S (by unfold Rep; rfl)⟩
  · unfold Rep at R
    subst R
    cases h
    exact .inr ⟨_, rfl, q _ H ρ Grow.refl S (by unfold Rep; rfl)⟩
  · cases h
def fAbs : F1 := fun x st => match x with
  | .int i => some (.int (if i < 0 then -i else i), st)
  | _ => none
theorem f_abs {K : PySem.W.Frag} : CallI K (fun xs H Q => ∃ i : Int, xs = [.int i] ∧ Q (.int (if i < 0 then -i else i)) H) (a1 fAbs) := call1 fun H ρ st x vx z st' Q S R h q => by
  unfold fAbs at h
  split at h
  · unfold Rep at R
    subst R
    cases h
    exact ⟨_, rfl, q _ H ρ Grow.refl S (by unfold Rep; rfl)⟩
  · cases h
/-- isinstance -/
def tyName (st : Sto) : PV → Option String
  | .non => some "NoneType"
  | .bl _ => some "bool"
  | .int _ => some "int"
  | .str _ => some "str"
  | .tup _ => some "tuple"
  | .frz _ => some "list"
  | .ref n => match st[n]? with
    | some (.lst _) => some "list"
    | some (.dK _) => some "dict"
    | none => none
  | .ty _ => none
theorem tyName_rep {K : PySem.W.Frag} {H : Hp} {ρ : List Addr} {st : Sto} (S : RepS K H ρ st) {x : PV} {v : V} {n : String} (R : Rep K H ρ x v) (h : tyName st x = some n) : TyX K H v (.type n) := by
  cases x with
  | non => unfold Rep at R; subst R; cases h; exact .base .non
  | bl b => unfold Rep at R; subst R; cases h; exact .base (.bl b)
  | int b => unfold Rep at R; subst R; cases h; exact .base (.int b)
  | str b => unfold Rep at R; subst R; cases h; exact .base (.str b)
  | tup xs =>
    unfold Rep at R
    obtain ⟨a, vs, rfl, t, r⟩ := R
    cases h
    rcases t with (t | ⟨o, t⟩) | ⟨o, its, m, t, c, _⟩
    · exact .base (.tup t)
    · exact .fTuple t
    · exact .kTuple t c
  | frz xs =>
    unfold Rep at R
    obtain ⟨a, vs, rfl, t, r⟩ := R
    cases h
    rcases t.sq with (t | ⟨o, t⟩) | ⟨o, its, m, t, c, _⟩
    · exact .base (.lst t)
    · exact .base (.frz t)
    · exact .kList t c
  | ref m =>
    unfold Rep at R
    obtain ⟨a, rfl, i1⟩ := R
    simp only [tyName] at h
    split at h
    · rename_i ys e1
      obtain ⟨b1, hb1, vs1, h1, r1⟩ := S.at_ _ _ e1
      rw [i1] at hb1; cases hb1
      cases h
      exact .base (.lst h1)
    · rename_i ys e1
      obtain ⟨b1, hb1, vs1, h1, r1⟩ := S.at_ _ _ e1
      rw [i1] at hb1; cases hb1
      cases h
      exact .base (.dK h1)
    · cases h
  | ty n => cases h
def isP (st : Sto) (x y : PV) : Option Bool := match y with
  | .ty m => match tyName st x with
    | some n => kitB n m
    | none => none
  | _ => none
def fIsi : F2 := fun x y st => (isP st x y).map fun b => (.bl b, st)
theorem f_isi {K : PySem.W.Frag} : CallI K (rIsi K) (a2 fIsi) := call2 fun H ρ st x y vx vy z st' Q S Rx Ry h q => by
  obtain ⟨b, e, hz⟩ := map_some h
  cases hz
  unfold isP at e
  split at e
  · split at e
    · rename_i n e1
      unfold Rep at Ry
      subst Ry
      exact ⟨_, _, _, _, b, rfl, .ty _, tyName_rep S Rx e1, kit_ty e, q _ H ρ Grow.refl S (by unfold Rep; rfl)⟩
    · cases e
  · cases e
/-- all, any of a list of truths -/
theorem bls_reps {K : PySem.W.Frag} {H : Hp} {ρ : List Addr} : ∀ {xs : List PV} {vs : List V} {bs : List Bool}, Reps K H ρ xs vs → mapO isBl xs = some bs → vs = bs.map V.bl
  | [], vs, bs, R, h => by
    unfold Reps at R
    subst R
    cases h
    rfl
  | x :: xs, vs, bs, R, h => by
    unfold Reps at R
    obtain ⟨v, r, rfl, r1, r2⟩ := R
    unfold mapO at h
    split at h
    · rename_i e1 e2
      cases h
      cases x <;> simp only [isBl, Option.some.injEq, reduceCtorEq] at e1
      subst e1
      unfold Rep at r1
      rw [r1, bls_reps r2 e2]
      rfl
    · cases h
def blsOf (st : Sto) (x : PV) : Option (List Bool) := match listOf st x with
  | some xs => mapO isBl xs
  | none => none
def fAll : F1 := fun x st => (blsOf st x).map fun bs => (.bl (bs.all id), st)
def fAny : F1 := fun x st => (blsOf st x).map fun bs => (.bl (bs.any id), st)
theorem bls_rep {K : PySem.W.Frag} {H : Hp} {ρ : List Addr} {st : Sto} (S : RepS K H ρ st) {x : PV} {v : V} {bs : List Bool} (R : Rep K H ρ x v) (h : blsOf st x = some bs) : ∃ a, v = .ref a ∧ SqL K H a (bs.map V.bl) := by
  unfold blsOf at h
  split at h
  · rename_i xs e
    obtain ⟨a, vs, rfl, t, r⟩ := list_rep S R e
    rw [bls_reps r h] at t
    exact ⟨a, rfl, t⟩
  · cases h
theorem f_all {K : PySem.W.Frag} : CallI K (rAll K) (a1 fAll) := call1 fun H ρ st x vx z st' Q S R h q => by
  obtain ⟨bs, e, hz⟩ := map_some h
  cases hz
  obtain ⟨a, rfl, t⟩ := bls_rep S R e
  exact ⟨a, bs, rfl, t, q _ H ρ Grow.refl S (by unfold Rep; rfl)⟩
theorem f_any {K : PySem.W.Frag} : CallI K (rAny K) (a1 fAny) := call1 fun H ρ st x vx z st' Q S R h q => by
  obtain ⟨bs, e, hz⟩ := map_some h
  cases hz
  obtain ⟨a, rfl, t⟩ := bls_rep S R e
  exact ⟨a, bs, rfl, t, q _ H ρ Grow.refl S (by unfold Rep; rfl)⟩
/-- repr of a truth -/
def fRepr : F1 := fun x st => match x with
  | .bl b => some (.str (if b then "True" else "False"), st)
  | _ => none
def rReprB : List V → Hp → VK → Prop := fun xs H Q => ∃ b : Bool, xs = [.bl b] ∧ Q (.str (if b then "True" else "False")) H
theorem cr_reprB : CallR X (.builtin "repr") rReprB := by
  intro pins s σ H xs us Q I r h
  obtain ⟨b, rfl, q⟩ := h
  obtain ⟨u, rfl, e⟩ := vals1 r
  cases (show u = Value.bool b from e)
  exact PySem.P.repr_of_bool ⟨.str _, H, I.tok _, ⟨_, rfl⟩, q⟩
theorem f_repr {K : PySem.W.Frag} : CallI K rReprB (a1 fRepr) := call1 fun H ρ st x vx z st' Q S R h q => by
  unfold fRepr at h
  split at h
  · unfold Rep at R
    subst R
    cases h
    exact ⟨_, rfl, q _ H ρ Grow.refl S (by unfold Rep; rfl)⟩
  · cases h
/-- max(xs, default=d), max(xs) of ints -/
def maxI : List Int → Int → Int
  | [], d => d
  | y :: ys, _ => ys.foldl (fun a z => if a < z then z else a) y
def rMaxDef (K : PySem.W.Frag) : List V → List V → Hp → VK → Prop := fun vs zs H Q => ∃ (a : Addr) (ns : List Int) (d : Int), vs = [.ref a] ∧ zs = [.int d] ∧ SqL K H a (ns.map V.int) ∧ Q (.int (maxI ns d)) H
theorem hold_ints {h : Heap} : ∀ {us : List Value} {ns : List Int}, IntsAre us ns → PySem.W.HoldAll h us ns
  | _, _, .nil => PySem.W.HoldAll.nil
  | _, _, .cons _ _ r => PySem.W.HoldAll.cons (PySem.W.holds_int _ _) (hold_ints r)
theorem maxOf_int (y : Int) (ys : List Int) : PySem.W.maxOf y ys = maxI (y :: ys) 0 := by
  unfold PySem.W.maxOf maxI
  congr 1
  funext a z
  show (if decide (a < z) = true then z else a) = _
  by_cases h : a < z
  · rw [if_pos (decide_eq_true h), if_pos h]
  · rw [if_neg (by simpa using h), if_neg h]
theorem cr_maxDef (hc : X.calm = true) (hu : X.A.units + 64 < cLine) : CallRK X (.builtin "max") [Str.ofString "default"] (rMaxDef X.K) := by
  intro pins s σ H vs zs us ws Q I r rz h
  obtain ⟨a, ns, d, rfl, rfl, hs, q⟩ := h
  obtain rfl := Vals.ref1 r
  obtain ⟨w1, rfl, e1⟩ := vals1 rz
  obtain ⟨its, rv, pl, _⟩ := I.list hs
  refine PySem.W.max_list_datum_default (α := Int) (xs := ns) (I.ok.hd hc) pl.isList (hold_ints (by simpa using rv.ints)) (by show X.A.units + 1 + 0 < cLine; omega) (fun e h' tk hk => ?_) fun y ys i v h' tk e hi hm hk => ?_
  · subst e
    obtain ⟨t, rfl⟩ := e1
    exact ⟨.int d, H, I.kept hk, ⟨t, rfl⟩, q⟩
  · subst e
    obtain ⟨as, hr⟩ := hm
    rw [maxOf_int] at hr
    have : ∃ t, v = .int (maxI (y :: ys) 0) t := by
      cases hr
      exact ⟨_, rfl⟩
    obtain ⟨t, rfl⟩ := this
    exact ⟨.int (maxI (y :: ys) 0), H, I.kept hk, ⟨t, rfl⟩, q⟩
def isInt : PV → Option Int
  | .int i => some i
  | _ => none
theorem ints_reps {K : PySem.W.Frag} {H : Hp} {ρ : List Addr} : ∀ {xs : List PV} {vs : List V} {bs : List Int}, Reps K H ρ xs vs → mapO isInt xs = some bs → vs = bs.map V.int
  | [], vs, bs, R, h => by
    unfold Reps at R
    subst R
    cases h
    rfl
  | x :: xs, vs, bs, R, h => by
    unfold Reps at R
    obtain ⟨v, r, rfl, r1, r2⟩ := R
    unfold mapO at h
    split at h
    · rename_i e1 e2
      cases h
      cases x <;> simp only [isInt, Option.some.injEq, reduceCtorEq] at e1
      subst e1
      unfold Rep at r1
      rw [r1, ints_reps r2 e2]
      rfl
    · cases h
def intsOf (st : Sto) (x : PV) : Option (List Int) := match listOf st x with
  | some xs => mapO isInt xs
  | none => none
def iMaxDef (ir ik : IA) : IE := fun env st => ob (ir env st) fun xs s1 => ob (ik env s1) fun zs s2 => match xs, zs with
  | [x], [.int d] => (intsOf s2 x).map fun ns => (.int (maxI ns d), s2)
  | _, _ => none
theorem k_one {e : Expr} {ie : IE} {nm : Option Str} {kpos : Pos} (ha : PE X e (tI X.K ie)) : PK X [⟨nm, e, kpos⟩] (tIA X.K (iCons ie iNil)) := by
  refine ⟨fun pos pins s σ H Q I h => (pk_cons (nm := nm) (kpos := kpos) ha pk_nil).run pos pins s σ H Q I ?_⟩
  obtain ⟨env, st, ρ, z, st', E, S, h, q⟩ := h
  obtain ⟨x, s1, h1, h⟩ := ob_some h
  obtain ⟨xs, s2, h2, h⟩ := ob_some h
  cases h2
  cases h
  exact ⟨env, st, ρ, x, _, E, S, h1, fun v H1 ρ1 G1 S1 R1 => q [v] H1 ρ1 G1 S1 (by unfold Reps; exact ⟨v, [], rfl, R1, by unfold Reps; rfl⟩)⟩
theorem r_maxDef {e : Expr} {es : List Expr} {kws : List Keyword} {p pos : Pos} {ir ik : IA} (hc : X.calm = true) (hu : X.A.units + 64 < cLine) (hg : Gl X "max") (hm : X.mg "max" = none) (hv : bootBuiltins "max" = some (.builtin "max")) (ha : PA X (e :: es) (tIA X.K ir)) (hk : PK X kws (tIA X.K ik))
    (he : backTo pos (starEach (e :: es) X.env) = (false, eval e X.env) :: backTo pos (starEach es X.env) := by rfl) (hpl : (backTo pos (starEach (e :: es) X.env)).any (·.1) = false := by rfl)
    (hall : (backToKw pos (keywordEach kws X.env)).all (·.1.isSome) = true := by rfl) (hnone : (backToKw pos (keywordEach kws X.env)).any (·.1.isNone) = false := by rfl) (hks : (backToKw pos (keywordEach kws X.env)).filterMap (·.1) = [Str.ofString "default"] := by rfl) :
    PE X (.Call (.Name "max" p) (e :: es) kws pos) (tI X.K (iMaxDef ir ik)) :=
  PE.imp (pe_callBK (cr_maxDef hc hu) hg hm hv ha hk (by decide) (by decide) he hpl hall hnone hks) fun σ H Q ⟨env, st, ρ, z, st', E, S, h, q⟩ => by
    obtain ⟨xs, s1, h1, h⟩ := ob_some h
    obtain ⟨zs, s2, h2, h⟩ := ob_some h
    refine ⟨env, st, ρ, xs, s1, E, S, h1, fun vs H1 ρ1 G1 S1 R1 => ⟨env, s1, ρ1, zs, s2, E.grow S G1, S1, h2, fun ws H2 ρ2 G2 S2 R2 => ?_⟩⟩
    split at h
    · rename_i x d hh
      obtain ⟨ns, e, hz⟩ := map_some h
      cases hz
      obtain ⟨v, rfl, r1⟩ := one_arg (Reps.grow S1 G2 _ _ R1)
      obtain ⟨w, rfl, r2⟩ := one_arg R2
      unfold Rep at r2
      subst r2
      unfold intsOf at e
      split at e
      · rename_i ys e1
        obtain ⟨a, us, rfl, t, r⟩ := list_rep S2 r1 e1
        rw [ints_reps r e] at t
        exact ⟨a, ns, d, rfl, rfl, t, q _ H2 ρ2 (G1.trans G2) S2 (by unfold Rep; rfl)⟩
      · cases e
    · cases h
/-- xs[i] = v of a list -/
def fSetL : FSet := fun o i v st => match o, i with
  | .ref n, .int k => match st[n]? with
    | some (.lst xs) => (ixN xs.length k).map fun j => st.set n (.lst (xs.set j v))
    | _ => none
  | _, _ => none
theorem f_setL {K : PySem.W.Frag} : SetI K rSetL fSetL := by
  intro H ρ st o i x vo vi vx st' Q S Ro Ri Rx h q
  unfold fSetL at h
  split at h
  · rename_i n k
    split at h
    · rename_i xs e1
      obtain ⟨j, e, hz⟩ := map_some h
      subst hz
      unfold Rep at Ro Ri
      obtain ⟨a, rfl, i1⟩ := Ro
      subst Ri
      obtain ⟨b1, hb1, vs1, h1, r1⟩ := S.at_ _ _ e1
      rw [i1] at hb1; cases hb1
      have g : Grow H ρ (upd H a (.lst (vs1.set j vx))) ρ := grow_write h1 (List.mem_of_getElem? i1)
      exact ⟨a, vs1, k, j, rfl, rfl, h1, by rw [← r1.length]; exact e, q _ ρ g (S.write (so := .lst (xs.set j x)) i1 h1 ⟨_, upd_same, Reps.grow S g _ _ (Reps.set Rx j r1)⟩)⟩
    · cases h
  · cases h
/-- xs.append(v) -/
def iAppend (io ie : IE) : IE := fun env st => ob (io env st) fun o s1 => match o with
  | .ref n => match s1[n]? with
    | some (.lst _) => ob (ie env s1) fun x s2 => match s2[n]? with
      | some (.lst xs) => if xs.length < 100000 then some (.non, s2.set n (.lst (xs ++ [x]))) else none
      | _ => none
    | _ => none
  | _ => none
end
end IL

namespace IL
open PySem PySem.Spec PyProof.Rows L2

section
variable {X : Cx}
theorem PE.or {e : Expr} {t t' : TE} (h : PE X e t) (h' : PE X e t') : PE X e (fun σ H Q => t σ H Q ∨ t' σ H Q) := ⟨fun pins s σ H Q I q => q.elim (h.run pins s σ H Q I) (h'.run pins s σ H Q I)⟩
/-! ### dicts whose keys are ints and texts -/
def keyP : PV → Option Key
  | .int i => some (.inl i)
  | .str x => some (.inr x)
  | _ => none
theorem key_rep {K : PySem.W.Frag} {H : Hp} {ρ : List Addr} {x : PV} {v : V} {k : Key} (R : Rep K H ρ x v) (h : keyP x = some k) : v = kV k := by
  cases x <;> simp only [keyP, Option.some.injEq, reduceCtorEq] at h <;> (unfold Rep at R; subst R; subst h; rfl)
def findP : List (Key × PV) → Key → Option PV
  | [], _ => none
  | (k', v) :: r, k => if k' = k then some v else findP r k
def putP : List (Key × PV) → Key → PV → List (Key × PV)
  | [], k, v => [(k, v)]
  | (k', w) :: r, k, v => if k' = k then (k', v) :: r else (k', w) :: putP r k v
theorem find_rep {K : PySem.W.Frag} {H : Hp} {ρ : List Addr} {k : Key} : ∀ {xs : List (Key × PV)} {vs : List (Key × V)}, RepK K H ρ xs vs → (∀ x, findP xs k = some x → ∃ v, valV vs k = some v ∧ Rep K H ρ x v) ∧ (findP xs k = none → valV vs k = none)
  | [], vs, R => by
    subst R
    exact ⟨fun x h => (by cases h), fun _ => rfl⟩
  | (k', y) :: xs, vs, R => by
    obtain ⟨v, r, rfl, r1, r2⟩ := R
    obtain ⟨i1, i2⟩ := find_rep (k := k) r2
    unfold findP
    by_cases e : k' = k
    · rw [if_pos e, valV_pos (p := (k', v)) e]
      exact ⟨fun x h => (by cases h; exact ⟨v, rfl, r1⟩), fun h => (by cases h)⟩
    · rw [if_neg e, valV_neg (p := (k', v)) e]
      exact ⟨i1, i2⟩
theorem find_some {K : PySem.W.Frag} {H : Hp} {ρ : List Addr} {k : Key} {xs : List (Key × PV)} {vs : List (Key × V)} (R : RepK K H ρ xs vs) : (findP xs k).isSome = (valV vs k).isSome := by
  obtain ⟨i1, i2⟩ := find_rep (k := k) R
  cases e : findP xs k with
  | none => rw [i2 e]; rfl
  | some x =>
    obtain ⟨v, e2, _⟩ := i1 x e
    rw [e2]; rfl
theorem putK_cons {k' k : Key} {w v : V} {r : List (Key × V)} (nd : ((k', w) :: r).map (·.1) |>.Nodup) : putK ((k', w) :: r) k v = if k' = k then (k', v) :: r else (k', w) :: putK r k v := by
  by_cases e : k' = k
  · subst e
    rw [if_pos rfl]
    unfold putK
    rw [if_pos (by simp)]
    rw [List.map_cons, if_pos rfl]
    congr 1
    have : ∀ p ∈ r, ¬ p.1 = k' := fun p hp z => by
      rw [List.map_cons, List.nodup_cons] at nd
      exact nd.1 (List.mem_map.mpr ⟨p, hp, z⟩)
    conv => rhs; rw [← List.map_id r]
    exact List.map_congr_left fun p hp => if_neg (this p hp)
  · rw [if_neg e]
    unfold putK
    rw [List.any_cons, decide_eq_false e, Bool.false_or]
    by_cases h : (r.any fun kv => decide (kv.1 = k)) = true
    · rw [if_pos h, if_pos h, List.map_cons, if_neg e]
    · rw [if_neg h, if_neg h]; rfl
theorem keys_rep {K : PySem.W.Frag} {H : Hp} {ρ : List Addr} : ∀ {xs : List (Key × PV)} {vs : List (Key × V)}, RepK K H ρ xs vs → vs.map (·.1) = xs.map (·.1)
  | [], vs, R => by subst R; rfl
  | x :: xs, vs, R => by
    obtain ⟨v, r, rfl, _, r2⟩ := R
    rw [List.map_cons, List.map_cons, keys_rep r2]
theorem put_rep {K : PySem.W.Frag} {H : Hp} {ρ : List Addr} {k : Key} {y : PV} {w : V} (Ry : Rep K H ρ y w) : ∀ {xs : List (Key × PV)} {vs : List (Key × V)}, (xs.map (·.1)).Nodup → RepK K H ρ xs vs → RepK K H ρ (putP xs k y) (putK vs k w)
  | [], vs, nd, R => by
    subst R
    exact ⟨w, [], rfl, Ry, rfl⟩
  | (k', z) :: xs, vs, nd, R => by
    have kr := keys_rep R
    obtain ⟨v, r, rfl, r1, r2⟩ := R
    rw [putK_cons (by rw [kr]; exact nd)]
    unfold putP
    by_cases e : k' = k
    · rw [if_pos e, if_pos e]
      exact ⟨w, r, rfl, Ry, r2⟩
    · rw [if_neg e, if_neg e]
      rw [List.map_cons, List.nodup_cons] at nd
      exact ⟨v, _, rfl, r1, put_rep Ry nd.2 r2⟩
def dictOf (st : Sto) : PV → Option (List (Key × PV))
  | .ref n => match st[n]? with
    | some (.dK kvs) => some kvs
    | _ => none
  | _ => none
theorem dict_rep {K : PySem.W.Frag} {H : Hp} {ρ : List Addr} {st : Sto} (S : RepS K H ρ st) {x : PV} {v : V} {kvs : List (Key × PV)} (R : Rep K H ρ x v) (h : dictOf st x = some kvs) : ∃ a vs, v = .ref a ∧ H a = some (.dK vs) ∧ RepK K H ρ kvs vs := by
  cases x with
  | ref n =>
    unfold Rep at R
    obtain ⟨a, rfl, i1⟩ := R
    simp only [dictOf] at h
    split at h
    · rename_i ys e1
      obtain ⟨b1, hb1, vs1, h1, r1⟩ := S.at_ _ _ e1
      rw [i1] at hb1; cases hb1
      cases h
      exact ⟨a, vs1, rfl, h1, r1⟩
    · cases h
  | _ => cases h
/-- o[i]: a list, a tuple, a text, a dict -/
def fSubA : F2 := fun x y st => match dictOf st x with
  | some kvs => match keyP y with
    | some k => (findP kvs k).map fun v => (v, st)
    | none => none
  | none => fIx x y st
variable {a b e i o : Expr} {es rest : List Expr} {pos : Pos} {ia ib ie : IE}
theorem r_sub (hu : X.A.units + 1 < cLine) (ha : PE X a (tI X.K ia)) (hb : PE X b (tI X.K ib)) (hs : PlainIx b) : PE X (.Subscript a b pos) (tI X.K (iBin fSubA ia ib)) :=
  PE.imp (PE.or (pe_ix ix_any ha hb hs) (pe_dget hu ha hb hs)) fun σ H Q ⟨env, st, ρ, z, st', E, S, h, q⟩ => by
    obtain ⟨x, s1, h1, h⟩ := ob_some h
    obtain ⟨y, s2, h2, h⟩ := ob_some h
    unfold fSubA at h
    cases e : dictOf s2 x with
    | none =>
      rw [e] at h
      exact .inl (bin_to (f := fIx) f_ix ⟨env, st, ρ, z, st', E, S, by unfold iBin; rw [h1]; simp only [ob]; rw [h2]; exact h, q⟩)
    | some kvs =>
      rw [e] at h
      simp only at h
      split at h
      · rename_i k e2
        obtain ⟨v, e3, hz⟩ := map_some h
        cases hz
        refine .inr ⟨env, st, ρ, x, s1, E, S, h1, fun vx H1 ρ1 G1 S1 R1 => ⟨env, s1, ρ1, y, _, E.grow S G1, S1, h2, fun vy H2 ρ2 G2 S2 R2 => ?_⟩⟩
        obtain ⟨p, vs, rfl, hp, r⟩ := dict_rep S2 (Rep.grow S1 G2 _ _ R1) e
        obtain ⟨w, hw, rw'⟩ := (find_rep (k := k) r).1 _ e3
        have hk := key_rep R2 e2
        subst hk
        exact ⟨p, w, rfl, by rw [← hw]; exact DGet.k hp, q w H2 ρ2 (G1.trans G2) S2 rw'⟩
      · cases h
/-- in, not in: a list or a tuple of flat things, a dict, a text -/
def inA (st : Sto) (x y : PV) : Option Bool := match dictOf st y with
  | some kvs => match keyP x with
    | some k => some (findP kvs k).isSome
    | none => none
  | none => match x, y with
    | .str i, .str j => some (!(Builtin.Str.occurrences j i 0 j.length 1).isEmpty)
    | _, _ => inP st x y
def fInA : F2 := fun x y st => (inA st x y).map fun b => (.bl b, st)
def fNotInA : F2 := fun x y st => (inA st x y).map fun b => (.bl (!b), st)
def rInS : R2 := fun x y H Q => ∃ i j, x = .str i ∧ y = .str j ∧ Q (.bl (!(Builtin.Str.occurrences j i 0 j.length 1).isEmpty)) H
def rNotInS : R2 := fun x y H Q => ∃ i j, x = .str i ∧ y = .str j ∧ Q (.bl (!(!(Builtin.Str.occurrences j i 0 j.length 1).isEmpty))) H
def rInD2 : R2 := fun y x H Q => ∃ a o, x = .ref a ∧ DGet H a y o ∧ Q (.bl o.isSome) H
def rNotInD2 : R2 := fun y x H Q => ∃ a o, x = .ref a ∧ DGet H a y o ∧ Q (.bl (!o.isSome)) H
theorem op_inD2 (hu : X.A.units + 1 < cLine) : OpR X (compareOp .In) rInD2 := by
  intro pins s σ H x y v u Q I rx ry h
  obtain ⟨a, o, rfl, g, q⟩ := h
  cases ry
  exact d_in hu I g rx fun s3 I3 => ⟨.bl o.isSome, H, I3, rfl, q⟩
theorem op_notInD2 (hu : X.A.units + 1 < cLine) : OpR X (compareOp .NotIn) rNotInD2 := by
  intro pins s σ H x y v u Q I rx ry h
  obtain ⟨a, o, rfl, g, q⟩ := h
  cases ry
  exact d_notIn hu I g rx fun s3 I3 => ⟨.bl (!o.isSome), H, I3, rfl, q⟩
def rInAll (K : PySem.W.Frag) : R2 := fun x y H Q => rIn K false x y H Q ∨ rInD2 x y H Q ∨ rInS x y H Q
def rNotInAll (K : PySem.W.Frag) : R2 := fun x y H Q => rIn K true x y H Q ∨ rNotInD2 x y H Q ∨ rNotInS x y H Q
theorem op_inAll (hu : X.A.units + 1 < cLine) : OpR X (compareOp .In) (rInAll X.K) := OpR.or op_in_seq (OpR.or (op_inD2 hu) op_in_str)
theorem op_notInAll (hu : X.A.units + 1 < cLine) : OpR X (compareOp .NotIn) (rNotInAll X.K) := OpR.or op_notIn_seq (OpR.or (op_notInD2 hu) op_notIn_str)
theorem inA_rep {K : PySem.W.Frag} {H : Hp} {ρ : List Addr} {st : Sto} (S : RepS K H ρ st) {x y : PV} {v w : V} {b : Bool} (Rx : Rep K H ρ x v) (Ry : Rep K H ρ y w) (h : inA st x y = some b) :
    (∃ p xs, w = .ref p ∧ (SqL K H p xs ∨ SqT K H p xs) ∧ flatV v = true ∧ xs.all flatV = true ∧ inV v xs = b) ∨ (∃ a o, w = .ref a ∧ DGet H a v o ∧ o.isSome = b) ∨ ∃ i j, v = .str i ∧ w = .str j ∧ (!(Builtin.Str.occurrences j i 0 j.length 1).isEmpty) = b := by
  unfold inA at h
  split at h
  · rename_i kvs e
    split at h
    · rename_i k e2
      cases h
      obtain ⟨p, vs, rfl, hp, r⟩ := dict_rep S Ry e
      have hk := key_rep Rx e2
      subst hk
      exact .inr (.inl ⟨p, _, rfl, DGet.k hp, (find_some r).symm⟩)
    · cases h
  · split at h
    · cases h
      unfold Rep at Rx Ry
      subst Rx Ry
      exact .inr (.inr ⟨_, _, rfl, rfl, rfl⟩)
    · exact .inl (inP_rep S Rx Ry h)
theorem f_inA {K : PySem.W.Frag} : OpI K (rInAll K) fInA := by
  intro H ρ st x y vx vy z st' Q S Rx Ry h q
  obtain ⟨b, e, hz⟩ := map_some h
  cases hz
  have fin := q (.bl b) H ρ Grow.refl S (by unfold Rep; rfl)
  rcases inA_rep S Rx Ry e with ⟨p, xs, h1, h2, h3, h4, rfl⟩ | ⟨a, o, h1, h2, rfl⟩ | ⟨i, j, h1, h2, rfl⟩
  · exact .inl ⟨p, xs, h1, h2, h3, h4, fin⟩
  · exact .inr (.inl ⟨a, o, h1, h2, fin⟩)
  · exact .inr (.inr ⟨i, j, h1, h2, fin⟩)
theorem f_notInA {K : PySem.W.Frag} : OpI K (rNotInAll K) fNotInA := by
  intro H ρ st x y vx vy z st' Q S Rx Ry h q
  obtain ⟨b, e, hz⟩ := map_some h
  cases hz
  have fin := q (.bl (!b)) H ρ Grow.refl S (by unfold Rep; rfl)
  rcases inA_rep S Rx Ry e with ⟨p, xs, h1, h2, h3, h4, rfl⟩ | ⟨a, o, h1, h2, rfl⟩ | ⟨i, j, h1, h2, rfl⟩
  · exact .inl ⟨p, xs, h1, h2, h3, h4, fin⟩
  · exact .inr (.inl ⟨a, o, h1, h2, fin⟩)
  · exact .inr (.inr ⟨i, j, h1, h2, fin⟩)
/-- o[i] = v: a list, a dict -/
def nodupK (kvs : List (Key × PV)) : Bool := decide (kvs.map (·.1)).Nodup
def fSetA : FSet := fun o i v st => match o with
  | .ref n => match st[n]? with
    | some (.dK kvs) => match keyP i with
      | some k => if nodupK kvs && decide (kvs.length < 100000) then some (st.set n (.dK (putP kvs k v))) else none
      | none => none
    | _ => fSetL o i v st
  | _ => none
def rSetD : TSet := fun o i v H Q => ∃ a H', o = .ref a ∧ DPut H a i v H' ∧ Q H'
theorem set_dict (hu : X.A.units + 1 < cLine) : PSet X rSetD := by
  intro pins s σ H o i v ov iv u Q I ro ri rv h
  obtain ⟨a, H', rfl, g, q⟩ := h
  cases ro
  exact d_setItem hu I g ri rv fun s4 I4 => ⟨H', I4, q⟩
theorem PSet.or {t t' : TSet} (h : PSet X t) (h' : PSet X t') : PSet X (fun o i v H Q => t o i v H Q ∨ t' o i v H Q) := fun pins s σ H o i v ov iv u Q I ro ri rv q =>
  q.elim (h pins s σ H o i v ov iv u Q I ro ri rv) (h' pins s σ H o i v ov iv u Q I ro ri rv)
def rSetA : TSet := fun o i v H Q => rSetL o i v H Q ∨ rSetD o i v H Q
theorem set_any (hu : X.A.units + 1 < cLine) : PSet X rSetA := PSet.or set_list (set_dict hu)
theorem f_setA {K : PySem.W.Frag} : SetI K rSetA fSetA := by
  intro H ρ st o i x vo vi vx st' Q S Ro Ri Rx h q
  unfold fSetA at h
  split at h
  · rename_i n
    split at h
    · rename_i kvs e1
      split at h
      · rename_i k e2
        split at h
        · rename_i hc
          rw [Bool.and_eq_true] at hc
          have nd : (kvs.map (·.1)).Nodup := of_decide_eq_true hc.1
          have hl : kvs.length < 100000 := of_decide_eq_true hc.2
          cases h
          unfold Rep at Ro
          obtain ⟨a, rfl, i1⟩ := Ro
          obtain ⟨b1, hb1, vs1, h1, r1⟩ := S.at_ _ _ e1
          rw [i1] at hb1; cases hb1
          have hk := key_rep Ri e2
          subst hk
          have g : Grow H ρ (upd H a (.dK (putK vs1 k vx))) ρ := grow_write h1 (List.mem_of_getElem? i1)
          exact .inr ⟨a, _, rfl, .inl ⟨vs1, k, h1, rfl, line6 (by rw [← r1.length]; exact hl), rfl⟩, q _ ρ g (S.write (so := .dK (putP kvs k x)) i1 h1 ⟨_, upd_same, RepK.grow S g _ _ (put_rep Rx nd r1)⟩)⟩
        · cases h
      · cases h
    · exact .inl (f_setL H ρ st _ i x vo vi vx st' Q S Ro Ri Rx h q)
  · cases h
/-- {k: v, ..} -/
abbrev IP := PEnv → Sto → Option (List (PV × PV) × Sto)
def iPNil : IP := fun _ st => some ([], st)
def iPCons (ik iv : IE) (ip : IP) : IP := fun env st => ob (ik env st) fun k s1 => ob (iv env s1) fun v s2 => ob (ip env s2) fun ps s3 => some ((k, v) :: ps, s3)
def keysP : List (PV × PV) → Option (List (Key × PV))
  | [] => some []
  | (k, v) :: r => match keyP k, keysP r with
    | some k', some r' => some ((k', v) :: r')
    | _, _ => none
def mergeP (kvs more : List (Key × PV)) : List (Key × PV) := more.foldl (fun acc kv => putP acc kv.1 kv.2) kvs
def iDict (ip : IP) : IE := fun env st => ob (ip env (st ++ [.dK []])) fun ps s1 => match keysP ps, s1[st.length]? with
  | some kvs, some (.dK []) => if kvs.length ≤ 15 then some (.ref st.length, s1.set st.length (.dK (mergeP [] kvs))) else none
  | _, _ => none
/-- the pairs' readings -/
inductive TPs (K : PySem.W.Frag) : List (TE × TE) → IP → Prop where
  | nil : TPs K [] iPNil
  | cons {ik iv : IE} {r : List (TE × TE)} {ip : IP} (h : TPs K r ip) : TPs K ((tI K ik, tI K iv) :: r) (iPCons ik iv ip)
def RepPs (K : PySem.W.Frag) (H : Hp) (ρ : List Addr) : List (PV × PV) → List (V × V) → Prop
  | [], vs => vs = []
  | x :: xs, vs => ∃ v w r, vs = (v, w) :: r ∧ Rep K H ρ x.1 v ∧ Rep K H ρ x.2 w ∧ RepPs K H ρ xs r
theorem RepPs.grow {K : PySem.W.Frag} {H H' : Hp} {ρ ρ' : List Addr} {st : Sto} (S : RepS K H ρ st) (g : Grow H ρ H' ρ') : ∀ {xs : List (PV × PV)} {vs : List (V × V)}, RepPs K H ρ xs vs → RepPs K H' ρ' xs vs
  | [], _, h => h
  | x :: xs, _, h => by
    obtain ⟨v, w, r, e, h1, h2, h3⟩ := h
    exact ⟨v, w, r, e, Rep.grow S g _ _ h1, Rep.grow S g _ _ h2, RepPs.grow S g h3⟩
theorem tps_to {K : PySem.W.Frag} {trs : List (TE × TE)} {ip : IP} (T : TPs K trs ip) : ∀ {σ : L2.St} {H : Hp} {ρ : List Addr} {env : PEnv} {st st' : Sto} {ps : List (PV × PV)} {Q : List (V × V) → Hp → Prop}, RepE K H ρ env σ → RepS K H ρ st → ip env st = some (ps, st') →
    (∀ vs H' ρ', Grow H ρ H' ρ' → RepS K H' ρ' st' → RepPs K H' ρ' ps vs → Q vs H') → tPairs trs σ H Q := by
  induction T with
  | nil =>
    intro σ H ρ env st st' ps Q E S h q
    cases h
    exact q [] H ρ Grow.refl S rfl
  | cons T ih =>
    intro σ H ρ env st st' ps Q E S h q
    obtain ⟨k, s1, h1, h⟩ := ob_some h
    obtain ⟨v, s2, h2, h⟩ := ob_some h
    obtain ⟨r, s3, h3, h⟩ := ob_some h
    cases h
    refine ⟨env, st, ρ, k, s1, E, S, h1, fun vk H1 ρ1 G1 S1 R1 => ⟨env, s1, ρ1, v, s2, E.grow S G1, S1, h2, fun vv H2 ρ2 G2 S2 R2 => ?_⟩⟩
    refine ih ((E.grow S G1).grow S1 G2) S2 h3 fun vs H3 ρ3 G3 S3 R3 => q _ H3 ρ3 ((G1.trans G2).trans G3) S3 ⟨vk, vv, vs, rfl, Rep.grow S2 G3 _ _ (Rep.grow S1 G2 _ _ R1), Rep.grow S2 G3 _ _ R2, R3⟩
theorem keysP_rep {K : PySem.W.Frag} {H : Hp} {ρ : List Addr} : ∀ {ps : List (PV × PV)} {vs : List (V × V)} {kvs : List (Key × PV)}, RepPs K H ρ ps vs → keysP ps = some kvs → ∃ ws, vs = ws.map (fun kv => (kV kv.1, kv.2)) ∧ RepK K H ρ kvs ws
  | [], vs, kvs, R, h => by
    cases h
    exact ⟨[], R, rfl⟩
  | (k, v) :: ps, vs, kvs, R, h => by
    obtain ⟨vk, w, r, rfl, r1, r2, r3⟩ := R
    unfold keysP at h
    split at h
    · rename_i k' r' e1 e2
      cases h
      obtain ⟨ws, rfl, r4⟩ := keysP_rep r3 e2
      have := key_rep r1 e1
      subst this
      exact ⟨(k', w) :: ws, rfl, w, ws, rfl, r2, r4⟩
    · cases h
theorem putP_keys (k : Key) (v : PV) : ∀ kvs : List (Key × PV), (kvs.map (·.1)).Nodup → ((putP kvs k v).map (·.1)).Nodup ∧ ∀ z, z ∈ (putP kvs k v).map (·.1) → z = k ∨ z ∈ kvs.map (·.1)
  | [], _ => ⟨by simp [putP], fun z h => by simp [putP] at h; exact .inl h⟩
  | (k', w) :: r, nd => by
    unfold putP
    rw [List.map_cons, List.nodup_cons] at nd
    by_cases e : k' = k
    · rw [if_pos e]
      exact ⟨by rw [List.map_cons, List.nodup_cons]; exact nd, fun z h => .inr h⟩
    · rw [if_neg e]
      obtain ⟨i1, i2⟩ := putP_keys k v r nd.2
      refine ⟨?_, fun z h => ?_⟩
      · rw [List.map_cons, List.nodup_cons]
        exact ⟨fun h => by
          rcases i2 _ h with z | z
          · exact e z
          · exact nd.1 z, i1⟩
      · rw [List.map_cons, List.mem_cons] at h
        rcases h with h | h
        · exact .inr (by rw [h]; exact List.mem_cons_self)
        · rcases i2 z h with z1 | z1
          · exact .inl z1
          · exact .inr (List.mem_cons_of_mem _ z1)
theorem merge_rep {K : PySem.W.Frag} {H : Hp} {ρ : List Addr} : ∀ {more kvs : List (Key × PV)} {ms ws : List (Key × V)}, (kvs.map (·.1)).Nodup → RepK K H ρ more ms → RepK K H ρ kvs ws → RepK K H ρ (mergeP kvs more) (mergeK ws ms)
  | [], _, _, _, _, Rm, R => by subst Rm; exact R
  | x :: more, kvs, _, ws, nd, Rm, R => by
    obtain ⟨v, r, rfl, r1, r2⟩ := Rm
    show RepK K H ρ (mergeP (putP kvs x.1 x.2) more) (mergeK (putK ws x.1 v) r)
    exact merge_rep (more := more) (ms := r) (putP_keys _ _ _ nd).1 r2 (put_rep r1 nd R)
theorem r_dict {keys : List (Option Expr)} {values : List Expr} {trs : List (TE × TE)} {ip : IP} (T : TPs X.K trs ip) (h : PPs X pos keys values trs) (hall : keys.all (·.isSome) = true) (hl : keys.length = values.length) (h0 : keys ≠ []) (h15 : keys.length ≤ 15) :
    PE X (.Dict keys values pos) (tI X.K (iDict ip)) := PE.imp (pe_disp h hall hl h0 h15) fun σ H Q ⟨env, st, ρ, z, st', E, S, h, q⟩ p hp => by
  obtain ⟨ps, s1, h1, h⟩ := ob_some h
  split at h
  · rename_i kvs e1 e2
    split at h
    · rename_i h15
      cases h
      have g0 : Grow H ρ (upd H p (.dK [])) (ρ ++ [p]) := grow_alloc hp
      have S0 : RepS X.K (upd H p (.dK [])) (ρ ++ [p]) (st ++ [.dK []]) := S.alloc (so := .dK []) hp ⟨[], upd_same, rfl⟩
      refine tps_to T (E.grow S g0) S0 h1 fun vs H2 ρ2 G2 S2 R2 => ?_
      have ix : ρ2[st.length]? = some p := G2.ix (by rw [← S.len, List.getElem?_append_right (Nat.le_refl _)]; simp)
      obtain ⟨b1, hb1, us, h2, r2⟩ := S2.at_ _ _ e2
      rw [ix] at hb1; cases hb1
      have hus : us = [] := r2
      subst hus
      obtain ⟨ws, rfl, r4⟩ := keysP_rep R2 e1
      have gw : Grow H2 ρ2 (upd H2 p (.dK (mergeK [] ws))) ρ2 := grow_write h2 (List.mem_of_getElem? ix)
      refine ⟨h2, ws, rfl, by rw [← r4.length]; exact h15, q _ _ ρ2 (g0.trans (G2.trans gw)) (S2.write (so := .dK (mergeP [] kvs)) ix h2 ⟨_, upd_same, RepK.grow S2 gw _ _ (merge_rep (by simp) r4 rfl)⟩) ?_⟩
      unfold Rep
      exact ⟨p, rfl, ix⟩
    · cases h
  · cases h
theorem r_dict0 : PE X (.Dict [] [] pos) (tI X.K (fun _ st => some (alloc (.dK []) st))) := PE.imp pe_dnewK fun σ H Q ⟨env, st, ρ, z, st', E, S, h, q⟩ p hp => by
  have e := Option.some.inj h
  have g0 : Grow H ρ (upd H p (.dK [])) (ρ ++ [p]) := grow_alloc hp
  have S0 : RepS X.K (upd H p (.dK [])) (ρ ++ [p]) (st ++ [.dK []]) := S.alloc (so := .dK []) hp ⟨[], upd_same, rfl⟩
  unfold alloc at e
  cases e
  refine q _ _ _ g0 S0 ?_
  unfold Rep
  exact ⟨p, rfl, by rw [← S.len, List.getElem?_append_right (Nat.le_refl _)]; simp⟩
/-- xs.append(v) -/
theorem r_append {apos cpos : Pos} (ho : PE X o (tI X.K ia)) (he : PE X e (tI X.K ib))
    (hbase : attributeBase o "append" X.env (eval o X.env) = eval o X.env := by rfl)
    (hfew : ((backTo cpos (starEach (e :: []) X.env)).all (fun x => !x.1) && (backToKw cpos (keywordEach [] X.env)).all (fun x => x.1.isSome)
      && decide ((e :: []).length + ([] : List Keyword).length + (if ([] : List Keyword).isEmpty then 0 else 1) < 30)) = true := by rfl)
    (hline : (apos.endLine == cpos.line) = true := by rfl) (hs : starEach (e :: []) X.env = (false, eval e X.env) :: starEach [] X.env := by rfl) (hplain : (backTo cpos (starEach [] X.env)).any (·.1) = false := by rfl) :
    PE X (.Call (.Attribute o "append" apos) [e] [] cpos) (tI X.K (iAppend ia ib)) :=
  PE.imp (pe_bm PySem.F.plainAttrs_list PySem.F.slot_list_append PySem.F.type_list_append mt_append ho (pa_cons he pa_nil hs) hbase hfew hline hs hplain) fun σ H Q ⟨env, st, ρ, z, st', E, S, h, q⟩ => by
    obtain ⟨x, s1, h1, h⟩ := ob_some h
    refine ⟨env, st, ρ, x, s1, E, S, h1, fun vx H1 ρ1 G1 S1 R1 => ?_⟩
    split at h
    · rename_i n
      split at h
      · rename_i ws e0
        obtain ⟨y, s2, h2, h⟩ := ob_some h
        split at h
        · rename_i xs e1
          split at h
          · rename_i hl
            cases h
            unfold Rep at R1
            obtain ⟨a, rfl, i1⟩ := R1
            refine ⟨?_, env, s1, ρ1, y, s2, E.grow S G1, S1, h2, fun vy H2 ρ2 G2 S2 R2 => ?_⟩
            · obtain ⟨b1, hb1, vs1, h3, r1⟩ := S1.at_ _ _ e0
              rw [i1] at hb1; cases hb1
              exact .inl ⟨rfl, vs1, .of h3⟩
            · have i2 := G2.ix i1
              obtain ⟨b1, hb1, vs1, h3, r1⟩ := S2.at_ _ _ e1
              rw [i2] at hb1; cases hb1
              have g : Grow H2 ρ2 (upd H2 a (.lst (vs1 ++ [vy]))) ρ2 := grow_write h3 (List.mem_of_getElem? i2)
              refine ⟨a, vs1, vy, rfl, rfl, h3, line6 (by rw [← r1.length]; exact hl), q .non _ ρ2 ((G1.trans G2).trans g) (S2.write (so := .lst (xs ++ [y])) i2 h3 ⟨_, upd_same, Reps.grow S2 g _ _ (Reps.append r1 (by unfold Reps; exact ⟨vy, [], rfl, R2, by unfold Reps; rfl⟩))⟩) (by unfold Rep; rfl)⟩
          · cases h
        · cases h
      · cases h
    · cases h
end
end IL

/-! What the plain functions compute, as rules for simp. -/
namespace IL
open PySem PySem.Spec PyProof.Rows L2

section
variable {α β : Type} {a : α} {s s1 s2 st : Sto} {k : α → Sto → Option β} {env : PEnv} {x y z v : PV} {xs ys : List PV} {ia ib ic ie : IE} {ir ir' : IA} {t u : IT} {i j : Nat} {f g : F2} {p q : IS} {m n : Int}
@[simp] theorem ob_s : ob (some (a, s)) k = k a s := rfl
@[simp] theorem ob_n : ob (none : Option (α × Sto)) k = none := rfl
@[simp] theorem iVar_e : iVar i env st = match env[i]? with
  | some (some v) => some (v, st)
  | _ => none := rfl
@[simp] theorem iC_e : iC v env st = some (v, st) := rfl
@[simp] theorem iBin_e : iBin f ia ib env st = ob (ia env st) fun x s1 => ob (ib env s1) fun y s2 => f x y s2 := rfl
@[simp] theorem iUn_e {f : F1} : iUn f ia env st = ob (ia env st) fun x s1 => f x s1 := rfl
@[simp] theorem iChain_e : iChain f g ia ib ic env st = ob (ia env st) fun x s1 => ob (ib env s1) fun y s2 => ob (f x y s2) fun z s3 => match z with
  | .bl true => ob (ic env s3) fun w s4 => g y w s4
  | .bl false => some (.bl false, s3)
  | _ => none := rfl
@[simp] theorem iTest_e : iTest ia env st = ob (ia env st) fun x s1 => (tru s1 x).map fun k => (k, s1) := rfl
@[simp] theorem iTestB_e : iTestB ia env st = ob (ia env st) fun x s1 => (isBl x).map fun k => (k, s1) := rfl
@[simp] theorem isBl_e {b : Bool} : isBl (.bl b) = some b := rfl
@[simp] theorem tru_bl {b : Bool} : tru st (.bl b) = some b := rfl
@[simp] theorem tru_int : tru st (.int m) = some (m != 0) := rfl
@[simp] theorem tru_tup : tru st (.tup xs) = some (!xs.isEmpty) := rfl
@[simp] theorem tru_non : tru st .non = some false := rfl
@[simp] theorem iAnd_e : iAnd t u env st = ob (t env st) fun k s1 => match k with
  | true => u env s1
  | false => some (false, s1) := rfl
@[simp] theorem iOr_e : iOr t u env st = ob (t env st) fun k s1 => match k with
  | true => some (true, s1)
  | false => u env s1 := rfl
@[simp] theorem iNot_e : iNot t env st = ob (t env st) fun k s1 => some (!k, s1) := rfl
@[simp] theorem iAndV_e : iAndV ia ib env st = ob (ia env st) fun x s1 => match tru s1 x with
  | some true => ib env s1
  | some false => some (x, s1)
  | none => none := rfl
@[simp] theorem iOrV_e : iOrV ia ib env st = ob (ia env st) fun x s1 => match tru s1 x with
  | some true => some (x, s1)
  | some false => ib env s1
  | none => none := rfl
@[simp] theorem iNotV_e : iNotV ia env st = ob (ia env st) fun x s1 => (tru s1 x).map fun k => (.bl (!k), s1) := rfl
@[simp] theorem iIf_e : iIf t ia ib env st = ob (t env st) fun k s1 => match k with
  | true => ia env s1
  | false => ib env s1 := rfl
@[simp] theorem iNil_e : iNil env st = some ([], st) := rfl
@[simp] theorem iCons_e : iCons ia ir env st = ob (ia env st) fun x s1 => ob (ir env s1) fun xs s2 => some (x :: xs, s2) := rfl
@[simp] theorem iTup_e : iTup ir env st = ob (ir env st) fun xs s1 => if xs.length ≤ 100000 then some (.tup xs, s1) else none := rfl
@[simp] theorem iLst_e : iLst ir env st = ob (ir env st) fun xs s1 => if xs.length ≤ 100000 then some (.ref s1.length, s1 ++ [.lst xs]) else none := rfl
@[simp] theorem iNo_e : iNo env st = some (none, st) := rfl
@[simp] theorem iPart_e : iPart ia env st = ob (ia env st) fun x s1 => match x with
  | .int i => some (some i, s1)
  | _ => none := rfl
@[simp] theorem iSl_e {h : FSl} {lo hi : IO} : iSl h ia lo hi env st = ob (ia env st) fun x s1 => ob (lo env s1) fun l s2 => ob (hi env s2) fun u s3 => h x l u s3 := rfl
@[simp] theorem iCall_e {h : FA} : iCall h ir env st = ob (ir env st) fun xs s1 => h xs s1 := rfl
@[simp] theorem iSkip_e : iSkip env st = some (.nx env st) := rfl
@[simp] theorem iSeq_e : iSeq p q env st = match p env st with
  | some (.nx e s) => q e s
  | o => o := rfl
@[simp] theorem iDrop_e : iDrop ie env st = ob (ie env st) fun _ s => some (.nx env s) := rfl
@[simp] theorem iRet_e : iRet ie env st = ob (ie env st) fun x s => some (.rt x s) := rfl
@[simp] theorem iIfS_e : iIfS t p q env st = ob (t env st) fun k s => match k with
  | true => p env s
  | false => q env s := rfl
@[simp] theorem iAsg_e {h : IG} : iAsg h ie env st = ob (ie env st) fun x s => match h x env s with
  | some env' => some (.nx env' s)
  | none => none := rfl
@[simp] theorem gN_e : gN i x env st = some (env.set i (some x)) := rfl
@[simp] theorem gNs_e : gNs [] env st = some env := rfl
@[simp] theorem gCs_e {h : IG} {hs : IGs} : gCs h hs (x :: xs) env st = match h x env st with
  | some env1 => hs xs env1 st
  | none => none := rfl
@[simp] theorem gT_e {hs : IGs} {n : Nat} : gT n hs (.tup xs) env st = if xs.length = n then hs xs env st else none := rfl
@[simp] theorem iPar_e : iPar i j ir env st = ob (ir env st) fun xs s => match xs with
  | [x, y] => some (.nx ((env.set i (some x)).set j (some y)) s)
  | _ => none := rfl
@[simp] theorem iSetIx_e {h : FSet} : iSetIx h ia ib ie env st = ob (ie env st) fun x s1 => ob (ia env s1) fun o s2 => ob (ib env s2) fun i s3 => (h o i x s3).map fun s4 => .nx env s4 := rfl
@[simp] theorem iWalk_e : iWalk ie env st = ob (ie env st) fun x s => match x with
  | .str y => some (srcS y, s)
  | .tup xs => some (srcT xs, s)
  | .frz xs => some (srcT xs, s)
  | .ref n => match s[n]? with
    | some (.lst xs) => some (srcL n xs.length, s)
    | _ => none
  | _ => none := rfl
@[simp] theorem iFor_e {ii : II} {h : IG} : iFor ii h p env st = ob (ii env st) fun src s => loop src.at_ h p (src.n + 1) 0 env s := rfl
@[simp] theorem iAugAdd_e : iAugAdd i ie env st = match env[i]? with
  | some (some (.int a)) => ob (ie env st) fun y s => match y with
    | .int b => some (.nx (env.set i (some (.int (a + b)))) s)
    | _ => none
  | _ => none := rfl
@[simp] theorem iYes_e : iYes env st = some (true, st) := rfl
@[simp] theorem a1_e {h : F1} : a1 h [x] st = h x st := rfl
@[simp] theorem a2_e {h : F2} : a2 h [x, y] st = h x y st := rfl
/-! ### operations -/
@[simp] theorem fAdd_i : fAdd (.int m) (.int n) st = some (.int (m + n), st) := rfl
@[simp] theorem fAdd_t : fAdd (.tup xs) (.tup ys) st = if xs.length + ys.length ≤ 100000 then some (.tup (xs ++ ys), st) else none := rfl
@[simp] theorem fAdd_s {a b : Str} : fAdd (.str a) (.str b) st = if a.length + b.length ≤ 100000 then some (.str (a ++ b), st) else none := rfl
@[simp] theorem fSub_i : fSub (.int m) (.int n) st = some (.int (m - n), st) := rfl
@[simp] theorem fMul_i : fMul (.int m) (.int n) st = if cMul m n then some (.int (m * n), st) else none := rfl
@[simp] theorem fDiv_i : fDiv (.int m) (.int n) st = if cDiv m n then some (.int (m.fdiv n), st) else none := rfl
@[simp] theorem fMod_i : fMod (.int m) (.int n) st = if decide (n ≠ 0) then some (.int (m.fmod n), st) else none := rfl
@[simp] theorem fNeg_i : fNeg (.int m) st = some (.int (-m), st) := rfl
@[simp] theorem fLt_i : fLt (.int m) (.int n) st = some (.bl (decide (m < n)), st) := rfl
@[simp] theorem fLe_i : fLe (.int m) (.int n) st = some (.bl (decide (m ≤ n)), st) := rfl
@[simp] theorem fGt_i : fGt (.int m) (.int n) st = some (.bl (decide (n < m)), st) := rfl
@[simp] theorem fGe_i : fGe (.int m) (.int n) st = some (.bl (decide (n ≤ m)), st) := rfl
@[simp] theorem fLt_s {a b : Str} : fLt (.str a) (.str b) st = some (.bl (ltS a b), st) := rfl
@[simp] theorem fLe_s {a b : Str} : fLe (.str a) (.str b) st = some (.bl (!ltS b a), st) := rfl
@[simp] theorem fEq_e : fEq x y st = (eqP st x y).map fun b => (.bl b, st) := rfl
@[simp] theorem fNe_e : fNe x y st = (eqP st x y).map fun b => (.bl (!b), st) := rfl
@[simp] theorem fIs_n : fIs x .non st = some (.bl (isNone x), st) := rfl
@[simp] theorem fIs_b {b : Bool} : fIs x (.bl b) st = some (.bl (isBool b x), st) := rfl
@[simp] theorem fIsNot_n : fIsNot x .non st = some (.bl (!isNone x), st) := rfl
@[simp] theorem fIsNot_b {b : Bool} : fIsNot x (.bl b) st = some (.bl (!isBool b x), st) := rfl
@[simp] theorem isBool_b {b c : Bool} : isBool b (.bl c) = (c == b) := rfl
@[simp] theorem isBool_t {b : Bool} : isBool b (.tup xs) = false := rfl
@[simp] theorem isBool_s {b : Bool} {a : Str} : isBool b (.str a) = false := rfl
@[simp] theorem isBool_n {b : Bool} : isBool b .non = false := rfl
@[simp] theorem isNone_n : isNone .non = true := rfl
@[simp] theorem isNone_t : isNone (.tup xs) = false := rfl
@[simp] theorem isNone_s {a : Str} : isNone (.str a) = false := rfl
@[simp] theorem isNone_b {b : Bool} : isNone (.bl b) = false := rfl
theorem eqP_s {a b : Str} : eqP st (.str a) (.str b) = if PyData.strOk a && PyData.strOk b then some (a == b) else none := by
  show (if SeqAt.shaped (.str a) && SeqAt.shaped (.str b) then some (PyData.eqv (.str a) (.str b)) else none) = _
  have e : ∀ c : Str, SeqAt.shaped (.str c) = PyData.strOk c := fun c => by
    unfold SeqAt.shaped
    show (PyData.canLay0 (.str c) && decide (PyData.depth (.str c) ≤ 64)) = _
    have h1 : PyData.canLay0 (.str c) = PyData.strOk c := by simp [PyData.canLay0]
    have h2 : PyData.depth (.str c) = 0 := by simp [PyData.depth]
    rw [h1, h2]
    simp
  rw [e, e]
  have h3 : PyData.eqv (.str a) (.str b) = (a == b) := by simp [PyData.eqv]
  rw [h3]
@[simp] theorem eqP_i : eqP st (.int m) (.int n) = some (m == n) := by
  show (if SeqAt.shaped (.int m) && SeqAt.shaped (.int n) then some (PyData.eqv (.int m) (.int n)) else none) = _
  have e : ∀ c : Int, SeqAt.shaped (.int c) = true := fun c => by simp [SeqAt.shaped, PyData.canLay0, PyData.depth]
  have h3 : PyData.eqv (.int m) (.int n) = (m == n) := by simp [PyData.eqv]
  rw [e, e, h3]; rfl
@[simp] theorem eqP_b {a b : Bool} : eqP st (.bl a) (.bl b) = some (a == b) := by
  show (if SeqAt.shaped (.bool a) && SeqAt.shaped (.bool b) then some (PyData.eqv (.bool a) (.bool b)) else none) = _
  have e : ∀ c : Bool, SeqAt.shaped (.bool c) = true := fun c => by simp [SeqAt.shaped, PyData.canLay0, PyData.depth]
  have h3 : PyData.eqv (.bool a) (.bool b) = (a == b) := by simp [PyData.eqv]
  rw [e, e, h3]; rfl
@[simp] theorem fLen_t : fLen (.tup xs) st = some (.int xs.length, st) := rfl
@[simp] theorem fLen_f : fLen (.frz xs) st = some (.int xs.length, st) := rfl
@[simp] theorem fLen_s {a : Str} : fLen (.str a) st = (if a.length ≤ 100000 then some (.int (a.length : Int), st) else none) := by
  unfold fLen lenP
  by_cases h : a.length ≤ 100000
  · simp only [if_pos h]; rfl
  · simp only [if_neg h]; rfl
theorem fLen_l {n : Nat} (h : st[n]? = some (.lst xs)) : fLen (.ref n) st = some (.int xs.length, st) := by
  unfold fLen lenP
  simp only [h]
  rfl
theorem fLen_d {n : Nat} {kvs : List (Key × PV)} (h : st[n]? = some (.dK kvs)) : fLen (.ref n) st = some (.int kvs.length, st) := by
  unfold fLen lenP
  simp only [h]
  rfl
@[simp] theorem fTuple_e : fTuple x st = (itemsOf st x).map fun xs => (.tup xs, st) := rfl
@[simp] theorem fList_e : fList x st = (itemsOf st x).map fun xs => (.ref st.length, st ++ [.lst xs]) := rfl
@[simp] theorem itemsOf_t : itemsOf st (.tup xs) = some xs := rfl
@[simp] theorem itemsOf_f : itemsOf st (.frz xs) = some xs := rfl
@[simp] theorem itemsOf_r {n : Nat} : itemsOf st (.ref n) = match st[n]? with
    | some (.lst xs) => some xs
    | _ => none := rfl
@[simp] theorem listOf_r {n : Nat} : listOf st (.ref n) = match st[n]? with
    | some (.lst xs) => some xs
    | _ => none := rfl
@[simp] theorem dictOf_t : dictOf st (.tup xs) = none := rfl
@[simp] theorem dictOf_f : dictOf st (.frz xs) = none := rfl
@[simp] theorem dictOf_s {a : Str} : dictOf st (.str a) = none := rfl
@[simp] theorem dictOf_r {n : Nat} : dictOf st (.ref n) = match st[n]? with
    | some (.dK kvs) => some kvs
    | _ => none := rfl
@[simp] theorem fInt1_i : fInt1 (.int m) st = some (.int m, st) := rfl
@[simp] theorem fInt1_b {b : Bool} : fInt1 (.bl b) st = some (.int (if b then 1 else 0), st) := rfl
@[simp] theorem fAbs_i : fAbs (.int m) st = some (.int (if m < 0 then -m else m), st) := rfl
@[simp] theorem fStr_i : fStr (.int m) st = if m.natAbs < 2 ^ 1000 then some (.str (toString m), st) else none := rfl
@[simp] theorem fRepr_b {b : Bool} : fRepr (.bl b) st = some (.str (if b then "True" else "False"), st) := rfl
@[simp] theorem fSubA_t : fSubA (.tup xs) (.int m) st = (atI xs m).map fun v => (v, st) := rfl
theorem fSubA_l {n : Nat} (h : st[n]? = some (.lst xs)) : fSubA (.ref n) (.int m) st = (atI xs m).map fun v => (v, st) := by
  have e1 : dictOf st (.ref n) = none := by simp only [dictOf_r, h]
  unfold fSubA
  rw [e1]
  show (match itemsOf st (.ref n) with
      | some xs => (atI xs m).map fun v => (v, st)
      | none => none) = _
  rw [itemsOf_r, h]
theorem fSubA_d {n : Nat} {kvs : List (Key × PV)} (h : st[n]? = some (.dK kvs)) {k : Key} (hk : keyP y = some k) : fSubA (.ref n) y st = (findP kvs k).map fun v => (v, st) := by
  have e1 : dictOf st (.ref n) = some kvs := by simp only [dictOf_r, h]
  unfold fSubA
  rw [e1, hk]
theorem at_nat {α : Type} {xs : List α} {i : Nat} {x : α} (h : xs[i]? = some x) : atI xs (i : Int) = some x := atI_nat h
@[simp] theorem atI_0 {α : Type} {x : α} {xs : List α} : atI (x :: xs) 0 = some x := at_nat (i := 0) rfl
@[simp] theorem atI_1 {α : Type} {x y : α} {xs : List α} : atI (x :: y :: xs) 1 = some y := at_nat (i := 1) rfl
@[simp] theorem atI_2 {α : Type} {x y z : α} {xs : List α} : atI (x :: y :: z :: xs) 2 = some z := at_nat (i := 2) rfl
@[simp] theorem atI_3 {α : Type} {x y z w : α} {xs : List α} : atI (x :: y :: z :: w :: xs) 3 = some w := at_nat (i := 3) rfl
theorem atI_in {α : Type} {xs : List α} {i : Int} (h0 : 0 ≤ i) (h1 : i < xs.length) : ∃ x, x ∈ xs ∧ atI xs i = some x := by
  obtain ⟨k, rfl⟩ := Int.eq_ofNat_of_zero_le h0
  have hk : k < xs.length := by omega
  exact ⟨xs[k], List.getElem_mem hk, at_nat (List.getElem?_eq_getElem hk)⟩
theorem atI_out {α : Type} {xs : List α} {i : Int} (h : ¬ (-(xs.length : Int) ≤ i ∧ i < xs.length)) : atI xs i = none := by
  unfold atI ixN
  split
  · rw [if_neg (by omega)]; rfl
  · rw [if_neg (by omega)]; rfl
@[simp] theorem iMaxDef_e : iMaxDef ir ir' env st = ob (ir env st) fun xs s1 => ob (ir' env s1) fun zs s2 => match xs, zs with
  | [x], [.int d] => (intsOf s2 x).map fun ns => (.int (maxI ns d), s2)
  | _, _ => none := rfl
@[simp] theorem fIsi_e : fIsi x y st = (isP st x y).map fun b => (.bl b, st) := rfl
theorem kb_tt : kitB "tuple" "tuple" = some true := by decide +kernel
theorem kb_st : kitB "str" "tuple" = some false := by decide +kernel
theorem kb_nt : kitB "NoneType" "tuple" = some false := by decide +kernel
theorem kb_bt : kitB "bool" "tuple" = some false := by decide +kernel
theorem kb_it : kitB "int" "tuple" = some false := by decide +kernel
@[simp] theorem isP_tt : isP st (.tup xs) (.ty "tuple") = some true := kb_tt
@[simp] theorem isP_st {a : Str} : isP st (.str a) (.ty "tuple") = some false := kb_st
@[simp] theorem isP_nt : isP st .non (.ty "tuple") = some false := kb_nt
@[simp] theorem isP_bt {b : Bool} : isP st (.bl b) (.ty "tuple") = some false := kb_bt
@[simp] theorem isP_it : isP st (.int m) (.ty "tuple") = some false := kb_it
@[simp] theorem fAll_e : fAll x st = (blsOf st x).map fun bs => (.bl (bs.all id), st) := rfl
@[simp] theorem fSl_t {lo hi : Option Int} : fSl (.tup xs) lo hi st = some (.tup (cutP xs lo hi), st) := rfl
@[simp] theorem fSl_f {lo hi : Option Int} : fSl (.frz xs) lo hi st = some (.ref st.length, st ++ [.lst (cutP xs lo hi)]) := rfl
@[simp] theorem fInA_e : fInA x y st = (inA st x y).map fun b => (.bl b, st) := rfl
@[simp] theorem inA_st {a : Str} : inA st (.str a) (.tup ys) = (mapO flatP ys).map fun ws => inV (.str a) ws := by
  unfold inA
  rfl
end
/-! ### the store -/
@[simp] theorem new_at {st : Sto} {o : SO} : (st ++ [o])[st.length]? = some o := by
  rw [List.getElem?_append_right (Nat.le_refl _)]; simp
theorem old_at {st l : Sto} {n : Nat} {o : SO} (h : st[n]? = some o) : (st ++ l)[n]? = some o := by
  rw [List.getElem?_append_left (List.getElem?_eq_some_iff.mp h).1]; exact h
theorem lt_of_at {st : Sto} {n : Nat} {o : SO} (h : st[n]? = some o) : n < st.length := (List.getElem?_eq_some_iff.mp h).1
/-! ### equal data -/
/-- data without a store -/
def pureP : PV → Prop := fun x => ∀ st, ∃ d, toD st 70 x = some d ∧ SeqAt.shaped d = true
theorem eqP_self {st : Sto} {x : PV} (h : pureP x) : eqP st x x = some true := by
  obtain ⟨d, e, hs⟩ := h st
  unfold eqP
  rw [e]
  simp only [hs, Bool.and_self, if_true]
  have hc : d.canLay0 = true := SeqAt.canLay_of_shaped hs
  rw [SeqAt.eqv_refl d hc]
end IL

/-! Data without a store; loops by what holds between turns. -/
namespace IL
open PySem PySem.Spec PyProof.Rows L2

mutual
def datP : PV → PyData
  | .non => .none
  | .bl b => .bool b
  | .int i => .int i
  | .str x => .str x
  | .tup xs => .tuple (datPs xs)
  | .frz xs => .list (datPs xs)
  | .ref _ => .none
  | .ty _ => .none
def datPs : List PV → List PyData
  | [] => []
  | x :: xs => datP x :: datPs xs
end
mutual
/-- data, at most so deep -/
def gd : PV → Nat → Bool
  | .non, _ => true
  | .bl _, _ => true
  | .int _, _ => true
  | .str x, _ => PyData.strOk x
  | .tup xs, n => decide (0 < n) && gds xs (n - 1)
  | .frz xs, n => decide (0 < n) && gds xs (n - 1)
  | .ref _, _ => false
  | .ty _, _ => false
def gds : List PV → Nat → Bool
  | [], _ => true
  | x :: xs, n => gd x n && gds xs n
end
mutual
theorem gd_dat {st : Sto} : ∀ (x : PV) (n f : Nat), gd x n = true → n < f → toD st f x = some (datP x) ∧ (datP x).canLay0 = true ∧ (datP x).depth ≤ n
  | .non, n, 0, _, hf => absurd hf (by omega)
  | .bl b, n, 0, _, hf => absurd hf (by omega)
  | .int i, n, 0, _, hf => absurd hf (by omega)
  | .str x, n, 0, _, hf => absurd hf (by omega)
  | .tup xs, n, 0, _, hf => absurd hf (by omega)
  | .frz xs, n, 0, _, hf => absurd hf (by omega)
  | .ref _, n, _, h, _ => by simp [gd] at h
  | .ty _, n, _, h, _ => by simp [gd] at h
  | .non, n, f + 1, _, _ => ⟨rfl, by simp [datP, PyData.canLay0], by simp [datP, PyData.depth]⟩
  | .bl b, n, f + 1, _, _ => ⟨rfl, by simp [datP, PyData.canLay0], by simp [datP, PyData.depth]⟩
  | .int i, n, f + 1, _, _ => ⟨rfl, by simp [datP, PyData.canLay0], by simp [datP, PyData.depth]⟩
  | .str x, n, f + 1, h, _ => ⟨rfl, by unfold gd at h; simp only [datP, PyData.canLay0]; exact h, by simp [datP, PyData.depth]⟩
  | .tup xs, n, f + 1, h, hf => by
    unfold gd at h
    rw [Bool.and_eq_true, decide_eq_true_eq] at h
    obtain ⟨h1, h2, h3⟩ := gds_dat (st := st) xs (n - 1) f h.2 (by omega)
    refine ⟨?_, ?_, ?_⟩
    · show (mapO (toD st f) xs).map PyData.tuple = _
      rw [h1]; rfl
    · simp only [datP, PyData.canLay0]; exact h2
    · simp only [datP, PyData.depth]; omega
  | .frz xs, n, f + 1, h, hf => by
    unfold gd at h
    rw [Bool.and_eq_true, decide_eq_true_eq] at h
    obtain ⟨h1, h2, h3⟩ := gds_dat (st := st) xs (n - 1) f h.2 (by omega)
    refine ⟨?_, ?_, ?_⟩
    · show (mapO (toD st f) xs).map PyData.list = _
      rw [h1]; rfl
    · simp only [datP, PyData.canLay0]; exact h2
    · simp only [datP, PyData.depth]; omega
theorem gds_dat {st : Sto} : ∀ (xs : List PV) (n f : Nat), gds xs n = true → n < f → mapO (toD st f) xs = some (datPs xs) ∧ PyData.canLayAll0 (datPs xs) = true ∧ PyData.depthAll (datPs xs) ≤ n
  | [], n, f, _, _ => ⟨rfl, by simp [datPs, PyData.canLayAll0], by simp [datPs, PyData.depthAll]⟩
  | x :: xs, n, f, h, hf => by
    unfold gds at h
    rw [Bool.and_eq_true] at h
    obtain ⟨a1, a2, a3⟩ := gd_dat (st := st) x n f h.1 hf
    obtain ⟨b1, b2, b3⟩ := gds_dat (st := st) xs n f h.2 hf
    refine ⟨?_, ?_, ?_⟩
    · unfold mapO
      rw [a1, b1]; rfl
    · simp only [datPs, PyData.canLayAll0, a2, b2]; rfl
    · simp only [datPs, PyData.depthAll]; omega
end
theorem gd_shaped {x : PV} (h : gd x 60 = true) : SeqAt.shaped (datP x) = true := by
  obtain ⟨_, h2, h3⟩ := gd_dat (st := []) x 60 61 h (by omega)
  unfold SeqAt.shaped
  rw [h2, decide_eq_true (by omega)]; rfl
theorem eqP_gd {st : Sto} {x y : PV} (hx : gd x 60 = true) (hy : gd y 60 = true) : eqP st x y = some (PyData.eqv (datP x) (datP y)) := by
  unfold eqP
  rw [(gd_dat (st := st) x 60 70 hx (by omega)).1, (gd_dat (st := st) y 60 70 hy (by omega)).1]
  simp only [gd_shaped hx, gd_shaped hy, Bool.and_self, if_true]
theorem eqP_gd_self {st : Sto} {x : PV} (hx : gd x 60 = true) : eqP st x x = some true := by
  rw [eqP_gd hx hx, SeqAt.eqv_refl _ (SeqAt.canLay_of_shaped (gd_shaped hx))]
theorem gds_all {xs : List PV} {n : Nat} : (∀ x ∈ xs, gd x n = true) → gds xs n = true := by
  induction xs with
  | nil => intro _; rfl
  | cons x xs ih =>
    intro h
    unfold gds
    rw [h x List.mem_cons_self, ih fun y hy => h y (List.mem_cons_of_mem _ hy)]; rfl

/-! ### a list made item by item, each of its values data, the store grown by what nobody needs -/
theorem set_mid {α : Type} {a l : List α} {o o' : α} : (a ++ [o] ++ l).set a.length o' = a ++ [o'] ++ l := by
  rw [List.append_assoc, List.append_assoc, List.set_append_right _ _ (Nat.le_refl _), Nat.sub_self]; rfl
theorem at_mid {α : Type} {a l : List α} {o : α} : (a ++ [o] ++ l)[a.length]? = some o := by
  rw [List.append_assoc, List.getElem?_append_right (Nat.le_refl _), Nat.sub_self]; rfl
theorem lc_gar {all : List PV} {ig : IG} {t : IT} {e : IE} {st : Sto} {envw : PEnv} (g : PV → PV) (hl : all.length < 100000)
    (h : ∀ x ∈ all, ∀ s : Sto, ∃ env1 l, ig x envw s = some env1 ∧ t env1 s = some (true, s) ∧ e env1 s = some (g x, s ++ l)) :
    ∀ (ys pre : List PV) (l : Sto), all = pre ++ ys → ∃ l', lcLoop (srcT all).at_ ig t e st.length envw (ys.length + 1) pre.length (st ++ [.lst (pre.map g)] ++ l) = some (st ++ [.lst (all.map g)] ++ l')
  | [], pre, l, he => by
    rw [List.append_nil] at he
    subst he
    refine ⟨l, ?_⟩
    unfold lcLoop
    simp [srcT]
  | y :: ys, pre, l, he => by
    obtain ⟨env1, l1, h1, h2, h3⟩ := h y (by rw [he]; simp) (st ++ [.lst (pre.map g)] ++ l)
    have hat : (srcT all).at_ (st ++ [.lst (pre.map g)] ++ l) pre.length = some (some y) := by
      simp only [srcT]
      rw [he, List.getElem?_append_right (Nat.le_refl _), Nat.sub_self]; rfl
    have hs : (st ++ [.lst (pre.map g)] ++ l ++ l1)[st.length]? = some (.lst (pre.map g)) := by
      rw [List.append_assoc (st ++ [_])]
      exact at_mid
    have hlen : (pre.map g).length < 100000 := by
      rw [List.length_map]
      have := congrArg List.length he
      rw [List.length_append] at this
      omega
    obtain ⟨l', hr⟩ := lc_gar (t := t) (st := st) g hl h ys (pre ++ [y]) (l ++ l1) (by rw [he]; simp)
    refine ⟨l', ?_⟩
    rw [← hr]
    show lcLoop _ _ _ _ _ _ (ys.length + 1 + 1) _ _ = _
    conv => lhs; unfold lcLoop
    simp only [hat, h1, h2, h3, hs, hlen, if_true]
    have e2 : (st ++ [SO.lst (pre.map g)] ++ l ++ l1).set st.length (.lst (pre.map g ++ [g y])) = st ++ [SO.lst ((pre ++ [y]).map g)] ++ (l ++ l1) := by
      rw [List.append_assoc (st ++ [_]), set_mid]
      simp
    rw [e2, List.length_append]
    rfl
/-- [e for x in a tuple] -/
theorem iLc_tup {ie e : IE} {ig : IG} {t : IT} {vs : List Nat} {env : PEnv} {st s1 : Sto} {xs : List PV} (g : PV → PV) (hi : ie env st = some (.tup xs, s1)) (hl : xs.length < 100000)
    (h : ∀ x ∈ xs, ∀ s : Sto, ∃ env1 l, ig x (wipeE env vs) s = some env1 ∧ t env1 s = some (true, s) ∧ e env1 s = some (g x, s ++ l)) :
    ∃ l, iLc (iWalk ie) ig t e vs env st = some (.ref s1.length, s1 ++ [.lst (xs.map g)] ++ l) := by
  obtain ⟨l, hr⟩ := lc_gar (t := t) (e := e) (st := s1) g hl h xs [] [] rfl
  refine ⟨l, ?_⟩
  unfold iLc
  simp only [iWalk_e, hi, ob_s]
  have e3 : (srcT xs).n = xs.length := rfl
  rw [e3]
  simp only [List.map_nil, List.append_nil, List.length_nil] at hr
  rw [hr]; rfl
theorem srcS_eq (x : Str) : srcS x = srcT (x.cps.toList.map fun c => .str ⟨#[c]⟩) := by
  unfold srcS srcT
  congr 1
  · simp [Str.length]
  · funext st i
    simp
/-- [e for x in a text] -/
theorem iLc_str {ie e : IE} {ig : IG} {t : IT} {vs : List Nat} {env : PEnv} {st s1 : Sto} {x : Str} (g : PV → PV) (hi : ie env st = some (.str x, s1)) (hl : x.length < 100000)
    (h : ∀ c ∈ x.cps.toList, ∀ s : Sto, ∃ env1 l, ig (.str ⟨#[c]⟩) (wipeE env vs) s = some env1 ∧ t env1 s = some (true, s) ∧ e env1 s = some (g (.str ⟨#[c]⟩), s ++ l)) :
    ∃ l, iLc (iWalk ie) ig t e vs env st = some (.ref s1.length, s1 ++ [.lst ((x.cps.toList.map fun c => .str ⟨#[c]⟩).map g)] ++ l) := by
  have hn : (x.cps.toList.map fun c => PV.str ⟨#[c]⟩).length = x.length := by simp [Str.length]
  obtain ⟨l, hr⟩ := lc_gar (t := t) (e := e) (ig := ig) (envw := wipeE env vs) (st := s1) (all := x.cps.toList.map fun c => .str ⟨#[c]⟩) g (by rw [hn]; exact hl) (fun y hy s => by
    obtain ⟨c, hc, rfl⟩ := List.mem_map.mp hy
    exact h c hc s) (x.cps.toList.map fun c => .str ⟨#[c]⟩) [] [] rfl
  refine ⟨l, ?_⟩
  unfold iLc
  simp only [iWalk_e, hi, ob_s, srcS_eq]
  have e3 : (srcT (x.cps.toList.map fun c => PV.str ⟨#[c]⟩)).n = (x.cps.toList.map fun c => PV.str ⟨#[c]⟩).length := rfl
  rw [e3]
  simp only [List.map_nil, List.append_nil, List.length_nil] at hr
  rw [hr]; rfl
/-! ### loops by what holds between turns -/
theorem loop_inv {at_ : Sto → Nat → Option (Option PV)} {ig : IG} {body : IS} (I : Nat → PEnv → Sto → Prop) (N : Nat) (hstop : ∀ e s, I N e s → at_ s N = some none)
    (hstep : ∀ i e s, i < N → I i e s → ∃ x e1 e2 s2, at_ s i = some (some x) ∧ ig x e s = some e1 ∧ (body e1 s = some (.nx e2 s2) ∨ body e1 s = some (.ct e2 s2)) ∧ I (i + 1) e2 s2) :
    ∀ (m i : Nat) (e : PEnv) (s : Sto), I i e s → i ≤ N → N - i < m → ∃ e' s', loop at_ ig body m i e s = some (.nx e' s') ∧ I N e' s'
  | 0, i, e, s, _, _, hm => absurd hm (by omega)
  | m + 1, i, e, s, hI, hi, hm => by
    by_cases hN : i = N
    · subst hN
      refine ⟨e, s, ?_, hI⟩
      unfold loop
      rw [hstop e s hI]
    · obtain ⟨x, e1, e2, s2, h1, h2, h3, h4⟩ := hstep i e s (by omega) hI
      obtain ⟨e', s', h5, h6⟩ := loop_inv I N hstop hstep m (i + 1) e2 s2 h4 (by omega) (by omega)
      refine ⟨e', s', ?_, h6⟩
      unfold loop
      simp only [h1, h2]
      rcases h3 with h3 | h3 <;> simp only [h3] <;> exact h5
theorem lc_inv {at_ : Sto → Nat → Option (Option PV)} {ig : IG} {t : IT} {e : IE} {d : Nat} {envw : PEnv} (I : Nat → List PV → Sto → Prop) (N : Nat) (hstop : ∀ acc s, I N acc s → at_ s N = some none)
    (hstep : ∀ i acc s, i < N → I i acc s → ∃ x env1 y s2, at_ s i = some (some x) ∧ ig x envw s = some env1 ∧ t env1 s = some (true, s) ∧ e env1 s = some (y, s2) ∧ s2[d]? = some (.lst acc) ∧ acc.length < 100000 ∧ I (i + 1) (acc ++ [y]) (s2.set d (.lst (acc ++ [y])))) :
    ∀ (m i : Nat) (acc : List PV) (s : Sto), I i acc s → i ≤ N → N - i < m → ∃ acc' s', lcLoop at_ ig t e d envw m i s = some s' ∧ I N acc' s'
  | 0, i, acc, s, _, _, hm => absurd hm (by omega)
  | m + 1, i, acc, s, hI, hi, hm => by
    by_cases hN : i = N
    · subst hN
      refine ⟨acc, s, ?_, hI⟩
      unfold lcLoop
      rw [hstop acc s hI]
    · obtain ⟨x, env1, y, s2, h1, h2, h3, h4, h5, h6, h7⟩ := hstep i acc s (by omega) hI
      obtain ⟨acc', s', h8, h9⟩ := lc_inv I N hstop hstep m (i + 1) (acc ++ [y]) _ h7 (by omega) (by omega)
      refine ⟨acc', s', ?_, h9⟩
      unfold lcLoop
      simp only [h1, h2, h3, h4, h5, h6, if_true]
      exact h8
/-! ### truth of membership in written tuples -/
@[simp] theorem mapO_nil {α β : Type} {f : α → Option β} : mapO f [] = some [] := rfl
@[simp] theorem mapO_cons {α β : Type} {f : α → Option β} {x : α} {xs : List α} : mapO f (x :: xs) = match f x, mapO f xs with
    | some y, some ys => some (y :: ys)
    | _, _ => none := rfl
@[simp] theorem flatP_s {a : Str} : flatP (.str a) = some (.str a) := rfl
@[simp] theorem flatP_i {a : Int} : flatP (.int a) = some (.int a) := rfl
@[simp] theorem flatP_n : flatP .non = some .non := rfl
@[simp] theorem inV_nil {x : V} : inV x [] = false := rfl
@[simp] theorem inV_cons {x y : V} {ys : List V} : inV x (y :: ys) = (eqV y x || inV x ys) := rfl
@[simp] theorem eqV_ss {a b : Str} : eqV (.str a) (.str b) = (a == b) := rfl
@[simp] theorem eqV_ns {b : Str} : eqV .non (.str b) = false := rfl
@[simp] theorem eqV_sn {b : Str} : eqV (.str b) .non = false := rfl
@[simp] theorem eqV_nn : eqV .non .non = true := rfl
end IL

/-! Powers, greatest of a list, the first item taken out. -/
namespace IL
open PySem PySem.Spec PyProof.Rows L2
section
variable {X : Cx} {o e : Expr} {ia ib ie : IE} {pos : Pos}
def cPow (a b : Int) : Bool := decide (0 ≤ b) && decide (b ≤ 1000000) && decide (a.natAbs < 2 ^ 64)
def fPow : F2 := fInt cPow fun i j => i ^ j.toNat
theorem f_pow {K : PySem.W.Frag} : OpI K (rI CPow fun i j => .int (i ^ j.toNat)) fPow := f_int fun a b h => by
  unfold cPow at h
  simp only [Bool.and_eq_true, decide_eq_true_eq] at h
  exact ⟨h.1.1, h.1.2, h.2⟩
/-- max of a list of ints -/
def fMax : F1 := fun x st => match intsOf st x with
  | some (n :: ns) => some (.int (maxI (n :: ns) 0), st)
  | _ => none
theorem foldl_max : ∀ (ys : List Int) (y : Int), (∀ z ∈ y :: ys, z ≤ ys.foldl (fun a z => if a < z then z else a) y) ∧ ys.foldl (fun a z => if a < z then z else a) y ∈ y :: ys
  | [], y => ⟨by simp, by simp⟩
  | x :: ys, y => by
    obtain ⟨h1, h2⟩ := foldl_max ys (if y < x then x else y)
    rw [List.foldl_cons]
    have h0 := h1 (if y < x then x else y) List.mem_cons_self
    have h3 : y ≤ (if y < x then x else y) ∧ x ≤ (if y < x then x else y) := by split <;> omega
    refine ⟨fun z hz => ?_, ?_⟩
    · rcases List.mem_cons.mp hz with rfl | hz
      · exact Int.le_trans h3.1 h0
      · rcases List.mem_cons.mp hz with rfl | hz
        · exact Int.le_trans h3.2 h0
        · exact h1 z (List.mem_cons_of_mem _ hz)
    · rcases List.mem_cons.mp h2 with h | h
      · rw [h]
        split
        · exact List.mem_cons_of_mem _ List.mem_cons_self
        · exact List.mem_cons_self
      · exact List.mem_cons_of_mem _ (List.mem_cons_of_mem _ h)
theorem f_max {K : PySem.W.Frag} : CallI K (rMax K) (a1 fMax) := call1 fun H ρ st x vx z st' Q S R h q => by
  unfold fMax at h
  split at h
  · rename_i n ns e
    cases h
    unfold intsOf at e
    split at e
    · rename_i xs e1
      obtain ⟨a, vs, rfl, t, r⟩ := list_rep S R e1
      rw [ints_reps r e] at t
      obtain ⟨g1, g2⟩ := foldl_max ns n
      refine ⟨a, n :: ns, rfl, t, by simp, fun m hm hle => ?_⟩
      have hmm : m = maxI (n :: ns) 0 := by
        have k1 := hle _ g2
        have k2 := g1 m hm
        show m = List.foldl _ _ _
        omega
      rw [hmm]
      exact q _ H ρ Grow.refl S (by unfold Rep; rfl)
    · cases e
  · cases h
/-- xs.pop(0) -/
def iPop0 (io ie : IE) : IE := fun env st => ob (io env st) fun o s1 => match o with
  | .ref n => match s1[n]? with
    | some (.lst _) => ob (ie env s1) fun x s2 => match s2[n]?, x with
      | some (.lst (y :: ys)), .int 0 => some (y, s2.set n (.lst ys))
      | _, _ => none
    | _ => none
  | _ => none
theorem r_pop0 {apos cpos : Pos} (ho : PE X o (tI X.K ia)) (he : PE X e (tI X.K ib))
    (hbase : attributeBase o "pop" X.env (eval o X.env) = eval o X.env := by rfl)
    (hfew : ((backTo cpos (starEach (e :: []) X.env)).all (fun x => !x.1) && (backToKw cpos (keywordEach [] X.env)).all (fun x => x.1.isSome)
      && decide ((e :: []).length + ([] : List Keyword).length + (if ([] : List Keyword).isEmpty then 0 else 1) < 30)) = true := by rfl)
    (hline : (apos.endLine == cpos.line) = true := by rfl) (hs : starEach (e :: []) X.env = (false, eval e X.env) :: starEach [] X.env := by rfl) (hplain : (backTo cpos (starEach [] X.env)).any (·.1) = false := by rfl) :
    PE X (.Call (.Attribute o "pop" apos) [e] [] cpos) (tI X.K (iPop0 ia ib)) :=
  PE.imp (pe_bm PySem.F.plainAttrs_list PySem.F.slot_list_pop PySem.F.type_list_pop mt_popAt ho (pa_cons he pa_nil hs) hbase hfew hline hs hplain) fun σ H Q ⟨env, st, ρ, z, st', E, S, h, q⟩ => by
    obtain ⟨x, s1, h1, h⟩ := ob_some h
    refine ⟨env, st, ρ, x, s1, E, S, h1, fun vx H1 ρ1 G1 S1 R1 => ?_⟩
    split at h
    · rename_i n
      split at h
      · rename_i ws e0
        obtain ⟨y, s2, h2, h⟩ := ob_some h
        split at h
        · rename_i w xs e1
          cases h
          unfold Rep at R1
          obtain ⟨a, rfl, i1⟩ := R1
          refine ⟨?_, env, s1, ρ1, .int 0, s2, E.grow S G1, S1, h2, fun vy H2 ρ2 G2 S2 R2 => ?_⟩
          · obtain ⟨b1, hb1, vs1, h3, r1⟩ := S1.at_ _ _ e0
            rw [i1] at hb1; cases hb1
            exact .inl ⟨rfl, vs1, .of h3⟩
          · have i2 := G2.ix i1
            obtain ⟨b1, hb1, vs1, h3, r1⟩ := S2.at_ _ _ e1
            rw [i2] at hb1; cases hb1
            unfold Rep at R2
            subst R2
            unfold Reps at r1
            obtain ⟨v0, vr, rfl, r2, r3⟩ := r1
            have g : Grow H2 ρ2 (upd H2 a (.lst vr)) ρ2 := grow_write h3 (List.mem_of_getElem? i2)
            exact ⟨a, v0 :: vr, 0, 0, v0, rfl, rfl, h3, by decide, by decide, by simp [seqIndex?], rfl, q v0 _ ρ2 ((G1.trans G2).trans g) (S2.write (so := .lst xs) i2 h3 ⟨_, upd_same, Reps.grow S2 g _ _ r3⟩) (Rep.grow S2 g _ _ r2)⟩
        · cases h
      · cases h
    · cases h
@[simp] theorem fPow_i {m n : Int} {st : Sto} : fPow (.int m) (.int n) st = if cPow m n then some (.int (m ^ n.toNat), st) else none := rfl
@[simp] theorem fGt_s {a b : Str} {st : Sto} : fGt (.str a) (.str b) st = some (.bl (ltS b a), st) := rfl
@[simp] theorem fMax_e {x : PV} {st : Sto} : fMax x st = match intsOf st x with
  | some (n :: ns) => some (.int (maxI (n :: ns) 0), st)
  | _ => none := rfl
@[simp] theorem fNotInA_e {x y : PV} {st : Sto} : fNotInA x y st = (inA st x y).map fun b => (.bl (!b), st) := rfl
end
end IL

/-! What statements and calls lead to, where they only add to the store. -/
namespace IL
open PySem PySem.Spec PyProof.Rows L2
def Ext (a b : Sto) : Prop := ∃ l, b = a ++ l
theorem Ext.refl {a : Sto} : Ext a a := ⟨[], by simp⟩
theorem Ext.trans {a b c : Sto} (h : Ext a b) (k : Ext b c) : Ext a c := by
  obtain ⟨l, rfl⟩ := h
  obtain ⟨m, rfl⟩ := k
  exact ⟨l ++ m, by simp⟩
theorem Ext.app {a b l : Sto} (h : Ext a b) : Ext a (b ++ l) := h.trans ⟨l, rfl⟩
theorem Ext.at {a b : Sto} {n : Nat} {o : SO} (h : Ext a b) (e : a[n]? = some o) : b[n]? = some o := by
  obtain ⟨l, rfl⟩ := h
  exact old_at e
def Pu (F : FA) (as : List PV) (v : PV) : Prop := ∃ g : Sto → Sto, (∀ st, F as st = some (v, g st)) ∧ ∀ st, Ext st (g st)
theorem pu {F : FA} {as : List PV} {v : PV} (h : ∀ st : Sto, ∃ l, F as st = some (v, st ++ l)) : Pu F as v :=
  ⟨fun st => st ++ Classical.choose (h st), fun st => Classical.choose_spec (h st), fun st => ⟨_, rfl⟩⟩
theorem pu0 {F : FA} {as : List PV} {v : PV} (h : ∀ st : Sto, F as st = some (v, st)) : Pu F as v := ⟨id, h, fun _ => Ext.refl⟩
theorem for_go {n : Nat} {ig : IG} {body : IS} (I : PEnv → Prop) (all : List PV) (h : ∀ x ∈ all, ∀ e, I e → ∀ s, ∃ e1 e2 s2, ig x e s = some e1 ∧ body e1 s = some (.nx e2 s2) ∧ Ext s s2 ∧ I e2) :
    ∀ (ys pre : List PV) (e : PEnv) (s : Sto), all = pre ++ ys → s[n]? = some (.lst all) → I e → ∃ e2 s2, loop (srcL n all.length).at_ ig body (ys.length + 1) pre.length e s = some (.nx e2 s2) ∧ Ext s s2 ∧ I e2
  | [], pre, e, s, he, hs, hI => by
    rw [List.append_nil] at he
    subst he
    refine ⟨e, s, ?_, Ext.refl, hI⟩
    unfold loop
    simp [srcL, hs]
  | y :: ys, pre, e, s, he, hs, hI => by
    obtain ⟨e1, e2, s2, h1, h2, h3, h4⟩ := h y (by rw [he]; simp) e hI s
    obtain ⟨e3, s3, h5, h6, h7⟩ := for_go (n := n) I all h ys (pre ++ [y]) e2 s2 (by rw [he]; simp) (h3.at hs) h4
    refine ⟨e3, s3, ?_, h3.trans h6, h7⟩
    have hat : (srcL n all.length).at_ s pre.length = some (some y) := by
      simp only [srcL, hs]
      rw [he, List.getElem?_append_right (Nat.le_refl _), Nat.sub_self]; rfl
    show loop _ _ _ (ys.length + 1 + 1) _ _ _ = _
    conv => lhs; unfold loop
    simp only [hat, h1, h2]
    rw [List.length_append] at h5
    exact h5
/-- for x in [..] -/
theorem for_list {ir : IA} {ig : IG} {body : IS} {env : PEnv} {st : Sto} {xs : List PV} (I : PEnv → Prop) (hir : ir env st = some (xs, st)) (hl : xs.length ≤ 100000) (hI : I env)
    (h : ∀ x ∈ xs, ∀ e, I e → ∀ s, ∃ e1 e2 s2, ig x e s = some e1 ∧ body e1 s = some (.nx e2 s2) ∧ Ext s s2 ∧ I e2) :
    ∃ e2 s2, iFor (iWalk (iLst ir)) ig body env st = some (.nx e2 s2) ∧ Ext st s2 ∧ I e2 := by
  obtain ⟨e2, s2, h1, h2, h3⟩ := for_go (n := st.length) I xs h xs [] env (st ++ [.lst xs]) rfl new_at hI
  refine ⟨e2, s2, ?_, Ext.trans ⟨_, rfl⟩ h2, h3⟩
  simp only [iFor_e, iWalk_e, iLst_e, hir, ob_s, if_pos hl, new_at]
  exact h1
def Goes (p : IS) (env : PEnv) (st : Sto) (Q : PEnv → Sto → Prop) : Prop := ∃ e s, p env st = some (.nx e s) ∧ Q e s
def Ends (p : IS) (env : PEnv) (st : Sto) (v : PV) (Q : Sto → Prop) : Prop := ∃ s, p env st = some (.rt v s) ∧ Q s
section
variable {p q : IS} {env : PEnv} {st : Sto} {v : PV}
theorem ends_seq {R : Sto → Prop} (Q : PEnv → Sto → Prop) (h : Goes p env st Q) (k : ∀ e s, Q e s → Ends q e s v R) : Ends (iSeq p q) env st v R := by
  obtain ⟨e, s, h1, h2⟩ := h
  obtain ⟨s2, h3, h4⟩ := k e s h2
  exact ⟨s2, by rw [iSeq_e, h1]; exact h3, h4⟩
theorem goes_seq {R : PEnv → Sto → Prop} (Q : PEnv → Sto → Prop) (h : Goes p env st Q) (k : ∀ e s, Q e s → Goes q e s R) : Goes (iSeq p q) env st R := by
  obtain ⟨e, s, h1, h2⟩ := h
  obtain ⟨e2, s2, h3, h4⟩ := k e s h2
  exact ⟨e2, s2, by rw [iSeq_e, h1]; exact h3, h4⟩
theorem goes_list {ir : IA} {ig : IG} {body : IS} {xs : List PV} (I : PEnv → Prop) (hir : ir env st = some (xs, st)) (hl : xs.length ≤ 100000) (hI : I env)
    (h : ∀ x ∈ xs, ∀ e, I e → ∀ s, ∃ e1, ig x e s = some e1 ∧ Goes body e1 s fun e2 s2 => Ext s s2 ∧ I e2) : Goes (iFor (iWalk (iLst ir)) ig body) env st fun e2 s2 => Ext st s2 ∧ I e2 :=
  for_list I hir hl hI fun x hx e he s => by
    obtain ⟨e1, h1, e2, s2, h2, h3⟩ := h x hx e he s
    exact ⟨e1, e2, s2, h1, h2, h3⟩
end
theorem rT {st : Sto} : eqP st (.str ("True" : Str)) (.str ("True" : Str)) = some true := by
  rw [eqP_s, if_pos (by decide +kernel)]
  simp
theorem rF {st : Sto} : eqP st (.str ("False" : Str)) (.str ("False" : Str)) = some true := by
  rw [eqP_s, if_pos (by decide +kernel)]
  simp
theorem Goes.mono {p : IS} {env : PEnv} {st : Sto} {Q R : PEnv → Sto → Prop} (h : Goes p env st Q) (k : ∀ e s, Q e s → R e s) : Goes p env st R := by
  obtain ⟨e, s, h1, h2⟩ := h
  exact ⟨e, s, h1, k e s h2⟩
def Vl (A : IE) (env : PEnv) (v : PV) : Prop := ∀ st, ∃ s, A env st = some (v, s) ∧ Ext st s
def Tl (t : IT) (env : PEnv) (b : Bool) : Prop := ∀ st, ∃ s, t env st = some (b, s) ∧ Ext st s
section
variable {env : PEnv} {v w : PV} {A B : IE} {t u : IT} {p q : IS} {st : Sto}
theorem vl_pure (h : ∀ st, A env st = some (v, st)) : Vl A env v := fun st => ⟨st, h st, Ext.refl⟩
theorem vl_call {F : FA} {ir : IA} {as : List PV} (hir : ∀ st, ir env st = some (as, st)) (h : Pu F as v) : Vl (iCall F ir) env v := fun st => by
  obtain ⟨g, h1, h2⟩ := h
  exact ⟨g st, by rw [iCall_e, hir]; exact h1 st, h2 st⟩
theorem vl_sh {F : FA} {ir : IA} {k : PV} {as : List PV} (hir : ∀ st, ir env st = some (as, st)) (hl : as.length ≤ 100000) (h : ∀ (st : Sto) (p : Nat), st[p]? = some (.lst as) → ∃ l, F [k, .ref p] st = some (v, st ++ l)) : Vl (iCall F (iCons (iC k) (iCons (iLst ir) iNil))) env v := fun st => by
  obtain ⟨l, e⟩ := h (st ++ [.lst as]) st.length new_at
  refine ⟨st ++ [.lst as] ++ l, ?_, Ext.app ⟨_, rfl⟩⟩
  simp only [iCall_e, iCons_e, iC_e, iLst_e, iNil_e, hir, ob_s, if_pos hl]
  exact e
theorem tl_ne (h1 : Vl A env v) (h2 : Vl B env v) (hg : gd v 60 = true) : Tl (iTestB (iBin fNe A B)) env false := fun st => by
  obtain ⟨s1, a1, a2⟩ := h1 st
  obtain ⟨s2, b1, b2⟩ := h2 s1
  refine ⟨s2, ?_, a2.trans b2⟩
  simp [a1, b1, eqP_gd_self (st := s2) hg]
theorem tl_or (h1 : Tl t env false) (h2 : Tl u env false) : Tl (iOr t u) env false := fun st => by
  obtain ⟨s1, a1, a2⟩ := h1 st
  obtain ⟨s2, b1, b2⟩ := h2 s1
  exact ⟨s2, by simp [a1, b1], a2.trans b2⟩
theorem tl_not (h : Vl A env (.bl true)) : Tl (iNot (iTest A)) env false := fun st => by
  obtain ⟨s1, a1, a2⟩ := h st
  exact ⟨s1, by simp [a1], a2⟩
theorem goes_if (h : Tl t env false) : Goes (iIfS t p iSkip) env st fun e s => e = env ∧ Ext st s := by
  obtain ⟨s1, a1, a2⟩ := h st
  exact ⟨env, s1, by simp [a1], rfl, a2⟩
end
section
variable {st : Sto}
theorem goes_par {i j : Nat} {ir : IA} {env : PEnv} {x y : PV} {s2 : Sto} (h : ir env st = some ([x, y], s2)) {Q : PEnv → Sto → Prop} (q : Q ((env.set i (some x)).set j (some y)) s2) : Goes (iPar i j ir) env st Q :=
  ⟨_, s2, by simp [h], q⟩
theorem goes_asg {i : Nat} {ie : IE} {env : PEnv} {x : PV} {s2 : Sto} (h : ie env st = some (x, s2)) {Q : PEnv → Sto → Prop} (q : Q (env.set i (some x)) s2) : Goes (iAsg (gN i) ie) env st Q :=
  ⟨_, s2, by simp [h], q⟩
end
/-! ### the frame of the law's state -/
structure Fm (s c : Nat) (st st' : Sto) : Prop where
  len : st.length ≤ st'.length
  old : ∀ i, i < st.length → i ≠ s → i ≠ c → st'[i]? = st[i]?
theorem Fm.refl {s c : Nat} {st : Sto} : Fm s c st st := ⟨Nat.le_refl _, fun _ _ _ _ => rfl⟩
theorem Fm.trans {s c : Nat} {a b d : Sto} (h : Fm s c a b) (k : Fm s c b d) : Fm s c a d :=
  ⟨Nat.le_trans h.len k.len, fun i hi h1 h2 => by rw [k.old i (Nat.lt_of_lt_of_le hi h.len) h1 h2, h.old i hi h1 h2]⟩
theorem Fm.app {s c : Nat} {a l : Sto} : Fm s c a (a ++ l) := ⟨by simp, fun i hi _ _ => List.getElem?_append_left hi⟩
theorem Fm.ext {s c : Nat} {a b : Sto} (h : Ext a b) : Fm s c a b := by
  obtain ⟨l, rfl⟩ := h
  exact Fm.app
theorem Fm.set {s c d : Nat} {st : Sto} {o : SO} (h : d = s ∨ d = c) : Fm s c st (st.set d o) :=
  ⟨by simp, fun i hi h1 h2 => List.getElem?_set_ne (by omega)⟩
theorem fSetA_l {n : Nat} {st : Sto} {xs : List PV} {k : Int} {j : Nat} {v : PV} (h : st[n]? = some (.lst xs)) (hj : ixN xs.length k = some j) : fSetA (.ref n) (.int k) v st = some (st.set n (.lst (xs.set j v))) := by
  unfold fSetA fSetL
  simp only [h, hj]
  rfl
theorem ixN_in {n : Nat} {i : Int} (h0 : 0 ≤ i) (h1 : i < n) : ixN n i = some i.toNat := by
  unfold ixN
  rw [if_pos h0, if_pos h1]
theorem fmod_b {a b : Int} (hb : 0 < b) : 0 ≤ a.fmod b ∧ a.fmod b < b := by
  rw [Int.fmod_eq_emod_of_nonneg a (by omega)]
  exact ⟨Int.emod_nonneg _ (by omega), Int.emod_lt_of_pos _ hb⟩
theorem mapO_bls {α : Type} (f : α → Bool) : ∀ xs : List α, mapO isBl (xs.map fun x => .bl (f x)) = some (xs.map f)
  | [] => rfl
  | x :: xs => by
    rw [List.map_cons, mapO_cons, mapO_bls f xs]
    rfl
theorem mapO_intsf {α : Type} (f : α → Int) : ∀ xs : List α, mapO isInt (xs.map fun x => .int (f x)) = some (xs.map f)
  | [] => rfl
  | x :: xs => by
    rw [List.map_cons, mapO_cons, mapO_intsf f xs]
    rfl
theorem mapO_flatbl {α : Type} (f : α → Bool) : ∀ xs : List α, mapO flatP (xs.map fun x => .bl (f x)) = some (xs.map fun x => V.bl (f x))
  | [] => rfl
  | x :: xs => by
    rw [List.map_cons, mapO_cons, mapO_flatbl f xs]
    rfl
theorem inV_bls {α : Type} (f : α → Bool) : ∀ xs : List α, inV (.bl false) (xs.map fun x => V.bl (f x)) = !xs.all f
  | [] => rfl
  | x :: xs => by
    rw [List.map_cons, inV_cons, inV_bls f xs, List.all_cons]
    cases h : f x <;> rfl
/-! ### loops over tuples -/
def foldT (ig : IG) (body : IS) : List PV → PEnv → Sto → Option Fl
  | [], e, s => some (.nx e s)
  | y :: ys, e, s => match ig y e s with
    | some e1 => match body e1 s with
      | some (.nx e2 s2) => foldT ig body ys e2 s2
      | some (.ct e2 s2) => foldT ig body ys e2 s2
      | some (.bk e2 s2) => some (.nx e2 s2)
      | r => r
    | none => none
theorem loop_foldT {ig : IG} {body : IS} {all : List PV} : ∀ (ys pre : List PV) (e : PEnv) (s : Sto), all = pre ++ ys → loop (srcT all).at_ ig body (ys.length + 1) pre.length e s = foldT ig body ys e s
  | [], pre, e, s, he => by
    rw [List.append_nil] at he
    subst he
    unfold loop
    simp [srcT, foldT]
  | y :: ys, pre, e, s, he => by
    have hat : (srcT all).at_ s pre.length = some (some y) := by
      simp only [srcT]
      rw [he, List.getElem?_append_right (Nat.le_refl _), Nat.sub_self]; rfl
    have ih := loop_foldT (ig := ig) (body := body) (all := all) ys (pre ++ [y])
    show loop _ _ _ (ys.length + 1 + 1) _ _ _ = _
    conv => lhs; unfold loop
    conv => rhs; unfold foldT
    simp only [hat]
    rw [List.length_append] at ih
    cases ig y e s with
    | none => rfl
    | some e1 =>
      simp only
      cases body e1 s with
      | none => rfl
      | some r => cases r <;> first | rfl | exact ih _ _ (by rw [he]; simp)
theorem iFor_tup {ie : IE} {ig : IG} {body : IS} {env : PEnv} {st s1 : Sto} {xs : List PV} (h : ie env st = some (.tup xs, s1)) : iFor (iWalk ie) ig body env st = foldT ig body xs env s1 := by
  simp only [iFor_e, iWalk_e, h, ob_s]
  exact loop_foldT xs [] env s1 rfl
theorem iWhile_at (m : Nat) (h : m ≤ 100000) : ∃ k : Nat, ∀ (t : IT) (body : IS) (env : PEnv) (st : Sto), iWhile t body env st = wloop t body (k + m) env st := ⟨1000000 - m, fun t body env st => by
  unfold iWhile bigN
  congr 1
  omega⟩
/-! ### comprehensions over mapped items, with a filter -/
theorem lc_garm {α : Type} {all : List α} {f g : α → PV} {p : α → Bool} {ig : IG} {t : IT} {e : IE} {st : Sto} {envw : PEnv} (hl : all.length < 100000)
    (h : ∀ x ∈ all, ∀ s : Sto, ∃ env1, ig (f x) envw s = some env1 ∧ t env1 s = some (p x, s) ∧ (p x = true → ∃ l, e env1 s = some (g x, s ++ l))) :
    ∀ (ys pre : List α) (l : Sto), all = pre ++ ys → ∃ l', lcLoop (srcT (all.map f)).at_ ig t e st.length envw (ys.length + 1) pre.length (st ++ [.lst ((pre.filter p).map g)] ++ l) = some (st ++ [.lst ((all.filter p).map g)] ++ l')
  | [], pre, l, he => by
    rw [List.append_nil] at he
    subst he
    refine ⟨l, ?_⟩
    unfold lcLoop
    simp [srcT]
  | y :: ys, pre, l, he => by
    obtain ⟨env1, h1, h2, h3⟩ := h y (by rw [he]; simp) (st ++ [.lst ((pre.filter p).map g)] ++ l)
    have hat : (srcT (all.map f)).at_ (st ++ [.lst ((pre.filter p).map g)] ++ l) pre.length = some (some (f y)) := by
      simp only [srcT]
      rw [he, List.map_append, List.getElem?_append_right (by simp)]
      simp
    cases hp : p y with
    | false =>
      rw [hp] at h2
      obtain ⟨l', hr⟩ := lc_garm (t := t) (st := st) hl h ys (pre ++ [y]) l (by rw [he]; simp)
      refine ⟨l', ?_⟩
      rw [← hr]
      show lcLoop _ _ _ _ _ _ (ys.length + 1 + 1) _ _ = _
      conv => lhs; unfold lcLoop
      simp only [hat, h1, h2]
      rw [List.filter_append, List.length_append]
      simp [hp]
    | true =>
      rw [hp] at h2
      obtain ⟨l1, h3⟩ := h3 hp
      have hs : (st ++ [.lst ((pre.filter p).map g)] ++ l ++ l1)[st.length]? = some (.lst ((pre.filter p).map g)) := by
        rw [List.append_assoc (st ++ [_])]
        exact at_mid
      have hlen : ((pre.filter p).map g).length < 100000 := by
        rw [List.length_map]
        have := congrArg List.length he
        have h9 := List.length_filter_le p pre
        rw [List.length_append] at this
        omega
      obtain ⟨l', hr⟩ := lc_garm (t := t) (st := st) hl h ys (pre ++ [y]) (l ++ l1) (by rw [he]; simp)
      refine ⟨l', ?_⟩
      rw [← hr]
      show lcLoop _ _ _ _ _ _ (ys.length + 1 + 1) _ _ = _
      conv => lhs; unfold lcLoop
      simp only [hat, h1, h2, h3, hs, hlen, if_true]
      have e2 : (st ++ [SO.lst ((pre.filter p).map g)] ++ l ++ l1).set st.length (.lst ((pre.filter p).map g ++ [g y])) = st ++ [SO.lst (((pre ++ [y]).filter p).map g)] ++ (l ++ l1) := by
        rw [List.append_assoc (st ++ [_]), set_mid, List.filter_append]
        simp [hp]
      rw [e2, List.length_append]
      rfl
theorem iLc_tupm {α : Type} {xs : List α} {f g : α → PV} {p : α → Bool} {ie e : IE} {ig : IG} {t : IT} {vs : List Nat} {env : PEnv} {st s1 : Sto} (hi : ie env st = some (.tup (xs.map f), s1)) (hl : xs.length < 100000)
    (h : ∀ x ∈ xs, ∀ s : Sto, ∃ env1, ig (f x) (wipeE env vs) s = some env1 ∧ t env1 s = some (p x, s) ∧ (p x = true → ∃ l, e env1 s = some (g x, s ++ l))) :
    ∃ l, iLc (iWalk ie) ig t e vs env st = some (.ref s1.length, s1 ++ [.lst ((xs.filter p).map g)] ++ l) := by
  obtain ⟨l, hr⟩ := lc_garm (t := t) (e := e) (st := s1) hl h xs [] [] rfl
  refine ⟨l, ?_⟩
  unfold iLc
  simp only [iWalk_e, hi, ob_s]
  have e3 : (srcT (xs.map f)).n = xs.length := by simp [srcT]
  rw [e3]
  simp only [List.filter_nil, List.map_nil, List.append_nil, List.length_nil] at hr
  rw [hr]; rfl
theorem iLc_strm {x : Str} {g : Nat → PV} {p : Nat → Bool} {ie e : IE} {ig : IG} {t : IT} {vs : List Nat} {env : PEnv} {st s1 : Sto} (hi : ie env st = some (.str x, s1)) (hl : x.length < 100000)
    (h : ∀ c ∈ x.cps.toList, ∀ s : Sto, ∃ env1, ig (.str ⟨#[c]⟩) (wipeE env vs) s = some env1 ∧ t env1 s = some (p c, s) ∧ (p c = true → ∃ l, e env1 s = some (g c, s ++ l))) :
    ∃ l, iLc (iWalk ie) ig t e vs env st = some (.ref s1.length, s1 ++ [.lst ((x.cps.toList.filter p).map g)] ++ l) := by
  have hn : x.cps.toList.length = x.length := by simp [Str.length]
  obtain ⟨l, hr⟩ := lc_garm (t := t) (e := e) (ig := ig) (envw := wipeE env vs) (st := s1) (f := fun c => PV.str ⟨#[c]⟩) (by rw [hn]; exact hl) h x.cps.toList [] [] rfl
  refine ⟨l, ?_⟩
  unfold iLc
  simp only [iWalk_e, hi, ob_s, srcS_eq]
  have e3 : (srcT (x.cps.toList.map fun c => PV.str ⟨#[c]⟩)).n = x.cps.toList.length := by simp [srcT]
  rw [e3]
  simp only [List.filter_nil, List.map_nil, List.append_nil, List.length_nil] at hr
  rw [hr]; rfl
theorem filter_yes {α : Type} (xs : List α) : xs.filter (fun _ => true) = xs := List.filter_eq_self.mpr fun _ _ => rfl
theorem inA_bls {α : Type} {xs : List α} {f : α → Bool} {st : Sto} {r : Nat} (h : st[r]? = some (.lst (xs.map fun x => PV.bl (f x)))) : inA st (.bl false) (.ref r) = some (!xs.all f) := by
  unfold inA
  simp only [dictOf_r, h]
  unfold inP
  simp only [itemsOf_r, h]
  show (mapO flatP _).map (fun ws => inV (.bl false) ws) = _
  rw [mapO_flatbl, Option.map_some, inV_bls]
theorem blsOf_r {α : Type} {xs : List α} {f : α → Bool} {st : Sto} {r : Nat} (h : st[r]? = some (.lst (xs.map fun x => PV.bl (f x)))) : blsOf st (.ref r) = some (xs.map f) := by
  unfold blsOf
  rw [listOf_r, h]
  exact mapO_bls f xs
theorem ltS_lo (k a : Nat) : ltS ⟨#[k]⟩ ⟨#[a]⟩ = decide (k < a) := by
  unfold ltS
  simp [List.cons_lt_cons_iff]
theorem lc_garA {α : Type} {all : List α} {f g : α → PV} {p : α → Bool} {at_ : Sto → Nat → Option (Option PV)} {ig : IG} {t : IT} {e : IE} {st : Sto} {envw : PEnv} (hat_ : ∀ (l : Sto) (i : Nat), at_ (st ++ l) i = some ((all.map f)[i]?)) (hl : all.length < 100000)
    (h : ∀ x ∈ all, ∀ s : Sto, ∃ env1, ig (f x) envw s = some env1 ∧ t env1 s = some (p x, s) ∧ (p x = true → ∃ l, e env1 s = some (g x, s ++ l))) :
    ∀ (ys pre : List α) (l : Sto), all = pre ++ ys → ∃ l', lcLoop at_ ig t e st.length envw (ys.length + 1) pre.length (st ++ [.lst ((pre.filter p).map g)] ++ l) = some (st ++ [.lst ((all.filter p).map g)] ++ l')
  | [], pre, l, he => by
    rw [List.append_nil] at he
    subst he
    refine ⟨l, ?_⟩
    have hat := hat_ ([.lst ((all.filter p).map g)] ++ l) all.length
    rw [← List.append_assoc] at hat
    unfold lcLoop
    rw [hat]
    simp
  | y :: ys, pre, l, he => by
    obtain ⟨env1, h1, h2, h3⟩ := h y (by rw [he]; simp) (st ++ [.lst ((pre.filter p).map g)] ++ l)
    have hat : at_ (st ++ [.lst ((pre.filter p).map g)] ++ l) pre.length = some (some (f y)) := by
      rw [List.append_assoc, hat_]
      rw [he, List.map_append, List.getElem?_append_right (by simp)]
      simp
    cases hp : p y with
    | false =>
      rw [hp] at h2
      obtain ⟨l', hr⟩ := lc_garA (t := t) (st := st) hat_ hl h ys (pre ++ [y]) l (by rw [he]; simp)
      refine ⟨l', ?_⟩
      rw [← hr]
      show lcLoop _ _ _ _ _ _ (ys.length + 1 + 1) _ _ = _
      conv => lhs; unfold lcLoop
      simp only [hat, h1, h2]
      rw [List.filter_append, List.length_append]
      simp [hp]
    | true =>
      rw [hp] at h2
      obtain ⟨l1, h3⟩ := h3 hp
      have hs : (st ++ [.lst ((pre.filter p).map g)] ++ l ++ l1)[st.length]? = some (.lst ((pre.filter p).map g)) := by
        rw [List.append_assoc (st ++ [_])]
        exact at_mid
      have hlen : ((pre.filter p).map g).length < 100000 := by
        rw [List.length_map]
        have := congrArg List.length he
        have h9 := List.length_filter_le p pre
        rw [List.length_append] at this
        omega
      obtain ⟨l', hr⟩ := lc_garA (t := t) (st := st) hat_ hl h ys (pre ++ [y]) (l ++ l1) (by rw [he]; simp)
      refine ⟨l', ?_⟩
      rw [← hr]
      show lcLoop _ _ _ _ _ _ (ys.length + 1 + 1) _ _ = _
      conv => lhs; unfold lcLoop
      simp only [hat, h1, h2, h3, hs, hlen, if_true]
      have e2 : (st ++ [SO.lst ((pre.filter p).map g)] ++ l ++ l1).set st.length (.lst ((pre.filter p).map g ++ [g y])) = st ++ [SO.lst (((pre ++ [y]).filter p).map g)] ++ (l ++ l1) := by
        rw [List.append_assoc (st ++ [_]), set_mid, List.filter_append]
        simp [hp]
      rw [e2, List.length_append]
      rfl
theorem iLc_srcm {α : Type} {xs : List α} {f g : α → PV} {p : α → Bool} {ii : II} {src : Src} {e : IE} {ig : IG} {t : IT} {vs : List Nat} {env : PEnv} {st s1 : Sto} (hi : ii env st = some (src, s1)) (hn : src.n = xs.length) (hat_ : ∀ (l : Sto) (i : Nat), src.at_ (s1 ++ l) i = some ((xs.map f)[i]?)) (hl : xs.length < 100000)
    (h : ∀ x ∈ xs, ∀ s : Sto, ∃ env1, ig (f x) (wipeE env vs) s = some env1 ∧ t env1 s = some (p x, s) ∧ (p x = true → ∃ l, e env1 s = some (g x, s ++ l))) :
    ∃ l, iLc ii ig t e vs env st = some (.ref s1.length, s1 ++ [.lst ((xs.filter p).map g)] ++ l) := by
  obtain ⟨l, hr⟩ := lc_garA (t := t) (e := e) (st := s1) hat_ hl h xs [] [] rfl
  refine ⟨l, ?_⟩
  unfold iLc
  rw [hi, ob_s, hn]
  simp only [List.filter_nil, List.map_nil, List.append_nil, List.length_nil] at hr
  rw [hr]; rfl
theorem iLc_refm {α : Type} {xs : List α} {f g : α → PV} {p : α → Bool} {r : Nat} {ie : IE} {e : IE} {ig : IG} {t : IT} {vs : List Nat} {env : PEnv} {st s1 : Sto} (hi : ie env st = some (.ref r, s1)) (hr : s1[r]? = some (.lst (xs.map f))) (hl : xs.length < 100000)
    (h : ∀ x ∈ xs, ∀ s : Sto, ∃ env1, ig (f x) (wipeE env vs) s = some env1 ∧ t env1 s = some (p x, s) ∧ (p x = true → ∃ l, e env1 s = some (g x, s ++ l))) :
    ∃ l, iLc (iWalk ie) ig t e vs env st = some (.ref s1.length, s1 ++ [.lst ((xs.filter p).map g)] ++ l) :=
  iLc_srcm (src := srcL r (xs.map f).length) (by simp only [iWalk_e, hi, ob_s, hr]) (by simp [srcL]) (fun l i => by simp only [srcL, old_at hr]) hl h
theorem iLc_frzm {α : Type} {xs : List α} {f g : α → PV} {p : α → Bool} {ie : IE} {e : IE} {ig : IG} {t : IT} {vs : List Nat} {env : PEnv} {st s1 : Sto} (hi : ie env st = some (.frz (xs.map f), s1)) (hl : xs.length < 100000)
    (h : ∀ x ∈ xs, ∀ s : Sto, ∃ env1, ig (f x) (wipeE env vs) s = some env1 ∧ t env1 s = some (p x, s) ∧ (p x = true → ∃ l, e env1 s = some (g x, s ++ l))) :
    ∃ l, iLc (iWalk ie) ig t e vs env st = some (.ref s1.length, s1 ++ [.lst ((xs.filter p).map g)] ++ l) :=
  iLc_srcm (src := srcT (xs.map f)) (by simp only [iWalk_e, hi, ob_s]) (by simp [srcT]) (fun l i => by simp only [srcT]) hl h
theorem iFor_frz {ie : IE} {ig : IG} {body : IS} {env : PEnv} {st s1 : Sto} {xs : List PV} (h : ie env st = some (.frz xs, s1)) : iFor (iWalk ie) ig body env st = foldT ig body xs env s1 := by
  simp only [iFor_e, iWalk_e, h, ob_s]
  exact loop_foldT xs [] env s1 rfl
theorem goes_ref {ie : IE} {ig : IG} {body : IS} {env : PEnv} {st s1 : Sto} {r : Nat} {xs : List PV} (I : PEnv → Prop) (hi : ie env st = some (.ref r, s1)) (hx : Ext st s1) (hr : s1[r]? = some (.lst xs)) (hI : I env)
    (h : ∀ x ∈ xs, ∀ e, I e → ∀ s, ∃ e1, ig x e s = some e1 ∧ Goes body e1 s fun e2 s2 => Ext s s2 ∧ I e2) : Goes (iFor (iWalk ie) ig body) env st fun e2 s2 => Ext st s2 ∧ I e2 := by
  obtain ⟨e2, s2, h1, h2, h3⟩ := for_go (n := r) (ig := ig) (body := body) I xs (fun x hx e he s => by
    obtain ⟨e1, g1, e2, s2, g2, g3⟩ := h x hx e he s
    exact ⟨e1, e2, s2, g1, g2, g3⟩) xs [] env s1 rfl hr hI
  refine ⟨e2, s2, ?_, hx.trans h2, h3⟩
  simp only [iFor_e, iWalk_e, hi, ob_s, hr]
  exact h1
theorem goes_asgV {i : Nat} {A : IE} {env : PEnv} {st : Sto} {v : PV} (h : Vl A env v) : Goes (iAsg (gN i) A) env st fun e s => e = env.set i (some v) ∧ Ext st s := by
  obtain ⟨s, h1, h2⟩ := h st
  exact ⟨_, s, by simp [h1], rfl, h2⟩
end IL

namespace M10
open PySem PySem.Spec PyProof.Rows L2 IL
/-! ## the program's defs as plain functions -/
def top (i : Nat) : Stmt := PySem.Challenge.pw_flowreprise_k10_types_and_values.main.body.getD i (.Pass ⟨0, 0, 0, 0⟩)
abbrev s_is_type : Stmt := top 6
theorem sc_is_type : FnScope ["kind", "inner", "depth"] ["kind"] (C8.fnScope s_is_type) := ⟨rfl, rfl, rfl, by decide +kernel, rfl, by decide +kernel, by decide +kernel⟩
abbrev s_kind_of : Stmt := top 7
theorem sc_kind_of : FnScope ["value"] ["value"] (C8.fnScope s_kind_of) := ⟨rfl, rfl, rfl, by decide +kernel, rfl, by decide +kernel, by decide +kernel⟩
abbrev s_is_letter : Stmt := top 8
theorem sc_is_letter : FnScope ["letter"] ["letter"] (C8.fnScope s_is_letter) := ⟨rfl, rfl, rfl, by decide +kernel, rfl, by decide +kernel, by decide +kernel⟩
abbrev s__bounded_at : Stmt := top 9
theorem sc__bounded_at : FnScope ["value", "depth", "item", "letter"] ["value", "depth"] (C8.fnScope s__bounded_at) := ⟨rfl, rfl, rfl, by decide +kernel, rfl, by decide +kernel, by decide +kernel⟩
abbrev s_is_bounded : Stmt := top 10
theorem sc_is_bounded : FnScope ["value"] ["value"] (C8.fnScope s_is_bounded) := ⟨rfl, rfl, rfl, by decide +kernel, rfl, by decide +kernel, by decide +kernel⟩
abbrev s_is_value : Stmt := top 11
theorem sc_is_value : FnScope ["value"] ["value"] (C8.fnScope s_is_value) := ⟨rfl, rfl, rfl, by decide +kernel, rfl, by decide +kernel, by decide +kernel⟩
abbrev s_fits : Stmt := top 12
theorem sc_fits : FnScope ["value", "kind", "item"] ["value", "kind"] (C8.fnScope s_fits) := ⟨rfl, rfl, rfl, by decide +kernel, rfl, by decide +kernel, by decide +kernel⟩
abbrev s_known_type : Stmt := top 13
theorem sc_known_type : FnScope ["value", "inner", "item"] ["value"] (C8.fnScope s_known_type) := ⟨rfl, rfl, rfl, by decide +kernel, rfl, by decide +kernel, by decide +kernel⟩
abbrev s_joined : Stmt := top 14
theorem sc_joined : FnScope ["one", "other", "inner"] ["one", "other"] (C8.fnScope s_joined) := ⟨rfl, rfl, rfl, by decide +kernel, rfl, by decide +kernel, by decide +kernel⟩
abbrev s__law_state : Stmt := top 16
theorem sc__law_state : FnScope ["script", "seed", "cell"] ["script"] (C8.fnScope s__law_state) := ⟨rfl, rfl, rfl, by decide +kernel, rfl, by decide +kernel, by decide +kernel⟩
abbrev s__law_draw : Stmt := top 17
theorem sc__law_draw : FnScope ["state", "many", "cells", "mixed", "value"] ["state", "many"] (C8.fnScope s__law_draw) := ⟨rfl, rfl, rfl, by decide +kernel, rfl, by decide +kernel, by decide +kernel⟩
abbrev s__law_pick : Stmt := top 18
theorem sc__law_pick : FnScope ["state", "row"] ["state", "row"] (C8.fnScope s__law_pick) := ⟨rfl, rfl, rfl, by decide +kernel, rfl, by decide +kernel, by decide +kernel⟩
abbrev s__law_type : Stmt := top 19
theorem sc__law_type : FnScope ["state", "deep"] ["state", "deep"] (C8.fnScope s__law_type) := ⟨rfl, rfl, rfl, by decide +kernel, rfl, by decide +kernel, by decide +kernel⟩
abbrev s__law_value : Stmt := top 20
theorem sc__law_value : FnScope ["state", "kind", "many", "k"] ["state", "kind"] (C8.fnScope s__law_value) := ⟨rfl, rfl, rfl, by decide +kernel, rfl, by decide +kernel, by decide +kernel⟩
abbrev s__law_deep_list : Stmt := top 21
theorem sc__law_deep_list : FnScope ["value", "count", "k"] ["value", "count"] (C8.fnScope s__law_deep_list) := ⟨rfl, rfl, rfl, by decide +kernel, rfl, by decide +kernel, by decide +kernel⟩
abbrev s__law_shape : Stmt := top 22
theorem sc__law_shape : FnScope ["state", "deep", "kind", "k"] ["state", "deep"] (C8.fnScope s__law_shape) := ⟨rfl, rfl, rfl, by decide +kernel, rfl, by decide +kernel, by decide +kernel⟩
abbrev s__law_within : Stmt := top 23
theorem sc__law_within : FnScope ["value", "item", "char"] ["value"] (C8.fnScope s__law_within) := ⟨rfl, rfl, rfl, by decide +kernel, rfl, by decide +kernel, by decide +kernel⟩
abbrev s__law_depth : Stmt := top 24
theorem sc__law_depth : FnScope ["value", "item"] ["value"] (C8.fnScope s__law_depth) := ⟨rfl, rfl, rfl, by decide +kernel, rfl, by decide +kernel, by decide +kernel⟩
abbrev s__law_fits : Stmt := top 25
theorem sc__law_fits : FnScope ["value", "kind", "item"] ["value", "kind"] (C8.fnScope s__law_fits) := ⟨rfl, rfl, rfl, by decide +kernel, rfl, by decide +kernel, by decide +kernel⟩
abbrev s__law_known : Stmt := top 26
theorem sc__law_known : FnScope ["value", "found", "item"] ["value"] (C8.fnScope s__law_known) := ⟨rfl, rfl, rfl, by decide +kernel, rfl, by decide +kernel, by decide +kernel⟩
abbrev s__law_both : Stmt := top 27
theorem sc__law_both : FnScope ["one", "other", "inner"] ["one", "other"] (C8.fnScope s__law_both) := ⟨rfl, rfl, rfl, by decide +kernel, rfl, by decide +kernel, by decide +kernel⟩
abbrev s__law_kinds : Stmt := top 28
theorem sc__law_kinds : FnScope ["deep", "found", "last", "k", "kind"] ["deep"] (C8.fnScope s__law_kinds) := ⟨rfl, rfl, rfl, by decide +kernel, rfl, by decide +kernel, by decide +kernel⟩
abbrev s_law : Stmt := top 29
theorem sc_law : FnScope ["script", "state", "kind", "k", "value", "rows", "one", "shape", "turn", "core", "told", "due", "other", "both", "wanted"] ["script"] (C8.fnScope s_law) := ⟨rfl, rfl, rfl, by decide +kernel, rfl, by decide +kernel, by decide +kernel⟩
def allStrs : List Str := [" ", "~", "int", "text", "list", "bool", "nothing", "", "a", "\"", "\"\"", "a b, c]", "true", "a\n", "\t", "none", "number"]
def Sx (i : Nat) : Str := allStrs.getD i ""
abbrev S_x20 : Str := Sx 0
abbrev S_x7e : Str := Sx 1
abbrev S_int : Str := Sx 2
abbrev S_text : Str := Sx 3
abbrev S_list : Str := Sx 4
abbrev S_bool : Str := Sx 5
abbrev S_nothing : Str := Sx 6
abbrev S_ : Str := Sx 7
abbrev S_a : Str := Sx 8
abbrev S_x22 : Str := Sx 9
abbrev S_x22x22 : Str := Sx 10
abbrev S_ax20bx2cx20cx5d : Str := Sx 11
abbrev S_true : Str := Sx 12
abbrev S_ax0a : Str := Sx 13
abbrev S_x09 : Str := Sx 14
abbrev S_none : Str := Sx 15
abbrev S_number : Str := Sx 16
@[simp] theorem Sx_eq {i j : Nat} (hi : i < 17) (hj : j < 17) : (Sx i == Sx j) = decide (i = j) := (by decide +kernel : ∀ i : Fin 17, ∀ j : Fin 17, (Sx i == Sx j) = decide (i.val = j.val)) ⟨i, hi⟩ ⟨j, hj⟩
@[simp] theorem Sx_inj {i j : Nat} (hi : i < 17) (hj : j < 17) : (Sx i = Sx j) = (i = j) := propext ⟨fun e => by have h := Sx_eq hi hj; rw [e] at h; exact of_decide_eq_true (h.symm.trans (beq_self_eq_true _)), fun e => by rw [e]⟩
@[simp] theorem Sx_ok {i : Nat} (hi : i < 17) : PyData.strOk (Sx i) = true := (by decide +kernel : ∀ i : Fin 17, PyData.strOk (Sx i) = true) ⟨i, hi⟩
def lens : List Nat := [1, 1, 3, 4, 4, 4, 7, 0, 1, 1, 2, 7, 4, 2, 1, 4, 6]
@[simp] theorem Sx_len {i : Nat} (hi : i < 17) : (Sx i).length = lens.getD i 0 := (by decide +kernel : ∀ i : Fin 17, (Sx i).length = lens.getD i 0) ⟨i, hi⟩
@[simp] theorem eqP_S {st : Sto} {i j : Nat} (hi : i < 17) (hj : j < 17) : eqP st (.str (Sx i)) (.str (Sx j)) = some (decide (i = j)) := by rw [eqP_s, Sx_ok hi, Sx_ok hj, Sx_eq hi hj]; rfl
abbrev c_SIMPLE_KINDS : PV := (.tup [(.str S_int), (.str S_bool), (.str S_text), (.str S_nothing)])
abbrev c_MOST_NUMBER : PV := (.int 1000000000000)
abbrev c_MOST_LETTERS : PV := (.int 60)
abbrev c_MOST_ITEMS : PV := (.int 20)
abbrev c_MOST_DEPTH : PV := (.int 6)
def b_is_type (F : Nat → FA) : IS := (iSeq (iAsg (gN 1) (iVar 0)) (iSeq (iAsg (gN 2) (iC (.int 0))) (iSeq (iWhile (iTest (iCall (a2 fIsi) (iCons (iVar 1) (iCons (iC (.ty "tuple")) iNil)))) (iSeq (iAsg (gN 1) (iBin fSubA (iVar 1) (iC (.int 1)))) (iAugAdd 2 (iC (.int 1))))) (iRet (iAndV (iBin fInA (iVar 1) (iC c_SIMPLE_KINDS)) (iBin fLe (iVar 2) (iC c_MOST_DEPTH)))))))
def b_kind_of (F : Nat → FA) : IS := (iRet (iBin fSubA (iVar 0) (iC (.int 0))))
def b_is_letter (F : Nat → FA) : IS := (iRet (iChain fLe fLe (iC (.str S_x20)) (iVar 0) (iC (.str S_x7e))))
def b__bounded_at (F : Nat → FA) : IS := (iSeq (iIfS (iTestB (iBin fEq (iBin fSubA (iVar 0) (iC (.int 0))) (iC (.str S_int)))) (iRet (iChain fLe fLe (iUn fNeg (iC c_MOST_NUMBER)) (iBin fSubA (iVar 0) (iC (.int 1))) (iC c_MOST_NUMBER))) iSkip) (iSeq (iIfS (iTestB (iBin fEq (iBin fSubA (iVar 0) (iC (.int 0))) (iC (.str S_text)))) (iRet (iAndV (iBin fLe (iCall (a1 fLen) (iCons (iBin fSubA (iVar 0) (iC (.int 1))) iNil)) (iC c_MOST_LETTERS)) (iCall (a1 fAll) (iCons (iLc (iWalk (iBin fSubA (iVar 0) (iC (.int 1)))) (gN 3) iYes (iCall (F 2) (iCons (iVar 3) iNil)) [3]) iNil)))) iSkip) (iSeq (iIfS (iTestB (iBin fEq (iBin fSubA (iVar 0) (iC (.int 0))) (iC (.str S_list)))) (iSeq (iIfS (iOr (iTestB (iBin fEq (iVar 1) (iC c_MOST_DEPTH))) (iTestB (iBin fGt (iCall (a1 fLen) (iCons (iBin fSubA (iVar 0) (iC (.int 1))) iNil)) (iC c_MOST_ITEMS)))) (iRet (iC (.bl false))) iSkip) (iRet (iCall (a1 fAll) (iCons (iLc (iWalk (iBin fSubA (iVar 0) (iC (.int 1)))) (gN 2) iYes (iCall (F 3) (iCons (iVar 2) (iCons (iBin fAdd (iVar 1) (iC (.int 1))) iNil))) [2]) iNil)))) iSkip) (iRet (iC (.bl true))))))
def b_is_bounded (F : Nat → FA) : IS := (iRet (iCall (F 3) (iCons (iVar 0) (iCons (iC (.int 0)) iNil))))
def b_is_value (F : Nat → FA) : IS := (iRet (iAndV (iCall (F 4) (iCons (iVar 0) iNil)) (iBin fIsNot (iCall (F 7) (iCons (iVar 0) iNil)) (iC (.bl false)))))
def b_fits (F : Nat → FA) : IS := (iSeq (iIfS (iTestB (iBin fEq (iBin fSubA (iVar 0) (iC (.int 0))) (iC (.str S_list)))) (iRet (iAndV (iCall (a2 fIsi) (iCons (iVar 1) (iCons (iC (.ty "tuple")) iNil))) (iCall (a1 fAll) (iCons (iLc (iWalk (iBin fSubA (iVar 0) (iC (.int 1)))) (gN 2) iYes (iCall (F 6) (iCons (iVar 2) (iCons (iBin fSubA (iVar 1) (iC (.int 1))) iNil))) [2]) iNil)))) iSkip) (iRet (iBin fEq (iBin fSubA (iVar 0) (iC (.int 0))) (iVar 1))))
def b_known_type (F : Nat → FA) : IS := (iSeq (iIfS (iTestB (iBin fNe (iBin fSubA (iVar 0) (iC (.int 0))) (iC (.str S_list)))) (iRet (iBin fSubA (iVar 0) (iC (.int 0)))) iSkip) (iSeq (iAsg (gN 1) (iC .non)) (iSeq (iFor (iWalk (iBin fSubA (iVar 0) (iC (.int 1)))) (gN 2) (iSeq (iAsg (gN 1) (iCall (F 8) (iCons (iVar 1) (iCons (iCall (F 7) (iCons (iVar 2) iNil)) iNil)))) (iIfS (iTestB (iBin fIs (iVar 1) (iC (.bl false)))) (iRet (iC (.bl false))) iSkip))) (iRet (iTup (iCons (iC (.str S_list)) (iCons (iVar 1) iNil)))))))
def b_joined (F : Nat → FA) : IS := (iSeq (iIfS (iOr (iTestB (iBin fIs (iVar 0) (iC .non))) (iTestB (iBin fEq (iVar 0) (iVar 1)))) (iRet (iVar 1)) iSkip) (iSeq (iIfS (iTestB (iBin fIs (iVar 1) (iC .non))) (iRet (iVar 0)) iSkip) (iSeq (iIfS (iAnd (iTest (iCall (a2 fIsi) (iCons (iVar 0) (iCons (iC (.ty "tuple")) iNil)))) (iTest (iCall (a2 fIsi) (iCons (iVar 1) (iCons (iC (.ty "tuple")) iNil))))) (iSeq (iAsg (gN 2) (iCall (F 8) (iCons (iBin fSubA (iVar 0) (iC (.int 1))) (iCons (iBin fSubA (iVar 1) (iC (.int 1))) iNil)))) (iRet (iIf (iTestB (iBin fIs (iVar 2) (iC (.bl false)))) (iC (.bl false)) (iTup (iCons (iC (.str S_list)) (iCons (iVar 2) iNil)))))) iSkip) (iRet (iC (.bl false))))))
def b__law_state (F : Nat → FA) : IS := (iSeq (iAsg (gN 1) (iC (.int 7))) (iSeq (iFor (iWalk (iVar 0)) (gN 2) (iAsg (gN 1) (iBin fMod (iCall (a1 fInt1) (iCons (iBin fAdd (iBin fMul (iVar 1) (iC (.int 31))) (iVar 2)) iNil)) (iC (.int 1000003))))) (iRet (iLst (iCons (iLc (iWalk (iVar 0)) (gN 2) iYes (iCall (a1 fAbs) (iCons (iVar 2) iNil)) [2]) (iCons (iBin fAdd (iVar 1) (iC (.int 1))) iNil))))))
def b__law_draw (F : Nat → FA) : IS := (iSeq (iIfS (iTestB (iBin fLt (iVar 1) (iC (.int 1)))) (iRet (iC (.int 0))) iSkip) (iSeq (iAsg (gN 2) (iBin fSubA (iVar 0) (iC (.int 0)))) (iSeq (iWhile (iAnd (iTestB (iBin fGt (iCall (a1 fLen) (iCons (iVar 2) iNil)) (iC (.int 0)))) (iTestB (iBin fEq (iBin fSubA (iVar 2) (iC (.int 0))) (iC (.int 0))))) (iDrop (iPop0 (iVar 2) (iC (.int 0))))) (iSeq (iIfS (iTestB (iBin fGt (iCall (a1 fLen) (iCons (iVar 2) iNil)) (iC (.int 0)))) (iSeq (iAsg (gN 4) (iBin fSubA (iVar 2) (iC (.int 0)))) (iSeq (iSetIx fSetA (iVar 2) (iC (.int 0)) (iBin fDiv (iVar 4) (iVar 1))) (iRet (iBin fMod (iCall (a1 fInt1) (iCons (iVar 4) iNil)) (iVar 1))))) iSkip) (iSeq (iAsg (gN 3) (iBin fMod (iCall (a1 fInt1) (iCons (iBin fAdd (iBin fMul (iBin fSubA (iVar 0) (iC (.int 1))) (iC (.int 48271))) (iC (.int 12345))) iNil)) (iC (.int 2147483647)))) (iSeq (iSetIx fSetA (iVar 0) (iC (.int 1)) (iVar 3)) (iRet (iBin fMod (iCall (a1 fInt1) (iCons (iBin fDiv (iVar 3) (iC (.int 64))) iNil)) (iVar 1)))))))))
def b__law_pick (F : Nat → FA) : IS := (iRet (iBin fSubA (iVar 1) (iCall (F 10) (iCons (iVar 0) (iCons (iCall (a1 fLen) (iCons (iVar 1) iNil)) iNil)))))
def b__law_type (F : Nat → FA) : IS := (iSeq (iIfS (iAnd (iTestB (iBin fGt (iVar 1) (iC (.int 0)))) (iTestB (iBin fEq (iCall (F 10) (iCons (iVar 0) (iCons (iC (.int 3)) iNil))) (iC (.int 0))))) (iRet (iTup (iCons (iC (.str S_list)) (iCons (iCall (F 12) (iCons (iVar 0) (iCons (iBin fSub (iVar 1) (iC (.int 1))) iNil))) iNil)))) iSkip) (iRet (iCall (F 11) (iCons (iVar 0) (iCons (iLst (iCons (iC (.str S_int)) (iCons (iC (.str S_bool)) (iCons (iC (.str S_text)) (iCons (iC (.str S_nothing)) iNil))))) iNil)))))
def b__law_value (F : Nat → FA) : IS := (iSeq (iIfS (iTestB (iBin fEq (iVar 1) (iC (.str S_int)))) (iRet (iTup (iCons (iC (.str S_int)) (iCons (iCall (F 11) (iCons (iVar 0) (iCons (iLst (iCons (iC (.int 0)) (iCons (iC (.int 1)) (iCons (iUn fNeg (iC (.int 1))) (iCons (iC (.int 10)) (iCons (iUn fNeg (iBin fPow (iC (.int 10)) (iC (.int 12)))) (iCons (iBin fPow (iC (.int 10)) (iC (.int 12))) (iCons (iBin fSub (iCall (F 10) (iCons (iVar 0) (iCons (iC (.int 1000)) iNil))) (iC (.int 500))) iNil)))))))) iNil))) iNil)))) iSkip) (iSeq (iIfS (iTestB (iBin fEq (iVar 1) (iC (.str S_bool)))) (iRet (iTup (iCons (iC (.str S_bool)) (iCons (iBin fEq (iCall (F 10) (iCons (iVar 0) (iCons (iC (.int 2)) iNil))) (iC (.int 0))) iNil)))) iSkip) (iSeq (iIfS (iTestB (iBin fEq (iVar 1) (iC (.str S_text)))) (iRet (iTup (iCons (iC (.str S_text)) (iCons (iCall (F 11) (iCons (iVar 0) (iCons (iLst (iCons (iC (.str S_)) (iCons (iC (.str S_a)) (iCons (iC (.str S_x22)) (iCons (iC (.str S_x22x22)) (iCons (iC (.str S_ax20bx2cx20cx5d)) (iCons (iBin fMul (iC (.str S_x7e)) (iC (.int 60))) (iCons (iBin fMul (iC (.str S_x22)) (iC (.int 60))) (iCons (iC (.str S_true)) iNil))))))))) iNil))) iNil)))) iSkip) (iSeq (iIfS (iTestB (iBin fEq (iVar 1) (iC (.str S_nothing)))) (iRet (iTup (iCons (iC (.str S_nothing)) iNil))) iSkip) (iSeq (iAsg (gN 2) (iIf (iAnd (iTestB (iBin fEq (iCall (F 10) (iCons (iVar 0) (iCons (iC (.int 30)) iNil))) (iC (.int 0)))) (iNot (iTest (iCall (a2 fIsi) (iCons (iBin fSubA (iVar 1) (iC (.int 1))) (iCons (iC (.ty "tuple")) iNil)))))) (iC (.int 20)) (iCall (F 10) (iCons (iVar 0) (iCons (iC (.int 4)) iNil))))) (iRet (iTup (iCons (iC (.str S_list)) (iCons (iCall (a1 fTuple) (iCons (iLc (iRange1 (iCons (iVar 2) iNil)) (gN 3) iYes (iCall (F 13) (iCons (iVar 0) (iCons (iBin fSubA (iVar 1) (iC (.int 1))) iNil))) [3]) iNil)) iNil)))))))))
def b__law_deep_list (F : Nat → FA) : IS := (iSeq (iFor (iRange1 (iCons (iVar 1) iNil)) (gN 2) (iAsg (gN 0) (iTup (iCons (iC (.str S_list)) (iCons (iTup (iCons (iVar 0) iNil)) iNil))))) (iRet (iVar 0)))
def b__law_shape (F : Nat → FA) : IS := (iSeq (iAsg (gN 2) (iCall (F 10) (iCons (iVar 0) (iCons (iC (.int 12)) iNil)))) (iSeq (iIfS (iOr (iTestB (iBin fLt (iVar 2) (iC (.int 5)))) (iTestB (iBin fEq (iVar 1) (iC (.int 0))))) (iRet (iCall (F 13) (iCons (iVar 0) (iCons (iCall (F 11) (iCons (iVar 0) (iCons (iLst (iCons (iC (.str S_int)) (iCons (iC (.str S_bool)) (iCons (iC (.str S_text)) (iCons (iC (.str S_nothing)) iNil))))) iNil))) iNil)))) iSkip) (iSeq (iIfS (iTestB (iBin fEq (iVar 2) (iC (.int 5)))) (iRet (iTup (iCons (iC (.str S_int)) (iCons (iCall (F 11) (iCons (iVar 0) (iCons (iLst (iCons (iBin fAdd (iBin fPow (iC (.int 10)) (iC (.int 12))) (iC (.int 1))) (iCons (iBin fSub (iUn fNeg (iBin fPow (iC (.int 10)) (iC (.int 12)))) (iC (.int 1))) iNil))) iNil))) iNil)))) iSkip) (iSeq (iIfS (iTestB (iBin fEq (iVar 2) (iC (.int 6)))) (iRet (iTup (iCons (iC (.str S_text)) (iCons (iCall (F 11) (iCons (iVar 0) (iCons (iLst (iCons (iBin fMul (iC (.str S_a)) (iC (.int 61))) (iCons (iC (.str S_ax0a)) (iCons (iC (.str S_x09)) iNil)))) iNil))) iNil)))) iSkip) (iSeq (iIfS (iTestB (iBin fEq (iVar 2) (iC (.int 7)))) (iRet (iTup (iCons (iC (.str S_list)) (iCons (iCall (a1 fTuple) (iCons (iBin fMul (iLst (iCons (iTup (iCons (iC (.str S_int)) (iCons (iC (.int 1)) iNil))) iNil)) (iCall (F 11) (iCons (iVar 0) (iCons (iLst (iCons (iC (.int 20)) (iCons (iC (.int 21)) iNil))) iNil)))) iNil)) iNil)))) iSkip) (iSeq (iIfS (iTestB (iBin fEq (iVar 2) (iC (.int 8)))) (iRet (iCall (F 14) (iCons (iCall (F 11) (iCons (iVar 0) (iCons (iLst (iCons (iTup (iCons (iC (.str S_int)) (iCons (iC (.int 3)) iNil))) (iCons (iTup (iCons (iC (.str S_list)) (iCons (iTup iNil) iNil))) iNil))) iNil))) (iCons (iBin fAdd (iC (.int 3)) (iCall (F 10) (iCons (iVar 0) (iCons (iC (.int 5)) iNil)))) iNil)))) iSkip) (iRet (iTup (iCons (iC (.str S_list)) (iCons (iCall (a1 fTuple) (iCons (iLc (iRange1 (iCons (iCall (F 10) (iCons (iVar 0) (iCons (iC (.int 3)) iNil))) iNil)) (gN 3) iYes (iCall (F 15) (iCons (iVar 0) (iCons (iBin fSub (iVar 1) (iC (.int 1))) iNil))) [3]) iNil)) iNil))))))))))
def b__law_within (F : Nat → FA) : IS := (iSeq (iIfS (iTestB (iBin fEq (iBin fSubA (iVar 0) (iC (.int 0))) (iC (.str S_int)))) (iRet (iBin fLe (iCall (a1 fAbs) (iCons (iBin fSubA (iVar 0) (iC (.int 1))) iNil)) (iBin fPow (iC (.int 10)) (iC (.int 12))))) iSkip) (iSeq (iIfS (iTestB (iBin fEq (iBin fSubA (iVar 0) (iC (.int 0))) (iC (.str S_text)))) (iRet (iAndV (iBin fLe (iCall (a1 fLen) (iCons (iBin fSubA (iVar 0) (iC (.int 1))) iNil)) (iC (.int 60))) (iBin fEq (iCall (a1 fLen) (iCons (iLc (iWalk (iBin fSubA (iVar 0) (iC (.int 1)))) (gN 2) (iOr (iTestB (iBin fLt (iVar 2) (iC (.str S_x20)))) (iTestB (iBin fGt (iVar 2) (iC (.str S_x7e))))) (iVar 2) [2]) iNil)) (iC (.int 0))))) iSkip) (iSeq (iIfS (iTestB (iBin fEq (iBin fSubA (iVar 0) (iC (.int 0))) (iC (.str S_list)))) (iRet (iAndV (iBin fLe (iCall (a1 fLen) (iCons (iBin fSubA (iVar 0) (iC (.int 1))) iNil)) (iC (.int 20))) (iBin fNotInA (iC (.bl false)) (iLc (iWalk (iBin fSubA (iVar 0) (iC (.int 1)))) (gN 1) iYes (iCall (F 16) (iCons (iVar 1) iNil)) [1])))) iSkip) (iRet (iC (.bl true))))))
def b__law_depth (F : Nat → FA) : IS := (iSeq (iIfS (iTestB (iBin fNe (iBin fSubA (iVar 0) (iC (.int 0))) (iC (.str S_list)))) (iRet (iC (.int 0))) iSkip) (iRet (iBin fAdd (iC (.int 1)) (iCall (a1 fMax) (iCons (iBin fAdd (iLst (iCons (iC (.int 0)) iNil)) (iLc (iWalk (iBin fSubA (iVar 0) (iC (.int 1)))) (gN 1) iYes (iCall (F 17) (iCons (iVar 1) iNil)) [1])) iNil)))))
def b__law_fits (F : Nat → FA) : IS := (iSeq (iIfS (iNot (iTest (iCall (a2 fIsi) (iCons (iVar 1) (iCons (iC (.ty "tuple")) iNil))))) (iRet (iBin fEq (iBin fSubA (iVar 0) (iC (.int 0))) (iVar 1))) iSkip) (iRet (iAndV (iBin fEq (iBin fSubA (iVar 0) (iC (.int 0))) (iC (.str S_list))) (iBin fNotInA (iC (.bl false)) (iLc (iWalk (iBin fSubA (iVar 0) (iC (.int 1)))) (gN 2) iYes (iCall (F 18) (iCons (iVar 2) (iCons (iBin fSubA (iVar 1) (iC (.int 1))) iNil))) [2])))))
def b__law_known (F : Nat → FA) : IS := (iSeq (iIfS (iTestB (iBin fNe (iBin fSubA (iVar 0) (iC (.int 0))) (iC (.str S_list)))) (iRet (iBin fSubA (iVar 0) (iC (.int 0)))) iSkip) (iSeq (iAsg (gN 1) (iC .non)) (iSeq (iFor (iWalk (iBin fSubA (iVar 0) (iC (.int 1)))) (gN 2) (iAsg (gN 1) (iCall (F 20) (iCons (iVar 1) (iCons (iCall (F 19) (iCons (iVar 2) iNil)) iNil))))) (iRet (iIf (iTestB (iBin fEq (iVar 1) (iC (.str S_none)))) (iC (.str S_none)) (iTup (iCons (iC (.str S_list)) (iCons (iVar 1) iNil))))))))
def b__law_both (F : Nat → FA) : IS := (iSeq (iIfS (iOr (iTestB (iBin fIs (iVar 0) (iC .non))) (iTestB (iBin fIs (iVar 1) (iC .non)))) (iRet (iIf (iTestB (iBin fIs (iVar 0) (iC .non))) (iVar 1) (iVar 0))) iSkip) (iSeq (iIfS (iAnd (iTest (iCall (a2 fIsi) (iCons (iVar 0) (iCons (iC (.ty "tuple")) iNil)))) (iTest (iCall (a2 fIsi) (iCons (iVar 1) (iCons (iC (.ty "tuple")) iNil))))) (iSeq (iAsg (gN 2) (iCall (F 20) (iCons (iBin fSubA (iVar 0) (iC (.int 1))) (iCons (iBin fSubA (iVar 1) (iC (.int 1))) iNil)))) (iRet (iIf (iTestB (iBin fEq (iVar 2) (iC (.str S_none)))) (iC (.str S_none)) (iTup (iCons (iC (.str S_list)) (iCons (iVar 2) iNil)))))) iSkip) (iRet (iIf (iTestB (iBin fEq (iVar 0) (iVar 1))) (iVar 0) (iC (.str S_none))))))
def b__law_kinds (F : Nat → FA) : IS := (iSeq (iAsg (gN 1) (iLst (iCons (iC (.str S_int)) (iCons (iC (.str S_bool)) (iCons (iC (.str S_text)) (iCons (iC (.str S_nothing)) iNil)))))) (iSeq (iAsg (gN 2) (iVar 1)) (iSeq (iFor (iRange1 (iCons (iVar 0) iNil)) (gN 3) (iSeq (iAsg (gN 2) (iLc (iWalk (iVar 2)) (gN 4) iYes (iTup (iCons (iC (.str S_list)) (iCons (iVar 4) iNil))) [4])) (iAsg (gN 1) (iBin fAdd (iVar 1) (iVar 2))))) (iRet (iVar 1)))))
def b_law (F : Nat → FA) : IS := (iSeq (iAsg (gN 1) (iCall (F 9) (iCons (iVar 0) iNil))) (iSeq (iAsg (gN 2) (iCall (F 12) (iCons (iVar 1) (iCons (iC (.int 6)) iNil)))) (iSeq (iFor (iRange1 (iCons (iC (.int 9)) iNil)) (gN 3) (iSeq (iAsg (gN 7) (iCall (F 11) (iCons (iVar 1) (iCons (iLst (iCons (iC (.str S_int)) (iCons (iC (.str S_bool)) (iCons (iC (.str S_text)) (iCons (iC (.str S_nothing)) (iCons (iC (.str S_list)) (iCons (iC (.str S_number)) (iCons (iC (.str S_)) iNil)))))))) iNil)))) (iSeq (iFor (iRange1 (iCons (iVar 3) iNil)) (gN 8) (iAsg (gN 7) (iTup (iCons (iC (.str S_list)) (iCons (iVar 7) iNil))))) (iSeq (iAsg (gN 9) (iVar 7)) (iSeq (iFor (iRange1 (iCons (iVar 3) iNil)) (gN 8) (iAsg (gN 9) (iBin fSubA (iVar 9) (iC (.int 1))))) (iIfS (iTestB (iBin fNe (iCall (a1 fRepr) (iCons (iCall (F 0) (iCons (iVar 7) iNil)) iNil)) (iCall (a1 fRepr) (iCons (iAndV (iBin fInA (iVar 9) (iTup (iCons (iC (.str S_int)) (iCons (iC (.str S_bool)) (iCons (iC (.str S_text)) (iCons (iC (.str S_nothing)) iNil)))))) (iBin fLe (iVar 3) (iC (.int 6)))) iNil)))) (iRet (iC (.bl false))) iSkip)))))) (iSeq (iAsg (gN 4) (iCall (F 13) (iCons (iVar 1) (iCons (iVar 2) iNil)))) (iSeq (iIfS (iOr (iNot (iTest (iCall (F 0) (iCons (iVar 2) iNil)))) (iOr (iTestB (iBin fIsNot (iCall (F 6) (iCons (iVar 4) (iCons (iVar 2) iNil))) (iC (.bl true)))) (iOr (iTestB (iBin fIsNot (iCall (F 5) (iCons (iVar 4) iNil)) (iC (.bl true)))) (iTestB (iBin fNe (iCall (F 1) (iCons (iVar 4) iNil)) (iBin fSubA (iVar 4) (iC (.int 0)))))))) (iRet (iC (.bl false))) iSkip) (iSeq (iAsg (gN 5) (iLc (iRange1 (iCons (iC (.int 3)) iNil)) (gN 3) iYes (iCall (F 15) (iCons (iVar 1) (iCons (iC (.int 3)) iNil))) [3])) (iSeq (iFor (iWalk (iVar 5)) (gN 6) (iSeq (iAsg (gN 10) (iCall (F 7) (iCons (iVar 6) iNil))) (iSeq (iAsg (gN 11) (iCall (F 19) (iCons (iVar 6) iNil))) (iSeq (iIfS (iTestB (iBin fNe (iVar 10) (iIf (iTestB (iBin fEq (iVar 11) (iC (.str S_none)))) (iC (.bl false)) (iVar 11)))) (iRet (iC (.bl false))) iSkip) (iSeq (iIfS (iTestB (iBin fNe (iCall (a1 fRepr) (iCons (iCall (F 5) (iCons (iVar 6) iNil)) iNil)) (iCall (a1 fRepr) (iCons (iAndV (iCall (F 16) (iCons (iVar 6) iNil)) (iAndV (iBin fLe (iCall (F 17) (iCons (iVar 6) iNil)) (iC (.int 6))) (iBin fNe (iVar 11) (iC (.str S_none))))) iNil)))) (iRet (iC (.bl false))) iSkip) (iSeq (iFor (iWalk (iCall (F 21) (iCons (iC (.int 4)) iNil))) (gN 12) (iIfS (iTestB (iBin fNe (iCall (a1 fRepr) (iCons (iCall (F 6) (iCons (iVar 6) (iCons (iVar 12) iNil))) iNil)) (iCall (a1 fRepr) (iCons (iCall (F 18) (iCons (iVar 6) (iCons (iVar 12) iNil))) iNil)))) (iRet (iC (.bl false))) iSkip)) (iFor (iWalk (iVar 5)) (gN 12) (iIfS (iAnd (iTestB (iBin fNe (iCall (F 19) (iCons (iVar 12) iNil)) (iC (.str S_none)))) (iTestB (iBin fNe (iVar 11) (iC (.str S_none))))) (iSeq (iAsg (gN 13) (iCall (F 8) (iCons (iVar 10) (iCons (iCall (F 7) (iCons (iVar 12) iNil)) iNil)))) (iSeq (iAsg (gN 14) (iCall (F 20) (iCons (iVar 11) (iCons (iCall (F 19) (iCons (iVar 12) iNil)) iNil)))) (iIfS (iOr (iTestB (iBin fNe (iVar 13) (iIf (iTestB (iBin fEq (iVar 14) (iC (.str S_none)))) (iC (.bl false)) (iVar 14)))) (iTestB (iBin fNe (iCall (F 8) (iCons (iCall (F 7) (iCons (iVar 12) iNil)) (iCons (iVar 10) iNil))) (iVar 13)))) (iRet (iC (.bl false))) iSkip))) iSkip)))))))) (iRet (iC (.bl true))))))))))
def FF : Nat → Nat → FA
  | 0, _ => fun _ _ => none
  | n + 1, 0 => iDef 1 3 (b_is_type (FF n))
  | n + 1, 1 => iDef 1 1 (b_kind_of (FF n))
  | n + 1, 2 => iDef 1 1 (b_is_letter (FF n))
  | n + 1, 3 => iDef 2 4 (b__bounded_at (FF n))
  | n + 1, 4 => iDef 1 1 (b_is_bounded (FF n))
  | n + 1, 5 => iDef 1 1 (b_is_value (FF n))
  | n + 1, 6 => iDef 2 3 (b_fits (FF n))
  | n + 1, 7 => iDef 1 3 (b_known_type (FF n))
  | n + 1, 8 => iDef 2 3 (b_joined (FF n))
  | n + 1, 9 => iDef 1 3 (b__law_state (FF n))
  | n + 1, 10 => iDef 2 5 (b__law_draw (FF n))
  | n + 1, 11 => iDef 2 2 (b__law_pick (FF n))
  | n + 1, 12 => iDef 2 2 (b__law_type (FF n))
  | n + 1, 13 => iDef 2 4 (b__law_value (FF n))
  | n + 1, 14 => iDef 2 3 (b__law_deep_list (FF n))
  | n + 1, 15 => iDef 2 4 (b__law_shape (FF n))
  | n + 1, 16 => iDef 1 3 (b__law_within (FF n))
  | n + 1, 17 => iDef 1 2 (b__law_depth (FF n))
  | n + 1, 18 => iDef 2 3 (b__law_fits (FF n))
  | n + 1, 19 => iDef 1 3 (b__law_known (FF n))
  | n + 1, 20 => iDef 2 3 (b__law_both (FF n))
  | n + 1, 21 => iDef 1 5 (b__law_kinds (FF n))
  | n + 1, 22 => iDef 1 15 (b_law (FF n))
  | _ + 1, _ => fun _ _ => none
theorem ar_is_type : ∀ n : Nat, Ar 1 (FF n 0)
  | 0 => fun _ _ _ h => nomatch h
  | n + 1 => ar_def
theorem ar_kind_of : ∀ n : Nat, Ar 1 (FF n 1)
  | 0 => fun _ _ _ h => nomatch h
  | n + 1 => ar_def
theorem ar_is_letter : ∀ n : Nat, Ar 1 (FF n 2)
  | 0 => fun _ _ _ h => nomatch h
  | n + 1 => ar_def
theorem ar__bounded_at : ∀ n : Nat, Ar 2 (FF n 3)
  | 0 => fun _ _ _ h => nomatch h
  | n + 1 => ar_def
theorem ar_is_bounded : ∀ n : Nat, Ar 1 (FF n 4)
  | 0 => fun _ _ _ h => nomatch h
  | n + 1 => ar_def
theorem ar_is_value : ∀ n : Nat, Ar 1 (FF n 5)
  | 0 => fun _ _ _ h => nomatch h
  | n + 1 => ar_def
theorem ar_fits : ∀ n : Nat, Ar 2 (FF n 6)
  | 0 => fun _ _ _ h => nomatch h
  | n + 1 => ar_def
theorem ar_known_type : ∀ n : Nat, Ar 1 (FF n 7)
  | 0 => fun _ _ _ h => nomatch h
  | n + 1 => ar_def
theorem ar_joined : ∀ n : Nat, Ar 2 (FF n 8)
  | 0 => fun _ _ _ h => nomatch h
  | n + 1 => ar_def
theorem ar__law_state : ∀ n : Nat, Ar 1 (FF n 9)
  | 0 => fun _ _ _ h => nomatch h
  | n + 1 => ar_def
theorem ar__law_draw : ∀ n : Nat, Ar 2 (FF n 10)
  | 0 => fun _ _ _ h => nomatch h
  | n + 1 => ar_def
theorem ar__law_pick : ∀ n : Nat, Ar 2 (FF n 11)
  | 0 => fun _ _ _ h => nomatch h
  | n + 1 => ar_def
theorem ar__law_type : ∀ n : Nat, Ar 2 (FF n 12)
  | 0 => fun _ _ _ h => nomatch h
  | n + 1 => ar_def
theorem ar__law_value : ∀ n : Nat, Ar 2 (FF n 13)
  | 0 => fun _ _ _ h => nomatch h
  | n + 1 => ar_def
theorem ar__law_deep_list : ∀ n : Nat, Ar 2 (FF n 14)
  | 0 => fun _ _ _ h => nomatch h
  | n + 1 => ar_def
theorem ar__law_shape : ∀ n : Nat, Ar 2 (FF n 15)
  | 0 => fun _ _ _ h => nomatch h
  | n + 1 => ar_def
theorem ar__law_within : ∀ n : Nat, Ar 1 (FF n 16)
  | 0 => fun _ _ _ h => nomatch h
  | n + 1 => ar_def
theorem ar__law_depth : ∀ n : Nat, Ar 1 (FF n 17)
  | 0 => fun _ _ _ h => nomatch h
  | n + 1 => ar_def
theorem ar__law_fits : ∀ n : Nat, Ar 2 (FF n 18)
  | 0 => fun _ _ _ h => nomatch h
  | n + 1 => ar_def
theorem ar__law_known : ∀ n : Nat, Ar 1 (FF n 19)
  | 0 => fun _ _ _ h => nomatch h
  | n + 1 => ar_def
theorem ar__law_both : ∀ n : Nat, Ar 2 (FF n 20)
  | 0 => fun _ _ _ h => nomatch h
  | n + 1 => ar_def
theorem ar__law_kinds : ∀ n : Nat, Ar 1 (FF n 21)
  | 0 => fun _ _ _ h => nomatch h
  | n + 1 => ar_def
theorem ar_law : ∀ n : Nat, Ar 1 (FF n 22)
  | 0 => fun _ _ _ h => nomatch h
  | n + 1 => ar_def
/-- what the top has left: the built-ins' names, constants; the defs, each at level n -/
structure Tb (P : Program) (w : World) (K : PySem.W.Frag) (mg : Str → Option Value) (base : Heap) (n : Nat) : Prop where
  z_abs : mg "abs" = none
  z_all : mg "all" = none
  z_int : mg "int" = none
  z_isinstance : mg "isinstance" = none
  z_len : mg "len" = none
  z_max : mg "max" = none
  z_range : mg "range" = none
  z_repr : mg "repr" = none
  z_tuple : mg "tuple" = none
  g_SIMPLE_KINDS : GC K mg "SIMPLE_KINDS" c_SIMPLE_KINDS
  g_MOST_NUMBER : GC K mg "MOST_NUMBER" c_MOST_NUMBER
  g_MOST_LETTERS : GC K mg "MOST_LETTERS" c_MOST_LETTERS
  g_MOST_ITEMS : GC K mg "MOST_ITEMS" c_MOST_ITEMS
  g_MOST_DEPTH : GC K mg "MOST_DEPTH" c_MOST_DEPTH
  c_is_type : CalI P w K mg base n "is_type" 1 (FF n 0)
  c_kind_of : CalI P w K mg base n "kind_of" 1 (FF n 1)
  c_is_letter : CalI P w K mg base n "is_letter" 1 (FF n 2)
  c__bounded_at : CalI P w K mg base n "_bounded_at" 2 (FF n 3)
  c_is_bounded : CalI P w K mg base n "is_bounded" 1 (FF n 4)
  c_is_value : CalI P w K mg base n "is_value" 1 (FF n 5)
  c_fits : CalI P w K mg base n "fits" 2 (FF n 6)
  c_known_type : CalI P w K mg base n "known_type" 1 (FF n 7)
  c_joined : CalI P w K mg base n "joined" 2 (FF n 8)
  c__law_state : CalI P w K mg base n "_law_state" 1 (FF n 9)
  c__law_draw : CalI P w K mg base n "_law_draw" 2 (FF n 10)
  c__law_pick : CalI P w K mg base n "_law_pick" 2 (FF n 11)
  c__law_type : CalI P w K mg base n "_law_type" 2 (FF n 12)
  c__law_value : CalI P w K mg base n "_law_value" 2 (FF n 13)
  c__law_deep_list : CalI P w K mg base n "_law_deep_list" 2 (FF n 14)
  c__law_shape : CalI P w K mg base n "_law_shape" 2 (FF n 15)
  c__law_within : CalI P w K mg base n "_law_within" 1 (FF n 16)
  c__law_depth : CalI P w K mg base n "_law_depth" 1 (FF n 17)
  c__law_fits : CalI P w K mg base n "_law_fits" 2 (FF n 18)
  c__law_known : CalI P w K mg base n "_law_known" 1 (FF n 19)
  c__law_both : CalI P w K mg base n "_law_both" 2 (FF n 20)
  c__law_kinds : CalI P w K mg base n "_law_kinds" 1 (FF n 21)
  c_law : CalI P w K mg base n "law" 1 (FF n 22)
section
variable {P : Program} {w : World} {K : PySem.W.Frag} {mg : Str → Option Value} {base : Heap} {n : Nat}
theorem k_is_type (T : Tb P w K mg base n) {f : Addr} (cdv : Value) (A : Around) (outer : List PySem.Env) (s : Shared) (H : Hp) (E : XK) (hr : Room n (A.deeper (envOfC "is_type" (C8.fnScope s_is_type) s.heap.objs.size f cdv))) :
    PSs (cxOf CX0 P w K mg base ["kind", "inner", "depth"] "is_type" (C8.fnScope s_is_type) f cdv A outer s H E).nox (C8.fnBody s_is_type) (tIS K (b_is_type (FF n))) :=
  have nd := sc_is_type.nd
  have hu := hu_of hr
  (s_cons (s_set (i := 1) nd rfl (by first | exact .inl rfl | exact .inr rfl) (r_var (i := 0) rfl (by first | exact .inl rfl | exact .inr (.inl rfl) | exact .inr (.inr rfl)))) (s_cons (s_set (i := 2) nd rfl (by first | exact .inl rfl | exact .inr rfl) r_int) (s_cons (s_while PassesOwn.never (r_truth (r_callB call_isi f_isi rfl T.z_isinstance (by decide +kernel) (a_cons (r_var (i := 1) rfl (by first | exact .inl rfl | exact .inr (.inl rfl) | exact .inr (.inr rfl))) (a_cons (r_ty rfl T.z_tuple (by decide +kernel)) a_nil))) (by intro _; rfl)) (s_cons (s_set (i := 1) nd rfl (by first | exact .inl rfl | exact .inr rfl) (r_sub hu (r_var (i := 1) rfl (by first | exact .inl rfl | exact .inr (.inl rfl) | exact .inr (.inr rfl))) r_int (fun _ _ => rfl))) (s_one (s_augAdd (i := 2) nd rfl (by first | exact .inl rfl | exact .inr rfl) r_int)))) (s_one (s_ret (r_andV (r_cmp (op_inAll hu) f_inA (r_var (i := 1) rfl (by first | exact .inl rfl | exact .inr (.inl rfl) | exact .inr (.inr rfl))) (r_glob rfl T.g_SIMPLE_KINDS) (by with_unfolding_all rfl)) (r_one (r_cmp (op_leA hr.units0) f_le (r_var (i := 2) rfl (by first | exact .inl rfl | exact .inr (.inl rfl) | exact .inr (.inr rfl))) (r_glob rfl T.g_MOST_DEPTH) (nomark _)))))))))
theorem k_kind_of (T : Tb P w K mg base n) {f : Addr} (cdv : Value) (A : Around) (outer : List PySem.Env) (s : Shared) (H : Hp) (E : XK) (hr : Room n (A.deeper (envOfC "kind_of" (C8.fnScope s_kind_of) s.heap.objs.size f cdv))) :
    PSs (cxOf CX0 P w K mg base ["value"] "kind_of" (C8.fnScope s_kind_of) f cdv A outer s H E).nox (C8.fnBody s_kind_of) (tIS K (b_kind_of (FF n))) :=
  have nd := sc_kind_of.nd
  have hu := hu_of hr
  (s_one (s_ret (r_sub hu (r_var (i := 0) rfl (by first | exact .inl rfl | exact .inr (.inl rfl) | exact .inr (.inr rfl))) r_int (fun _ _ => rfl))))
theorem k_is_letter (T : Tb P w K mg base n) {f : Addr} (cdv : Value) (A : Around) (outer : List PySem.Env) (s : Shared) (H : Hp) (E : XK) (hr : Room n (A.deeper (envOfC "is_letter" (C8.fnScope s_is_letter) s.heap.objs.size f cdv))) :
    PSs (cxOf CX0 P w K mg base ["letter"] "is_letter" (C8.fnScope s_is_letter) f cdv A outer s H E).nox (C8.fnBody s_is_letter) (tIS K (b_is_letter (FF n))) :=
  have nd := sc_is_letter.nd
  have hu := hu_of hr
  (s_one (s_ret (r_chain (op_leA hr.units0) f_le (op_leA hr.units0) f_le r_str (r_var (i := 0) rfl (by first | exact .inl rfl | exact .inr (.inl rfl) | exact .inr (.inr rfl))) r_str)))
theorem k__bounded_at (T : Tb P w K mg base n) {f : Addr} (cdv : Value) (A : Around) (outer : List PySem.Env) (s : Shared) (H : Hp) (E : XK) (hr : Room n (A.deeper (envOfC "_bounded_at" (C8.fnScope s__bounded_at) s.heap.objs.size f cdv))) :
    PSs (cxOf CX0 P w K mg base ["value", "depth", "item", "letter"] "_bounded_at" (C8.fnScope s__bounded_at) f cdv A outer s H E).nox (C8.fnBody s__bounded_at) (tIS K (b__bounded_at (FF n))) :=
  have nd := sc__bounded_at.nd
  have hu := hu_of hr
  (s_cons (s_if (r_cmpT (op_eqD hr.units) f_eq (r_sub hu (r_var (i := 0) rfl (by first | exact .inl rfl | exact .inr (.inl rfl) | exact .inr (.inr rfl))) r_int (fun _ _ => rfl)) r_str (nomark _)) (s_one (s_ret (r_chain (op_leA hr.units0) f_le (op_leA hr.units0) f_le (r_un un_neg f_neg (r_glob rfl T.g_MOST_NUMBER)) (r_sub hu (r_var (i := 0) rfl (by first | exact .inl rfl | exact .inr (.inl rfl) | exact .inr (.inr rfl))) r_int (fun _ _ => rfl)) (r_glob rfl T.g_MOST_NUMBER)))) s_nil) (s_cons (s_if (r_cmpT (op_eqD hr.units) f_eq (r_sub hu (r_var (i := 0) rfl (by first | exact .inl rfl | exact .inr (.inl rfl) | exact .inr (.inr rfl))) r_int (fun _ _ => rfl)) r_str (nomark _)) (s_one (s_ret (r_andV (r_cmp (op_leA hr.units0) f_le (r_callB cr_len f_len rfl T.z_len (by decide +kernel) (a_cons (r_sub hu (r_var (i := 0) rfl (by first | exact .inl rfl | exact .inr (.inl rfl) | exact .inr (.inr rfl))) r_int (fun _ _ => rfl)) a_nil)) (r_glob rfl T.g_MOST_LETTERS) (nomark _)) (r_one (r_callB (cr_all rfl) f_all rfl T.z_all (by decide +kernel) (a_cons (r_lc (own := [("letter", 3)]) rfl nd (i_walk (r_sub hu (r_var (i := 0) rfl (by first | exact .inl rfl | exact .inr (.inl rfl) | exact .inr (.inr rfl))) r_int (fun _ _ => rfl))) (blkOk_by (N := ["value", "depth", "item", "letter"]) (sc := C8.fnScope s__bounded_at) (by decide +kernel)) (by decide) (fun _ _ _ _ _ => (g_name (i := 3) nd rfl (by first | exact .inl rfl | exact .inr rfl))) (fun _ _ _ _ _ => t_yes) (fun _ _ _ _ _ => (r_call T.c_is_letter (ar_is_letter _) hr (Nat.le_refl _) rfl (a_cons (r_var (i := 3) rfl (by first | exact .inl rfl | exact .inr (.inl rfl) | exact .inr (.inr rfl))) a_nil)))) a_nil)))))) s_nil) (s_cons (s_if (r_cmpT (op_eqD hr.units) f_eq (r_sub hu (r_var (i := 0) rfl (by first | exact .inl rfl | exact .inr (.inl rfl) | exact .inr (.inr rfl))) r_int (fun _ _ => rfl)) r_str (nomark _)) (s_cons (s_if (PW.pt (w_or (r_cmpT (op_eqD hr.units) f_eq (r_var (i := 1) rfl (by first | exact .inl rfl | exact .inr (.inl rfl) | exact .inr (.inr rfl))) (r_glob rfl T.g_MOST_DEPTH) (nomark _)) (w_or1 (r_cmpT op_gtA f_gt (r_callB cr_len f_len rfl T.z_len (by decide +kernel) (a_cons (r_sub hu (r_var (i := 0) rfl (by first | exact .inl rfl | exact .inr (.inl rfl) | exact .inr (.inr rfl))) r_int (fun _ _ => rfl)) a_nil)) (r_glob rfl T.g_MOST_ITEMS) (nomark _))))) (s_one (s_ret r_bl)) s_nil) (s_one (s_ret (r_callB (cr_all rfl) f_all rfl T.z_all (by decide +kernel) (a_cons (r_lc (own := [("item", 2)]) rfl nd (i_walk (r_sub hu (r_var (i := 0) rfl (by first | exact .inl rfl | exact .inr (.inl rfl) | exact .inr (.inr rfl))) r_int (fun _ _ => rfl))) (blkOk_by (N := ["value", "depth", "item", "letter"]) (sc := C8.fnScope s__bounded_at) (by decide +kernel)) (by decide) (fun _ _ _ _ _ => (g_name (i := 2) nd rfl (by first | exact .inl rfl | exact .inr rfl))) (fun _ _ _ _ _ => t_yes) (fun _ _ _ _ _ => (r_call T.c__bounded_at (ar__bounded_at _) hr (Nat.le_refl _) rfl (a_cons (r_var (i := 2) rfl (by first | exact .inl rfl | exact .inr (.inl rfl) | exact .inr (.inr rfl))) (a_cons (r_op op_addI f_add (r_var (i := 1) rfl (by first | exact .inl rfl | exact .inr (.inl rfl) | exact .inr (.inr rfl))) r_int) a_nil))))) a_nil))))) s_nil) (s_one (s_ret r_bl)))))
theorem k_is_bounded (T : Tb P w K mg base n) {f : Addr} (cdv : Value) (A : Around) (outer : List PySem.Env) (s : Shared) (H : Hp) (E : XK) (hr : Room n (A.deeper (envOfC "is_bounded" (C8.fnScope s_is_bounded) s.heap.objs.size f cdv))) :
    PSs (cxOf CX0 P w K mg base ["value"] "is_bounded" (C8.fnScope s_is_bounded) f cdv A outer s H E).nox (C8.fnBody s_is_bounded) (tIS K (b_is_bounded (FF n))) :=
  have nd := sc_is_bounded.nd
  have hu := hu_of hr
  (s_one (s_ret (r_call T.c__bounded_at (ar__bounded_at _) hr (Nat.le_refl _) rfl (a_cons (r_var (i := 0) rfl (by first | exact .inl rfl | exact .inr (.inl rfl) | exact .inr (.inr rfl))) (a_cons r_int a_nil)))))
theorem k_is_value (T : Tb P w K mg base n) {f : Addr} (cdv : Value) (A : Around) (outer : List PySem.Env) (s : Shared) (H : Hp) (E : XK) (hr : Room n (A.deeper (envOfC "is_value" (C8.fnScope s_is_value) s.heap.objs.size f cdv))) :
    PSs (cxOf CX0 P w K mg base ["value"] "is_value" (C8.fnScope s_is_value) f cdv A outer s H E).nox (C8.fnBody s_is_value) (tIS K (b_is_value (FF n))) :=
  have nd := sc_is_value.nd
  have hu := hu_of hr
  (s_one (s_ret (r_andV (r_call T.c_is_bounded (ar_is_bounded _) hr (Nat.le_refl _) rfl (a_cons (r_var (i := 0) rfl (by first | exact .inl rfl | exact .inr (.inl rfl) | exact .inr (.inr rfl))) a_nil)) (r_one (r_cmp op_isNotA f_isNot (r_call T.c_known_type (ar_known_type _) hr (Nat.le_refl _) rfl (a_cons (r_var (i := 0) rfl (by first | exact .inl rfl | exact .inr (.inl rfl) | exact .inr (.inr rfl))) a_nil)) r_bl (nomark _))))))
theorem k_fits (T : Tb P w K mg base n) {f : Addr} (cdv : Value) (A : Around) (outer : List PySem.Env) (s : Shared) (H : Hp) (E : XK) (hr : Room n (A.deeper (envOfC "fits" (C8.fnScope s_fits) s.heap.objs.size f cdv))) :
    PSs (cxOf CX0 P w K mg base ["value", "kind", "item"] "fits" (C8.fnScope s_fits) f cdv A outer s H E).nox (C8.fnBody s_fits) (tIS K (b_fits (FF n))) :=
  have nd := sc_fits.nd
  have hu := hu_of hr
  (s_cons (s_if (r_cmpT (op_eqD hr.units) f_eq (r_sub hu (r_var (i := 0) rfl (by first | exact .inl rfl | exact .inr (.inl rfl) | exact .inr (.inr rfl))) r_int (fun _ _ => rfl)) r_str (nomark _)) (s_one (s_ret (r_andV (r_callB call_isi f_isi rfl T.z_isinstance (by decide +kernel) (a_cons (r_var (i := 1) rfl (by first | exact .inl rfl | exact .inr (.inl rfl) | exact .inr (.inr rfl))) (a_cons (r_ty rfl T.z_tuple (by decide +kernel)) a_nil))) (r_one (r_callB (cr_all rfl) f_all rfl T.z_all (by decide +kernel) (a_cons (r_lc (own := [("item", 2)]) rfl nd (i_walk (r_sub hu (r_var (i := 0) rfl (by first | exact .inl rfl | exact .inr (.inl rfl) | exact .inr (.inr rfl))) r_int (fun _ _ => rfl))) (blkOk_by (N := ["value", "kind", "item"]) (sc := C8.fnScope s_fits) (by decide +kernel)) (by decide) (fun _ _ _ _ _ => (g_name (i := 2) nd rfl (by first | exact .inl rfl | exact .inr rfl))) (fun _ _ _ _ _ => t_yes) (fun _ _ _ _ _ => (r_call T.c_fits (ar_fits _) hr (Nat.le_refl _) rfl (a_cons (r_var (i := 2) rfl (by first | exact .inl rfl | exact .inr (.inl rfl) | exact .inr (.inr rfl))) (a_cons (r_sub hu (r_var (i := 1) rfl (by first | exact .inl rfl | exact .inr (.inl rfl) | exact .inr (.inr rfl))) r_int (fun _ _ => rfl)) a_nil))))) a_nil)))))) s_nil) (s_one (s_ret (r_cmp (op_eqD hr.units) f_eq (r_sub hu (r_var (i := 0) rfl (by first | exact .inl rfl | exact .inr (.inl rfl) | exact .inr (.inr rfl))) r_int (fun _ _ => rfl)) (r_var (i := 1) rfl (by first | exact .inl rfl | exact .inr (.inl rfl) | exact .inr (.inr rfl))) (nomark _)))))
theorem k_known_type (T : Tb P w K mg base n) {f : Addr} (cdv : Value) (A : Around) (outer : List PySem.Env) (s : Shared) (H : Hp) (E : XK) (hr : Room n (A.deeper (envOfC "known_type" (C8.fnScope s_known_type) s.heap.objs.size f cdv))) :
    PSs (cxOf CX0 P w K mg base ["value", "inner", "item"] "known_type" (C8.fnScope s_known_type) f cdv A outer s H E).nox (C8.fnBody s_known_type) (tIS K (b_known_type (FF n))) :=
  have nd := sc_known_type.nd
  have hu := hu_of hr
  (s_cons (s_if (r_cmpT (op_neD hr.units) f_ne (r_sub hu (r_var (i := 0) rfl (by first | exact .inl rfl | exact .inr (.inl rfl) | exact .inr (.inr rfl))) r_int (fun _ _ => rfl)) r_str (nomark _)) (s_one (s_ret (r_sub hu (r_var (i := 0) rfl (by first | exact .inl rfl | exact .inr (.inl rfl) | exact .inr (.inr rfl))) r_int (fun _ _ => rfl)))) s_nil) (s_cons (s_set (i := 1) nd rfl (by first | exact .inl rfl | exact .inr rfl) r_non) (s_cons (s_for PassesOwn.never rfl (i_walk (r_sub hu (r_var (i := 0) rfl (by first | exact .inl rfl | exact .inr (.inl rfl) | exact .inr (.inr rfl))) r_int (fun _ _ => rfl))) (g_name (i := 2) nd rfl (by first | exact .inl rfl | exact .inr rfl)) (s_cons (s_set (i := 1) nd rfl (by first | exact .inl rfl | exact .inr rfl) (r_call T.c_joined (ar_joined _) hr (Nat.le_refl _) rfl (a_cons (r_var (i := 1) rfl (by first | exact .inl rfl | exact .inr (.inl rfl) | exact .inr (.inr rfl))) (a_cons (r_call T.c_known_type (ar_known_type _) hr (Nat.le_refl _) rfl (a_cons (r_var (i := 2) rfl (by first | exact .inl rfl | exact .inr (.inl rfl) | exact .inr (.inr rfl))) a_nil)) a_nil)))) (s_one (s_if (r_cmpT op_isA f_is (r_var (i := 1) rfl (by first | exact .inl rfl | exact .inr (.inl rfl) | exact .inr (.inr rfl))) r_bl (nomark _)) (s_one (s_ret r_bl)) s_nil)))) (s_one (s_ret (r_tup (a_cons r_str (a_cons (r_var (i := 1) rfl (by first | exact .inl rfl | exact .inr (.inl rfl) | exact .inr (.inr rfl))) a_nil))))))))
theorem k_joined (T : Tb P w K mg base n) {f : Addr} (cdv : Value) (A : Around) (outer : List PySem.Env) (s : Shared) (H : Hp) (E : XK) (hr : Room n (A.deeper (envOfC "joined" (C8.fnScope s_joined) s.heap.objs.size f cdv))) :
    PSs (cxOf CX0 P w K mg base ["one", "other", "inner"] "joined" (C8.fnScope s_joined) f cdv A outer s H E).nox (C8.fnBody s_joined) (tIS K (b_joined (FF n))) :=
  have nd := sc_joined.nd
  have hu := hu_of hr
  (s_cons (s_if (PW.pt (w_or (r_cmpT op_isA f_is (r_var (i := 0) rfl (by first | exact .inl rfl | exact .inr (.inl rfl) | exact .inr (.inr rfl))) r_non (nomark _)) (w_or1 (r_cmpT (op_eqD hr.units) f_eq (r_var (i := 0) rfl (by first | exact .inl rfl | exact .inr (.inl rfl) | exact .inr (.inr rfl))) (r_var (i := 1) rfl (by first | exact .inl rfl | exact .inr (.inl rfl) | exact .inr (.inr rfl))) (nomark _))))) (s_one (s_ret (r_var (i := 1) rfl (by first | exact .inl rfl | exact .inr (.inl rfl) | exact .inr (.inr rfl))))) s_nil) (s_cons (s_if (r_cmpT op_isA f_is (r_var (i := 1) rfl (by first | exact .inl rfl | exact .inr (.inl rfl) | exact .inr (.inr rfl))) r_non (nomark _)) (s_one (s_ret (r_var (i := 0) rfl (by first | exact .inl rfl | exact .inr (.inl rfl) | exact .inr (.inr rfl))))) s_nil) (s_cons (s_if (PW.pt (w_and (r_truth (r_callB call_isi f_isi rfl T.z_isinstance (by decide +kernel) (a_cons (r_var (i := 0) rfl (by first | exact .inl rfl | exact .inr (.inl rfl) | exact .inr (.inr rfl))) (a_cons (r_ty rfl T.z_tuple (by decide +kernel)) a_nil))) (by intro _; rfl)) (w_and1 (r_truth (r_callB call_isi f_isi rfl T.z_isinstance (by decide +kernel) (a_cons (r_var (i := 1) rfl (by first | exact .inl rfl | exact .inr (.inl rfl) | exact .inr (.inr rfl))) (a_cons (r_ty rfl T.z_tuple (by decide +kernel)) a_nil))) (by intro _; rfl))))) (s_cons (s_set (i := 2) nd rfl (by first | exact .inl rfl | exact .inr rfl) (r_call T.c_joined (ar_joined _) hr (Nat.le_refl _) rfl (a_cons (r_sub hu (r_var (i := 0) rfl (by first | exact .inl rfl | exact .inr (.inl rfl) | exact .inr (.inr rfl))) r_int (fun _ _ => rfl)) (a_cons (r_sub hu (r_var (i := 1) rfl (by first | exact .inl rfl | exact .inr (.inl rfl) | exact .inr (.inr rfl))) r_int (fun _ _ => rfl)) a_nil)))) (s_one (s_ret (r_ifExp (r_cmpT op_isA f_is (r_var (i := 2) rfl (by first | exact .inl rfl | exact .inr (.inl rfl) | exact .inr (.inr rfl))) r_bl (nomark _)) r_bl (r_tup (a_cons r_str (a_cons (r_var (i := 2) rfl (by first | exact .inl rfl | exact .inr (.inl rfl) | exact .inr (.inr rfl))) a_nil))))))) s_nil) (s_one (s_ret r_bl)))))
theorem k__law_state (T : Tb P w K mg base n) {f : Addr} (cdv : Value) (A : Around) (outer : List PySem.Env) (s : Shared) (H : Hp) (E : XK) (hr : Room n (A.deeper (envOfC "_law_state" (C8.fnScope s__law_state) s.heap.objs.size f cdv))) :
    PSs (cxOf CX0 P w K mg base ["script", "seed", "cell"] "_law_state" (C8.fnScope s__law_state) f cdv A outer s H E).nox (C8.fnBody s__law_state) (tIS K (b__law_state (FF n))) :=
  have nd := sc__law_state.nd
  have hu := hu_of hr
  (s_cons (s_set (i := 1) nd rfl (by first | exact .inl rfl | exact .inr rfl) r_int) (s_cons (s_for PassesOwn.never rfl (i_walk (r_var (i := 0) rfl (by first | exact .inl rfl | exact .inr (.inl rfl) | exact .inr (.inr rfl)))) (g_name (i := 2) nd rfl (by first | exact .inl rfl | exact .inr rfl)) (s_one (s_set (i := 1) nd rfl (by first | exact .inl rfl | exact .inr rfl) (r_op op_modN f_mod (r_callTy call_int1 f_int1 rfl T.z_int (by decide +kernel) (a_cons (r_op op_addI f_add (r_op op_mulI f_mul (r_var (i := 1) rfl (by first | exact .inl rfl | exact .inr (.inl rfl) | exact .inr (.inr rfl))) r_int) (r_var (i := 2) rfl (by first | exact .inl rfl | exact .inr (.inl rfl) | exact .inr (.inr rfl)))) a_nil)) r_int)))) (s_one (s_ret (r_lst (a_cons (r_lc (own := [("cell", 2)]) rfl nd (i_walk (r_var (i := 0) rfl (by first | exact .inl rfl | exact .inr (.inl rfl) | exact .inr (.inr rfl)))) (blkOk_by (N := ["script", "seed", "cell"]) (sc := C8.fnScope s__law_state) (by decide +kernel)) (by decide) (fun _ _ _ _ _ => (g_name (i := 2) nd rfl (by first | exact .inl rfl | exact .inr rfl))) (fun _ _ _ _ _ => t_yes) (fun _ _ _ _ _ => (r_callB call_abs f_abs rfl T.z_abs (by decide +kernel) (a_cons (r_var (i := 2) rfl (by first | exact .inl rfl | exact .inr (.inl rfl) | exact .inr (.inr rfl))) a_nil)))) (a_cons (r_op op_addI f_add (r_var (i := 1) rfl (by first | exact .inl rfl | exact .inr (.inl rfl) | exact .inr (.inr rfl))) r_int) a_nil)))))))
theorem k__law_draw (T : Tb P w K mg base n) {f : Addr} (cdv : Value) (A : Around) (outer : List PySem.Env) (s : Shared) (H : Hp) (E : XK) (hr : Room n (A.deeper (envOfC "_law_draw" (C8.fnScope s__law_draw) s.heap.objs.size f cdv))) :
    PSs (cxOf CX0 P w K mg base ["state", "many", "cells", "mixed", "value"] "_law_draw" (C8.fnScope s__law_draw) f cdv A outer s H E).nox (C8.fnBody s__law_draw) (tIS K (b__law_draw (FF n))) :=
  have nd := sc__law_draw.nd
  have hu := hu_of hr
  (s_cons (s_if (r_cmpT (op_ltA hr.units0) f_lt (r_var (i := 1) rfl (by first | exact .inl rfl | exact .inr (.inl rfl) | exact .inr (.inr rfl))) r_int (nomark _)) (s_one (s_ret r_int)) s_nil) (s_cons (s_set (i := 2) nd rfl (by first | exact .inl rfl | exact .inr rfl) (r_sub hu (r_var (i := 0) rfl (by first | exact .inl rfl | exact .inr (.inl rfl) | exact .inr (.inr rfl))) r_int (fun _ _ => rfl))) (s_cons (s_while PassesOwn.never (PW.pt (w_and (r_cmpT op_gtA f_gt (r_callB cr_len f_len rfl T.z_len (by decide +kernel) (a_cons (r_var (i := 2) rfl (by first | exact .inl rfl | exact .inr (.inl rfl) | exact .inr (.inr rfl))) a_nil)) r_int (nomark _)) (w_and1 (r_cmpT (op_eqD hr.units) f_eq (r_sub hu (r_var (i := 2) rfl (by first | exact .inl rfl | exact .inr (.inl rfl) | exact .inr (.inr rfl))) r_int (fun _ _ => rfl)) r_int (nomark _))))) (s_one (s_expr (r_pop0 (r_var (i := 2) rfl (by first | exact .inl rfl | exact .inr (.inl rfl) | exact .inr (.inr rfl))) r_int)))) (s_cons (s_if (r_cmpT op_gtA f_gt (r_callB cr_len f_len rfl T.z_len (by decide +kernel) (a_cons (r_var (i := 2) rfl (by first | exact .inl rfl | exact .inr (.inl rfl) | exact .inr (.inr rfl))) a_nil)) r_int (nomark _)) (s_cons (s_set (i := 4) nd rfl (by first | exact .inl rfl | exact .inr rfl) (r_sub hu (r_var (i := 2) rfl (by first | exact .inl rfl | exact .inr (.inl rfl) | exact .inr (.inr rfl))) r_int (fun _ _ => rfl))) (s_cons (s_setIx (set_any hu) f_setA (r_var (i := 2) rfl (by first | exact .inl rfl | exact .inr (.inl rfl) | exact .inr (.inr rfl))) r_int (r_op op_divI f_div (r_var (i := 4) rfl (by first | exact .inl rfl | exact .inr (.inl rfl) | exact .inr (.inr rfl))) (r_var (i := 1) rfl (by first | exact .inl rfl | exact .inr (.inl rfl) | exact .inr (.inr rfl))))) (s_one (s_ret (r_op op_modN f_mod (r_callTy call_int1 f_int1 rfl T.z_int (by decide +kernel) (a_cons (r_var (i := 4) rfl (by first | exact .inl rfl | exact .inr (.inl rfl) | exact .inr (.inr rfl))) a_nil)) (r_var (i := 1) rfl (by first | exact .inl rfl | exact .inr (.inl rfl) | exact .inr (.inr rfl)))))))) s_nil) (s_cons (s_set (i := 3) nd rfl (by first | exact .inl rfl | exact .inr rfl) (r_op op_modN f_mod (r_callTy call_int1 f_int1 rfl T.z_int (by decide +kernel) (a_cons (r_op op_addI f_add (r_op op_mulI f_mul (r_sub hu (r_var (i := 0) rfl (by first | exact .inl rfl | exact .inr (.inl rfl) | exact .inr (.inr rfl))) r_int (fun _ _ => rfl)) r_int) r_int) a_nil)) r_int)) (s_cons (s_setIx (set_any hu) f_setA (r_var (i := 0) rfl (by first | exact .inl rfl | exact .inr (.inl rfl) | exact .inr (.inr rfl))) r_int (r_var (i := 3) rfl (by first | exact .inl rfl | exact .inr (.inl rfl) | exact .inr (.inr rfl)))) (s_one (s_ret (r_op op_modN f_mod (r_callTy call_int1 f_int1 rfl T.z_int (by decide +kernel) (a_cons (r_op op_divI f_div (r_var (i := 3) rfl (by first | exact .inl rfl | exact .inr (.inl rfl) | exact .inr (.inr rfl))) r_int) a_nil)) (r_var (i := 1) rfl (by first | exact .inl rfl | exact .inr (.inl rfl) | exact .inr (.inr rfl))))))))))))
theorem k__law_pick (T : Tb P w K mg base n) {f : Addr} (cdv : Value) (A : Around) (outer : List PySem.Env) (s : Shared) (H : Hp) (E : XK) (hr : Room n (A.deeper (envOfC "_law_pick" (C8.fnScope s__law_pick) s.heap.objs.size f cdv))) :
    PSs (cxOf CX0 P w K mg base ["state", "row"] "_law_pick" (C8.fnScope s__law_pick) f cdv A outer s H E).nox (C8.fnBody s__law_pick) (tIS K (b__law_pick (FF n))) :=
  have nd := sc__law_pick.nd
  have hu := hu_of hr
  (s_one (s_ret (r_sub hu (r_var (i := 1) rfl (by first | exact .inl rfl | exact .inr (.inl rfl) | exact .inr (.inr rfl))) (r_call T.c__law_draw (ar__law_draw _) hr (Nat.le_refl _) rfl (a_cons (r_var (i := 0) rfl (by first | exact .inl rfl | exact .inr (.inl rfl) | exact .inr (.inr rfl))) (a_cons (r_callB cr_len f_len rfl T.z_len (by decide +kernel) (a_cons (r_var (i := 1) rfl (by first | exact .inl rfl | exact .inr (.inl rfl) | exact .inr (.inr rfl))) a_nil)) a_nil))) (fun _ _ => rfl))))
theorem k__law_type (T : Tb P w K mg base n) {f : Addr} (cdv : Value) (A : Around) (outer : List PySem.Env) (s : Shared) (H : Hp) (E : XK) (hr : Room n (A.deeper (envOfC "_law_type" (C8.fnScope s__law_type) s.heap.objs.size f cdv))) :
    PSs (cxOf CX0 P w K mg base ["state", "deep"] "_law_type" (C8.fnScope s__law_type) f cdv A outer s H E).nox (C8.fnBody s__law_type) (tIS K (b__law_type (FF n))) :=
  have nd := sc__law_type.nd
  have hu := hu_of hr
  (s_cons (s_if (PW.pt (w_and (r_cmpT op_gtA f_gt (r_var (i := 1) rfl (by first | exact .inl rfl | exact .inr (.inl rfl) | exact .inr (.inr rfl))) r_int (nomark _)) (w_and1 (r_cmpT (op_eqD hr.units) f_eq (r_call T.c__law_draw (ar__law_draw _) hr (Nat.le_refl _) rfl (a_cons (r_var (i := 0) rfl (by first | exact .inl rfl | exact .inr (.inl rfl) | exact .inr (.inr rfl))) (a_cons r_int a_nil))) r_int (nomark _))))) (s_one (s_ret (r_tup (a_cons r_str (a_cons (r_call T.c__law_type (ar__law_type _) hr (Nat.le_refl _) rfl (a_cons (r_var (i := 0) rfl (by first | exact .inl rfl | exact .inr (.inl rfl) | exact .inr (.inr rfl))) (a_cons (r_op op_subI f_sub (r_var (i := 1) rfl (by first | exact .inl rfl | exact .inr (.inl rfl) | exact .inr (.inr rfl))) r_int) a_nil))) a_nil))))) s_nil) (s_one (s_ret (r_call T.c__law_pick (ar__law_pick _) hr (Nat.le_refl _) rfl (a_cons (r_var (i := 0) rfl (by first | exact .inl rfl | exact .inr (.inl rfl) | exact .inr (.inr rfl))) (a_cons (r_lst (a_cons r_str (a_cons r_str (a_cons r_str (a_cons r_str a_nil))))) a_nil))))))
theorem k__law_value (T : Tb P w K mg base n) {f : Addr} (cdv : Value) (A : Around) (outer : List PySem.Env) (s : Shared) (H : Hp) (E : XK) (hr : Room n (A.deeper (envOfC "_law_value" (C8.fnScope s__law_value) s.heap.objs.size f cdv))) :
    PSs (cxOf CX0 P w K mg base ["state", "kind", "many", "k"] "_law_value" (C8.fnScope s__law_value) f cdv A outer s H E).nox (C8.fnBody s__law_value) (tIS K (b__law_value (FF n))) :=
  have nd := sc__law_value.nd
  have hu := hu_of hr
  (s_cons (s_if (r_cmpT (op_eqD hr.units) f_eq (r_var (i := 1) rfl (by first | exact .inl rfl | exact .inr (.inl rfl) | exact .inr (.inr rfl))) r_str (nomark _)) (s_one (s_ret (r_tup (a_cons r_str (a_cons (r_call T.c__law_pick (ar__law_pick _) hr (Nat.le_refl _) rfl (a_cons (r_var (i := 0) rfl (by first | exact .inl rfl | exact .inr (.inl rfl) | exact .inr (.inr rfl))) (a_cons (r_lst (a_cons r_int (a_cons r_int (a_cons (r_un un_neg f_neg r_int) (a_cons r_int (a_cons (r_un un_neg f_neg (r_op op_pow f_pow r_int r_int)) (a_cons (r_op op_pow f_pow r_int r_int) (a_cons (r_op op_subI f_sub (r_call T.c__law_draw (ar__law_draw _) hr (Nat.le_refl _) rfl (a_cons (r_var (i := 0) rfl (by first | exact .inl rfl | exact .inr (.inl rfl) | exact .inr (.inr rfl))) (a_cons r_int a_nil))) r_int) a_nil)))))))) a_nil))) a_nil))))) s_nil) (s_cons (s_if (r_cmpT (op_eqD hr.units) f_eq (r_var (i := 1) rfl (by first | exact .inl rfl | exact .inr (.inl rfl) | exact .inr (.inr rfl))) r_str (nomark _)) (s_one (s_ret (r_tup (a_cons r_str (a_cons (r_cmp (op_eqD hr.units) f_eq (r_call T.c__law_draw (ar__law_draw _) hr (Nat.le_refl _) rfl (a_cons (r_var (i := 0) rfl (by first | exact .inl rfl | exact .inr (.inl rfl) | exact .inr (.inr rfl))) (a_cons r_int a_nil))) r_int (nomark _)) a_nil))))) s_nil) (s_cons (s_if (r_cmpT (op_eqD hr.units) f_eq (r_var (i := 1) rfl (by first | exact .inl rfl | exact .inr (.inl rfl) | exact .inr (.inr rfl))) r_str (nomark _)) (s_one (s_ret (r_tup (a_cons r_str (a_cons (r_call T.c__law_pick (ar__law_pick _) hr (Nat.le_refl _) rfl (a_cons (r_var (i := 0) rfl (by first | exact .inl rfl | exact .inr (.inl rfl) | exact .inr (.inr rfl))) (a_cons (r_lst (a_cons r_str (a_cons r_str (a_cons r_str (a_cons r_str (a_cons r_str (a_cons (r_op op_mulI f_mul r_str r_int) (a_cons (r_op op_mulI f_mul r_str r_int) (a_cons r_str a_nil))))))))) a_nil))) a_nil))))) s_nil) (s_cons (s_if (r_cmpT (op_eqD hr.units) f_eq (r_var (i := 1) rfl (by first | exact .inl rfl | exact .inr (.inl rfl) | exact .inr (.inr rfl))) r_str (nomark _)) (s_one (s_ret (r_tup (a_cons r_str a_nil)))) s_nil) (s_cons (s_set (i := 2) nd rfl (by first | exact .inl rfl | exact .inr rfl) (r_ifExp (PW.pt (w_and (r_cmpT (op_eqD hr.units) f_eq (r_call T.c__law_draw (ar__law_draw _) hr (Nat.le_refl _) rfl (a_cons (r_var (i := 0) rfl (by first | exact .inl rfl | exact .inr (.inl rfl) | exact .inr (.inr rfl))) (a_cons r_int a_nil))) r_int (nomark _)) (w_and1 (r_not (r_truth (r_callB call_isi f_isi rfl T.z_isinstance (by decide +kernel) (a_cons (r_sub hu (r_var (i := 1) rfl (by first | exact .inl rfl | exact .inr (.inl rfl) | exact .inr (.inr rfl))) r_int (fun _ _ => rfl)) (a_cons (r_ty rfl T.z_tuple (by decide +kernel)) a_nil))) (by intro _; rfl)))))) r_int (r_call T.c__law_draw (ar__law_draw _) hr (Nat.le_refl _) rfl (a_cons (r_var (i := 0) rfl (by first | exact .inl rfl | exact .inr (.inl rfl) | exact .inr (.inr rfl))) (a_cons r_int a_nil))))) (s_one (s_ret (r_tup (a_cons r_str (a_cons (r_callTy call_tuple_of f_tuple rfl T.z_tuple (by decide +kernel) (a_cons (r_lc (own := [("k", 3)]) rfl nd (i_range1 rfl T.z_range (a_cons (r_var (i := 2) rfl (by first | exact .inl rfl | exact .inr (.inl rfl) | exact .inr (.inr rfl))) a_nil)) (blkOk_by (N := ["state", "kind", "many", "k"]) (sc := C8.fnScope s__law_value) (by decide +kernel)) (by decide) (fun _ _ _ _ _ => (g_name (i := 3) nd rfl (by first | exact .inl rfl | exact .inr rfl))) (fun _ _ _ _ _ => t_yes) (fun _ _ _ _ _ => (r_call T.c__law_value (ar__law_value _) hr (Nat.le_refl _) rfl (a_cons (r_var (i := 0) rfl (by first | exact .inl rfl | exact .inr (.inl rfl) | exact .inr (.inr rfl))) (a_cons (r_sub hu (r_var (i := 1) rfl (by first | exact .inl rfl | exact .inr (.inl rfl) | exact .inr (.inr rfl))) r_int (fun _ _ => rfl)) a_nil))))) a_nil)) a_nil))))))))))
theorem k__law_deep_list (T : Tb P w K mg base n) {f : Addr} (cdv : Value) (A : Around) (outer : List PySem.Env) (s : Shared) (H : Hp) (E : XK) (hr : Room n (A.deeper (envOfC "_law_deep_list" (C8.fnScope s__law_deep_list) s.heap.objs.size f cdv))) :
    PSs (cxOf CX0 P w K mg base ["value", "count", "k"] "_law_deep_list" (C8.fnScope s__law_deep_list) f cdv A outer s H E).nox (C8.fnBody s__law_deep_list) (tIS K (b__law_deep_list (FF n))) :=
  have nd := sc__law_deep_list.nd
  have hu := hu_of hr
  (s_cons (s_for PassesOwn.never rfl (i_range1 rfl T.z_range (a_cons (r_var (i := 1) rfl (by first | exact .inl rfl | exact .inr (.inl rfl) | exact .inr (.inr rfl))) a_nil)) (g_name (i := 2) nd rfl (by first | exact .inl rfl | exact .inr rfl)) (s_one (s_set (i := 0) nd rfl (by first | exact .inl rfl | exact .inr rfl) (r_tup (a_cons r_str (a_cons (r_tup (a_cons (r_var (i := 0) rfl (by first | exact .inl rfl | exact .inr (.inl rfl) | exact .inr (.inr rfl))) a_nil)) a_nil)))))) (s_one (s_ret (r_var (i := 0) rfl (by first | exact .inl rfl | exact .inr (.inl rfl) | exact .inr (.inr rfl))))))
theorem k__law_shape (T : Tb P w K mg base n) {f : Addr} (cdv : Value) (A : Around) (outer : List PySem.Env) (s : Shared) (H : Hp) (E : XK) (hr : Room n (A.deeper (envOfC "_law_shape" (C8.fnScope s__law_shape) s.heap.objs.size f cdv))) :
    PSs (cxOf CX0 P w K mg base ["state", "deep", "kind", "k"] "_law_shape" (C8.fnScope s__law_shape) f cdv A outer s H E).nox (C8.fnBody s__law_shape) (tIS K (b__law_shape (FF n))) :=
  have nd := sc__law_shape.nd
  have hu := hu_of hr
  (s_cons (s_set (i := 2) nd rfl (by first | exact .inl rfl | exact .inr rfl) (r_call T.c__law_draw (ar__law_draw _) hr (Nat.le_refl _) rfl (a_cons (r_var (i := 0) rfl (by first | exact .inl rfl | exact .inr (.inl rfl) | exact .inr (.inr rfl))) (a_cons r_int a_nil)))) (s_cons (s_if (PW.pt (w_or (r_cmpT (op_ltA hr.units0) f_lt (r_var (i := 2) rfl (by first | exact .inl rfl | exact .inr (.inl rfl) | exact .inr (.inr rfl))) r_int (nomark _)) (w_or1 (r_cmpT (op_eqD hr.units) f_eq (r_var (i := 1) rfl (by first | exact .inl rfl | exact .inr (.inl rfl) | exact .inr (.inr rfl))) r_int (nomark _))))) (s_one (s_ret (r_call T.c__law_value (ar__law_value _) hr (Nat.le_refl _) rfl (a_cons (r_var (i := 0) rfl (by first | exact .inl rfl | exact .inr (.inl rfl) | exact .inr (.inr rfl))) (a_cons (r_call T.c__law_pick (ar__law_pick _) hr (Nat.le_refl _) rfl (a_cons (r_var (i := 0) rfl (by first | exact .inl rfl | exact .inr (.inl rfl) | exact .inr (.inr rfl))) (a_cons (r_lst (a_cons r_str (a_cons r_str (a_cons r_str (a_cons r_str a_nil))))) a_nil))) a_nil))))) s_nil) (s_cons (s_if (r_cmpT (op_eqD hr.units) f_eq (r_var (i := 2) rfl (by first | exact .inl rfl | exact .inr (.inl rfl) | exact .inr (.inr rfl))) r_int (nomark _)) (s_one (s_ret (r_tup (a_cons r_str (a_cons (r_call T.c__law_pick (ar__law_pick _) hr (Nat.le_refl _) rfl (a_cons (r_var (i := 0) rfl (by first | exact .inl rfl | exact .inr (.inl rfl) | exact .inr (.inr rfl))) (a_cons (r_lst (a_cons (r_op op_addI f_add (r_op op_pow f_pow r_int r_int) r_int) (a_cons (r_op op_subI f_sub (r_un un_neg f_neg (r_op op_pow f_pow r_int r_int)) r_int) a_nil))) a_nil))) a_nil))))) s_nil) (s_cons (s_if (r_cmpT (op_eqD hr.units) f_eq (r_var (i := 2) rfl (by first | exact .inl rfl | exact .inr (.inl rfl) | exact .inr (.inr rfl))) r_int (nomark _)) (s_one (s_ret (r_tup (a_cons r_str (a_cons (r_call T.c__law_pick (ar__law_pick _) hr (Nat.le_refl _) rfl (a_cons (r_var (i := 0) rfl (by first | exact .inl rfl | exact .inr (.inl rfl) | exact .inr (.inr rfl))) (a_cons (r_lst (a_cons (r_op op_mulI f_mul r_str r_int) (a_cons r_str (a_cons r_str a_nil)))) a_nil))) a_nil))))) s_nil) (s_cons (s_if (r_cmpT (op_eqD hr.units) f_eq (r_var (i := 2) rfl (by first | exact .inl rfl | exact .inr (.inl rfl) | exact .inr (.inr rfl))) r_int (nomark _)) (s_one (s_ret (r_tup (a_cons r_str (a_cons (r_callTy call_tuple_of f_tuple rfl T.z_tuple (by decide +kernel) (a_cons (r_op op_mulI f_mul (r_lst (a_cons (r_tup (a_cons r_str (a_cons r_int a_nil))) a_nil)) (r_call T.c__law_pick (ar__law_pick _) hr (Nat.le_refl _) rfl (a_cons (r_var (i := 0) rfl (by first | exact .inl rfl | exact .inr (.inl rfl) | exact .inr (.inr rfl))) (a_cons (r_lst (a_cons r_int (a_cons r_int a_nil))) a_nil)))) a_nil)) a_nil))))) s_nil) (s_cons (s_if (r_cmpT (op_eqD hr.units) f_eq (r_var (i := 2) rfl (by first | exact .inl rfl | exact .inr (.inl rfl) | exact .inr (.inr rfl))) r_int (nomark _)) (s_one (s_ret (r_call T.c__law_deep_list (ar__law_deep_list _) hr (Nat.le_refl _) rfl (a_cons (r_call T.c__law_pick (ar__law_pick _) hr (Nat.le_refl _) rfl (a_cons (r_var (i := 0) rfl (by first | exact .inl rfl | exact .inr (.inl rfl) | exact .inr (.inr rfl))) (a_cons (r_lst (a_cons (r_tup (a_cons r_str (a_cons r_int a_nil))) (a_cons (r_tup (a_cons r_str (a_cons (r_tup a_nil) a_nil))) a_nil))) a_nil))) (a_cons (r_op op_addI f_add r_int (r_call T.c__law_draw (ar__law_draw _) hr (Nat.le_refl _) rfl (a_cons (r_var (i := 0) rfl (by first | exact .inl rfl | exact .inr (.inl rfl) | exact .inr (.inr rfl))) (a_cons r_int a_nil)))) a_nil))))) s_nil) (s_one (s_ret (r_tup (a_cons r_str (a_cons (r_callTy call_tuple_of f_tuple rfl T.z_tuple (by decide +kernel) (a_cons (r_lc (own := [("k", 3)]) rfl nd (i_range1 rfl T.z_range (a_cons (r_call T.c__law_draw (ar__law_draw _) hr (Nat.le_refl _) rfl (a_cons (r_var (i := 0) rfl (by first | exact .inl rfl | exact .inr (.inl rfl) | exact .inr (.inr rfl))) (a_cons r_int a_nil))) a_nil)) (blkOk_by (N := ["state", "deep", "kind", "k"]) (sc := C8.fnScope s__law_shape) (by decide +kernel)) (by decide) (fun _ _ _ _ _ => (g_name (i := 3) nd rfl (by first | exact .inl rfl | exact .inr rfl))) (fun _ _ _ _ _ => t_yes) (fun _ _ _ _ _ => (r_call T.c__law_shape (ar__law_shape _) hr (Nat.le_refl _) rfl (a_cons (r_var (i := 0) rfl (by first | exact .inl rfl | exact .inr (.inl rfl) | exact .inr (.inr rfl))) (a_cons (r_op op_subI f_sub (r_var (i := 1) rfl (by first | exact .inl rfl | exact .inr (.inl rfl) | exact .inr (.inr rfl))) r_int) a_nil))))) a_nil)) a_nil)))))))))))
theorem k__law_within (T : Tb P w K mg base n) {f : Addr} (cdv : Value) (A : Around) (outer : List PySem.Env) (s : Shared) (H : Hp) (E : XK) (hr : Room n (A.deeper (envOfC "_law_within" (C8.fnScope s__law_within) s.heap.objs.size f cdv))) :
    PSs (cxOf CX0 P w K mg base ["value", "item", "char"] "_law_within" (C8.fnScope s__law_within) f cdv A outer s H E).nox (C8.fnBody s__law_within) (tIS K (b__law_within (FF n))) :=
  have nd := sc__law_within.nd
  have hu := hu_of hr
  (s_cons (s_if (r_cmpT (op_eqD hr.units) f_eq (r_sub hu (r_var (i := 0) rfl (by first | exact .inl rfl | exact .inr (.inl rfl) | exact .inr (.inr rfl))) r_int (fun _ _ => rfl)) r_str (nomark _)) (s_one (s_ret (r_cmp (op_leA hr.units0) f_le (r_callB call_abs f_abs rfl T.z_abs (by decide +kernel) (a_cons (r_sub hu (r_var (i := 0) rfl (by first | exact .inl rfl | exact .inr (.inl rfl) | exact .inr (.inr rfl))) r_int (fun _ _ => rfl)) a_nil)) (r_op op_pow f_pow r_int r_int) (nomark _)))) s_nil) (s_cons (s_if (r_cmpT (op_eqD hr.units) f_eq (r_sub hu (r_var (i := 0) rfl (by first | exact .inl rfl | exact .inr (.inl rfl) | exact .inr (.inr rfl))) r_int (fun _ _ => rfl)) r_str (nomark _)) (s_one (s_ret (r_andV (r_cmp (op_leA hr.units0) f_le (r_callB cr_len f_len rfl T.z_len (by decide +kernel) (a_cons (r_sub hu (r_var (i := 0) rfl (by first | exact .inl rfl | exact .inr (.inl rfl) | exact .inr (.inr rfl))) r_int (fun _ _ => rfl)) a_nil)) r_int (nomark _)) (r_one (r_cmp (op_eqD hr.units) f_eq (r_callB cr_len f_len rfl T.z_len (by decide +kernel) (a_cons (r_lc (own := [("char", 2)]) rfl nd (i_walk (r_sub hu (r_var (i := 0) rfl (by first | exact .inl rfl | exact .inr (.inl rfl) | exact .inr (.inr rfl))) r_int (fun _ _ => rfl))) (blkOk_by (N := ["value", "item", "char"]) (sc := C8.fnScope s__law_within) (by decide +kernel)) (by decide) (fun _ _ _ _ _ => (g_name (i := 2) nd rfl (by first | exact .inl rfl | exact .inr rfl))) (fun _ _ _ _ _ => (t_one (PW.pt (w_or (r_cmpT (op_ltA hr.units0) f_lt (r_var (i := 2) rfl (by first | exact .inl rfl | exact .inr (.inl rfl) | exact .inr (.inr rfl))) r_str (nomark _)) (w_or1 (r_cmpT op_gtA f_gt (r_var (i := 2) rfl (by first | exact .inl rfl | exact .inr (.inl rfl) | exact .inr (.inr rfl))) r_str (nomark _))))))) (fun _ _ _ _ _ => (r_var (i := 2) rfl (by first | exact .inl rfl | exact .inr (.inl rfl) | exact .inr (.inr rfl))))) a_nil)) r_int (nomark _)))))) s_nil) (s_cons (s_if (r_cmpT (op_eqD hr.units) f_eq (r_sub hu (r_var (i := 0) rfl (by first | exact .inl rfl | exact .inr (.inl rfl) | exact .inr (.inr rfl))) r_int (fun _ _ => rfl)) r_str (nomark _)) (s_one (s_ret (r_andV (r_cmp (op_leA hr.units0) f_le (r_callB cr_len f_len rfl T.z_len (by decide +kernel) (a_cons (r_sub hu (r_var (i := 0) rfl (by first | exact .inl rfl | exact .inr (.inl rfl) | exact .inr (.inr rfl))) r_int (fun _ _ => rfl)) a_nil)) r_int (nomark _)) (r_one (r_cmp (op_notInAll hu) f_notInA r_bl (r_lc (own := [("item", 1)]) rfl nd (i_walk (r_sub hu (r_var (i := 0) rfl (by first | exact .inl rfl | exact .inr (.inl rfl) | exact .inr (.inr rfl))) r_int (fun _ _ => rfl))) (blkOk_by (N := ["value", "item", "char"]) (sc := C8.fnScope s__law_within) (by decide +kernel)) (by decide) (fun _ _ _ _ _ => (g_name (i := 1) nd rfl (by first | exact .inl rfl | exact .inr rfl))) (fun _ _ _ _ _ => t_yes) (fun _ _ _ _ _ => (r_call T.c__law_within (ar__law_within _) hr (Nat.le_refl _) rfl (a_cons (r_var (i := 1) rfl (by first | exact .inl rfl | exact .inr (.inl rfl) | exact .inr (.inr rfl))) a_nil)))) (by with_unfolding_all rfl)))))) s_nil) (s_one (s_ret r_bl)))))
theorem k__law_depth (T : Tb P w K mg base n) {f : Addr} (cdv : Value) (A : Around) (outer : List PySem.Env) (s : Shared) (H : Hp) (E : XK) (hr : Room n (A.deeper (envOfC "_law_depth" (C8.fnScope s__law_depth) s.heap.objs.size f cdv))) :
    PSs (cxOf CX0 P w K mg base ["value", "item"] "_law_depth" (C8.fnScope s__law_depth) f cdv A outer s H E).nox (C8.fnBody s__law_depth) (tIS K (b__law_depth (FF n))) :=
  have nd := sc__law_depth.nd
  have hu := hu_of hr
  (s_cons (s_if (r_cmpT (op_neD hr.units) f_ne (r_sub hu (r_var (i := 0) rfl (by first | exact .inl rfl | exact .inr (.inl rfl) | exact .inr (.inr rfl))) r_int (fun _ _ => rfl)) r_str (nomark _)) (s_one (s_ret r_int)) s_nil) (s_one (s_ret (r_op op_addI f_add r_int (r_callB (cr_max rfl) f_max rfl T.z_max (by decide +kernel) (a_cons (r_op op_addI f_add (r_lst (a_cons r_int a_nil)) (r_lc (own := [("item", 1)]) rfl nd (i_walk (r_sub hu (r_var (i := 0) rfl (by first | exact .inl rfl | exact .inr (.inl rfl) | exact .inr (.inr rfl))) r_int (fun _ _ => rfl))) (blkOk_by (N := ["value", "item"]) (sc := C8.fnScope s__law_depth) (by decide +kernel)) (by decide) (fun _ _ _ _ _ => (g_name (i := 1) nd rfl (by first | exact .inl rfl | exact .inr rfl))) (fun _ _ _ _ _ => t_yes) (fun _ _ _ _ _ => (r_call T.c__law_depth (ar__law_depth _) hr (Nat.le_refl _) rfl (a_cons (r_var (i := 1) rfl (by first | exact .inl rfl | exact .inr (.inl rfl) | exact .inr (.inr rfl))) a_nil))))) a_nil))))))
theorem k__law_fits (T : Tb P w K mg base n) {f : Addr} (cdv : Value) (A : Around) (outer : List PySem.Env) (s : Shared) (H : Hp) (E : XK) (hr : Room n (A.deeper (envOfC "_law_fits" (C8.fnScope s__law_fits) s.heap.objs.size f cdv))) :
    PSs (cxOf CX0 P w K mg base ["value", "kind", "item"] "_law_fits" (C8.fnScope s__law_fits) f cdv A outer s H E).nox (C8.fnBody s__law_fits) (tIS K (b__law_fits (FF n))) :=
  have nd := sc__law_fits.nd
  have hu := hu_of hr
  (s_cons (s_if (r_not (r_truth (r_callB call_isi f_isi rfl T.z_isinstance (by decide +kernel) (a_cons (r_var (i := 1) rfl (by first | exact .inl rfl | exact .inr (.inl rfl) | exact .inr (.inr rfl))) (a_cons (r_ty rfl T.z_tuple (by decide +kernel)) a_nil))) (by intro _; rfl))) (s_one (s_ret (r_cmp (op_eqD hr.units) f_eq (r_sub hu (r_var (i := 0) rfl (by first | exact .inl rfl | exact .inr (.inl rfl) | exact .inr (.inr rfl))) r_int (fun _ _ => rfl)) (r_var (i := 1) rfl (by first | exact .inl rfl | exact .inr (.inl rfl) | exact .inr (.inr rfl))) (nomark _)))) s_nil) (s_one (s_ret (r_andV (r_cmp (op_eqD hr.units) f_eq (r_sub hu (r_var (i := 0) rfl (by first | exact .inl rfl | exact .inr (.inl rfl) | exact .inr (.inr rfl))) r_int (fun _ _ => rfl)) r_str (nomark _)) (r_one (r_cmp (op_notInAll hu) f_notInA r_bl (r_lc (own := [("item", 2)]) rfl nd (i_walk (r_sub hu (r_var (i := 0) rfl (by first | exact .inl rfl | exact .inr (.inl rfl) | exact .inr (.inr rfl))) r_int (fun _ _ => rfl))) (blkOk_by (N := ["value", "kind", "item"]) (sc := C8.fnScope s__law_fits) (by decide +kernel)) (by decide) (fun _ _ _ _ _ => (g_name (i := 2) nd rfl (by first | exact .inl rfl | exact .inr rfl))) (fun _ _ _ _ _ => t_yes) (fun _ _ _ _ _ => (r_call T.c__law_fits (ar__law_fits _) hr (Nat.le_refl _) rfl (a_cons (r_var (i := 2) rfl (by first | exact .inl rfl | exact .inr (.inl rfl) | exact .inr (.inr rfl))) (a_cons (r_sub hu (r_var (i := 1) rfl (by first | exact .inl rfl | exact .inr (.inl rfl) | exact .inr (.inr rfl))) r_int (fun _ _ => rfl)) a_nil))))) (by with_unfolding_all rfl)))))))
theorem k__law_known (T : Tb P w K mg base n) {f : Addr} (cdv : Value) (A : Around) (outer : List PySem.Env) (s : Shared) (H : Hp) (E : XK) (hr : Room n (A.deeper (envOfC "_law_known" (C8.fnScope s__law_known) s.heap.objs.size f cdv))) :
    PSs (cxOf CX0 P w K mg base ["value", "found", "item"] "_law_known" (C8.fnScope s__law_known) f cdv A outer s H E).nox (C8.fnBody s__law_known) (tIS K (b__law_known (FF n))) :=
  have nd := sc__law_known.nd
  have hu := hu_of hr
  (s_cons (s_if (r_cmpT (op_neD hr.units) f_ne (r_sub hu (r_var (i := 0) rfl (by first | exact .inl rfl | exact .inr (.inl rfl) | exact .inr (.inr rfl))) r_int (fun _ _ => rfl)) r_str (nomark _)) (s_one (s_ret (r_sub hu (r_var (i := 0) rfl (by first | exact .inl rfl | exact .inr (.inl rfl) | exact .inr (.inr rfl))) r_int (fun _ _ => rfl)))) s_nil) (s_cons (s_set (i := 1) nd rfl (by first | exact .inl rfl | exact .inr rfl) r_non) (s_cons (s_for PassesOwn.never rfl (i_walk (r_sub hu (r_var (i := 0) rfl (by first | exact .inl rfl | exact .inr (.inl rfl) | exact .inr (.inr rfl))) r_int (fun _ _ => rfl))) (g_name (i := 2) nd rfl (by first | exact .inl rfl | exact .inr rfl)) (s_one (s_set (i := 1) nd rfl (by first | exact .inl rfl | exact .inr rfl) (r_call T.c__law_both (ar__law_both _) hr (Nat.le_refl _) rfl (a_cons (r_var (i := 1) rfl (by first | exact .inl rfl | exact .inr (.inl rfl) | exact .inr (.inr rfl))) (a_cons (r_call T.c__law_known (ar__law_known _) hr (Nat.le_refl _) rfl (a_cons (r_var (i := 2) rfl (by first | exact .inl rfl | exact .inr (.inl rfl) | exact .inr (.inr rfl))) a_nil)) a_nil)))))) (s_one (s_ret (r_ifExp (r_cmpT (op_eqD hr.units) f_eq (r_var (i := 1) rfl (by first | exact .inl rfl | exact .inr (.inl rfl) | exact .inr (.inr rfl))) r_str (nomark _)) r_str (r_tup (a_cons r_str (a_cons (r_var (i := 1) rfl (by first | exact .inl rfl | exact .inr (.inl rfl) | exact .inr (.inr rfl))) a_nil)))))))))
theorem k__law_both (T : Tb P w K mg base n) {f : Addr} (cdv : Value) (A : Around) (outer : List PySem.Env) (s : Shared) (H : Hp) (E : XK) (hr : Room n (A.deeper (envOfC "_law_both" (C8.fnScope s__law_both) s.heap.objs.size f cdv))) :
    PSs (cxOf CX0 P w K mg base ["one", "other", "inner"] "_law_both" (C8.fnScope s__law_both) f cdv A outer s H E).nox (C8.fnBody s__law_both) (tIS K (b__law_both (FF n))) :=
  have nd := sc__law_both.nd
  have hu := hu_of hr
  (s_cons (s_if (PW.pt (w_or (r_cmpT op_isA f_is (r_var (i := 0) rfl (by first | exact .inl rfl | exact .inr (.inl rfl) | exact .inr (.inr rfl))) r_non (nomark _)) (w_or1 (r_cmpT op_isA f_is (r_var (i := 1) rfl (by first | exact .inl rfl | exact .inr (.inl rfl) | exact .inr (.inr rfl))) r_non (nomark _))))) (s_one (s_ret (r_ifExp (r_cmpT op_isA f_is (r_var (i := 0) rfl (by first | exact .inl rfl | exact .inr (.inl rfl) | exact .inr (.inr rfl))) r_non (nomark _)) (r_var (i := 1) rfl (by first | exact .inl rfl | exact .inr (.inl rfl) | exact .inr (.inr rfl))) (r_var (i := 0) rfl (by first | exact .inl rfl | exact .inr (.inl rfl) | exact .inr (.inr rfl)))))) s_nil) (s_cons (s_if (PW.pt (w_and (r_truth (r_callB call_isi f_isi rfl T.z_isinstance (by decide +kernel) (a_cons (r_var (i := 0) rfl (by first | exact .inl rfl | exact .inr (.inl rfl) | exact .inr (.inr rfl))) (a_cons (r_ty rfl T.z_tuple (by decide +kernel)) a_nil))) (by intro _; rfl)) (w_and1 (r_truth (r_callB call_isi f_isi rfl T.z_isinstance (by decide +kernel) (a_cons (r_var (i := 1) rfl (by first | exact .inl rfl | exact .inr (.inl rfl) | exact .inr (.inr rfl))) (a_cons (r_ty rfl T.z_tuple (by decide +kernel)) a_nil))) (by intro _; rfl))))) (s_cons (s_set (i := 2) nd rfl (by first | exact .inl rfl | exact .inr rfl) (r_call T.c__law_both (ar__law_both _) hr (Nat.le_refl _) rfl (a_cons (r_sub hu (r_var (i := 0) rfl (by first | exact .inl rfl | exact .inr (.inl rfl) | exact .inr (.inr rfl))) r_int (fun _ _ => rfl)) (a_cons (r_sub hu (r_var (i := 1) rfl (by first | exact .inl rfl | exact .inr (.inl rfl) | exact .inr (.inr rfl))) r_int (fun _ _ => rfl)) a_nil)))) (s_one (s_ret (r_ifExp (r_cmpT (op_eqD hr.units) f_eq (r_var (i := 2) rfl (by first | exact .inl rfl | exact .inr (.inl rfl) | exact .inr (.inr rfl))) r_str (nomark _)) r_str (r_tup (a_cons r_str (a_cons (r_var (i := 2) rfl (by first | exact .inl rfl | exact .inr (.inl rfl) | exact .inr (.inr rfl))) a_nil))))))) s_nil) (s_one (s_ret (r_ifExp (r_cmpT (op_eqD hr.units) f_eq (r_var (i := 0) rfl (by first | exact .inl rfl | exact .inr (.inl rfl) | exact .inr (.inr rfl))) (r_var (i := 1) rfl (by first | exact .inl rfl | exact .inr (.inl rfl) | exact .inr (.inr rfl))) (nomark _)) (r_var (i := 0) rfl (by first | exact .inl rfl | exact .inr (.inl rfl) | exact .inr (.inr rfl))) r_str)))))
theorem k__law_kinds (T : Tb P w K mg base n) {f : Addr} (cdv : Value) (A : Around) (outer : List PySem.Env) (s : Shared) (H : Hp) (E : XK) (hr : Room n (A.deeper (envOfC "_law_kinds" (C8.fnScope s__law_kinds) s.heap.objs.size f cdv))) :
    PSs (cxOf CX0 P w K mg base ["deep", "found", "last", "k", "kind"] "_law_kinds" (C8.fnScope s__law_kinds) f cdv A outer s H E).nox (C8.fnBody s__law_kinds) (tIS K (b__law_kinds (FF n))) :=
  have nd := sc__law_kinds.nd
  have hu := hu_of hr
  (s_cons (s_set (i := 1) nd rfl (by first | exact .inl rfl | exact .inr rfl) (r_lst (a_cons r_str (a_cons r_str (a_cons r_str (a_cons r_str a_nil)))))) (s_cons (s_set (i := 2) nd rfl (by first | exact .inl rfl | exact .inr rfl) (r_var (i := 1) rfl (by first | exact .inl rfl | exact .inr (.inl rfl) | exact .inr (.inr rfl)))) (s_cons (s_for PassesOwn.never rfl (i_range1 rfl T.z_range (a_cons (r_var (i := 0) rfl (by first | exact .inl rfl | exact .inr (.inl rfl) | exact .inr (.inr rfl))) a_nil)) (g_name (i := 3) nd rfl (by first | exact .inl rfl | exact .inr rfl)) (s_cons (s_setLc (i := 2) rfl rfl (sw_true rfl rfl rfl (by decide +kernel)) (own := [("kind", 4)]) rfl nd (i_walk (r_var (i := 2) rfl (by first | exact .inl rfl | exact .inr (.inl rfl) | exact .inr (.inr rfl)))) (blkOk_by (N := ["deep", "found", "last", "k", "kind"]) (sc := C8.fnScope s__law_kinds) (by decide +kernel)) (by decide) (fun _ _ _ _ _ => (g_name (i := 4) nd rfl (by first | exact .inl rfl | exact .inr rfl))) (fun _ _ _ _ _ => t_yes) (fun _ _ _ _ _ => (r_tup (a_cons r_str (a_cons (r_var (i := 4) rfl (by first | exact .inl rfl | exact .inr (.inl rfl) | exact .inr (.inr rfl))) a_nil))))) (s_one (s_set (i := 1) nd rfl (by first | exact .inl rfl | exact .inr rfl) (r_op op_addI f_add (r_var (i := 1) rfl (by first | exact .inl rfl | exact .inr (.inl rfl) | exact .inr (.inr rfl))) (r_var (i := 2) rfl (by first | exact .inl rfl | exact .inr (.inl rfl) | exact .inr (.inr rfl)))))))) (s_one (s_ret (r_var (i := 1) rfl (by first | exact .inl rfl | exact .inr (.inl rfl) | exact .inr (.inr rfl))))))))
theorem k_law (T : Tb P w K mg base n) {f : Addr} (cdv : Value) (A : Around) (outer : List PySem.Env) (s : Shared) (H : Hp) (E : XK) (hr : Room n (A.deeper (envOfC "law" (C8.fnScope s_law) s.heap.objs.size f cdv))) :
    PSs (cxOf CX0 P w K mg base ["script", "state", "kind", "k", "value", "rows", "one", "shape", "turn", "core", "told", "due", "other", "both", "wanted"] "law" (C8.fnScope s_law) f cdv A outer s H E).nox (C8.fnBody s_law) (tIS K (b_law (FF n))) :=
  have nd := sc_law.nd
  have hu := hu_of hr
  (s_cons (s_set (i := 1) nd rfl (by first | exact .inl rfl | exact .inr rfl) (r_call T.c__law_state (ar__law_state _) hr (Nat.le_refl _) rfl (a_cons (r_var (i := 0) rfl (by first | exact .inl rfl | exact .inr (.inl rfl) | exact .inr (.inr rfl))) a_nil))) (s_cons (s_set (i := 2) nd rfl (by first | exact .inl rfl | exact .inr rfl) (r_call T.c__law_type (ar__law_type _) hr (Nat.le_refl _) rfl (a_cons (r_var (i := 1) rfl (by first | exact .inl rfl | exact .inr (.inl rfl) | exact .inr (.inr rfl))) (a_cons r_int a_nil)))) (s_cons (s_for PassesOwn.never rfl (i_range1 rfl T.z_range (a_cons r_int a_nil)) (g_name (i := 3) nd rfl (by first | exact .inl rfl | exact .inr rfl)) (s_cons (s_set (i := 7) nd rfl (by first | exact .inl rfl | exact .inr rfl) (r_call T.c__law_pick (ar__law_pick _) hr (Nat.le_refl _) rfl (a_cons (r_var (i := 1) rfl (by first | exact .inl rfl | exact .inr (.inl rfl) | exact .inr (.inr rfl))) (a_cons (r_lst (a_cons r_str (a_cons r_str (a_cons r_str (a_cons r_str (a_cons r_str (a_cons r_str (a_cons r_str a_nil)))))))) a_nil)))) (s_cons (s_for PassesOwn.never rfl (i_range1 rfl T.z_range (a_cons (r_var (i := 3) rfl (by first | exact .inl rfl | exact .inr (.inl rfl) | exact .inr (.inr rfl))) a_nil)) (g_name (i := 8) nd rfl (by first | exact .inl rfl | exact .inr rfl)) (s_one (s_set (i := 7) nd rfl (by first | exact .inl rfl | exact .inr rfl) (r_tup (a_cons r_str (a_cons (r_var (i := 7) rfl (by first | exact .inl rfl | exact .inr (.inl rfl) | exact .inr (.inr rfl))) a_nil)))))) (s_cons (s_set (i := 9) nd rfl (by first | exact .inl rfl | exact .inr rfl) (r_var (i := 7) rfl (by first | exact .inl rfl | exact .inr (.inl rfl) | exact .inr (.inr rfl)))) (s_cons (s_for PassesOwn.never rfl (i_range1 rfl T.z_range (a_cons (r_var (i := 3) rfl (by first | exact .inl rfl | exact .inr (.inl rfl) | exact .inr (.inr rfl))) a_nil)) (g_name (i := 8) nd rfl (by first | exact .inl rfl | exact .inr rfl)) (s_one (s_set (i := 9) nd rfl (by first | exact .inl rfl | exact .inr rfl) (r_sub hu (r_var (i := 9) rfl (by first | exact .inl rfl | exact .inr (.inl rfl) | exact .inr (.inr rfl))) r_int (fun _ _ => rfl))))) (s_one (s_if (r_cmpT (op_neD hr.units) f_ne (r_callB cr_reprB f_repr rfl T.z_repr (by decide +kernel) (a_cons (r_call T.c_is_type (ar_is_type _) hr (Nat.le_refl _) rfl (a_cons (r_var (i := 7) rfl (by first | exact .inl rfl | exact .inr (.inl rfl) | exact .inr (.inr rfl))) a_nil)) a_nil)) (r_callB cr_reprB f_repr rfl T.z_repr (by decide +kernel) (a_cons (r_andV (r_cmp (op_inAll hu) f_inA (r_var (i := 9) rfl (by first | exact .inl rfl | exact .inr (.inl rfl) | exact .inr (.inr rfl))) (r_tup (a_cons r_str (a_cons r_str (a_cons r_str (a_cons r_str a_nil))))) (by with_unfolding_all rfl)) (r_one (r_cmp (op_leA hr.units0) f_le (r_var (i := 3) rfl (by first | exact .inl rfl | exact .inr (.inl rfl) | exact .inr (.inr rfl))) r_int (nomark _)))) a_nil)) (nomark _)) (s_one (s_ret r_bl)) s_nil))))))) (s_cons (s_set (i := 4) nd rfl (by first | exact .inl rfl | exact .inr rfl) (r_call T.c__law_value (ar__law_value _) hr (Nat.le_refl _) rfl (a_cons (r_var (i := 1) rfl (by first | exact .inl rfl | exact .inr (.inl rfl) | exact .inr (.inr rfl))) (a_cons (r_var (i := 2) rfl (by first | exact .inl rfl | exact .inr (.inl rfl) | exact .inr (.inr rfl))) a_nil)))) (s_cons (s_if (PW.pt (w_or (r_not (r_truth (r_call T.c_is_type (ar_is_type _) hr (Nat.le_refl _) rfl (a_cons (r_var (i := 2) rfl (by first | exact .inl rfl | exact .inr (.inl rfl) | exact .inr (.inr rfl))) a_nil)) (by intro _; rfl))) (w_or (r_cmpT op_isNotA f_isNot (r_call T.c_fits (ar_fits _) hr (Nat.le_refl _) rfl (a_cons (r_var (i := 4) rfl (by first | exact .inl rfl | exact .inr (.inl rfl) | exact .inr (.inr rfl))) (a_cons (r_var (i := 2) rfl (by first | exact .inl rfl | exact .inr (.inl rfl) | exact .inr (.inr rfl))) a_nil))) r_bl (nomark _)) (w_or (r_cmpT op_isNotA f_isNot (r_call T.c_is_value (ar_is_value _) hr (Nat.le_refl _) rfl (a_cons (r_var (i := 4) rfl (by first | exact .inl rfl | exact .inr (.inl rfl) | exact .inr (.inr rfl))) a_nil)) r_bl (nomark _)) (w_or1 (r_cmpT (op_neD hr.units) f_ne (r_call T.c_kind_of (ar_kind_of _) hr (Nat.le_refl _) rfl (a_cons (r_var (i := 4) rfl (by first | exact .inl rfl | exact .inr (.inl rfl) | exact .inr (.inr rfl))) a_nil)) (r_sub hu (r_var (i := 4) rfl (by first | exact .inl rfl | exact .inr (.inl rfl) | exact .inr (.inr rfl))) r_int (fun _ _ => rfl)) (nomark _))))))) (s_one (s_ret r_bl)) s_nil) (s_cons (s_setLc (i := 5) rfl rfl (sw_true rfl rfl rfl (by decide +kernel)) (own := [("k", 3)]) rfl nd (i_range1 rfl T.z_range (a_cons r_int a_nil)) (blkOk_by (N := ["script", "state", "kind", "k", "value", "rows", "one", "shape", "turn", "core", "told", "due", "other", "both", "wanted"]) (sc := C8.fnScope s_law) (by decide +kernel)) (by decide) (fun _ _ _ _ _ => (g_name (i := 3) nd rfl (by first | exact .inl rfl | exact .inr rfl))) (fun _ _ _ _ _ => t_yes) (fun _ _ _ _ _ => (r_call T.c__law_shape (ar__law_shape _) hr (Nat.le_refl _) rfl (a_cons (r_var (i := 1) rfl (by first | exact .inl rfl | exact .inr (.inl rfl) | exact .inr (.inr rfl))) (a_cons r_int a_nil))))) (s_cons (s_for PassesOwn.never rfl (i_walk (r_var (i := 5) rfl (by first | exact .inl rfl | exact .inr (.inl rfl) | exact .inr (.inr rfl)))) (g_name (i := 6) nd rfl (by first | exact .inl rfl | exact .inr rfl)) (s_cons (s_set (i := 10) nd rfl (by first | exact .inl rfl | exact .inr rfl) (r_call T.c_known_type (ar_known_type _) hr (Nat.le_refl _) rfl (a_cons (r_var (i := 6) rfl (by first | exact .inl rfl | exact .inr (.inl rfl) | exact .inr (.inr rfl))) a_nil))) (s_cons (s_set (i := 11) nd rfl (by first | exact .inl rfl | exact .inr rfl) (r_call T.c__law_known (ar__law_known _) hr (Nat.le_refl _) rfl (a_cons (r_var (i := 6) rfl (by first | exact .inl rfl | exact .inr (.inl rfl) | exact .inr (.inr rfl))) a_nil))) (s_cons (s_if (r_cmpT (op_neD hr.units) f_ne (r_var (i := 10) rfl (by first | exact .inl rfl | exact .inr (.inl rfl) | exact .inr (.inr rfl))) (r_ifExp (r_cmpT (op_eqD hr.units) f_eq (r_var (i := 11) rfl (by first | exact .inl rfl | exact .inr (.inl rfl) | exact .inr (.inr rfl))) r_str (nomark _)) r_bl (r_var (i := 11) rfl (by first | exact .inl rfl | exact .inr (.inl rfl) | exact .inr (.inr rfl)))) (nomark _)) (s_one (s_ret r_bl)) s_nil) (s_cons (s_if (r_cmpT (op_neD hr.units) f_ne (r_callB cr_reprB f_repr rfl T.z_repr (by decide +kernel) (a_cons (r_call T.c_is_value (ar_is_value _) hr (Nat.le_refl _) rfl (a_cons (r_var (i := 6) rfl (by first | exact .inl rfl | exact .inr (.inl rfl) | exact .inr (.inr rfl))) a_nil)) a_nil)) (r_callB cr_reprB f_repr rfl T.z_repr (by decide +kernel) (a_cons (r_andV (r_call T.c__law_within (ar__law_within _) hr (Nat.le_refl _) rfl (a_cons (r_var (i := 6) rfl (by first | exact .inl rfl | exact .inr (.inl rfl) | exact .inr (.inr rfl))) a_nil)) (r_andV (r_cmp (op_leA hr.units0) f_le (r_call T.c__law_depth (ar__law_depth _) hr (Nat.le_refl _) rfl (a_cons (r_var (i := 6) rfl (by first | exact .inl rfl | exact .inr (.inl rfl) | exact .inr (.inr rfl))) a_nil)) r_int (nomark _)) (r_one (r_cmp (op_neD hr.units) f_ne (r_var (i := 11) rfl (by first | exact .inl rfl | exact .inr (.inl rfl) | exact .inr (.inr rfl))) r_str (nomark _))))) a_nil)) (nomark _)) (s_one (s_ret r_bl)) s_nil) (s_cons (s_for PassesOwn.never rfl (i_walk (r_call T.c__law_kinds (ar__law_kinds _) hr (Nat.le_refl _) rfl (a_cons r_int a_nil))) (g_name (i := 12) nd rfl (by first | exact .inl rfl | exact .inr rfl)) (s_one (s_if (r_cmpT (op_neD hr.units) f_ne (r_callB cr_reprB f_repr rfl T.z_repr (by decide +kernel) (a_cons (r_call T.c_fits (ar_fits _) hr (Nat.le_refl _) rfl (a_cons (r_var (i := 6) rfl (by first | exact .inl rfl | exact .inr (.inl rfl) | exact .inr (.inr rfl))) (a_cons (r_var (i := 12) rfl (by first | exact .inl rfl | exact .inr (.inl rfl) | exact .inr (.inr rfl))) a_nil))) a_nil)) (r_callB cr_reprB f_repr rfl T.z_repr (by decide +kernel) (a_cons (r_call T.c__law_fits (ar__law_fits _) hr (Nat.le_refl _) rfl (a_cons (r_var (i := 6) rfl (by first | exact .inl rfl | exact .inr (.inl rfl) | exact .inr (.inr rfl))) (a_cons (r_var (i := 12) rfl (by first | exact .inl rfl | exact .inr (.inl rfl) | exact .inr (.inr rfl))) a_nil))) a_nil)) (nomark _)) (s_one (s_ret r_bl)) s_nil))) (s_one (s_for PassesOwn.never rfl (i_walk (r_var (i := 5) rfl (by first | exact .inl rfl | exact .inr (.inl rfl) | exact .inr (.inr rfl)))) (g_name (i := 12) nd rfl (by first | exact .inl rfl | exact .inr rfl)) (s_one (s_if (PW.pt (w_and (r_cmpT (op_neD hr.units) f_ne (r_call T.c__law_known (ar__law_known _) hr (Nat.le_refl _) rfl (a_cons (r_var (i := 12) rfl (by first | exact .inl rfl | exact .inr (.inl rfl) | exact .inr (.inr rfl))) a_nil)) r_str (nomark _)) (w_and1 (r_cmpT (op_neD hr.units) f_ne (r_var (i := 11) rfl (by first | exact .inl rfl | exact .inr (.inl rfl) | exact .inr (.inr rfl))) r_str (nomark _))))) (s_cons (s_set (i := 13) nd rfl (by first | exact .inl rfl | exact .inr rfl) (r_call T.c_joined (ar_joined _) hr (Nat.le_refl _) rfl (a_cons (r_var (i := 10) rfl (by first | exact .inl rfl | exact .inr (.inl rfl) | exact .inr (.inr rfl))) (a_cons (r_call T.c_known_type (ar_known_type _) hr (Nat.le_refl _) rfl (a_cons (r_var (i := 12) rfl (by first | exact .inl rfl | exact .inr (.inl rfl) | exact .inr (.inr rfl))) a_nil)) a_nil)))) (s_cons (s_set (i := 14) nd rfl (by first | exact .inl rfl | exact .inr rfl) (r_call T.c__law_both (ar__law_both _) hr (Nat.le_refl _) rfl (a_cons (r_var (i := 11) rfl (by first | exact .inl rfl | exact .inr (.inl rfl) | exact .inr (.inr rfl))) (a_cons (r_call T.c__law_known (ar__law_known _) hr (Nat.le_refl _) rfl (a_cons (r_var (i := 12) rfl (by first | exact .inl rfl | exact .inr (.inl rfl) | exact .inr (.inr rfl))) a_nil)) a_nil)))) (s_one (s_if (PW.pt (w_or (r_cmpT (op_neD hr.units) f_ne (r_var (i := 13) rfl (by first | exact .inl rfl | exact .inr (.inl rfl) | exact .inr (.inr rfl))) (r_ifExp (r_cmpT (op_eqD hr.units) f_eq (r_var (i := 14) rfl (by first | exact .inl rfl | exact .inr (.inl rfl) | exact .inr (.inr rfl))) r_str (nomark _)) r_bl (r_var (i := 14) rfl (by first | exact .inl rfl | exact .inr (.inl rfl) | exact .inr (.inr rfl)))) (nomark _)) (w_or1 (r_cmpT (op_neD hr.units) f_ne (r_call T.c_joined (ar_joined _) hr (Nat.le_refl _) rfl (a_cons (r_call T.c_known_type (ar_known_type _) hr (Nat.le_refl _) rfl (a_cons (r_var (i := 12) rfl (by first | exact .inl rfl | exact .inr (.inl rfl) | exact .inr (.inr rfl))) a_nil)) (a_cons (r_var (i := 10) rfl (by first | exact .inl rfl | exact .inr (.inl rfl) | exact .inr (.inr rfl))) a_nil))) (r_var (i := 13) rfl (by first | exact .inl rfl | exact .inr (.inl rfl) | exact .inr (.inr rfl))) (nomark _))))) (s_one (s_ret r_bl)) s_nil)))) s_nil)))))))))) (s_one (s_ret r_bl)))))))))
end
theorem def_mk {K : PySem.W.Frag} {h : Heap} {mg : Str → Option Value} {x : Str} {st : Stmt} {f : Addr} {oc kV dc pm cd ct : Value} {od an : Option Addr} {sl : Array (Option Value)} (X : K.In h) (G : h.Ns mainGlobals mg) (a : PySem.W.nsIn K mainGlobals x = some (some (.ref f)))
    (l : K.lookup f = some ⟨oc, od, .func (PySem.W.fnOf x x (C8.fnArgs st) (C8.fnBody st) (C8.fnScope st) .none kV dc pm an cd ct), sl⟩) (c : PySem.W.codeIn K cd x = true) (k : PySem.W.keepIn K (.ref f) = true) :
    C8.Def K mg x st f (PySem.W.fnOf x x (C8.fnArgs st) (C8.fnBody st) (C8.fnScope st) .none kV dc pm an cd ct) := ⟨⟨_, _, _, _, _, _, _, _, _, _, rfl, l, c⟩, PySem.W.mg_of X G a, k⟩
theorem cal_zero {P : Program} {w : World} {K : PySem.W.Frag} {mg : Str → Option Value} {base : Heap} {x : Str} {st : Stmt} {f : Addr} {fd : FuncData} {ps : List Str} (F : C8.Def K mg x st f fd) (b : Binds K fd ps []) : CalI P w K mg base 0 x ps.length (fun _ _ => none) :=
  ⟨f, fd, ps, [], ⟨fun vs H Q E h => h.1, fun A outer s H args us vs Q E hr e0 hb r h => by obtain ⟨_, _, _, _, _, _, _, _, q, _⟩ := h; cases q⟩, F.mgf, F.kp, b, .nil⟩
theorem t_is_type {P : Program} {w : World} {K : PySem.W.Frag} {mg : Str → Option Value} {base : Heap} {n : Nat} {f : Addr} {fd : FuncData} (F : C8.Def K mg "is_type" s_is_type f fd) (b : Binds K fd ["kind"] []) (T : Tb P w K mg base n) : CalI P w K mg base (n + 1) "is_type" 1 (FF (n + 1) 0) := cal_def F b sc_is_type (k_is_type T)
theorem t_kind_of {P : Program} {w : World} {K : PySem.W.Frag} {mg : Str → Option Value} {base : Heap} {n : Nat} {f : Addr} {fd : FuncData} (F : C8.Def K mg "kind_of" s_kind_of f fd) (b : Binds K fd ["value"] []) (T : Tb P w K mg base n) : CalI P w K mg base (n + 1) "kind_of" 1 (FF (n + 1) 1) := cal_def F b sc_kind_of (k_kind_of T)
theorem t_is_letter {P : Program} {w : World} {K : PySem.W.Frag} {mg : Str → Option Value} {base : Heap} {n : Nat} {f : Addr} {fd : FuncData} (F : C8.Def K mg "is_letter" s_is_letter f fd) (b : Binds K fd ["letter"] []) (T : Tb P w K mg base n) : CalI P w K mg base (n + 1) "is_letter" 1 (FF (n + 1) 2) := cal_def F b sc_is_letter (k_is_letter T)
theorem t__bounded_at {P : Program} {w : World} {K : PySem.W.Frag} {mg : Str → Option Value} {base : Heap} {n : Nat} {f : Addr} {fd : FuncData} (F : C8.Def K mg "_bounded_at" s__bounded_at f fd) (b : Binds K fd ["value", "depth"] []) (T : Tb P w K mg base n) : CalI P w K mg base (n + 1) "_bounded_at" 2 (FF (n + 1) 3) := cal_def F b sc__bounded_at (k__bounded_at T)
theorem t_is_bounded {P : Program} {w : World} {K : PySem.W.Frag} {mg : Str → Option Value} {base : Heap} {n : Nat} {f : Addr} {fd : FuncData} (F : C8.Def K mg "is_bounded" s_is_bounded f fd) (b : Binds K fd ["value"] []) (T : Tb P w K mg base n) : CalI P w K mg base (n + 1) "is_bounded" 1 (FF (n + 1) 4) := cal_def F b sc_is_bounded (k_is_bounded T)
theorem t_is_value {P : Program} {w : World} {K : PySem.W.Frag} {mg : Str → Option Value} {base : Heap} {n : Nat} {f : Addr} {fd : FuncData} (F : C8.Def K mg "is_value" s_is_value f fd) (b : Binds K fd ["value"] []) (T : Tb P w K mg base n) : CalI P w K mg base (n + 1) "is_value" 1 (FF (n + 1) 5) := cal_def F b sc_is_value (k_is_value T)
theorem t_fits {P : Program} {w : World} {K : PySem.W.Frag} {mg : Str → Option Value} {base : Heap} {n : Nat} {f : Addr} {fd : FuncData} (F : C8.Def K mg "fits" s_fits f fd) (b : Binds K fd ["value", "kind"] []) (T : Tb P w K mg base n) : CalI P w K mg base (n + 1) "fits" 2 (FF (n + 1) 6) := cal_def F b sc_fits (k_fits T)
theorem t_known_type {P : Program} {w : World} {K : PySem.W.Frag} {mg : Str → Option Value} {base : Heap} {n : Nat} {f : Addr} {fd : FuncData} (F : C8.Def K mg "known_type" s_known_type f fd) (b : Binds K fd ["value"] []) (T : Tb P w K mg base n) : CalI P w K mg base (n + 1) "known_type" 1 (FF (n + 1) 7) := cal_def F b sc_known_type (k_known_type T)
theorem t_joined {P : Program} {w : World} {K : PySem.W.Frag} {mg : Str → Option Value} {base : Heap} {n : Nat} {f : Addr} {fd : FuncData} (F : C8.Def K mg "joined" s_joined f fd) (b : Binds K fd ["one", "other"] []) (T : Tb P w K mg base n) : CalI P w K mg base (n + 1) "joined" 2 (FF (n + 1) 8) := cal_def F b sc_joined (k_joined T)
theorem t__law_state {P : Program} {w : World} {K : PySem.W.Frag} {mg : Str → Option Value} {base : Heap} {n : Nat} {f : Addr} {fd : FuncData} (F : C8.Def K mg "_law_state" s__law_state f fd) (b : Binds K fd ["script"] []) (T : Tb P w K mg base n) : CalI P w K mg base (n + 1) "_law_state" 1 (FF (n + 1) 9) := cal_def F b sc__law_state (k__law_state T)
theorem t__law_draw {P : Program} {w : World} {K : PySem.W.Frag} {mg : Str → Option Value} {base : Heap} {n : Nat} {f : Addr} {fd : FuncData} (F : C8.Def K mg "_law_draw" s__law_draw f fd) (b : Binds K fd ["state", "many"] []) (T : Tb P w K mg base n) : CalI P w K mg base (n + 1) "_law_draw" 2 (FF (n + 1) 10) := cal_def F b sc__law_draw (k__law_draw T)
theorem t__law_pick {P : Program} {w : World} {K : PySem.W.Frag} {mg : Str → Option Value} {base : Heap} {n : Nat} {f : Addr} {fd : FuncData} (F : C8.Def K mg "_law_pick" s__law_pick f fd) (b : Binds K fd ["state", "row"] []) (T : Tb P w K mg base n) : CalI P w K mg base (n + 1) "_law_pick" 2 (FF (n + 1) 11) := cal_def F b sc__law_pick (k__law_pick T)
theorem t__law_type {P : Program} {w : World} {K : PySem.W.Frag} {mg : Str → Option Value} {base : Heap} {n : Nat} {f : Addr} {fd : FuncData} (F : C8.Def K mg "_law_type" s__law_type f fd) (b : Binds K fd ["state", "deep"] []) (T : Tb P w K mg base n) : CalI P w K mg base (n + 1) "_law_type" 2 (FF (n + 1) 12) := cal_def F b sc__law_type (k__law_type T)
theorem t__law_value {P : Program} {w : World} {K : PySem.W.Frag} {mg : Str → Option Value} {base : Heap} {n : Nat} {f : Addr} {fd : FuncData} (F : C8.Def K mg "_law_value" s__law_value f fd) (b : Binds K fd ["state", "kind"] []) (T : Tb P w K mg base n) : CalI P w K mg base (n + 1) "_law_value" 2 (FF (n + 1) 13) := cal_def F b sc__law_value (k__law_value T)
theorem t__law_deep_list {P : Program} {w : World} {K : PySem.W.Frag} {mg : Str → Option Value} {base : Heap} {n : Nat} {f : Addr} {fd : FuncData} (F : C8.Def K mg "_law_deep_list" s__law_deep_list f fd) (b : Binds K fd ["value", "count"] []) (T : Tb P w K mg base n) : CalI P w K mg base (n + 1) "_law_deep_list" 2 (FF (n + 1) 14) := cal_def F b sc__law_deep_list (k__law_deep_list T)
theorem t__law_shape {P : Program} {w : World} {K : PySem.W.Frag} {mg : Str → Option Value} {base : Heap} {n : Nat} {f : Addr} {fd : FuncData} (F : C8.Def K mg "_law_shape" s__law_shape f fd) (b : Binds K fd ["state", "deep"] []) (T : Tb P w K mg base n) : CalI P w K mg base (n + 1) "_law_shape" 2 (FF (n + 1) 15) := cal_def F b sc__law_shape (k__law_shape T)
theorem t__law_within {P : Program} {w : World} {K : PySem.W.Frag} {mg : Str → Option Value} {base : Heap} {n : Nat} {f : Addr} {fd : FuncData} (F : C8.Def K mg "_law_within" s__law_within f fd) (b : Binds K fd ["value"] []) (T : Tb P w K mg base n) : CalI P w K mg base (n + 1) "_law_within" 1 (FF (n + 1) 16) := cal_def F b sc__law_within (k__law_within T)
theorem t__law_depth {P : Program} {w : World} {K : PySem.W.Frag} {mg : Str → Option Value} {base : Heap} {n : Nat} {f : Addr} {fd : FuncData} (F : C8.Def K mg "_law_depth" s__law_depth f fd) (b : Binds K fd ["value"] []) (T : Tb P w K mg base n) : CalI P w K mg base (n + 1) "_law_depth" 1 (FF (n + 1) 17) := cal_def F b sc__law_depth (k__law_depth T)
theorem t__law_fits {P : Program} {w : World} {K : PySem.W.Frag} {mg : Str → Option Value} {base : Heap} {n : Nat} {f : Addr} {fd : FuncData} (F : C8.Def K mg "_law_fits" s__law_fits f fd) (b : Binds K fd ["value", "kind"] []) (T : Tb P w K mg base n) : CalI P w K mg base (n + 1) "_law_fits" 2 (FF (n + 1) 18) := cal_def F b sc__law_fits (k__law_fits T)
theorem t__law_known {P : Program} {w : World} {K : PySem.W.Frag} {mg : Str → Option Value} {base : Heap} {n : Nat} {f : Addr} {fd : FuncData} (F : C8.Def K mg "_law_known" s__law_known f fd) (b : Binds K fd ["value"] []) (T : Tb P w K mg base n) : CalI P w K mg base (n + 1) "_law_known" 1 (FF (n + 1) 19) := cal_def F b sc__law_known (k__law_known T)
theorem t__law_both {P : Program} {w : World} {K : PySem.W.Frag} {mg : Str → Option Value} {base : Heap} {n : Nat} {f : Addr} {fd : FuncData} (F : C8.Def K mg "_law_both" s__law_both f fd) (b : Binds K fd ["one", "other"] []) (T : Tb P w K mg base n) : CalI P w K mg base (n + 1) "_law_both" 2 (FF (n + 1) 20) := cal_def F b sc__law_both (k__law_both T)
theorem t__law_kinds {P : Program} {w : World} {K : PySem.W.Frag} {mg : Str → Option Value} {base : Heap} {n : Nat} {f : Addr} {fd : FuncData} (F : C8.Def K mg "_law_kinds" s__law_kinds f fd) (b : Binds K fd ["deep"] []) (T : Tb P w K mg base n) : CalI P w K mg base (n + 1) "_law_kinds" 1 (FF (n + 1) 21) := cal_def F b sc__law_kinds (k__law_kinds T)
theorem t_law {P : Program} {w : World} {K : PySem.W.Frag} {mg : Str → Option Value} {base : Heap} {n : Nat} {f : Addr} {fd : FuncData} (F : C8.Def K mg "law" s_law f fd) (b : Binds K fd ["script"] []) (T : Tb P w K mg base n) : CalI P w K mg base (n + 1) "law" 1 (FF (n + 1) 22) := cal_def F b sc_law (k_law T)
set_option maxHeartbeats 0 in
theorem all_tb {P : Program} {w : World} {K : PySem.W.Frag} {h : Heap} {mg : Str → Option Value} {base : Heap} (X : K.In h) (G : h.Ns mainGlobals mg)
    {f0 f1 f2 f3 f4 f5 f6 f7 f8 f9 f10 f11 f12 f13 f14 f15 f16 f17 f18 f19 f20 f21 f22 : Addr} {od0 an0 od1 an1 od2 an2 od3 an3 od4 an4 od5 an5 od6 an6 od7 an7 od8 an8 od9 an9 od10 an10 od11 an11 od12 an12 od13 an13 od14 an14 od15 an15 od16 an16 od17 an17 od18 an18 od19 an19 od20 an20 od21 an21 od22 an22 : Option Addr} {sl0 sl1 sl2 sl3 sl4 sl5 sl6 sl7 sl8 sl9 sl10 sl11 sl12 sl13 sl14 sl15 sl16 sl17 sl18 sl19 sl20 sl21 sl22 : Array (Option Value)} {oc0 kV0 dc0 pm0 cd0 ct0 oc1 kV1 dc1 pm1 cd1 ct1 oc2 kV2 dc2 pm2 cd2 ct2 oc3 kV3 dc3 pm3 cd3 ct3 oc4 kV4 dc4 pm4 cd4 ct4 oc5 kV5 dc5 pm5 cd5 ct5 oc6 kV6 dc6 pm6 cd6 ct6 oc7 kV7 dc7 pm7 cd7 ct7 oc8 kV8 dc8 pm8 cd8 ct8 oc9 kV9 dc9 pm9 cd9 ct9 oc10 kV10 dc10 pm10 cd10 ct10 oc11 kV11 dc11 pm11 cd11 ct11 oc12 kV12 dc12 pm12 cd12 ct12 oc13 kV13 dc13 pm13 cd13 ct13 oc14 kV14 dc14 pm14 cd14 ct14 oc15 kV15 dc15 pm15 cd15 ct15 oc16 kV16 dc16 pm16 cd16 ct16 oc17 kV17 dc17 pm17 cd17 ct17 oc18 kV18 dc18 pm18 cd18 ct18 oc19 kV19 dc19 pm19 cd19 ct19 oc20 kV20 dc20 pm20 cd20 ct20 oc21 kV21 dc21 pm21 cd21 ct21 oc22 kV22 dc22 pm22 cd22 ct22 : Value}
    (a0 : PySem.W.nsIn K mainGlobals "is_type" = some (some (.ref f0))) (l0 : K.lookup f0 = some ⟨oc0, od0, .func (PySem.W.fnOf "is_type" "is_type" (C8.fnArgs s_is_type) (C8.fnBody s_is_type) (C8.fnScope s_is_type) .none kV0 dc0 pm0 an0 cd0 ct0), sl0⟩) (c0 : PySem.W.codeIn K cd0 "is_type" = true) (k0 : PySem.W.keepIn K (.ref f0) = true)
    (a1 : PySem.W.nsIn K mainGlobals "kind_of" = some (some (.ref f1))) (l1 : K.lookup f1 = some ⟨oc1, od1, .func (PySem.W.fnOf "kind_of" "kind_of" (C8.fnArgs s_kind_of) (C8.fnBody s_kind_of) (C8.fnScope s_kind_of) .none kV1 dc1 pm1 an1 cd1 ct1), sl1⟩) (c1 : PySem.W.codeIn K cd1 "kind_of" = true) (k1 : PySem.W.keepIn K (.ref f1) = true)
    (a2 : PySem.W.nsIn K mainGlobals "is_letter" = some (some (.ref f2))) (l2 : K.lookup f2 = some ⟨oc2, od2, .func (PySem.W.fnOf "is_letter" "is_letter" (C8.fnArgs s_is_letter) (C8.fnBody s_is_letter) (C8.fnScope s_is_letter) .none kV2 dc2 pm2 an2 cd2 ct2), sl2⟩) (c2 : PySem.W.codeIn K cd2 "is_letter" = true) (k2 : PySem.W.keepIn K (.ref f2) = true)
    (a3 : PySem.W.nsIn K mainGlobals "_bounded_at" = some (some (.ref f3))) (l3 : K.lookup f3 = some ⟨oc3, od3, .func (PySem.W.fnOf "_bounded_at" "_bounded_at" (C8.fnArgs s__bounded_at) (C8.fnBody s__bounded_at) (C8.fnScope s__bounded_at) .none kV3 dc3 pm3 an3 cd3 ct3), sl3⟩) (c3 : PySem.W.codeIn K cd3 "_bounded_at" = true) (k3 : PySem.W.keepIn K (.ref f3) = true)
    (a4 : PySem.W.nsIn K mainGlobals "is_bounded" = some (some (.ref f4))) (l4 : K.lookup f4 = some ⟨oc4, od4, .func (PySem.W.fnOf "is_bounded" "is_bounded" (C8.fnArgs s_is_bounded) (C8.fnBody s_is_bounded) (C8.fnScope s_is_bounded) .none kV4 dc4 pm4 an4 cd4 ct4), sl4⟩) (c4 : PySem.W.codeIn K cd4 "is_bounded" = true) (k4 : PySem.W.keepIn K (.ref f4) = true)
    (a5 : PySem.W.nsIn K mainGlobals "is_value" = some (some (.ref f5))) (l5 : K.lookup f5 = some ⟨oc5, od5, .func (PySem.W.fnOf "is_value" "is_value" (C8.fnArgs s_is_value) (C8.fnBody s_is_value) (C8.fnScope s_is_value) .none kV5 dc5 pm5 an5 cd5 ct5), sl5⟩) (c5 : PySem.W.codeIn K cd5 "is_value" = true) (k5 : PySem.W.keepIn K (.ref f5) = true)
    (a6 : PySem.W.nsIn K mainGlobals "fits" = some (some (.ref f6))) (l6 : K.lookup f6 = some ⟨oc6, od6, .func (PySem.W.fnOf "fits" "fits" (C8.fnArgs s_fits) (C8.fnBody s_fits) (C8.fnScope s_fits) .none kV6 dc6 pm6 an6 cd6 ct6), sl6⟩) (c6 : PySem.W.codeIn K cd6 "fits" = true) (k6 : PySem.W.keepIn K (.ref f6) = true)
    (a7 : PySem.W.nsIn K mainGlobals "known_type" = some (some (.ref f7))) (l7 : K.lookup f7 = some ⟨oc7, od7, .func (PySem.W.fnOf "known_type" "known_type" (C8.fnArgs s_known_type) (C8.fnBody s_known_type) (C8.fnScope s_known_type) .none kV7 dc7 pm7 an7 cd7 ct7), sl7⟩) (c7 : PySem.W.codeIn K cd7 "known_type" = true) (k7 : PySem.W.keepIn K (.ref f7) = true)
    (a8 : PySem.W.nsIn K mainGlobals "joined" = some (some (.ref f8))) (l8 : K.lookup f8 = some ⟨oc8, od8, .func (PySem.W.fnOf "joined" "joined" (C8.fnArgs s_joined) (C8.fnBody s_joined) (C8.fnScope s_joined) .none kV8 dc8 pm8 an8 cd8 ct8), sl8⟩) (c8 : PySem.W.codeIn K cd8 "joined" = true) (k8 : PySem.W.keepIn K (.ref f8) = true)
    (a9 : PySem.W.nsIn K mainGlobals "_law_state" = some (some (.ref f9))) (l9 : K.lookup f9 = some ⟨oc9, od9, .func (PySem.W.fnOf "_law_state" "_law_state" (C8.fnArgs s__law_state) (C8.fnBody s__law_state) (C8.fnScope s__law_state) .none kV9 dc9 pm9 an9 cd9 ct9), sl9⟩) (c9 : PySem.W.codeIn K cd9 "_law_state" = true) (k9 : PySem.W.keepIn K (.ref f9) = true)
    (a10 : PySem.W.nsIn K mainGlobals "_law_draw" = some (some (.ref f10))) (l10 : K.lookup f10 = some ⟨oc10, od10, .func (PySem.W.fnOf "_law_draw" "_law_draw" (C8.fnArgs s__law_draw) (C8.fnBody s__law_draw) (C8.fnScope s__law_draw) .none kV10 dc10 pm10 an10 cd10 ct10), sl10⟩) (c10 : PySem.W.codeIn K cd10 "_law_draw" = true) (k10 : PySem.W.keepIn K (.ref f10) = true)
    (a11 : PySem.W.nsIn K mainGlobals "_law_pick" = some (some (.ref f11))) (l11 : K.lookup f11 = some ⟨oc11, od11, .func (PySem.W.fnOf "_law_pick" "_law_pick" (C8.fnArgs s__law_pick) (C8.fnBody s__law_pick) (C8.fnScope s__law_pick) .none kV11 dc11 pm11 an11 cd11 ct11), sl11⟩) (c11 : PySem.W.codeIn K cd11 "_law_pick" = true) (k11 : PySem.W.keepIn K (.ref f11) = true)
    (a12 : PySem.W.nsIn K mainGlobals "_law_type" = some (some (.ref f12))) (l12 : K.lookup f12 = some ⟨oc12, od12, .func (PySem.W.fnOf "_law_type" "_law_type" (C8.fnArgs s__law_type) (C8.fnBody s__law_type) (C8.fnScope s__law_type) .none kV12 dc12 pm12 an12 cd12 ct12), sl12⟩) (c12 : PySem.W.codeIn K cd12 "_law_type" = true) (k12 : PySem.W.keepIn K (.ref f12) = true)
    (a13 : PySem.W.nsIn K mainGlobals "_law_value" = some (some (.ref f13))) (l13 : K.lookup f13 = some ⟨oc13, od13, .func (PySem.W.fnOf "_law_value" "_law_value" (C8.fnArgs s__law_value) (C8.fnBody s__law_value) (C8.fnScope s__law_value) .none kV13 dc13 pm13 an13 cd13 ct13), sl13⟩) (c13 : PySem.W.codeIn K cd13 "_law_value" = true) (k13 : PySem.W.keepIn K (.ref f13) = true)
    (a14 : PySem.W.nsIn K mainGlobals "_law_deep_list" = some (some (.ref f14))) (l14 : K.lookup f14 = some ⟨oc14, od14, .func (PySem.W.fnOf "_law_deep_list" "_law_deep_list" (C8.fnArgs s__law_deep_list) (C8.fnBody s__law_deep_list) (C8.fnScope s__law_deep_list) .none kV14 dc14 pm14 an14 cd14 ct14), sl14⟩) (c14 : PySem.W.codeIn K cd14 "_law_deep_list" = true) (k14 : PySem.W.keepIn K (.ref f14) = true)
    (a15 : PySem.W.nsIn K mainGlobals "_law_shape" = some (some (.ref f15))) (l15 : K.lookup f15 = some ⟨oc15, od15, .func (PySem.W.fnOf "_law_shape" "_law_shape" (C8.fnArgs s__law_shape) (C8.fnBody s__law_shape) (C8.fnScope s__law_shape) .none kV15 dc15 pm15 an15 cd15 ct15), sl15⟩) (c15 : PySem.W.codeIn K cd15 "_law_shape" = true) (k15 : PySem.W.keepIn K (.ref f15) = true)
    (a16 : PySem.W.nsIn K mainGlobals "_law_within" = some (some (.ref f16))) (l16 : K.lookup f16 = some ⟨oc16, od16, .func (PySem.W.fnOf "_law_within" "_law_within" (C8.fnArgs s__law_within) (C8.fnBody s__law_within) (C8.fnScope s__law_within) .none kV16 dc16 pm16 an16 cd16 ct16), sl16⟩) (c16 : PySem.W.codeIn K cd16 "_law_within" = true) (k16 : PySem.W.keepIn K (.ref f16) = true)
    (a17 : PySem.W.nsIn K mainGlobals "_law_depth" = some (some (.ref f17))) (l17 : K.lookup f17 = some ⟨oc17, od17, .func (PySem.W.fnOf "_law_depth" "_law_depth" (C8.fnArgs s__law_depth) (C8.fnBody s__law_depth) (C8.fnScope s__law_depth) .none kV17 dc17 pm17 an17 cd17 ct17), sl17⟩) (c17 : PySem.W.codeIn K cd17 "_law_depth" = true) (k17 : PySem.W.keepIn K (.ref f17) = true)
    (a18 : PySem.W.nsIn K mainGlobals "_law_fits" = some (some (.ref f18))) (l18 : K.lookup f18 = some ⟨oc18, od18, .func (PySem.W.fnOf "_law_fits" "_law_fits" (C8.fnArgs s__law_fits) (C8.fnBody s__law_fits) (C8.fnScope s__law_fits) .none kV18 dc18 pm18 an18 cd18 ct18), sl18⟩) (c18 : PySem.W.codeIn K cd18 "_law_fits" = true) (k18 : PySem.W.keepIn K (.ref f18) = true)
    (a19 : PySem.W.nsIn K mainGlobals "_law_known" = some (some (.ref f19))) (l19 : K.lookup f19 = some ⟨oc19, od19, .func (PySem.W.fnOf "_law_known" "_law_known" (C8.fnArgs s__law_known) (C8.fnBody s__law_known) (C8.fnScope s__law_known) .none kV19 dc19 pm19 an19 cd19 ct19), sl19⟩) (c19 : PySem.W.codeIn K cd19 "_law_known" = true) (k19 : PySem.W.keepIn K (.ref f19) = true)
    (a20 : PySem.W.nsIn K mainGlobals "_law_both" = some (some (.ref f20))) (l20 : K.lookup f20 = some ⟨oc20, od20, .func (PySem.W.fnOf "_law_both" "_law_both" (C8.fnArgs s__law_both) (C8.fnBody s__law_both) (C8.fnScope s__law_both) .none kV20 dc20 pm20 an20 cd20 ct20), sl20⟩) (c20 : PySem.W.codeIn K cd20 "_law_both" = true) (k20 : PySem.W.keepIn K (.ref f20) = true)
    (a21 : PySem.W.nsIn K mainGlobals "_law_kinds" = some (some (.ref f21))) (l21 : K.lookup f21 = some ⟨oc21, od21, .func (PySem.W.fnOf "_law_kinds" "_law_kinds" (C8.fnArgs s__law_kinds) (C8.fnBody s__law_kinds) (C8.fnScope s__law_kinds) .none kV21 dc21 pm21 an21 cd21 ct21), sl21⟩) (c21 : PySem.W.codeIn K cd21 "_law_kinds" = true) (k21 : PySem.W.keepIn K (.ref f21) = true)
    (a22 : PySem.W.nsIn K mainGlobals "law" = some (some (.ref f22))) (l22 : K.lookup f22 = some ⟨oc22, od22, .func (PySem.W.fnOf "law" "law" (C8.fnArgs s_law) (C8.fnBody s_law) (C8.fnScope s_law) .none kV22 dc22 pm22 an22 cd22 ct22), sl22⟩) (c22 : PySem.W.codeIn K cd22 "law" = true) (k22 : PySem.W.keepIn K (.ref f22) = true)
    (z_abs : PySem.W.nsIn K mainGlobals "abs" = some none) (z_all : PySem.W.nsIn K mainGlobals "all" = some none) (z_int : PySem.W.nsIn K mainGlobals "int" = some none) (z_isinstance : PySem.W.nsIn K mainGlobals "isinstance" = some none) (z_len : PySem.W.nsIn K mainGlobals "len" = some none) (z_max : PySem.W.nsIn K mainGlobals "max" = some none) (z_range : PySem.W.nsIn K mainGlobals "range" = some none) (z_repr : PySem.W.nsIn K mainGlobals "repr" = some none) (z_tuple : PySem.W.nsIn K mainGlobals "tuple" = some none) (g_SIMPLE_KINDS : GC K mg "SIMPLE_KINDS" c_SIMPLE_KINDS) (g_MOST_NUMBER : GC K mg "MOST_NUMBER" c_MOST_NUMBER) (g_MOST_LETTERS : GC K mg "MOST_LETTERS" c_MOST_LETTERS) (g_MOST_ITEMS : GC K mg "MOST_ITEMS" c_MOST_ITEMS) (g_MOST_DEPTH : GC K mg "MOST_DEPTH" c_MOST_DEPTH) :
    ∀ n, Tb P w K mg base n ∧ FnOk P w K mg base CX0 (n + 1) f22 (PySem.W.fnOf "law" "law" (C8.fnArgs s_law) (C8.fnBody s_law) (C8.fnScope s_law) .none kV22 dc22 pm22 an22 cd22 ct22) ["script"] (spI K 1 (FF (n + 1) 22)) := by
  have D0 := def_mk (st := s_is_type) X G a0 l0 c0 k0
  have B0 := D0.fn.binds rfl (ps := ["kind"]) fun _ _ _ _ _ _ us hl => match us, hl with | [_], _ => rfl
  have D1 := def_mk (st := s_kind_of) X G a1 l1 c1 k1
  have B1 := D1.fn.binds rfl (ps := ["value"]) fun _ _ _ _ _ _ us hl => match us, hl with | [_], _ => rfl
  have D2 := def_mk (st := s_is_letter) X G a2 l2 c2 k2
  have B2 := D2.fn.binds rfl (ps := ["letter"]) fun _ _ _ _ _ _ us hl => match us, hl with | [_], _ => rfl
  have D3 := def_mk (st := s__bounded_at) X G a3 l3 c3 k3
  have B3 := D3.fn.binds rfl (ps := ["value", "depth"]) fun _ _ _ _ _ _ us hl => match us, hl with | [_, _], _ => rfl
  have D4 := def_mk (st := s_is_bounded) X G a4 l4 c4 k4
  have B4 := D4.fn.binds rfl (ps := ["value"]) fun _ _ _ _ _ _ us hl => match us, hl with | [_], _ => rfl
  have D5 := def_mk (st := s_is_value) X G a5 l5 c5 k5
  have B5 := D5.fn.binds rfl (ps := ["value"]) fun _ _ _ _ _ _ us hl => match us, hl with | [_], _ => rfl
  have D6 := def_mk (st := s_fits) X G a6 l6 c6 k6
  have B6 := D6.fn.binds rfl (ps := ["value", "kind"]) fun _ _ _ _ _ _ us hl => match us, hl with | [_, _], _ => rfl
  have D7 := def_mk (st := s_known_type) X G a7 l7 c7 k7
  have B7 := D7.fn.binds rfl (ps := ["value"]) fun _ _ _ _ _ _ us hl => match us, hl with | [_], _ => rfl
  have D8 := def_mk (st := s_joined) X G a8 l8 c8 k8
  have B8 := D8.fn.binds rfl (ps := ["one", "other"]) fun _ _ _ _ _ _ us hl => match us, hl with | [_, _], _ => rfl
  have D9 := def_mk (st := s__law_state) X G a9 l9 c9 k9
  have B9 := D9.fn.binds rfl (ps := ["script"]) fun _ _ _ _ _ _ us hl => match us, hl with | [_], _ => rfl
  have D10 := def_mk (st := s__law_draw) X G a10 l10 c10 k10
  have B10 := D10.fn.binds rfl (ps := ["state", "many"]) fun _ _ _ _ _ _ us hl => match us, hl with | [_, _], _ => rfl
  have D11 := def_mk (st := s__law_pick) X G a11 l11 c11 k11
  have B11 := D11.fn.binds rfl (ps := ["state", "row"]) fun _ _ _ _ _ _ us hl => match us, hl with | [_, _], _ => rfl
  have D12 := def_mk (st := s__law_type) X G a12 l12 c12 k12
  have B12 := D12.fn.binds rfl (ps := ["state", "deep"]) fun _ _ _ _ _ _ us hl => match us, hl with | [_, _], _ => rfl
  have D13 := def_mk (st := s__law_value) X G a13 l13 c13 k13
  have B13 := D13.fn.binds rfl (ps := ["state", "kind"]) fun _ _ _ _ _ _ us hl => match us, hl with | [_, _], _ => rfl
  have D14 := def_mk (st := s__law_deep_list) X G a14 l14 c14 k14
  have B14 := D14.fn.binds rfl (ps := ["value", "count"]) fun _ _ _ _ _ _ us hl => match us, hl with | [_, _], _ => rfl
  have D15 := def_mk (st := s__law_shape) X G a15 l15 c15 k15
  have B15 := D15.fn.binds rfl (ps := ["state", "deep"]) fun _ _ _ _ _ _ us hl => match us, hl with | [_, _], _ => rfl
  have D16 := def_mk (st := s__law_within) X G a16 l16 c16 k16
  have B16 := D16.fn.binds rfl (ps := ["value"]) fun _ _ _ _ _ _ us hl => match us, hl with | [_], _ => rfl
  have D17 := def_mk (st := s__law_depth) X G a17 l17 c17 k17
  have B17 := D17.fn.binds rfl (ps := ["value"]) fun _ _ _ _ _ _ us hl => match us, hl with | [_], _ => rfl
  have D18 := def_mk (st := s__law_fits) X G a18 l18 c18 k18
  have B18 := D18.fn.binds rfl (ps := ["value", "kind"]) fun _ _ _ _ _ _ us hl => match us, hl with | [_, _], _ => rfl
  have D19 := def_mk (st := s__law_known) X G a19 l19 c19 k19
  have B19 := D19.fn.binds rfl (ps := ["value"]) fun _ _ _ _ _ _ us hl => match us, hl with | [_], _ => rfl
  have D20 := def_mk (st := s__law_both) X G a20 l20 c20 k20
  have B20 := D20.fn.binds rfl (ps := ["one", "other"]) fun _ _ _ _ _ _ us hl => match us, hl with | [_, _], _ => rfl
  have D21 := def_mk (st := s__law_kinds) X G a21 l21 c21 k21
  have B21 := D21.fn.binds rfl (ps := ["deep"]) fun _ _ _ _ _ _ us hl => match us, hl with | [_], _ => rfl
  have D22 := def_mk (st := s_law) X G a22 l22 c22 k22
  have B22 := D22.fn.binds rfl (ps := ["script"]) fun _ _ _ _ _ _ us hl => match us, hl with | [_], _ => rfl
  have Z_abs := PySem.W.mg_none_of X G z_abs
  have Z_all := PySem.W.mg_none_of X G z_all
  have Z_int := PySem.W.mg_none_of X G z_int
  have Z_isinstance := PySem.W.mg_none_of X G z_isinstance
  have Z_len := PySem.W.mg_none_of X G z_len
  have Z_max := PySem.W.mg_none_of X G z_max
  have Z_range := PySem.W.mg_none_of X G z_range
  have Z_repr := PySem.W.mg_none_of X G z_repr
  have Z_tuple := PySem.W.mg_none_of X G z_tuple
  have all : ∀ n, Tb P w K mg base n := by
    intro n
    induction n with
    | zero => exact ⟨Z_abs, Z_all, Z_int, Z_isinstance, Z_len, Z_max, Z_range, Z_repr, Z_tuple, g_SIMPLE_KINDS, g_MOST_NUMBER, g_MOST_LETTERS, g_MOST_ITEMS, g_MOST_DEPTH, cal_zero D0 B0, cal_zero D1 B1, cal_zero D2 B2, cal_zero D3 B3, cal_zero D4 B4, cal_zero D5 B5, cal_zero D6 B6, cal_zero D7 B7, cal_zero D8 B8, cal_zero D9 B9, cal_zero D10 B10, cal_zero D11 B11, cal_zero D12 B12, cal_zero D13 B13, cal_zero D14 B14, cal_zero D15 B15, cal_zero D16 B16, cal_zero D17 B17, cal_zero D18 B18, cal_zero D19 B19, cal_zero D20 B20, cal_zero D21 B21, cal_zero D22 B22⟩
    | succ n T => exact ⟨Z_abs, Z_all, Z_int, Z_isinstance, Z_len, Z_max, Z_range, Z_repr, Z_tuple, g_SIMPLE_KINDS, g_MOST_NUMBER, g_MOST_LETTERS, g_MOST_ITEMS, g_MOST_DEPTH, t_is_type D0 B0 T, t_kind_of D1 B1 T, t_is_letter D2 B2 T, t__bounded_at D3 B3 T, t_is_bounded D4 B4 T, t_is_value D5 B5 T, t_fits D6 B6 T, t_known_type D7 B7 T, t_joined D8 B8 T, t__law_state D9 B9 T, t__law_draw D10 B10 T, t__law_pick D11 B11 T, t__law_type D12 B12 T, t__law_value D13 B13 T, t__law_deep_list D14 B14 T, t__law_shape D15 B15 T, t__law_within D16 B16 T, t__law_depth D17 B17 T, t__law_fits D18 B18 T, t__law_known D19 B19 T, t__law_both D20 B20 T, t__law_kinds D21 B21 T, t_law D22 B22 T⟩
  exact fun n => ⟨all n, C8.fn0 D22.fn sc_law (fun vs H Q E h => h.1) (hb_of (ps := ["script"]) (k_law (all n)))⟩
end M10

namespace M10
open PySem PySem.Spec PyProof.Rows L2 IL
/-! ### shapes of values, knowledge of types -/
inductive Sh where
  | i (z : Int) | b (b : Bool) | t (s : Str) | n | l (xs : List Sh)
mutual
def pv : Sh → PV
  | .i z => .tup [.str S_int, .int z]
  | .b b => .tup [.str S_bool, .bl b]
  | .t s => .tup [.str S_text, .str s]
  | .n => .tup [.str S_nothing]
  | .l xs => .tup [.str S_list, .tup (pvs xs)]
def pvs : List Sh → List PV
  | [] => []
  | x :: xs => pv x :: pvs xs
end
inductive Kn where
  | u | s (j : Nat) | l (k : Kn)
  deriving DecidableEq
def pk : Kn → PV
  | .u => .non
  | .s j => .str (Sx j)
  | .l k => .tup [.str S_list, pk k]
def kd : Kn → Nat
  | .u => 0
  | .s _ => 0
  | .l k => kd k + 1
def simpleK (j : Nat) : Bool := j == 2 || j == 5 || j == 3 || j == 6
def okK : Kn → Bool
  | .u => true
  | .s j => simpleK j
  | .l k => okK k
theorem simple_lt {j : Nat} (h : simpleK j = true) : j < 17 ∧ j ≠ 4 ∧ j ≠ 15 := by
  unfold simpleK at h
  simp at h
  omega
theorem pvs_eq : ∀ xs : List Sh, pvs xs = xs.map pv
  | [] => rfl
  | x :: xs => by
    show pv x :: pvs xs = _
    rw [pvs_eq xs]; rfl
mutual
def wf : Sh → Bool
  | .i _ => true
  | .b _ => true
  | .t s => PyData.strOk s && decide (s.length ≤ 61)
  | .n => true
  | .l xs => decide (xs.length ≤ 21) && wfs xs
def wfs : List Sh → Bool
  | [] => true
  | x :: xs => wf x && wfs xs
end
mutual
def dp : Sh → Nat
  | .i _ => 0
  | .b _ => 0
  | .t _ => 0
  | .n => 0
  | .l xs => dps xs + 1
def dps : List Sh → Nat
  | [] => 0
  | x :: xs => max (dp x) (dps xs)
end
def jn : Kn → Kn → Option Kn
  | .u, k => some k
  | .s i, .u => some (.s i)
  | .s i, .s j => if i = j then some (.s i) else none
  | .s _, .l _ => none
  | .l a, .u => some (.l a)
  | .l _, .s _ => none
  | .l a, .l b => (jn a b).map .l
mutual
def kn : Sh → Option Kn
  | .i _ => some (.s 2)
  | .b _ => some (.s 5)
  | .t _ => some (.s 3)
  | .n => some (.s 6)
  | .l xs => (kns xs .u).map .l
def kns : List Sh → Kn → Option Kn
  | [], k => some k
  | x :: xs, k => match kn x with
    | none => none
    | some a => match jn k a with
      | none => none
      | some c => kns xs c
end
theorem jn_u (k : Kn) : jn k .u = some k := by cases k <;> rfl
theorem jn_self : ∀ k : Kn, jn k k = some k
  | .u => rfl
  | .s j => by simp [jn]
  | .l k => by simp [jn, jn_self k]
theorem jn_comm : ∀ a b : Kn, jn a b = jn b a
  | .u, b => by rw [jn_u]; rfl
  | .s i, .u => rfl
  | .s i, .s j => by
    unfold jn
    by_cases h : i = j
    · subst h; rfl
    · rw [if_neg h, if_neg (fun e => h e.symm)]
  | .s _, .l _ => rfl
  | .l a, .u => rfl
  | .l _, .s _ => rfl
  | .l a, .l b => by
    show (jn a b).map _ = (jn b a).map _
    rw [jn_comm a b]
theorem jn_ok : ∀ a b c : Kn, okK a = true → okK b = true → jn a b = some c → okK c = true ∧ kd c ≤ max (kd a) (kd b)
  | .u, b, c, _, hb, h => by
    cases h
    exact ⟨hb, Nat.le_max_right _ _⟩
  | .s i, .u, c, ha, _, h => by
    cases h
    exact ⟨ha, Nat.le_max_left _ _⟩
  | .s i, .s j, c, ha, _, h => by
    unfold jn at h
    split at h
    · cases h
      exact ⟨ha, Nat.le_max_left _ _⟩
    · cases h
  | .s _, .l _, c, _, _, h => by cases h
  | .l a, .u, c, ha, _, h => by
    cases h
    exact ⟨ha, Nat.le_max_left _ _⟩
  | .l _, .s _, c, _, _, h => by cases h
  | .l a, .l b, c, ha, hb, h => by
    unfold jn at h
    cases e : jn a b with
    | none => rw [e] at h; cases h
    | some d =>
      rw [e] at h
      cases h
      obtain ⟨h1, h2⟩ := jn_ok a b d ha hb e
      refine ⟨h1, ?_⟩
      simp only [kd]
      omega
mutual
theorem kn_ok : ∀ (x : Sh) (k : Kn), kn x = some k → okK k = true ∧ kd k ≤ dp x
  | .i _, k, h => by cases h; exact ⟨rfl, Nat.le_refl _⟩
  | .b _, k, h => by cases h; exact ⟨rfl, Nat.le_refl _⟩
  | .t _, k, h => by cases h; exact ⟨rfl, Nat.le_refl _⟩
  | .n, k, h => by cases h; exact ⟨rfl, Nat.le_refl _⟩
  | .l xs, k, h => by
    unfold kn at h
    cases e : kns xs .u with
    | none => rw [e] at h; cases h
    | some d =>
      rw [e] at h
      cases h
      obtain ⟨h1, h2⟩ := kns_ok xs .u d rfl e
      refine ⟨h1, ?_⟩
      simp only [kd, dp] at h2 ⊢
      omega
theorem kns_ok : ∀ (xs : List Sh) (a c : Kn), okK a = true → kns xs a = some c → okK c = true ∧ kd c ≤ max (kd a) (dps xs)
  | [], a, c, ha, h => by
    cases h
    exact ⟨ha, Nat.le_max_left _ _⟩
  | x :: xs, a, c, ha, h => by
    unfold kns at h
    split at h
    · cases h
    · rename_i b e
      split at h
      · cases h
      · rename_i d e2
        obtain ⟨h1, h2⟩ := kn_ok x b e
        obtain ⟨h3, h4⟩ := jn_ok a b d ha h1 e2
        obtain ⟨h5, h6⟩ := kns_ok xs d c h3 h
        refine ⟨h5, ?_⟩
        simp only [dps]
        omega
end
theorem wfs_all : ∀ {xs : List Sh}, wfs xs = true → ∀ x ∈ xs, wf x = true
  | [], _, x, hx => by simp at hx
  | y :: ys, h, x, hx => by
    unfold wfs at h
    rw [Bool.and_eq_true] at h
    rcases List.mem_cons.mp hx with rfl | hx
    · exact h.1
    · exact wfs_all h.2 x hx
theorem all_wfs : ∀ {xs : List Sh}, (∀ x ∈ xs, wf x = true) → wfs xs = true
  | [], _ => rfl
  | y :: ys, h => by
    unfold wfs
    rw [h y List.mem_cons_self, all_wfs fun x hx => h x (List.mem_cons_of_mem _ hx)]; rfl
theorem dps_le : ∀ {xs : List Sh} {n : Nat}, (∀ x ∈ xs, dp x ≤ n) → dps xs ≤ n
  | [], n, _ => Nat.zero_le _
  | y :: ys, n, h => by
    unfold dps
    exact Nat.max_le.mpr ⟨h y List.mem_cons_self, dps_le fun x hx => h x (List.mem_cons_of_mem _ hx)⟩
theorem le_dps : ∀ {xs : List Sh} {x : Sh}, x ∈ xs → dp x ≤ dps xs
  | [], x, h => by simp at h
  | y :: ys, x, h => by
    unfold dps
    rcases List.mem_cons.mp h with rfl | h
    · exact Nat.le_max_left _ _
    · exact Nat.le_trans (le_dps h) (Nat.le_max_right _ _)
/-! ### equal knowledge -/
theorem gd_pk : ∀ (k : Kn) (n : Nat), okK k = true → kd k < n → gd (pk k) n = true
  | .u, n, _, _ => by simp [pk, gd]
  | .s j, n, h, _ => by simp [pk, gd, (simple_lt h).1]
  | .l k, n, h, hn => by
    simp only [kd] at hn
    have := gd_pk k (n - 1) h (by omega)
    simp [pk, gd, gds, this]
    omega
theorem eqv_pk : ∀ (a b : Kn), okK a = true → okK b = true → PyData.eqv (datP (pk a)) (datP (pk b)) = decide (a = b)
  | .u, .u, _, _ => by simp [pk, datP, PyData.eqv]
  | .u, .s j, _, _ => by simp [pk, datP, PyData.eqv]
  | .u, .l k, _, _ => by simp [pk, datP, PyData.eqv]
  | .s i, .u, _, _ => by simp [pk, datP, PyData.eqv]
  | .s i, .s j, ha, hb => by simp [pk, datP, PyData.eqv, (simple_lt ha).1, (simple_lt hb).1]
  | .s i, .l k, _, _ => by simp [pk, datP, PyData.eqv]
  | .l a, .u, _, _ => by simp [pk, datP, PyData.eqv]
  | .l a, .s j, _, _ => by simp [pk, datP, PyData.eqv]
  | .l a, .l b, ha, hb => by
    have := eqv_pk a b ha hb
    simp [pk, datP, datPs, PyData.eqv, PyData.eqvAll, this]
theorem eq_pk {a b : Kn} (ha : okK a = true) (hb : okK b = true) (da : kd a < 60) (db : kd b < 60) (st : Sto) : eqP st (pk a) (pk b) = some (decide (a = b)) := by
  rw [eqP_gd (gd_pk a 60 ha da) (gd_pk b 60 hb db), eqv_pk a b ha hb]
/-- what known_type and joined tell -/
def tk : Option Kn → PV
  | some k => pk k
  | none => .bl false
/-- what the law tells of it -/
def lk : Option Kn → PV
  | some k => pk k
  | none => .str S_none
end M10

namespace M10
open PySem PySem.Spec PyProof.Rows L2 IL
theorem isBool_pk (b : Bool) (k : Kn) : isBool b (pk k) = false := by cases k <;> rfl
theorem eq_pk_none {k : Kn} (h : okK k = true) (d : kd k < 60) (st : Sto) : eqP st (pk k) (.str S_none) = some false := by
  rw [eqP_gd (gd_pk k 60 h d) (by simp [gd])]
  cases k with
  | u => simp [pk, datP, PyData.eqv]
  | s j =>
    have := (simple_lt h)
    simp [pk, datP, PyData.eqv, this.1, this.2.2]
  | l k => simp [pk, datP, PyData.eqv]
theorem eq_none_pk {k : Kn} (h : okK k = true) (d : kd k < 60) (st : Sto) : eqP st (.str S_none) (pk k) = some false := by
  rw [eqP_gd (by simp [gd]) (gd_pk k 60 h d)]
  cases k with
  | u => simp [pk, datP, PyData.eqv]
  | s j =>
    have := (simple_lt h)
    have h2 : ¬ (15 = j) := fun e => this.2.2 e.symm
    simp [pk, datP, PyData.eqv, this.1, h2]
  | l k => simp [pk, datP, PyData.eqv]
theorem eq_pk_bl {k : Kn} (h : okK k = true) (d : kd k < 60) (b : Bool) (st : Sto) : eqP st (pk k) (.bl b) = some false := by
  rw [eqP_gd (gd_pk k 60 h d) (by simp [gd])]
  cases k <;> simp [pk, datP, PyData.eqv]
theorem e_joined : ∀ (a b : Kn) (n : Nat) (st : Sto), kd a < n → okK a = true → okK b = true → kd a < 60 → kd b < 60 → FF n 8 [pk a, pk b] st = some (tk (jn a b), st)
  | a, b, 0, st, h, _, _, _, _ => absurd h (by omega)
  | .u, b, n + 1, st, _, ha, hb, da, db => by
    show iDef 2 3 (b_joined (FF n)) _ _ = _
    simp [iDef, b_joined, pk, tk, jn]
  | .s i, .u, n + 1, st, _, ha, hb, da, db => by
    show iDef 2 3 (b_joined (FF n)) _ _ = _
    have e := eq_pk ha hb da db st
    simp [pk] at e
    simp [iDef, b_joined, pk, tk, jn, e]
  | .s i, .s j, n + 1, st, _, ha, hb, da, db => by
    show iDef 2 3 (b_joined (FF n)) _ _ = _
    have h1 := (simple_lt ha).1
    have h2 := (simple_lt hb).1
    by_cases h : i = j
    · subst h
      simp [iDef, b_joined, pk, tk, jn, h1]
    · simp [iDef, b_joined, pk, tk, jn, h1, h2, h]
  | .s i, .l k, n + 1, st, _, ha, hb, da, db => by
    show iDef 2 3 (b_joined (FF n)) _ _ = _
    have e := eq_pk ha hb da db st
    simp [pk] at e
    simp [iDef, b_joined, pk, tk, jn, e]
  | .l a, .u, n + 1, st, _, ha, hb, da, db => by
    show iDef 2 3 (b_joined (FF n)) _ _ = _
    have e := eq_pk ha hb da db st
    simp [pk] at e
    simp [iDef, b_joined, pk, tk, jn, e]
  | .l a, .s j, n + 1, st, _, ha, hb, da, db => by
    show iDef 2 3 (b_joined (FF n)) _ _ = _
    have e := eq_pk ha hb da db st
    simp [pk] at e
    simp [iDef, b_joined, pk, tk, jn, e]
  | .l a, .l b, n + 1, st, h, ha, hb, da, db => by
    show iDef 2 3 (b_joined (FF n)) _ _ = _
    have e := eq_pk ha hb da db st
    simp only [pk] at e
    simp only [kd] at h da db
    have ih := e_joined a b n st (by omega) ha hb (by omega) (by omega)
    by_cases hab : a = b
    · subst hab
      simp at e
      simp [iDef, b_joined, pk, tk, jn, e, jn_self]
    · have hne : (Kn.l a = Kn.l b) = False := by simp [hab]
      simp only [hne, decide_false] at e
      cases hj : jn a b with
      | none =>
        rw [hj] at ih
        simp [tk] at ih
        simp [iDef, b_joined, pk, tk, jn, e, hj, ih]
      | some c =>
        rw [hj] at ih
        simp only [tk] at ih
        simp [iDef, b_joined, pk, tk, jn, e, hj, ih, isBool_pk]
theorem e_joined_no (a : Kn) (n : Nat) (st : Sto) (ha : okK a = true) (da : kd a < 60) : FF (n + 1) 8 [pk a, .bl false] st = some (.bl false, st) := by
  show iDef 2 3 (b_joined (FF n)) _ _ = _
  have e := eq_pk_bl ha da false st
  cases a with
  | u => simp [iDef, b_joined, pk]
  | s j =>
    simp only [pk] at e
    simp [iDef, b_joined, pk, e]
  | l k =>
    simp only [pk] at e
    simp [iDef, b_joined, pk, e]
mutual
theorem e_known : ∀ (x : Sh) (n : Nat) (st : Sto), dp x + 2 ≤ n → dp x < 59 → FF n 7 [pv x] st = some (tk (kn x), st)
  | x, 0, st, h, _ => absurd h (by omega)
  | .i z, n + 1, st, _, _ => by
    show iDef 1 3 (b_known_type (FF n)) _ _ = _
    simp [iDef, b_known_type, pv, kn, tk, pk]
  | .b z, n + 1, st, _, _ => by
    show iDef 1 3 (b_known_type (FF n)) _ _ = _
    simp [iDef, b_known_type, pv, kn, tk, pk]
  | .t z, n + 1, st, _, _ => by
    show iDef 1 3 (b_known_type (FF n)) _ _ = _
    simp [iDef, b_known_type, pv, kn, tk, pk]
  | .n, n + 1, st, _, _ => by
    show iDef 1 3 (b_known_type (FF n)) _ _ = _
    simp [iDef, b_known_type, pv, kn, tk, pk]
  | .l xs, n + 1, st, h, hd => by
    show iDef 1 3 (b_known_type (FF n)) _ _ = _
    simp only [dp] at h hd
    obtain ⟨o, ih⟩ := e_knowns xs n .u (pv (.l xs)) none st (by omega) (by simp [kd]; omega) rfl (by simp [kd]) (by omega)
    have hf : iFor (iWalk (iBin fSubA (iVar 0) (iC (.int 1)))) (gN 2) (iSeq (iAsg (gN 1) (iCall (FF n 8) (iCons (iVar 1) (iCons (iCall (FF n 7) (iCons (iVar 2) iNil)) iNil)))) (iIfS (iTestB (iBin fIs (iVar 1) (iC (.bl false)))) (iRet (iC (.bl false))) iSkip)) [some (pv (.l xs)), some .non, none] st = _ := (iFor_tup (xs := pvs xs) (by simp [pv])).trans ih
    cases hk : kns xs .u with
    | none =>
      rw [hk] at hf
      simp only [pv] at hf
      simp [iDef, b_known_type, pv, kn, tk, hk, -iFor_e, hf]
    | some c =>
      rw [hk] at hf
      simp only [pv] at hf
      simp [iDef, b_known_type, pv, kn, tk, pk, hk, -iFor_e, hf]
theorem e_knowns : ∀ (xs : List Sh) (n : Nat) (k : Kn) (v : PV) (o2 : Option PV) (st : Sto), dps xs + 2 ≤ n → kd k < n → okK k = true → kd k < 59 → dps xs < 59 →
    ∃ o, foldT (gN 2) (iSeq (iAsg (gN 1) (iCall (FF n 8) (iCons (iVar 1) (iCons (iCall (FF n 7) (iCons (iVar 2) iNil)) iNil)))) (iIfS (iTestB (iBin fIs (iVar 1) (iC (.bl false)))) (iRet (iC (.bl false))) iSkip)) (pvs xs) [some v, some (pk k), o2] st = (match kns xs k with
      | some c => some (.nx [some v, some (pk c), o] st)
      | none => some (.rt (.bl false) st))
  | [], n, k, v, o2, st, _, _, _, _, _ => ⟨o2, rfl⟩
  | x :: xs, n, k, v, o2, st, h1, h2, h3, h4, h5 => by
    simp only [dps] at h1 h5
    have ih := e_known x n st (by omega) (by omega)
    show ∃ o, foldT _ _ (pv x :: pvs xs) _ _ = _
    unfold foldT kns
    cases hk : kn x with
    | none =>
      rw [hk] at ih
      simp only [tk] at ih
      obtain ⟨m, rfl⟩ : ∃ m, n = m + 1 := ⟨n - 1, by omega⟩
      refine ⟨none, ?_⟩
      simp [ih, e_joined_no k m st h3 (by omega)]
    | some a =>
      rw [hk] at ih
      simp only [tk] at ih
      obtain ⟨g1, g2⟩ := kn_ok x a hk
      have hj := e_joined k a n st (by omega) h3 g1 (by omega) (by omega)
      cases hc : jn k a with
      | none =>
        rw [hc] at hj
        simp only [tk] at hj
        exact ⟨none, by simp [ih, hj, hc]⟩
      | some c =>
        rw [hc] at hj
        simp only [tk] at hj
        obtain ⟨f1, f2⟩ := jn_ok k a c h3 g1 hc
        obtain ⟨o, hr⟩ := e_knowns xs n c v (some (pv x)) st (by omega) (by omega) f1 (by omega) (by omega)
        exact ⟨o, by simp [ih, hj, hc, isBool_pk, hr]⟩
end
end M10

namespace M10
open PySem PySem.Spec PyProof.Rows L2 IL
/-! ### the law's own joining and knowing -/
theorem eq_lk_none (o : Option Kn) (st : Sto) (h : ∀ k, o = some k → okK k = true ∧ kd k < 60) : eqP st (lk o) (.str S_none) = some o.isNone := by
  cases o with
  | none => simp [lk]
  | some k =>
    obtain ⟨h1, h2⟩ := h k rfl
    exact eq_pk_none h1 h2 st
theorem e_both : ∀ (a b : Kn) (n : Nat) (st : Sto), kd a < n → okK a = true → okK b = true → kd a < 60 → kd b < 60 → FF n 20 [pk a, pk b] st = some (lk (jn a b), st)
  | a, b, 0, st, h, _, _, _, _ => absurd h (by omega)
  | .u, b, n + 1, st, _, ha, hb, da, db => by
    show iDef 2 3 (b__law_both (FF n)) _ _ = _
    simp [iDef, b__law_both, pk, lk, jn]
  | .s i, .u, n + 1, st, _, ha, hb, da, db => by
    show iDef 2 3 (b__law_both (FF n)) _ _ = _
    simp [iDef, b__law_both, pk, lk, jn]
  | .s i, .s j, n + 1, st, _, ha, hb, da, db => by
    show iDef 2 3 (b__law_both (FF n)) _ _ = _
    have h1 := (simple_lt ha).1
    have h2 := (simple_lt hb).1
    by_cases h : i = j
    · subst h
      simp [iDef, b__law_both, pk, lk, jn, h1]
    · simp [iDef, b__law_both, pk, lk, jn, h1, h2, h]
  | .s i, .l k, n + 1, st, _, ha, hb, da, db => by
    show iDef 2 3 (b__law_both (FF n)) _ _ = _
    have e := eq_pk ha hb da db st
    simp [pk] at e
    simp [iDef, b__law_both, pk, lk, jn, e]
  | .l a, .u, n + 1, st, _, ha, hb, da, db => by
    show iDef 2 3 (b__law_both (FF n)) _ _ = _
    simp [iDef, b__law_both, pk, lk, jn]
  | .l a, .s j, n + 1, st, _, ha, hb, da, db => by
    show iDef 2 3 (b__law_both (FF n)) _ _ = _
    have e := eq_pk ha hb da db st
    simp [pk] at e
    simp [iDef, b__law_both, pk, lk, jn, e]
  | .l a, .l b, n + 1, st, h, ha, hb, da, db => by
    show iDef 2 3 (b__law_both (FF n)) _ _ = _
    simp only [kd] at h da db
    have ih := e_both a b n st (by omega) ha hb (by omega) (by omega)
    cases hj : jn a b with
    | none =>
      rw [hj] at ih
      simp only [lk] at ih
      simp [iDef, b__law_both, pk, lk, jn, hj, ih]
    | some c =>
      rw [hj] at ih
      simp only [lk] at ih
      obtain ⟨f1, f2⟩ := jn_ok a b c ha hb hj
      have e := eq_pk_none f1 (by omega) st
      simp [iDef, b__law_both, pk, lk, jn, hj, ih, e]
theorem e_both_no (a : Option Kn) (n : Nat) (st : Sto) (h : ∀ k, a = some k → okK k = true ∧ kd k < 60) : FF (n + 1) 20 [lk a, .str S_none] st = some (.str S_none, st) := by
  show iDef 2 3 (b__law_both (FF n)) _ _ = _
  have e := eq_lk_none a st h
  cases a with
  | none => simp [iDef, b__law_both, lk]
  | some k =>
    cases k with
    | u => simp [iDef, b__law_both, lk, pk]
    | s j =>
      simp only [lk, pk, Option.isNone] at e
      simp only [lk, pk]
      simp [iDef, b__law_both, e, -eqP_S]
    | l k =>
      simp only [lk, pk, Option.isNone] at e
      simp only [lk, pk]
      simp [iDef, b__law_both, e]
theorem e_no_both (b : Kn) (n : Nat) (st : Sto) (h : okK b = true) (d : kd b < 60) : FF (n + 1) 20 [.str S_none, pk b] st = some (.str S_none, st) := by
  show iDef 2 3 (b__law_both (FF n)) _ _ = _
  have e := eq_none_pk h d st
  cases b with
  | u => simp [iDef, b__law_both, pk]
  | s j =>
    simp only [pk] at e
    simp only [pk]
    simp [iDef, b__law_both, e, -eqP_S]
  | l k =>
    simp only [pk] at e
    simp only [pk]
    simp [iDef, b__law_both, e]
mutual
theorem e_lknown : ∀ (x : Sh) (n : Nat) (st : Sto), dp x + 2 ≤ n → dp x < 59 → FF n 19 [pv x] st = some (lk (kn x), st)
  | x, 0, st, h, _ => absurd h (by omega)
  | .i z, n + 1, st, _, _ => by
    show iDef 1 3 (b__law_known (FF n)) _ _ = _
    simp [iDef, b__law_known, pv, kn, lk, pk]
  | .b z, n + 1, st, _, _ => by
    show iDef 1 3 (b__law_known (FF n)) _ _ = _
    simp [iDef, b__law_known, pv, kn, lk, pk]
  | .t z, n + 1, st, _, _ => by
    show iDef 1 3 (b__law_known (FF n)) _ _ = _
    simp [iDef, b__law_known, pv, kn, lk, pk]
  | .n, n + 1, st, _, _ => by
    show iDef 1 3 (b__law_known (FF n)) _ _ = _
    simp [iDef, b__law_known, pv, kn, lk, pk]
  | .l xs, n + 1, st, h, hd => by
    show iDef 1 3 (b__law_known (FF n)) _ _ = _
    simp only [dp] at h hd
    obtain ⟨o, ih⟩ := e_lknowns xs n (some .u) (pv (.l xs)) none st (by omega) (fun k e => by cases e; exact ⟨rfl, by simp [kd]; omega, by simp [kd]⟩) (by omega)
    have hf : iFor (iWalk (iBin fSubA (iVar 0) (iC (.int 1)))) (gN 2) (iAsg (gN 1) (iCall (FF n 20) (iCons (iVar 1) (iCons (iCall (FF n 19) (iCons (iVar 2) iNil)) iNil)))) [some (pv (.l xs)), some .non, none] st = _ := (iFor_tup (xs := pvs xs) (by simp [pv])).trans ih
    have hk2 : ∀ k, (kns xs .u) = some k → okK k = true ∧ kd k < 60 := fun k e => by
      obtain ⟨h1, h2⟩ := kns_ok xs .u k rfl e
      simp only [kd] at h2
      exact ⟨h1, by omega⟩
    have e := eq_lk_none (kns xs .u) st hk2
    simp only [Option.bind_some] at hf
    simp only [pv] at hf
    cases hk : kns xs .u with
    | none =>
      rw [hk] at hf e
      simp only [lk] at hf e
      simp [iDef, b__law_known, pv, kn, lk, hk, -iFor_e, hf]
    | some c =>
      rw [hk] at hf e
      simp only [lk] at hf e
      simp [iDef, b__law_known, pv, kn, lk, pk, hk, -iFor_e, hf, e]
theorem e_lknowns : ∀ (xs : List Sh) (n : Nat) (a : Option Kn) (v : PV) (o2 : Option PV) (st : Sto), dps xs + 2 ≤ n → (∀ k, a = some k → okK k = true ∧ kd k < n ∧ kd k < 59) → dps xs < 59 →
    ∃ o, foldT (gN 2) (iAsg (gN 1) (iCall (FF n 20) (iCons (iVar 1) (iCons (iCall (FF n 19) (iCons (iVar 2) iNil)) iNil)))) (pvs xs) [some v, some (lk a), o2] st = some (.nx [some v, some (lk (a.bind fun k => kns xs k)), o] st)
  | [], n, a, v, o2, st, _, _, _ => ⟨o2, by cases a <;> rfl⟩
  | x :: xs, n, a, v, o2, st, h1, h2, h5 => by
    simp only [dps] at h1 h5
    have ih := e_lknown x n st (by omega) (by omega)
    obtain ⟨m, rfl⟩ : ∃ m, n = m + 1 := ⟨n - 1, by omega⟩
    show ∃ o, foldT _ _ (pv x :: pvs xs) _ _ = _
    unfold foldT
    have key : ∀ r : Option Kn, FF (m + 1) 20 [lk a, lk (kn x)] st = some (lk r, st) → (∀ k, r = some k → okK k = true ∧ kd k < m + 1 ∧ kd k < 59) → (a.bind fun k => kns (x :: xs) k) = (r.bind fun k => kns xs k) →
        ∃ o, (match gN 2 (pv x) [some v, some (lk a), o2] st with
          | some e1 => match (iAsg (gN 1) (iCall (FF (m + 1) 20) (iCons (iVar 1) (iCons (iCall (FF (m + 1) 19) (iCons (iVar 2) iNil)) iNil)))) e1 st with
            | some (.nx e2 s2) => foldT (gN 2) (iAsg (gN 1) (iCall (FF (m + 1) 20) (iCons (iVar 1) (iCons (iCall (FF (m + 1) 19) (iCons (iVar 2) iNil)) iNil)))) (pvs xs) e2 s2
            | some (.ct e2 s2) => foldT (gN 2) (iAsg (gN 1) (iCall (FF (m + 1) 20) (iCons (iVar 1) (iCons (iCall (FF (m + 1) 19) (iCons (iVar 2) iNil)) iNil)))) (pvs xs) e2 s2
            | some (.bk e2 s2) => some (.nx e2 s2)
            | r => r
          | none => none) = some (.nx [some v, some (lk (a.bind fun k => kns (x :: xs) k)), o] st) := fun r hr hok hb => by
      obtain ⟨o, hq⟩ := e_lknowns xs (m + 1) r v (some (pv x)) st (by omega) hok (by omega)
      rw [hb]
      exact ⟨o, by simp [ih, hr, hq]⟩
    cases a with
    | none =>
      cases hk : kn x with
      | none => exact key none (by rw [hk]; exact e_both_no none m st (fun k e => by cases e)) (fun k e => by cases e) rfl
      | some b =>
        obtain ⟨g1, g2⟩ := kn_ok x b hk
        exact key none (by rw [hk]; exact e_no_both b m st g1 (by omega)) (fun k e => by cases e) rfl
    | some k =>
      obtain ⟨k1, k2, k3⟩ := h2 k rfl
      cases hk : kn x with
      | none => exact key none (by rw [hk]; exact e_both_no (some k) m st (fun k' e => by cases e; exact ⟨k1, by omega⟩)) (fun k e => by cases e) (by simp [kns, hk])
      | some b =>
        obtain ⟨g1, g2⟩ := kn_ok x b hk
        refine key (jn k b) (by rw [hk]; exact e_both k b (m + 1) st k2 k1 g1 (by omega) (by omega)) (fun c e => ?_) ?_
        · obtain ⟨f1, f2⟩ := jn_ok k b c k1 g1 e
          exact ⟨f1, by omega, by omega⟩
        · cases hc : jn k b <;> simp [kns, hk, hc]
end
end M10

namespace M10
open PySem PySem.Spec PyProof.Rows L2 IL
def goodC (k : Nat) : Bool := decide (32 ≤ k ∧ k ≤ 126)
def lettersOk (t : Str) : Bool := decide (t.length ≤ 60) && t.cps.toList.all fun k => goodC k
mutual
def wi : Sh → Bool
  | .i z => decide (-1000000000000 ≤ z ∧ z ≤ 1000000000000)
  | .b _ => true
  | .t s => lettersOk s
  | .n => true
  | .l xs => decide (xs.length ≤ 20) && wis xs
def wis : List Sh → Bool
  | [] => true
  | x :: xs => wi x && wis xs
end
mutual
def bd : Sh → Nat → Bool
  | .i z, _ => decide (-1000000000000 ≤ z ∧ z ≤ 1000000000000)
  | .b _, _ => true
  | .t s, _ => lettersOk s
  | .n, _ => true
  | .l xs, d => !(d == 6) && (decide (xs.length ≤ 20) && bds xs (d + 1))
def bds : List Sh → Nat → Bool
  | [], _ => true
  | x :: xs, d => bd x d && bds xs d
end
theorem wis_all : ∀ xs : List Sh, wis xs = xs.all wi
  | [] => rfl
  | x :: xs => by
    show (wi x && wis xs) = _
    rw [wis_all xs]; rfl
theorem bds_all (d : Nat) : ∀ xs : List Sh, bds xs d = xs.all fun x => bd x d
  | [] => rfl
  | x :: xs => by
    show (bd x d && bds xs d) = _
    rw [bds_all d xs]; rfl
mutual
theorem bd_eq : ∀ (x : Sh) (d : Nat), d ≤ 6 → bd x d = (wi x && decide (dp x + d ≤ 6))
  | .i z, d, h => by simp [bd, wi, dp, h]
  | .b z, d, h => by simp [bd, wi, dp, h]
  | .t z, d, h => by simp [bd, wi, dp, h]
  | .n, d, h => by simp [bd, wi, dp, h]
  | .l xs, d, h => by
    by_cases h6 : d = 6
    · subst h6
      simp [bd, wi, dp]
    · have ih := bds_eq xs (d + 1) (by omega)
      have h7 : (d == 6) = false := by simpa using h6
      simp only [bd, wi, dp, h7, ih]
      have e : (dps xs + 1 + d ≤ 6) = (dps xs + (d + 1) ≤ 6) := by
        apply propext
        omega
      simp only [e]
      simp [Bool.and_assoc]
theorem bds_eq : ∀ (xs : List Sh) (d : Nat), d ≤ 6 → bds xs d = (wis xs && decide (dps xs + d ≤ 6))
  | [], d, h => by simp [bds, wis, dps, h]
  | x :: xs, d, h => by
    have h1 := bd_eq x d h
    have h2 := bds_eq xs d h
    simp only [bds, wis, dps, h1, h2]
    have e : (max (dp x) (dps xs) + d ≤ 6) = (dp x + d ≤ 6 ∧ dps xs + d ≤ 6) := by
      apply propext
      omega
    simp only [e, Bool.decide_and]
    cases wi x <;> cases wis xs <;> simp
end
theorem p12 (st : Sto) : fPow (.int 10) (.int 12) st = some (.int 1000000000000, st) := by
  rw [fPow_i, if_pos (by decide)]
  rfl
theorem e_letter (k n : Nat) (st : Sto) : FF (n + 1) 2 [.str ⟨#[k]⟩] st = some (.bl (goodC k), st) := by
  unfold goodC
  show iDef 1 1 (b_is_letter (FF n)) _ _ = _
  have h1 : ltS ⟨#[k]⟩ S_x20 = decide (k < 32) := by
    rw [show S_x20 = ⟨#[32]⟩ by decide +kernel]
    exact ltS_lo _ _
  have h2 : ltS S_x7e ⟨#[k]⟩ = decide (126 < k) := by
    rw [show S_x7e = ⟨#[126]⟩ by decide +kernel]
    exact ltS_lo _ _
  by_cases a : k < 32
  · have b : ¬ 32 ≤ k := by omega
    simp [iDef, b_is_letter, h1, a, b]
  · have b : 32 ≤ k := by omega
    by_cases d : 126 < k
    · have f : ¬ k ≤ 126 := by omega
      simp [iDef, b_is_letter, h1, h2, a, b, d, f]
    · have f : k ≤ 126 := by omega
      simp [iDef, b_is_letter, h1, h2, a, b, d, f]
theorem e_boundT (s : Str) (d : Int) (n : Nat) (st : Sto) (hl : s.length ≤ 61) : ∃ l, FF (n + 2) 3 [pv (.t s), .int d] st = some (.bl (lettersOk s), st ++ l) := by
  show ∃ l, iDef 2 4 (b__bounded_at (FF (n + 1))) _ _ = _
  have h1 : s.length ≤ 100000 := by omega
  by_cases h6 : s.length ≤ 60
  · have h6' : (s.length : Int) ≤ 60 := by omega
    obtain ⟨l, hlc⟩ := iLc_strm (ie := iBin fSubA (iVar 0) (iC (.int 1))) (e := iCall (FF (n + 1) 2) (iCons (iVar 3) iNil)) (ig := gN 3) (t := iYes) (vs := [3]) (env := [some (pv (.t s)), some (.int d), none, none]) (st := st) (s1 := st) (x := s) (g := fun k => .bl (goodC k)) (p := fun _ => true)
      (by simp [pv]) (by omega) fun k hk s' => ⟨[some (pv (.t s)), some (.int d), none, some (.str ⟨#[k]⟩)], rfl, rfl, fun _ => ⟨[], by simp [e_letter]⟩⟩
    rw [filter_yes] at hlc
    have hb := blsOf_r (xs := s.cps.toList) (f := goodC) (st := st ++ [SO.lst (s.cps.toList.map fun k => PV.bl (goodC k))] ++ l) (r := st.length) at_mid
    refine ⟨[SO.lst (s.cps.toList.map fun k => PV.bl (goodC k))] ++ l, ?_⟩
    simp only [List.append_assoc, List.cons_append, List.nil_append, pv] at hb hlc
    simp [iDef, b__bounded_at, pv, h1, h6', hlc, hb, lettersOk, h6, List.all_map]
  · have h6' : ¬ (s.length : Int) ≤ 60 := by omega
    exact ⟨[], by simp [iDef, b__bounded_at, pv, h1, h6', lettersOk, h6]⟩
mutual
theorem e_bound : ∀ (x : Sh) (d n : Nat) (st : Sto), dp x + 2 ≤ n → wf x = true → ∃ l, FF n 3 [pv x, .int d] st = some (.bl (bd x d), st ++ l)
  | x, d, 0, st, h, _ => absurd h (by omega)
  | x, d, 1, st, h, _ => absurd h (by omega)
  | .i z, d, n + 2, st, h, w => by
    refine ⟨[], ?_⟩
    show iDef 2 4 (b__bounded_at (FF (n + 1))) _ _ = _
    by_cases h1 : -1000000000000 ≤ z <;> by_cases h2 : z ≤ 1000000000000 <;> simp [iDef, b__bounded_at, pv, bd, h1, h2]
  | .b z, d, n + 2, st, h, w => by
    refine ⟨[], ?_⟩
    show iDef 2 4 (b__bounded_at (FF (n + 1))) _ _ = _
    simp [iDef, b__bounded_at, pv, bd]
  | .t s, d, n + 2, st, h, w => by
    unfold wf at w
    rw [Bool.and_eq_true, decide_eq_true_eq] at w
    exact e_boundT s d n st w.2
  | .n, d, n + 2, st, h, w => by
    refine ⟨[], ?_⟩
    show iDef 2 4 (b__bounded_at (FF (n + 1))) _ _ = _
    simp [iDef, b__bounded_at, pv, bd]
  | .l xs, d, n + 2, st, h, w => by
    show ∃ l, iDef 2 4 (b__bounded_at (FF (n + 1))) _ _ = _
    unfold wf at w
    rw [Bool.and_eq_true, decide_eq_true_eq] at w
    simp only [dp] at h
    by_cases h6 : d = 6
    · subst h6
      exact ⟨[], by simp [iDef, b__bounded_at, pv, bd]⟩
    · have h6' : ((d : Int) == 6) = false := by simp; omega
      have h7 : (d == 6) = false := by simpa using h6
      by_cases h20 : xs.length ≤ 20
      · have h20' : ¬ (20 : Int) < (xs.length : Int) := by omega
        have ih := e_bounds xs (d + 1) (n + 1) (by omega) w.2
        obtain ⟨l, hlc⟩ := iLc_tupm (ie := iBin fSubA (iVar 0) (iC (.int 1))) (e := iCall (FF (n + 1) 3) (iCons (iVar 2) (iCons (iBin fAdd (iVar 1) (iC (.int 1))) iNil))) (ig := gN 2) (t := iYes) (vs := [2]) (env := [some (pv (.l xs)), some (.int d), none, none]) (st := st) (s1 := st) (xs := xs) (f := pv) (g := fun x => .bl (bd x (d + 1))) (p := fun _ => true)
          (by simp [pv, pvs_eq]) (by omega) fun x hx s' => ⟨[some (pv (.l xs)), some (.int d), some (pv x), none], rfl, rfl, fun _ => by
            obtain ⟨l, e⟩ := ih x hx s'
            exact ⟨l, by simp at e; simp [e]⟩⟩
        rw [filter_yes] at hlc
        have hb := blsOf_r (xs := xs) (f := fun x => bd x (d + 1)) (st := st ++ [SO.lst (xs.map fun x => PV.bl (bd x (d + 1)))] ++ l) (r := st.length) at_mid
        refine ⟨[SO.lst (xs.map fun x => PV.bl (bd x (d + 1)))] ++ l, ?_⟩
        simp only [List.append_assoc, List.cons_append, List.nil_append, pv] at hb hlc
        simp [iDef, b__bounded_at, pv, pvs_eq, h6', h20', bd, h7, h20, bds_all]
        simp [pvs_eq] at hlc
        simp [hlc, hb, List.all_map]
      · have h20' : (20 : Int) < (xs.length : Int) := by omega
        exact ⟨[], by simp [iDef, b__bounded_at, pv, pvs_eq, h6', h20', bd, h7, h20]⟩
theorem e_bounds : ∀ (xs : List Sh) (d n : Nat), dps xs + 2 ≤ n → wfs xs = true → ∀ x ∈ xs, ∀ st : Sto, ∃ l, FF n 3 [pv x, .int d] st = some (.bl (bd x d), st ++ l)
  | [], d, n, h, w, x, hx, st => by simp at hx
  | y :: ys, d, n, h, w, x, hx, st => by
    unfold wfs at w
    rw [Bool.and_eq_true] at w
    simp only [dps] at h
    have h1 := e_bound y d n
    have h2 := e_bounds ys d n (by omega) w.2
    rcases List.mem_cons.mp hx with rfl | hx
    · exact h1 st (by omega) w.1
    · exact h2 x hx st
end
end M10

namespace M10
open PySem PySem.Spec PyProof.Rows L2 IL
theorem bad_none (s : Str) : (s.cps.toList.filter fun k => decide (k < 32) || decide (126 < k)) = [] ↔ (s.cps.toList.all fun k => goodC k) = true := by
  rw [List.filter_eq_nil_iff, List.all_eq_true]
  constructor
  · intro h k hk
    have := h k hk
    unfold goodC
    simp at this ⊢
    omega
  · intro h k hk
    have := h k hk
    unfold goodC at this
    simp at this ⊢
    omega
theorem e_withinT (s : Str) (n : Nat) (st : Sto) (hl : s.length ≤ 61) : ∃ l, FF (n + 1) 16 [pv (.t s)] st = some (.bl (lettersOk s), st ++ l) := by
  show ∃ l, iDef 1 3 (b__law_within (FF n)) _ _ = _
  have h1 : s.length ≤ 100000 := by omega
  by_cases h6 : s.length ≤ 60
  · have h6' : (s.length : Int) ≤ 60 := by omega
    have c1 : ∀ k : Nat, ltS ⟨#[k]⟩ S_x20 = decide (k < 32) := fun k => by
      rw [show S_x20 = ⟨#[32]⟩ by decide +kernel]
      exact ltS_lo _ _
    have c2 : ∀ k : Nat, ltS S_x7e ⟨#[k]⟩ = decide (126 < k) := fun k => by
      rw [show S_x7e = ⟨#[126]⟩ by decide +kernel]
      exact ltS_lo _ _
    obtain ⟨l, hlc⟩ := iLc_strm (ie := iBin fSubA (iVar 0) (iC (.int 1))) (e := iVar 2) (ig := gN 2) (t := (iOr (iTestB (iBin fLt (iVar 2) (iC (.str S_x20)))) (iTestB (iBin fGt (iVar 2) (iC (.str S_x7e)))))) (vs := [2]) (env := [some (pv (.t s)), none, none]) (st := st) (s1 := st) (x := s) (g := fun k => .str ⟨#[k]⟩) (p := fun k => decide (k < 32) || decide (126 < k))
      (by simp [pv]) (by omega) fun k hk s' => ⟨[some (pv (.t s)), none, some (.str ⟨#[k]⟩)], rfl, by
        by_cases h : k < 32 <;> simp [c1, c2, h], fun _ => ⟨[], by simp⟩⟩
    have hn := fLen_l (st := st ++ [SO.lst ((s.cps.toList.filter fun k => decide (k < 32) || decide (126 < k)).map fun k => PV.str ⟨#[k]⟩)] ++ l) (n := st.length) at_mid
    have hb := bad_none s
    generalize hq : (s.cps.toList.filter fun k => decide (k < 32) || decide (126 < k)) = bad at *
    refine ⟨[SO.lst (bad.map fun k => PV.str ⟨#[k]⟩)] ++ l, ?_⟩
    simp only [List.append_assoc, List.cons_append, List.nil_append, pv] at hn hlc
    have hz : (((bad.map fun k => PV.str ⟨#[k]⟩).length : Int) == 0) = s.cps.toList.all fun k => goodC k := by
      cases hg : (s.cps.toList.all fun k => goodC k) with
      | true => rw [hb.mpr hg]; rfl
      | false =>
        cases bad with
        | nil => rw [hb.mp rfl] at hg; cases hg
        | cons => simp; omega
    simp [iDef, b__law_within, pv, h1, h6', hlc, hn, lettersOk, h6]
    rw [List.length_map] at hz
    rw [hz]
    simp
  · have h6' : ¬ (s.length : Int) ≤ 60 := by omega
    exact ⟨[], by simp [iDef, b__law_within, pv, h1, h6', lettersOk, h6]⟩
mutual
theorem e_within : ∀ (x : Sh) (n : Nat) (st : Sto), dp x + 1 ≤ n → wf x = true → ∃ l, FF n 16 [pv x] st = some (.bl (wi x), st ++ l)
  | x, 0, st, h, _ => absurd h (by omega)
  | .i z, n + 1, st, h, w => by
    refine ⟨[], ?_⟩
    show iDef 1 3 (b__law_within (FF n)) _ _ = _
    have e : ((if z < 0 then -z else z) ≤ 1000000000000) = (-1000000000000 ≤ z ∧ z ≤ 1000000000000) := by
      apply propext
      split <;> omega
    simp [iDef, b__law_within, pv, wi, -fPow_i, p12, e]
  | .b z, n + 1, st, h, w => by
    refine ⟨[], ?_⟩
    show iDef 1 3 (b__law_within (FF n)) _ _ = _
    simp [iDef, b__law_within, pv, wi]
  | .t s, n + 1, st, h, w => by
    unfold wf at w
    rw [Bool.and_eq_true, decide_eq_true_eq] at w
    exact e_withinT s n st w.2
  | .n, n + 1, st, h, w => by
    refine ⟨[], ?_⟩
    show iDef 1 3 (b__law_within (FF n)) _ _ = _
    simp [iDef, b__law_within, pv, wi]
  | .l xs, n + 1, st, h, w => by
    show ∃ l, iDef 1 3 (b__law_within (FF n)) _ _ = _
    unfold wf at w
    rw [Bool.and_eq_true, decide_eq_true_eq] at w
    simp only [dp] at h
    by_cases h20 : xs.length ≤ 20
    · have h20' : (xs.length : Int) ≤ 20 := by omega
      have ih := e_withins xs n (by omega) w.2
      obtain ⟨l, hlc⟩ := iLc_tupm (ie := iBin fSubA (iVar 0) (iC (.int 1))) (e := iCall (FF n 16) (iCons (iVar 1) iNil)) (ig := gN 1) (t := iYes) (vs := [1]) (env := [some (pv (.l xs)), none, none]) (st := st) (s1 := st) (xs := xs) (f := pv) (g := fun x => .bl (wi x)) (p := fun _ => true)
        (by simp [pv, pvs_eq]) (by omega) fun x hx s' => ⟨[some (pv (.l xs)), some (pv x), none], rfl, rfl, fun _ => by
          obtain ⟨l, e⟩ := ih x hx s'
          exact ⟨l, by simp [e]⟩⟩
      rw [filter_yes] at hlc
      have hb := inA_bls (xs := xs) (f := wi) (st := st ++ [SO.lst (xs.map fun x => PV.bl (wi x))] ++ l) (r := st.length) at_mid
      refine ⟨[SO.lst (xs.map fun x => PV.bl (wi x))] ++ l, ?_⟩
      simp only [List.append_assoc, List.cons_append, List.nil_append, pv] at hb hlc
      simp [pvs_eq] at hlc
      simp [iDef, b__law_within, pv, pvs_eq, h20', wi, h20, wis_all, hlc, hb]
    · have h20' : ¬ (xs.length : Int) ≤ 20 := by omega
      exact ⟨[], by simp [iDef, b__law_within, pv, pvs_eq, h20', wi, h20]⟩
theorem e_withins : ∀ (xs : List Sh) (n : Nat), dps xs + 1 ≤ n → wfs xs = true → ∀ x ∈ xs, ∀ st : Sto, ∃ l, FF n 16 [pv x] st = some (.bl (wi x), st ++ l)
  | [], n, h, w, x, hx, st => by simp at hx
  | y :: ys, n, h, w, x, hx, st => by
    unfold wfs at w
    rw [Bool.and_eq_true] at w
    simp only [dps] at h
    have h1 := e_within y n
    have h2 := e_withins ys n (by omega) w.2
    rcases List.mem_cons.mp hx with rfl | hx
    · exact h1 st (by omega) w.1
    · exact h2 x hx st
end
theorem max_dps : ∀ (xs : List Sh) (a : Nat), (xs.map fun x => (dp x : Int)).foldl (fun a z => if a < z then z else a) (a : Int) = ((max a (dps xs) : Nat) : Int)
  | [], a => by simp [dps]
  | x :: xs, a => by
    rw [List.map_cons, List.foldl_cons]
    have e : (if (a : Int) < (dp x : Int) then (dp x : Int) else (a : Int)) = ((max a (dp x) : Nat) : Int) := by
      split <;> omega
    rw [e, max_dps xs]
    simp only [dps]
    congr 1
    omega
mutual
theorem e_depth : ∀ (x : Sh) (n : Nat) (st : Sto), dp x + 1 ≤ n → wf x = true → ∃ l, FF n 17 [pv x] st = some (.int (dp x), st ++ l)
  | x, 0, st, h, _ => absurd h (by omega)
  | .i z, n + 1, st, h, w => by
    refine ⟨[], ?_⟩
    show iDef 1 2 (b__law_depth (FF n)) _ _ = _
    simp [iDef, b__law_depth, pv, dp]
  | .b z, n + 1, st, h, w => by
    refine ⟨[], ?_⟩
    show iDef 1 2 (b__law_depth (FF n)) _ _ = _
    simp [iDef, b__law_depth, pv, dp]
  | .t s, n + 1, st, h, w => by
    refine ⟨[], ?_⟩
    show iDef 1 2 (b__law_depth (FF n)) _ _ = _
    simp [iDef, b__law_depth, pv, dp]
  | .n, n + 1, st, h, w => by
    refine ⟨[], ?_⟩
    show iDef 1 2 (b__law_depth (FF n)) _ _ = _
    simp [iDef, b__law_depth, pv, dp]
  | .l xs, n + 1, st, h, w => by
    show ∃ l, iDef 1 2 (b__law_depth (FF n)) _ _ = _
    unfold wf at w
    rw [Bool.and_eq_true, decide_eq_true_eq] at w
    simp only [dp] at h
    have ih := e_depths xs n (by omega) w.2
    obtain ⟨l, hlc⟩ := iLc_tupm (ie := iBin fSubA (iVar 0) (iC (.int 1))) (e := iCall (FF n 17) (iCons (iVar 1) iNil)) (ig := gN 1) (t := iYes) (vs := [1]) (env := [some (pv (.l xs)), none]) (st := st ++ [.lst [.int 0]]) (s1 := st ++ [.lst [.int 0]]) (xs := xs) (f := pv) (g := fun x => .int (dp x)) (p := fun _ => true)
      (by simp [pv, pvs_eq]) (by omega) fun x hx s' => ⟨[some (pv (.l xs)), some (pv x)], rfl, rfl, fun _ => by
        obtain ⟨l, e⟩ := ih x hx s'
        exact ⟨l, by simp [e]⟩⟩
    rw [filter_yes] at hlc
    generalize hs2 : st ++ [SO.lst [.int 0]] ++ [SO.lst (xs.map fun x => PV.int (dp x))] ++ l = s2 at hlc
    have a0 : s2[st.length]? = some (.lst [.int 0]) := by
      rw [← hs2, List.append_assoc, List.append_assoc, List.getElem?_append_right (Nat.le_refl _)]
      simp
    have a1 : s2[(st ++ [SO.lst [PV.int 0]]).length]? = some (.lst (xs.map fun x => PV.int (dp x))) := by
      rw [← hs2]
      exact at_mid
    have hadd : fAdd (.ref st.length) (.ref (st ++ [SO.lst [PV.int 0]]).length) s2 = some (.ref s2.length, s2 ++ [.lst (PV.int 0 :: xs.map fun x => PV.int (dp x))]) := by
      unfold fAdd
      simp only [a0, a1]
      rw [if_pos (by simp; omega)]
      rfl
    have hmax : fMax (.ref s2.length) (s2 ++ [.lst (PV.int 0 :: xs.map fun x => PV.int (dp x))]) = some (.int (dps xs : Nat), s2 ++ [.lst (PV.int 0 :: xs.map fun x => PV.int (dp x))]) := by
      have e : intsOf (s2 ++ [.lst (PV.int 0 :: xs.map fun x => PV.int (dp x))]) (.ref s2.length) = some ((0 : Int) :: xs.map fun x => (dp x : Int)) := by
        unfold intsOf
        rw [listOf_r, new_at]
        simp only
        rw [mapO_cons, mapO_intsf]
        rfl
      rw [fMax_e, e]
      have e2 : maxI ((0 : Int) :: xs.map fun x => (dp x : Int)) 0 = ((dps xs : Nat) : Int) := by
        have := max_dps xs 0
        rw [Nat.zero_max] at this
        exact this
      simp only [e2]
    refine ⟨[SO.lst [.int 0]] ++ [SO.lst (xs.map fun x => PV.int (dp x))] ++ l ++ [.lst (PV.int 0 :: xs.map fun x => PV.int (dp x))], ?_⟩
    have hfin : st ++ ([SO.lst [.int 0]] ++ [SO.lst (xs.map fun x => PV.int (dp x))] ++ l ++ [.lst (PV.int 0 :: xs.map fun x => PV.int (dp x))]) = s2 ++ [.lst (PV.int 0 :: xs.map fun x => PV.int (dp x))] := by
      rw [← hs2]
      simp
    rw [hfin]
    simp only [pv] at hlc
    have h1 : 1 + (dps xs : Int) = ((dps xs + 1 : Nat) : Int) := by omega
    simp [iDef, b__law_depth, pv, dp, hlc, hadd, hmax, h1, -fMax_e, -List.length_append]
theorem e_depths : ∀ (xs : List Sh) (n : Nat), dps xs + 1 ≤ n → wfs xs = true → ∀ x ∈ xs, ∀ st : Sto, ∃ l, FF n 17 [pv x] st = some (.int (dp x), st ++ l)
  | [], n, h, w, x, hx, st => by simp at hx
  | y :: ys, n, h, w, x, hx, st => by
    unfold wfs at w
    rw [Bool.and_eq_true] at w
    simp only [dps] at h
    have h1 := e_depth y n
    have h2 := e_depths ys n (by omega) w.2
    rcases List.mem_cons.mp hx with rfl | hx
    · exact h1 st (by omega) w.1
    · exact h2 x hx st
end
end M10

namespace M10
open PySem PySem.Spec PyProof.Rows L2 IL
/-- a type that a value may have: nothing left open -/
def conc : Kn → Bool
  | .u => false
  | .s j => simpleK j
  | .l k => conc k
theorem conc_ok : ∀ {k : Kn}, conc k = true → okK k = true
  | .u, h => by cases h
  | .s j, h => h
  | .l k, h => conc_ok (k := k) h
mutual
def ft : Sh → Kn → Bool
  | .i _, .s j => decide (2 = j)
  | .i _, _ => false
  | .b _, .s j => decide (5 = j)
  | .b _, _ => false
  | .t _, .s j => decide (3 = j)
  | .t _, _ => false
  | .n, .s j => decide (6 = j)
  | .n, _ => false
  | .l xs, .l k => fts xs k
  | .l _, _ => false
def fts : List Sh → Kn → Bool
  | [], _ => true
  | x :: xs, k => ft x k && fts xs k
end
theorem fts_all (k : Kn) : ∀ xs : List Sh, fts xs k = xs.all fun x => ft x k
  | [] => rfl
  | x :: xs => by
    show (ft x k && fts xs k) = _
    rw [fts_all k xs]; rfl
theorem eq_s_l {j : Nat} {k : Kn} (hj : j < 17) (h : okK k = true) (d : kd k < 59) (st : Sto) : eqP st (.str (Sx j)) (.tup [.str S_list, pk k]) = some false := by
  have e := eqP_gd (st := st) (x := .str (Sx j)) (by simp [gd, hj]) (gd_pk (.l k) 60 h (by simp only [kd]; omega))
  simp only [pk] at e
  rw [e]
  simp [datP, PyData.eqv]
mutual
theorem e_fits : ∀ (x : Sh) (k : Kn) (n : Nat) (st : Sto), dp x + 1 ≤ n → wf x = true → conc k = true → kd k < 59 → ∃ l, FF n 6 [pv x, pk k] st = some (.bl (ft x k), st ++ l)
  | x, k, 0, st, h, _, _, _ => absurd h (by omega)
  | x, .u, n + 1, st, h, _, c, _ => by cases c
  | .i z, .s j, n + 1, st, h, w, c, d => by
    refine ⟨[], ?_⟩
    show iDef 2 3 (b_fits (FF n)) _ _ = _
    have hj := (simple_lt c).1
    simp [iDef, b_fits, pv, pk, ft, hj]
  | .b z, .s j, n + 1, st, h, w, c, d => by
    refine ⟨[], ?_⟩
    show iDef 2 3 (b_fits (FF n)) _ _ = _
    have hj := (simple_lt c).1
    simp [iDef, b_fits, pv, pk, ft, hj]
  | .t s, .s j, n + 1, st, h, w, c, d => by
    refine ⟨[], ?_⟩
    show iDef 2 3 (b_fits (FF n)) _ _ = _
    have hj := (simple_lt c).1
    simp [iDef, b_fits, pv, pk, ft, hj]
  | .n, .s j, n + 1, st, h, w, c, d => by
    refine ⟨[], ?_⟩
    show iDef 2 3 (b_fits (FF n)) _ _ = _
    have hj := (simple_lt c).1
    simp [iDef, b_fits, pv, pk, ft, hj]
  | .i z, .l k, n + 1, st, h, w, c, d => by
    refine ⟨[], ?_⟩
    show iDef 2 3 (b_fits (FF n)) _ _ = _
    have e := eq_s_l (j := 2) (by omega) (conc_ok (k := k) c) (by simp only [kd] at d; omega) st
    simp [iDef, b_fits, pv, pk, ft, e]
  | .b z, .l k, n + 1, st, h, w, c, d => by
    refine ⟨[], ?_⟩
    show iDef 2 3 (b_fits (FF n)) _ _ = _
    have e := eq_s_l (j := 5) (by omega) (conc_ok (k := k) c) (by simp only [kd] at d; omega) st
    simp [iDef, b_fits, pv, pk, ft, e]
  | .t z, .l k, n + 1, st, h, w, c, d => by
    refine ⟨[], ?_⟩
    show iDef 2 3 (b_fits (FF n)) _ _ = _
    have e := eq_s_l (j := 3) (by omega) (conc_ok (k := k) c) (by simp only [kd] at d; omega) st
    simp [iDef, b_fits, pv, pk, ft, e]
  | .n, .l k, n + 1, st, h, w, c, d => by
    refine ⟨[], ?_⟩
    show iDef 2 3 (b_fits (FF n)) _ _ = _
    have e := eq_s_l (j := 6) (by omega) (conc_ok (k := k) c) (by simp only [kd] at d; omega) st
    simp [iDef, b_fits, pv, pk, ft, e]
  | .l xs, .s j, n + 1, st, h, w, c, d => by
    refine ⟨[], ?_⟩
    show iDef 2 3 (b_fits (FF n)) _ _ = _
    simp [iDef, b_fits, pv, pk, ft]
  | .l xs, .l k, n + 1, st, h, w, c, d => by
    show ∃ l, iDef 2 3 (b_fits (FF n)) _ _ = _
    unfold wf at w
    rw [Bool.and_eq_true, decide_eq_true_eq] at w
    simp only [dp] at h
    simp only [kd] at d
    have ih := e_fitss xs k n (by omega) w.2 c (by omega)
    obtain ⟨l, hlc⟩ := iLc_tupm (ie := iBin fSubA (iVar 0) (iC (.int 1))) (e := iCall (FF n 6) (iCons (iVar 2) (iCons (iBin fSubA (iVar 1) (iC (.int 1))) iNil))) (ig := gN 2) (t := iYes) (vs := [2]) (env := [some (pv (.l xs)), some (pk (.l k)), none]) (st := st) (s1 := st) (xs := xs) (f := pv) (g := fun x => .bl (ft x k)) (p := fun _ => true)
      (by simp [pv, pvs_eq]) (by omega) fun x hx s' => ⟨[some (pv (.l xs)), some (pk (.l k)), some (pv x)], rfl, rfl, fun _ => by
        obtain ⟨l, e⟩ := ih x hx s'
        exact ⟨l, by simp [e, pk]⟩⟩
    rw [filter_yes] at hlc
    have hb := blsOf_r (xs := xs) (f := fun x => ft x k) (st := st ++ [SO.lst (xs.map fun x => PV.bl (ft x k))] ++ l) (r := st.length) at_mid
    refine ⟨[SO.lst (xs.map fun x => PV.bl (ft x k))] ++ l, ?_⟩
    simp only [List.append_assoc, List.cons_append, List.nil_append, pv, pk] at hb hlc
    simp [pvs_eq] at hlc
    simp [iDef, b_fits, pv, pk, pvs_eq, ft, fts_all, hlc, hb, List.all_map]
    try rfl
theorem e_fitss : ∀ (xs : List Sh) (k : Kn) (n : Nat), dps xs + 1 ≤ n → wfs xs = true → conc k = true → kd k < 59 → ∀ x ∈ xs, ∀ st : Sto, ∃ l, FF n 6 [pv x, pk k] st = some (.bl (ft x k), st ++ l)
  | [], k, n, h, w, _, _, x, hx, st => by simp at hx
  | y :: ys, k, n, h, w, c, d, x, hx, st => by
    unfold wfs at w
    rw [Bool.and_eq_true] at w
    simp only [dps] at h
    have h1 := e_fits y k n
    have h2 := e_fitss ys k n (by omega) w.2 c d
    rcases List.mem_cons.mp hx with rfl | hx
    · exact h1 st (by omega) w.1 c d
    · exact h2 x hx st
end
mutual
theorem e_lfits : ∀ (x : Sh) (k : Kn) (n : Nat) (st : Sto), dp x + 1 ≤ n → wf x = true → conc k = true → kd k < 59 → ∃ l, FF n 18 [pv x, pk k] st = some (.bl (ft x k), st ++ l)
  | x, k, 0, st, h, _, _, _ => absurd h (by omega)
  | x, .u, n + 1, st, h, _, c, _ => by cases c
  | .i z, .s j, n + 1, st, h, w, c, d => by
    refine ⟨[], ?_⟩
    show iDef 2 3 (b__law_fits (FF n)) _ _ = _
    have hj := (simple_lt c).1
    simp [iDef, b__law_fits, pv, pk, ft, hj]
  | .b z, .s j, n + 1, st, h, w, c, d => by
    refine ⟨[], ?_⟩
    show iDef 2 3 (b__law_fits (FF n)) _ _ = _
    have hj := (simple_lt c).1
    simp [iDef, b__law_fits, pv, pk, ft, hj]
  | .t s, .s j, n + 1, st, h, w, c, d => by
    refine ⟨[], ?_⟩
    show iDef 2 3 (b__law_fits (FF n)) _ _ = _
    have hj := (simple_lt c).1
    simp [iDef, b__law_fits, pv, pk, ft, hj]
  | .n, .s j, n + 1, st, h, w, c, d => by
    refine ⟨[], ?_⟩
    show iDef 2 3 (b__law_fits (FF n)) _ _ = _
    have hj := (simple_lt c).1
    simp [iDef, b__law_fits, pv, pk, ft, hj]
  | .i z, .l k, n + 1, st, h, w, c, d => by
    refine ⟨[], ?_⟩
    show iDef 2 3 (b__law_fits (FF n)) _ _ = _
    simp [iDef, b__law_fits, pv, pk, ft]
  | .b z, .l k, n + 1, st, h, w, c, d => by
    refine ⟨[], ?_⟩
    show iDef 2 3 (b__law_fits (FF n)) _ _ = _
    simp [iDef, b__law_fits, pv, pk, ft]
  | .t z, .l k, n + 1, st, h, w, c, d => by
    refine ⟨[], ?_⟩
    show iDef 2 3 (b__law_fits (FF n)) _ _ = _
    simp [iDef, b__law_fits, pv, pk, ft]
  | .n, .l k, n + 1, st, h, w, c, d => by
    refine ⟨[], ?_⟩
    show iDef 2 3 (b__law_fits (FF n)) _ _ = _
    simp [iDef, b__law_fits, pv, pk, ft]
  | .l xs, .s j, n + 1, st, h, w, c, d => by
    refine ⟨[], ?_⟩
    show iDef 2 3 (b__law_fits (FF n)) _ _ = _
    have hj := (simple_lt c)
    have h4 : ¬ (4 = j) := fun e => hj.2.1 e.symm
    simp [iDef, b__law_fits, pv, pk, ft, hj.1, h4]
  | .l xs, .l k, n + 1, st, h, w, c, d => by
    show ∃ l, iDef 2 3 (b__law_fits (FF n)) _ _ = _
    unfold wf at w
    rw [Bool.and_eq_true, decide_eq_true_eq] at w
    simp only [dp] at h
    simp only [kd] at d
    have ih := e_lfitss xs k n (by omega) w.2 c (by omega)
    obtain ⟨l, hlc⟩ := iLc_tupm (ie := iBin fSubA (iVar 0) (iC (.int 1))) (e := iCall (FF n 18) (iCons (iVar 2) (iCons (iBin fSubA (iVar 1) (iC (.int 1))) iNil))) (ig := gN 2) (t := iYes) (vs := [2]) (env := [some (pv (.l xs)), some (pk (.l k)), none]) (st := st) (s1 := st) (xs := xs) (f := pv) (g := fun x => .bl (ft x k)) (p := fun _ => true)
      (by simp [pv, pvs_eq]) (by omega) fun x hx s' => ⟨[some (pv (.l xs)), some (pk (.l k)), some (pv x)], rfl, rfl, fun _ => by
        obtain ⟨l, e⟩ := ih x hx s'
        exact ⟨l, by simp [e, pk]⟩⟩
    rw [filter_yes] at hlc
    have hb := inA_bls (xs := xs) (f := fun x => ft x k) (st := st ++ [SO.lst (xs.map fun x => PV.bl (ft x k))] ++ l) (r := st.length) at_mid
    refine ⟨[SO.lst (xs.map fun x => PV.bl (ft x k))] ++ l, ?_⟩
    simp only [List.append_assoc, List.cons_append, List.nil_append, pv, pk] at hb hlc
    simp [pvs_eq] at hlc
    simp [iDef, b__law_fits, pv, pk, pvs_eq, ft, fts_all, hlc, hb]
    try rfl
theorem e_lfitss : ∀ (xs : List Sh) (k : Kn) (n : Nat), dps xs + 1 ≤ n → wfs xs = true → conc k = true → kd k < 59 → ∀ x ∈ xs, ∀ st : Sto, ∃ l, FF n 18 [pv x, pk k] st = some (.bl (ft x k), st ++ l)
  | [], k, n, h, w, _, _, x, hx, st => by simp at hx
  | y :: ys, k, n, h, w, c, d, x, hx, st => by
    unfold wfs at w
    rw [Bool.and_eq_true] at w
    simp only [dps] at h
    have h1 := e_lfits y k n
    have h2 := e_lfitss ys k n (by omega) w.2 c d
    rcases List.mem_cons.mp hx with rfl | hx
    · exact h1 st (by omega) w.1 c d
    · exact h2 x hx st
end
theorem isBool_tk (o : Option Kn) : isBool false (tk o) = o.isNone := by
  cases o with
  | none => rfl
  | some k => exact isBool_pk _ _
theorem e_value (x : Sh) (n : Nat) (st : Sto) (h : dp x + 4 ≤ n) (d : dp x < 59) (w : wf x = true) : ∃ l, FF n 5 [pv x] st = some (.bl (bd x 0 && (kn x).isSome), st ++ l) := by
  obtain ⟨m, rfl⟩ : ∃ m, n = m + 2 := ⟨n - 2, by omega⟩
  show ∃ l, iDef 1 1 (b_is_value (FF (m + 1))) _ _ = _
  obtain ⟨l, hb⟩ := e_bound x 0 m st (by omega) w
  have hb2 : FF (m + 1) 4 [pv x] st = some (.bl (bd x 0), st ++ l) := by
    show iDef 1 1 (b_is_bounded (FF m)) _ _ = _
    simp at hb
    simp [iDef, b_is_bounded, hb]
  have hk := e_known x (m + 1) (st ++ l) (by omega) d
  refine ⟨l, ?_⟩
  cases hv : bd x 0 with
  | false =>
    rw [hv] at hb2
    simp [iDef, b_is_value, hb2]
  | true =>
    rw [hv] at hb2
    simp [iDef, b_is_value, hb2, hk, isBool_tk]
/-! ### is_type -/
def wr : Nat → PV → PV
  | 0, x => x
  | n + 1, x => .tup [.str S_list, wr n x]
theorem pk_wr : ∀ {k : Kn}, conc k = true → ∃ j, simpleK j = true ∧ pk k = wr (kd k) (.str (Sx j))
  | .u, h => by cases h
  | .s j, h => ⟨j, h, rfl⟩
  | .l k, h => by
    obtain ⟨j, h1, h2⟩ := pk_wr (k := k) h
    exact ⟨j, h1, by simp only [pk, kd, wr, h2]⟩
theorem type_loop : ∀ (n : Nat) (v : PV) (a : Str) (d : Int) (m : Nat) (st : Sto),
    wloop (iTest (iCall (a2 fIsi) (iCons (iVar 1) (iCons (iC (.ty "tuple")) iNil)))) (iSeq (iAsg (gN 1) (iBin fSubA (iVar 1) (iC (.int 1)))) (iAugAdd 2 (iC (.int 1)))) (m + n + 1) [some v, some (wr n (.str a)), some (.int d)] st = some (.nx [some v, some (.str a), some (.int (d + n))] st)
  | 0, v, a, d, m, st => by
    unfold wloop
    simp [wr]
  | n + 1, v, a, d, m, st => by
    have ih := type_loop n v a (d + 1) m st
    show wloop _ _ (m + n + 1 + 1) _ _ = _
    conv => lhs; unfold wloop
    simp [wr]
    rw [ih, Int.add_assoc, Int.add_comm 1 (n : Int)]
theorem in_simple {j : Nat} (hj : j < 17) (st : Sto) : inA st (.str (Sx j)) c_SIMPLE_KINDS = some (simpleK j) := by
  simp [hj]
  exact (by decide : ∀ j : Fin 17, (decide (2 = j.1) || (decide (5 = j.1) || (decide (3 = j.1) || decide (6 = j.1)))) = simpleK j.1) ⟨j, hj⟩
theorem e_type (k : Nat) (j : Nat) (hk : k ≤ 1000) (hj : j < 17) (n : Nat) (st : Sto) : FF (n + 1) 0 [wr k (.str (Sx j))] st = some (.bl (simpleK j && decide (k ≤ 6)), st) := by
  show iDef 1 3 (b_is_type (FF n)) _ _ = _
  obtain ⟨m, hw⟩ := iWhile_at (k + 1) (by omega)
  have hl := type_loop k (wr k (.str (Sx j))) (Sx j) 0 m st
  have e := in_simple (st := st) hj
  have e6 : ((k : Int) ≤ 6) = (k ≤ 6) := by
    apply propext
    omega
  rw [Int.zero_add, show m + k + 1 = m + (k + 1) by omega] at hl
  cases hb : simpleK j <;> rw [hb] at e <;> simp [iDef, b_is_type, hw, hl, -inA_st, e, e6]
end M10

namespace M10
open PySem PySem.Spec PyProof.Rows L2 IL
structure LS (st : Sto) (s c : Nat) : Prop where
  ne : s ≠ c
  ex : ∃ (a : Int) (cells : List Int), st[s]? = some (.lst [.ref c, .int a]) ∧ st[c]? = some (.lst (cells.map .int)) ∧ (∀ x ∈ cells, 0 ≤ x) ∧ cells.length ≤ 63
theorem LS.app {s c : Nat} {a l : Sto} (h : LS a s c) : LS (a ++ l) s c := by
  obtain ⟨x, cells, h1, h2, h3⟩ := h.ex
  exact ⟨h.ne, x, cells, old_at h1, old_at h2, h3⟩
theorem LS.lt {s c : Nat} {st : Sto} (h : LS st s c) : s < st.length ∧ c < st.length := by
  obtain ⟨x, cells, h1, h2, _⟩ := h.ex
  exact ⟨lt_of_at h1, lt_of_at h2⟩
theorem LS.setO {s c d : Nat} {st : Sto} {o : SO} (h : LS st s c) (h1 : d ≠ s) (h2 : d ≠ c) : LS (st.set d o) s c := by
  obtain ⟨x, cells, e1, e2, h3⟩ := h.ex
  exact ⟨h.ne, x, cells, by rw [List.getElem?_set_ne h1]; exact e1, by rw [List.getElem?_set_ne h2]; exact e2, h3⟩
theorem LS.ext {a b : Sto} {s c : Nat} (L : LS a s c) (h : Ext a b) : LS b s c := by
  obtain ⟨l, rfl⟩ := h
  exact L.app
theorem set_same {st : Sto} {c : Nat} {o : SO} (h : st[c]? = some o) : st.set c o = st := by
  apply List.ext_getElem?
  intro i
  by_cases e : c = i
  · subst e
    rw [List.getElem?_set_self (lt_of_at h), h]
  · rw [List.getElem?_set_ne e]
theorem at_set {st : Sto} {c : Nat} {o o' : SO} (h : st[c]? = some o) : (st.set c o')[c]? = some o' := List.getElem?_set_self (lt_of_at h)
theorem pops {s c : Nat} {mm : Int} {o3 o4 : Option PV} : ∀ (cells : List Int) (m : Nat) (st : Sto), st[c]? = some (.lst (cells.map .int)) →
    wloop (iAnd (iTestB (iBin fGt (iCall (a1 fLen) (iCons (iVar 2) iNil)) (iC (.int 0)))) (iTestB (iBin fEq (iBin fSubA (iVar 2) (iC (.int 0))) (iC (.int 0))))) (iDrop (iPop0 (iVar 2) (iC (.int 0)))) (m + cells.length + 1) [some (.ref s), some (.int mm), some (.ref c), o3, o4] st
      = some (.nx [some (.ref s), some (.int mm), some (.ref c), o3, o4] (st.set c (.lst ((cells.dropWhile fun x => x == 0).map .int))))
  | [], m, st, h => by
    have hl := fLen_l h
    have hs : st.set c (.lst ((([] : List Int).dropWhile fun x => x == 0).map .int)) = st := set_same h
    rw [hs]
    simp at hl
    unfold wloop
    simp [hl]
  | x :: xs, m, st, h => by
    have hl := fLen_l h
    have h0 := fSubA_l (m := 0) h
    have hp : (0 : Int) < ((xs.length : Int) + 1) := by omega
    by_cases hx : x = 0
    · subst hx
      have ih := pops (s := s) (mm := mm) (o3 := o3) (o4 := o4) xs m (st.set c (.lst (xs.map .int))) (at_set h)
      rw [List.set_set] at ih
      simp at hl h0 h
      show wloop _ _ (m + xs.length + 1 + 1) _ _ = _
      conv => lhs; unfold wloop
      simp [hl, h0, hp, iPop0, h]
      exact ih
    · have hx2 : (x == 0) = false := by simpa using hx
      have hd : (x :: xs).dropWhile (fun x => x == 0) = x :: xs := by simp [List.dropWhile_cons, hx2]
      rw [hd, set_same h]
      simp at hl h0
      show wloop _ _ (m + xs.length + 1 + 1) _ _ = _
      conv => lhs; unfold wloop
      simp [hl, h0, hp, hx2]
section
variable {n : Nat} {st : Sto} {s c : Nat}
theorem e_draw (m : Int) (hm : 1 ≤ m) (hm2 : m ≤ 1000000000) (L : LS st s c) : ∃ r st', FF (n + 1) 10 [.ref s, .int m] st = some (.int r, st') ∧ 0 ≤ r ∧ r < m ∧ LS st' s c ∧ Fm s c st st' := by
  show ∃ r st', iDef 2 5 (b__law_draw (FF n)) _ _ = _ ∧ _
  obtain ⟨ne, a, cells, h1, h2, h3, h4⟩ := L
  obtain ⟨k, hw⟩ := iWhile_at (cells.length + 1) (by omega)
  have hp := pops (s := s) (mm := m) (o3 := none) (o4 := none) cells k st h2
  have hsub : ∀ x ∈ cells.dropWhile (fun x => x == 0), 0 ≤ x := fun x hx => h3 x ((List.dropWhile_sublist _).mem hx)
  have hlen : (cells.dropWhile (fun x => x == 0)).length ≤ 63 := Nat.le_trans (List.dropWhile_sublist _).length_le h4
  generalize hq : cells.dropWhile (fun x => x == 0) = cs at *
  have b1 : (st.set c (.lst (cs.map .int)))[s]? = some (.lst [.ref c, .int a]) := by rw [List.getElem?_set_ne (fun e => ne e.symm)]; exact h1
  have b2 : (st.set c (.lst (cs.map PV.int)))[c]? = some (.lst (cs.map .int)) := at_set h2
  have hF : Fm s c st (st.set c (.lst (cs.map .int))) := Fm.set (.inr rfl)
  generalize hs1 : st.set c (.lst (cs.map PV.int)) = s1 at *
  have e0 := fSubA_l (m := 0) h1
  have e1 := fSubA_l (m := 1) b1
  have e2 := fLen_l b2
  have m1 : ¬ m < 1 := by omega
  have m0 : m ≠ 0 := by omega
  have hd : ∀ v : Int, cDiv v m = true := fun v => by
    unfold cDiv
    simp only [Bool.and_eq_true, decide_eq_true_eq]
    omega
  simp only [Nat.add_assoc] at hp
  cases cs with
  | nil =>
    have hmul : cMul a 48271 = true := by
      unfold cMul
      simp
    have h64 : ∀ v : Int, cDiv v 64 = true := fun v => by
      unfold cDiv
      simp
    obtain ⟨r0, r1⟩ := fmod_b (a := ((a * 48271 + 12345).fmod 2147483647).fdiv 64) (b := m) (by omega)
    have hset := fSetA_l (k := 1) (v := .int ((a * 48271 + 12345).fmod 2147483647)) b1 (ixN_in (by omega) (by simp))
    refine ⟨_, s1.set s (.lst [.ref c, .int ((a * 48271 + 12345).fmod 2147483647)]), ?_, r0, r1, ⟨ne, _, [], at_set b1, by rw [List.getElem?_set_ne ne]; exact b2, by simp, by simp⟩, hF.trans (Fm.set (.inl rfl))⟩
    simp at e0 e1 e2 hset
    simp [iDef, b__law_draw, m1, e0, hw, hp, e2, e1, hmul, hset, h64, m0]
  | cons v vs =>
    have e3 := fSubA_l (m := 0) b2
    obtain ⟨r0, r1⟩ := fmod_b (a := v) (b := m) (by omega)
    have v0 := hsub v List.mem_cons_self
    have hset := fSetA_l (k := 0) (v := .int (v.fdiv m)) b2 (ixN_in (by omega) (by simp))
    have hl : (0 : Int) < (vs.length : Int) + 1 := by omega
    have hdv : 0 ≤ v.fdiv m := by
      rw [Int.fdiv_eq_ediv_of_nonneg v (by omega)]
      exact Int.ediv_nonneg v0 (by omega)
    refine ⟨_, s1.set c (.lst ((v.fdiv m :: vs).map .int)), ?_, r0, r1, ⟨ne, a, v.fdiv m :: vs, by rw [List.getElem?_set_ne (fun e => ne e.symm)]; exact b1, at_set b2, ?_, hlen⟩, hF.trans (Fm.set (.inr rfl))⟩
    · simp at e0 e1 e2 e3 hset
      simp [iDef, b__law_draw, m1, e0, hw, hp, e2, e3, hset, hd, m0, hl]
    · intro x hx
      rcases List.mem_cons.mp hx with rfl | hx
      · exact hdv
      · exact hsub x (List.mem_cons_of_mem _ hx)
theorem e_pick (xs : List PV) (h1 : xs ≠ []) (h2 : xs.length ≤ 1000) (L : LS st s c) : ∃ x st', FF (n + 2) 11 [.ref s, .ref st.length] (st ++ [.lst xs]) = some (x, st') ∧ x ∈ xs ∧ LS st' s c ∧ Fm s c st st' := by
  show ∃ x st', iDef 2 2 (b__law_pick (FF (n + 1))) _ _ = _ ∧ _
  have hl : 0 < xs.length := List.length_pos_iff.mpr h1
  obtain ⟨r, st', e, r0, r1, L', F'⟩ := e_draw (n := n) (xs.length : Int) (by omega) (by omega) (L.app (l := [.lst xs]))
  obtain ⟨l1, l2⟩ := L.lt
  have hat : st'[st.length]? = some (.lst xs) := by
    rw [F'.old st.length (by simp) (by omega) (by omega)]
    exact new_at
  obtain ⟨x, hx, ha⟩ := atI_in (xs := xs) r0 r1
  have e1 := fLen_l (st := st ++ [.lst xs]) (n := st.length) new_at
  have e2 := fSubA_l (m := r) hat
  refine ⟨x, st', ?_, hx, L', Fm.app.trans F'⟩
  simp [iDef, b__law_pick, e1, e, e2, ha]
end
end M10

namespace M10
open PySem PySem.Spec PyProof.Rows L2 IL
section
variable {n : Nat} {st : Sto} {s c : Nat}
theorem range_i {ir : IA} {env : PEnv} {st s1 : Sto} {j : Int} (h : ir env st = some ([.int j], s1)) (hb : big j = true) : iRange1 ir env st = some (srcR 0 j.toNat, s1) := by
  simp [iRange1, h, hb]
theorem big_le {j : Int} (h0 : 0 ≤ j) (h1 : j ≤ 1000) : big j = true := by
  unfold big
  simp
  omega
theorem lc_range {jj : Int} {ir : IA} {ig : IG} {e : IE} {vs : List Nat} {env : PEnv} {s1 : Sto} (P : Sh → Prop) (hir : ir env st = some ([.int jj], s1)) (hj0 : 0 ≤ jj) (hj1 : jj ≤ 1000)
    (hstep : ∀ (i : Nat) (s' : Sto), LS s' s c → ∃ x env1 s2, ig (.int i) (wipeE env vs) s' = some env1 ∧ e env1 s' = some (pv x, s2) ∧ P x ∧ LS s2 s c ∧ Fm s c s' s2) (L1 : LS s1 s c) :
    ∃ (xs : List Sh) (s2 : Sto), iLc (iRange1 ir) ig iYes e vs env st = some (.ref s1.length, s2) ∧ s2[s1.length]? = some (.lst (xs.map pv)) ∧ (xs.length : Int) = jj ∧ (∀ x ∈ xs, P x) ∧ LS s2 s c ∧ Fm s c s1 s2 := by
  obtain ⟨l1, l2⟩ := L1.lt
  have hr := range_i hir (big_le hj0 hj1)
  have hNj : ((jj.toNat : Nat) : Int) = jj := by omega
  have hN : jj.toNat ≤ 1000 := by omega
  generalize jj.toNat = N at hr hNj hN
  obtain ⟨acc, s2, h1, h2⟩ := lc_inv (at_ := (srcR 0 N).at_) (ig := ig) (t := iYes) (e := e) (d := s1.length) (envw := wipeE env vs)
    (I := fun i acc s' => ∃ xs : List Sh, acc = xs.map pv ∧ (∀ x ∈ xs, P x) ∧ xs.length = i ∧ LS s' s c ∧ Fm s c s1 s' ∧ s'[s1.length]? = some (.lst acc)) (N := N)
    (fun acc s' _ => by simp [srcR]) (fun i acc s' hi ⟨is, e1, e2, e3, L', F', hat⟩ => by
      obtain ⟨z, env1, s3, g0, g1, g2, L3, F3⟩ := hstep i s' L'
      have hlt := lt_of_at hat
      have hat3 : s3[s1.length]? = some (.lst acc) := by rw [F3.old s1.length hlt (by omega) (by omega)]; exact hat
      refine ⟨.int i, env1, pv z, s3, ?_, g0, rfl, g1, hat3, ?_, is ++ [z], ?_, ?_, ?_, L3.setO (by omega) (by omega), ⟨?_, ?_⟩, ?_⟩
      · simp [srcR, hi]
      · rw [e1, List.length_map]; omega
      · rw [e1, List.map_append]; rfl
      · intro w hw
        rcases List.mem_append.mp hw with h | h
        · exact e2 w h
        · simp at h; rw [h]; exact g2
      · simp [e3]
      · rw [List.length_set]
        exact Nat.le_trans F'.len F3.len
      · intro j hj j1 j2
        rw [List.getElem?_set_ne (by omega)]
        exact (F'.trans F3).old j hj j1 j2
      · rw [List.getElem?_set_self (by have := F3.len; omega)])
    (N + 1) 0 [] (s1 ++ [.lst []]) ⟨[], rfl, by simp, rfl, L1.app, Fm.app, new_at⟩ (by omega) (by omega)
  obtain ⟨is, e1, e2, e3, L', F', hat⟩ := h2
  subst e1
  refine ⟨is, s2, ?_, hat, by rw [e3]; exact hNj, e2, L', F'⟩
  unfold iLc
  rw [hr, ob_s]
  have hn : (srcR 0 N).n = N := rfl
  rw [hn, h1]
  rfl
theorem pick_kind (L : LS st s c) : ∃ j st', FF (n + 2) 11 [.ref s, .ref st.length] (st ++ [.lst [.str S_int, .str S_bool, .str S_text, .str S_nothing]]) = some (.str (Sx j), st') ∧ simpleK j = true ∧ LS st' s c ∧ Fm s c st st' := by
  obtain ⟨x, st', e, hx, L', F'⟩ := e_pick (n := n) [.str S_int, .str S_bool, .str S_text, .str S_nothing] (by simp) (by simp) L
  simp only [List.mem_cons, List.not_mem_nil, or_false] at hx
  rcases hx with rfl | rfl | rfl | rfl
  · exact ⟨2, st', e, rfl, L', F'⟩
  · exact ⟨5, st', e, rfl, L', F'⟩
  · exact ⟨3, st', e, rfl, L', F'⟩
  · exact ⟨6, st', e, rfl, L', F'⟩
theorem e_ty : ∀ (deep n : Nat) (st : Sto), LS st s c → ∃ k st', FF (n + deep + 3) 12 [.ref s, .int deep] st = some (pk k, st') ∧ conc k = true ∧ kd k ≤ deep ∧ LS st' s c ∧ Fm s c st st'
  | 0, n, st, L => by
    show ∃ k st', iDef 2 2 (b__law_type (FF (n + 2))) _ _ = _ ∧ _
    obtain ⟨j, st', e, hj, L', F'⟩ := pick_kind (n := n) L
    exact ⟨.s j, st', by simp [iDef, b__law_type, e, pk], hj, Nat.le_refl _, L', F'⟩
  | d + 1, n, st, L => by
    show ∃ k st', iDef 2 2 (b__law_type (FF (n + d + 3))) _ _ = _ ∧ _
    obtain ⟨r, s1, a1, a2, a3, L1, F1⟩ := e_draw (n := n + d + 2) 3 (by omega) (by omega) L
    have hp : (0 : Int) < (d : Int) + 1 := by omega
    have hd : (d : Int) + 1 - 1 = d := by omega
    by_cases h0 : r = 0
    · subst h0
      obtain ⟨k, s2, b1, b2, b3, L2, F2⟩ := e_ty d n s1 L1
      exact ⟨.l k, s2, by simp [iDef, b__law_type, hp, a1, hd, b1, pk], b2, by simp only [kd]; omega, L2, F1.trans F2⟩
    · have h00 : (r == 0) = false := by simpa using h0
      obtain ⟨j, s2, e, hj, L2, F2⟩ := pick_kind (n := n + d + 1) L1
      exact ⟨.s j, s2, by simp [iDef, b__law_type, hp, a1, h00, e, pk], hj, Nat.zero_le _, L2, F1.trans F2⟩
def texts : List Str := [S_, S_a, S_x22, S_x22x22, S_ax20bx2cx20cx5d, repStr S_x7e 60, repStr S_x22 60, S_true]
theorem texts_good : ∀ t ∈ texts, wf (.t t) = true ∧ wi (.t t) = true := by
  have h : texts.all (fun t => wf (.t t) && wi (.t t)) = true := by decide +kernel
  intro t ht
  have := List.all_eq_true.mp h t ht
  rwa [Bool.and_eq_true] at this
theorem eq_l_s {j : Nat} {k : Kn} (hj : j < 17) (h : okK k = true) (d : kd k < 59) (st : Sto) : eqP st (.tup [.str S_list, pk k]) (.str (Sx j)) = some false := by
  have e := eqP_gd (st := st) (gd_pk (.l k) 60 h (by simp only [kd]; omega)) (y := .str (Sx j)) (by simp [gd, hj])
  simp only [pk] at e
  rw [e]
  simp [datP, PyData.eqv]
def isL : Kn → Bool
  | .l _ => true
  | _ => false
theorem isP_pk (k : Kn) (st : Sto) : isP st (pk k) (.ty "tuple") = some (isL k) := by
  cases k <;> simp [pk, isL]
def Vd (s c : Nat) (k : Kn) : Prop := ∀ (n : Nat) (st : Sto), conc k = true → kd k < 59 → LS st s c → ∃ x st', FF (n + kd k + 4) 13 [.ref s, pk k] st = some (pv x, st') ∧ wf x = true ∧ wi x = true ∧ ft x k = true ∧ LS st' s c ∧ Fm s c st st'
theorem e_vd_s (j : Nat) : Vd s c (.s j) := by
    intro n st h _ L
    show ∃ x st', iDef 2 4 (b__law_value (FF (n + 3))) _ _ = _ ∧ _
    have hj : j = 2 ∨ j = 5 ∨ j = 3 ∨ j = 6 := by
      simp only [conc, simpleK, Bool.or_eq_true, beq_iff_eq] at h
      omega
    rcases hj with rfl | rfl | rfl | rfl
    · obtain ⟨r, s1, a1, a2, a3, L1, F1⟩ := e_draw (n := n + 2) 1000 (by omega) (by omega) L
      obtain ⟨x, s2, b1, b2, L2, F2⟩ := e_pick (n := n + 1) ([0, 1, -1, 10, -1000000000000, 1000000000000, r - 500].map PV.int) (by simp) (by simp) L1
      obtain ⟨i, hi, rfl⟩ := List.mem_map.mp b2
      have hw : -1000000000000 ≤ i ∧ i ≤ 1000000000000 := by
        simp at hi
        omega
      simp at b1
      exact ⟨.i i, s2, by simp [iDef, b__law_value, pk, a1, b1, pv, -fPow_i, p12], rfl, by simp [wi, hw], rfl, L2, F1.trans F2⟩
    · obtain ⟨r, s1, a1, a2, a3, L1, F1⟩ := e_draw (n := n + 2) 2 (by omega) (by omega) L
      exact ⟨.b (r == 0), s1, by simp [iDef, b__law_value, pk, a1, pv], rfl, rfl, rfl, L1, F1⟩
    · obtain ⟨x, s2, b1, b2, L2, F2⟩ := e_pick (n := n + 1) (texts.map PV.str) (by simp [texts]) (by simp [texts]) L
      obtain ⟨t, ht, rfl⟩ := List.mem_map.mp b2
      obtain ⟨g1, g2⟩ := texts_good t ht
      have k1 : fMul (.str S_x7e) (.int 60) = fun st => some (.str (repStr S_x7e 60), st) := by
        funext st
        show (if cRep S_x7e.length 60 then some (PV.str (repStr S_x7e 60), st) else none) = _
        rw [if_pos (by decide +kernel)]
      have k2 : fMul (.str S_x22) (.int 60) = fun st => some (.str (repStr S_x22 60), st) := by
        funext st
        show (if cRep S_x22.length 60 then some (PV.str (repStr S_x22 60), st) else none) = _
        rw [if_pos (by decide +kernel)]
      simp [texts] at b1
      exact ⟨.t t, s2, by simp [iDef, b__law_value, pk, b1, pv, k1, k2], g1, g2, rfl, L2, F2⟩
    · exact ⟨.n, st, by simp [iDef, b__law_value, pk, pv], rfl, rfl, rfl, L, Fm.refl⟩
theorem many_vd {k : Kn} (L : LS st s c) : ∃ (j : Int) (s1 : Sto), (0 ≤ j ∧ j ≤ 20) ∧ LS s1 s c ∧ Fm s c st s1 ∧ (iIf (iAnd (iTestB (iBin fEq (iCall (FF (n + kd k + 4) 10) (iCons (iVar 0) (iCons (iC (.int 30)) iNil))) (iC (.int 0)))) (iNot (iTest (iCall (a2 fIsi) (iCons (iBin fSubA (iVar 1) (iC (.int 1))) (iCons (iC (.ty "tuple")) iNil)))))) (iC (.int 20)) (iCall (FF (n + kd k + 4) 10) (iCons (iVar 0) (iCons (iC (.int 4)) iNil)))) [some (.ref s), some (.tup [.str S_list, pk k]), none, none] st = some (.int j, s1) := by
      obtain ⟨r, s1, a1, a2, a3, L1, F1⟩ := e_draw (n := n + kd k + 3) 30 (by omega) (by omega) L
      obtain ⟨r2, s2, b1, b2, b3, L2, F2⟩ := e_draw (n := n + kd k + 3) 4 (by omega) (by omega) L1
      by_cases h0 : r = 0
      · subst h0
        cases hl : isL k with
        | true =>
          refine ⟨r2, s2, by omega, L2, F1.trans F2, ?_⟩
          simp [a1, isP_pk, hl, b1]
        | false =>
          refine ⟨20, s1, by omega, L1, F1, ?_⟩
          simp [a1, isP_pk, hl]
      · have h00 : (r == 0) = false := by simpa using h0
        refine ⟨r2, s2, by omega, L2, F1.trans F2, ?_⟩
        simp [a1, h00, b1]
theorem e_vd_l (k : Kn) (ih : Vd s c k) : Vd s c (.l k) := by
    intro n st h hd L
    simp only [kd] at hd
    replace ih := ih n
    rw [show n + kd (.l k) + 4 = (n + kd k + 4) + 1 by simp only [kd]; omega]
    show ∃ x st', iDef 2 4 (b__law_value (FF (n + kd k + 4))) _ _ = _ ∧ _
    have q2 := eq_l_s (j := 2) (by omega) (conc_ok (k := k) h) (by omega)
    have q5 := eq_l_s (j := 5) (by omega) (conc_ok (k := k) h) (by omega)
    have q3 := eq_l_s (j := 3) (by omega) (conc_ok (k := k) h) (by omega)
    have q6 := eq_l_s (j := 6) (by omega) (conc_ok (k := k) h) (by omega)
    -- how many
    have hmany := many_vd (n := n) (k := k) L
    obtain ⟨N, s1, hN, L1, F1, hm⟩ := hmany
    obtain ⟨xs, s2, g1, g2, g3, g4, L2, F2⟩ := lc_range (jj := N) (ir := (iCons (iVar 2) iNil)) (ig := gN 3) (e := (iCall (FF (n + kd k + 4) 13) (iCons (iVar 0) (iCons (iBin fSubA (iVar 1) (iC (.int 1))) iNil)))) (vs := [3]) (env := [some (.ref s), some (.tup [.str S_list, pk k]), some (.int N), none]) (s1 := s1) (st := s1)
      (fun x => wf x = true ∧ wi x = true ∧ ft x k = true) (by simp) (by omega) (by omega) (fun i s' L' => by
        obtain ⟨x, s3, e1, e2, e3, e4, L3, F3⟩ := ih s' h (by omega) L'
        exact ⟨x, [some (.ref s), some (.tup [.str S_list, pk k]), some (.int N), some (.int i)], s3, rfl, by simp [e1], ⟨e2, e3, e4⟩, L3, F3⟩) L1
    refine ⟨.l xs, s2, ?_, ?_, ?_, ?_, L2, F1.trans F2⟩
    · have hb : b__law_value (FF (n + kd k + 4)) [some (.ref s), some (.tup [.str S_list, pk k]), none, none] st = some (.rt (pv (.l xs)) s2) := by
        simp only [b__law_value, iSeq_e, iIfS_e, iTestB_e, iBin_e, iVar_e, iC_e, fEq_e, ob_s, List.getElem?_cons_zero, List.getElem?_cons_succ, q2, q5, q3, q6, Option.map_some, isBl_e, iSkip_e, iAsg_e, hm]
        simp [g1, g2, pv, pvs_eq]
      simp [iDef, pk, hb]
    · unfold wf
      rw [Bool.and_eq_true, decide_eq_true_eq]
      exact ⟨by omega, all_wfs fun x hx => (g4 x hx).1⟩
    · unfold wi
      rw [Bool.and_eq_true, decide_eq_true_eq, wis_all, List.all_eq_true]
      exact ⟨by omega, fun x hx => (g4 x hx).2.1⟩
    · unfold ft
      rw [fts_all, List.all_eq_true]
      exact fun x hx => (g4 x hx).2.2
theorem e_vd : ∀ k : Kn, Vd s c k := by
  intro k
  induction k with
  | u =>
    intro n st h
    cases h
  | s j => exact e_vd_s j
  | l k ih => exact e_vd_l k ih
end
end M10

namespace M10
open PySem PySem.Spec PyProof.Rows L2 IL
/-! ### values of a type -/
def le : Kn → Kn → Bool
  | .u, _ => true
  | .s i, .s j => decide (i = j)
  | .l a, .l b => le a b
  | _, _ => false
theorem jn_le : ∀ {a b k : Kn}, le a k = true → le b k = true → ∃ c, jn a b = some c ∧ le c k = true
  | .u, b, k, _, hb => ⟨b, rfl, hb⟩
  | .s i, .u, k, ha, _ => ⟨.s i, rfl, ha⟩
  | .s i, .s j, .s m, ha, hb => by
    unfold le at ha hb
    rw [decide_eq_true_eq] at ha hb
    subst ha
    subst hb
    exact ⟨.s j, by simp [jn], by simp [le]⟩
  | .s i, .s j, .u, ha, _ => by cases ha
  | .s i, .s j, .l _, ha, _ => by cases ha
  | .s i, .l b, .s m, _, hb => by cases hb
  | .s i, .l b, .u, ha, _ => by cases ha
  | .s i, .l b, .l _, ha, _ => by cases ha
  | .l a, .u, k, ha, _ => ⟨.l a, rfl, ha⟩
  | .l a, .s j, .s m, ha, _ => by cases ha
  | .l a, .s j, .u, ha, _ => by cases ha
  | .l a, .s j, .l _, _, hb => by cases hb
  | .l a, .l b, .l k, ha, hb => by
    obtain ⟨c, h1, h2⟩ := jn_le (a := a) (b := b) (k := k) ha hb
    exact ⟨.l c, by simp [jn, h1], h2⟩
  | .l a, .l b, .u, ha, _ => by cases ha
  | .l a, .l b, .s _, ha, _ => by cases ha
mutual
theorem ft_kn : ∀ (x : Sh) (k : Kn), ft x k = true → (∃ a, kn x = some a ∧ le a k = true) ∧ dp x ≤ kd k
  | .i z, .s j, h => by
    unfold ft at h
    exact ⟨⟨_, rfl, by unfold le; exact h⟩, Nat.zero_le _⟩
  | .b z, .s j, h => by
    unfold ft at h
    exact ⟨⟨_, rfl, by unfold le; exact h⟩, Nat.zero_le _⟩
  | .t z, .s j, h => by
    unfold ft at h
    exact ⟨⟨_, rfl, by unfold le; exact h⟩, Nat.zero_le _⟩
  | .n, .s j, h => by
    unfold ft at h
    exact ⟨⟨_, rfl, by unfold le; exact h⟩, Nat.zero_le _⟩
  | .i z, .u, h => by cases h
  | .b z, .u, h => by cases h
  | .t z, .u, h => by cases h
  | .n, .u, h => by cases h
  | .i z, .l _, h => by cases h
  | .b z, .l _, h => by cases h
  | .t z, .l _, h => by cases h
  | .n, .l _, h => by cases h
  | .l xs, .u, h => by cases h
  | .l xs, .s _, h => by cases h
  | .l xs, .l k, h => by
    unfold ft at h
    obtain ⟨⟨c, h1, h2⟩, h3⟩ := fts_kn xs k .u h rfl
    refine ⟨⟨.l c, by simp [kn, h1], h2⟩, ?_⟩
    simp only [dp, kd]
    omega
theorem fts_kn : ∀ (xs : List Sh) (k a : Kn), fts xs k = true → le a k = true → (∃ c, kns xs a = some c ∧ le c k = true) ∧ dps xs ≤ kd k
  | [], k, a, _, ha => ⟨⟨a, rfl, ha⟩, Nat.zero_le _⟩
  | x :: xs, k, a, h, ha => by
    unfold fts at h
    rw [Bool.and_eq_true] at h
    obtain ⟨⟨b, h1, h2⟩, h3⟩ := ft_kn x k h.1
    obtain ⟨d, h4, h5⟩ := jn_le ha h2
    obtain ⟨⟨c, h6, h7⟩, h8⟩ := fts_kn xs k d h.2 h5
    refine ⟨⟨c, by simp [kns, h1, h4, h6], h7⟩, ?_⟩
    simp only [dps]
    omega
end
section
variable {n : Nat} {st : Sto} {s c : Nat}
def nest : Nat → Sh → Sh
  | 0, x => x
  | k + 1, x => .l [nest k x]
theorem nest_wf : ∀ {k : Nat} {x : Sh}, wf x = true → wf (nest k x) = true
  | 0, _, h => h
  | k + 1, x, h => by
    have ih := nest_wf (k := k) h
    simp [nest, wf, wfs, ih]
theorem nest_dp : ∀ (k : Nat) (x : Sh), dp (nest k x) = dp x + k
  | 0, _ => rfl
  | k + 1, x => by
    have ih := nest_dp k x
    simp only [nest, dp, dps, ih]
    omega
theorem for_rangei {jj : Int} {k : Nat} {body : IS} {env : PEnv} {st s1 : Sto} {ir : IA} (hir : ir env st = some ([.int jj], s1)) (h0 : 0 ≤ jj) (h1 : jj ≤ 1000) (I : Nat → PEnv → Sto → Prop) (hI : I 0 env s1)
    (h : ∀ (i : Nat) (e : PEnv) (s : Sto), (i : Int) < jj → I i e s → ∃ e2 s2, body (e.set k (some (.int i))) s = some (.nx e2 s2) ∧ I (i + 1) e2 s2) :
    ∃ e2 s2, iFor (iRange1 ir) (gN k) body env st = some (.nx e2 s2) ∧ I jj.toNat e2 s2 := by
  have hr := range_i hir (big_le h0 h1)
  have hN : ∀ i : Nat, i < jj.toNat → (i : Int) < jj := fun i hi => by omega
  generalize jj.toNat = N at hr hN ⊢
  obtain ⟨e', s', h2, h3⟩ := loop_inv (at_ := (srcR 0 N).at_) (ig := gN k) (body := body) I N (fun e s' _ => by simp [srcR]) (fun i e s' hi he => by
      obtain ⟨e2, s2, g1, g2⟩ := h i e s' (hN i hi) he
      exact ⟨.int i, e.set k (some (.int i)), e2, s2, by simp [srcR, hi], rfl, .inl g1, g2⟩) (N + 1) 0 env s1 hI (by omega) (by omega)
  refine ⟨e', s', ?_, h3⟩
  rw [iFor_e, hr, ob_s]
  exact h2
theorem e_deep (x : Sh) (j : Int) (h0 : 0 ≤ j) (h1 : j ≤ 1000) : FF (n + 1) 14 [pv x, .int j] st = some (pv (nest j.toNat x), st) := by
  show iDef 2 3 (b__law_deep_list (FF n)) _ _ = _
  obtain ⟨e', s', hf, o, he, hs⟩ := for_rangei (jj := j) (k := 2) (body := iAsg (gN 0) (iTup (iCons (iC (.str S_list)) (iCons (iTup (iCons (iVar 0) iNil)) iNil)))) (ir := iCons (iVar 1) iNil) (env := [some (pv x), some (.int j), none]) (st := st) (s1 := st) (by simp) h0 h1
    (fun i e s' => ∃ o, e = [some (pv (nest i x)), some (.int j), o] ∧ s' = st) ⟨none, rfl, rfl⟩ (fun i e s' hi ⟨o, he, hs⟩ => by
      subst he
      exact ⟨[some (pv (nest (i + 1) x)), some (.int j), some (.int i)], s', by simp [nest, pv, pvs], _, rfl, hs⟩)
  subst he
  subst hs
  simp [iDef, b__law_deep_list, -iFor_e, hf]
def texts2 : List Str := [repStr S_a 61, S_ax0a, S_x09]
theorem texts2_good : ∀ t ∈ texts2, wf (.t t) = true := by
  have h : texts2.all (fun t => wf (.t t)) = true := by decide +kernel
  intro t ht
  exact List.all_eq_true.mp h t ht
def Dw (s c : Nat) (deep : Nat) : Prop := ∀ (n : Nat) (st : Sto), LS st s c → ∃ x st', FF (n + deep + 6) 15 [.ref s, .int deep] st = some (pv x, st') ∧ wf x = true ∧ dp x ≤ deep + 8 ∧ LS st' s c ∧ Fm s c st st'
theorem shape_simple {r deep : Int} (h : r < 5 ∨ deep = 0) (h1 : FF (n + 5) 10 [.ref s, .int 12] st = some (.int r, s1)) (L1 : LS s1 s c) (F1 : Fm s c st s1) : ∃ x st', FF (n + 6) 15 [.ref s, .int deep] st = some (pv x, st') ∧ wf x = true ∧ dp x ≤ 0 ∧ LS st' s c ∧ Fm s c st st' := by
  show ∃ x st', iDef 2 4 (b__law_shape (FF (n + 5))) _ _ = _ ∧ _
  obtain ⟨j, s2, b1, b2, L2, F2⟩ := pick_kind (n := n + 3) L1
  obtain ⟨x, s3, c1, c2, c3, c4, L3, F3⟩ := e_vd (.s j) (n + 1) s2 b2 (by simp [kd]) L2
  obtain ⟨_, hd⟩ := ft_kn x (.s j) c4
  refine ⟨x, s3, ?_, c2, hd, L3, (F1.trans F2).trans F3⟩
  simp only [kd, pk, Nat.add_zero] at c1
  by_cases h5 : r < 5
  · simp [iDef, b__law_shape, h1, h5, b1, c1]
  · have h0 : deep = 0 := by omega
    subst h0
    simp [iDef, b__law_shape, h1, h5, b1, c1]
theorem e_sh_mid {r deep : Int} (h5 : 5 ≤ r) (h8 : r ≤ 8) (hd : deep ≠ 0) (h1 : FF (n + 5) 10 [.ref s, .int 12] st = some (.int r, s1)) (L1 : LS s1 s c) (F1 : Fm s c st s1) : ∃ x st', FF (n + 6) 15 [.ref s, .int deep] st = some (pv x, st') ∧ wf x = true ∧ dp x ≤ 8 ∧ LS st' s c ∧ Fm s c st st' := by
  show ∃ x st', iDef 2 4 (b__law_shape (FF (n + 5))) _ _ = _ ∧ _
  have hd0 : (deep == 0) = false := by simpa using hd
  have hr : r = 5 ∨ r = 6 ∨ r = 7 ∨ r = 8 := by omega
  rcases hr with rfl | rfl | rfl | rfl
  · obtain ⟨x, s2, b1, b2, L2, F2⟩ := e_pick (n := n + 3) ([1000000000001, -1000000000001].map PV.int) (by simp) (by simp) L1
    obtain ⟨i, hi, rfl⟩ := List.mem_map.mp b2
    simp at b1
    exact ⟨.i i, s2, by simp [iDef, b__law_shape, h1, hd0, -fPow_i, p12, b1, pv], rfl, by simp [dp], L2, F1.trans F2⟩
  · obtain ⟨x, s2, b1, b2, L2, F2⟩ := e_pick (n := n + 3) (texts2.map PV.str) (by simp [texts2]) (by simp [texts2]) L1
    obtain ⟨t, ht, rfl⟩ := List.mem_map.mp b2
    have k1 : fMul (.str S_a) (.int 61) = fun st => some (.str (repStr S_a 61), st) := by
      funext st
      show (if cRep S_a.length 61 then some (PV.str (repStr S_a 61), st) else none) = _
      rw [if_pos (by decide +kernel)]
    simp [texts2] at b1
    exact ⟨.t t, s2, by simp [iDef, b__law_shape, h1, hd0, k1, b1, pv], texts2_good t ht, by simp [dp], L2, F1.trans F2⟩
  · obtain ⟨l1, l2⟩ := L1.lt
    obtain ⟨x, s2, b1, b2, L2, F2⟩ := e_pick (n := n + 3) ([20, 21].map PV.int) (by simp) (by simp) (L1.app (l := [.lst [.tup [.str S_int, .int 1]]]))
    obtain ⟨i, hi, rfl⟩ := List.mem_map.mp b2
    have hi2 : i = 20 ∨ i = 21 := by simpa using hi
    have hat : s2[s1.length]? = some (.lst [.tup [.str S_int, .int 1]]) := by
      rw [F2.old s1.length (by simp) (by omega) (by omega)]
      exact new_at
    have hm : ∃ N : Nat, N ≤ 21 ∧ fMul (.ref s1.length) (.int i) s2 = some (.ref s2.length, s2 ++ [.lst (List.replicate N (.tup [.str S_int, .int 1]))]) := by
      rcases hi2 with rfl | rfl
      · refine ⟨20, by omega, ?_⟩
        unfold fMul
        simp only [hat]
        rw [if_pos (by simp [cRep])]
        rfl
      · refine ⟨21, by omega, ?_⟩
        unfold fMul
        simp only [hat]
        rw [if_pos (by simp [cRep])]
        rfl
    obtain ⟨N, hN, hm⟩ := hm
    have hp : List.replicate N (PV.tup [.str S_int, .int 1]) = pvs (List.replicate N (.i 1)) := by
      rw [pvs_eq, List.map_replicate]; rfl
    simp at b1
    refine ⟨.l (List.replicate N (.i 1)), s2 ++ [.lst (List.replicate N (.tup [.str S_int, .int 1]))], ?_, ?_, ?_, L2.app, (F1.trans (Fm.app.trans F2)).trans Fm.app⟩
    · simp [iDef, b__law_shape, h1, hd0, b1, hm, pv, hp]
    · unfold wf
      rw [Bool.and_eq_true, decide_eq_true_eq]
      exact ⟨by rw [List.length_replicate]; exact hN, all_wfs fun x hx => by rw [List.eq_of_mem_replicate hx]; rfl⟩
    · have := dps_le (xs := List.replicate N (Sh.i 1)) (n := 0) fun x hx => by rw [List.eq_of_mem_replicate hx]; exact Nat.le_refl _
      simp only [dp]
      omega
  · obtain ⟨x, s2, b1, b2, L2, F2⟩ := e_pick (n := n + 3) [pv (.i 3), pv (.l [])] (by simp) (by simp) L1
    obtain ⟨r, s3, c1, c2, c3, L3, F3⟩ := e_draw (n := n + 4) 5 (by omega) (by omega) L2
    have hx : ∃ y : Sh, x = pv y ∧ wf y = true ∧ dp y ≤ 1 := by
      simp only [List.mem_cons, List.not_mem_nil, or_false] at b2
      rcases b2 with rfl | rfl
      · exact ⟨_, rfl, rfl, by simp [dp]⟩
      · exact ⟨_, rfl, rfl, by simp [dp, dps]⟩
    obtain ⟨y, rfl, hy, hdy⟩ := hx
    have hde := e_deep (n := n + 4) (st := s3) y (3 + r) (by omega) (by omega)
    have hdp := nest_dp (3 + r).toNat y
    generalize hk : (3 + r).toNat = kk at hde hdp
    simp [pv, pvs] at b1
    refine ⟨nest kk y, s3, ?_, nest_wf hy, by omega, L3, (F1.trans F2).trans F3⟩
    simp [iDef, b__law_shape, h1, hd0, b1, c1, hde]
theorem e_shape : ∀ deep : Nat, Dw s c deep := by
  intro deep
  induction deep with
  | zero =>
    intro n st L
    obtain ⟨r, s1, a1, a2, a3, L1, F1⟩ := e_draw (n := n + 4) 12 (by omega) (by omega) L
    obtain ⟨x, st', h1, h2, h3, h4, h5⟩ := shape_simple (n := n) (r := r) (deep := 0) (.inr rfl) a1 L1 F1
    exact ⟨x, st', h1, h2, by omega, h4, h5⟩
  | succ d ih =>
    intro n st L
    obtain ⟨r, s1, a1, a2, a3, L1, F1⟩ := e_draw (n := n + d + 1 + 4) 12 (by omega) (by omega) L
    rw [show n + (d + 1) + 6 = n + d + 1 + 6 by omega]
    by_cases h5 : r < 5
    · obtain ⟨x, st', h1, h2, h3, h4, h5⟩ := shape_simple (n := n + d + 1) (r := r) (deep := ((d + 1 : Nat) : Int)) (.inl h5) a1 L1 F1
      exact ⟨x, st', h1, h2, by omega, h4, h5⟩
    · by_cases h8 : r ≤ 8
      · obtain ⟨x, st', h1, h2, h3, h4, h5⟩ := e_sh_mid (n := n + d + 1) (r := r) (deep := ((d + 1 : Nat) : Int)) (by omega) h8 (by omega) a1 L1 F1
        exact ⟨x, st', h1, h2, by omega, h4, h5⟩
      · show ∃ x st', iDef 2 4 (b__law_shape (FF (n + d + 1 + 5))) _ _ = _ ∧ _
        have hd0 : ((((d + 1 : Nat) : Int)) == 0) = false := by simp; omega
        have hd1 : (((d + 1 : Nat) : Int)) - 1 = (d : Int) := by omega
        generalize hD : ((d + 1 : Nat) : Int) = D at hd0 hd1
        have q5 : (r == 5) = false := by simp; omega
        have q6 : (r == 6) = false := by simp; omega
        have q7 : (r == 7) = false := by simp; omega
        have q8 : (r == 8) = false := by simp; omega
        obtain ⟨r2, s2, b1, b2, b3, L2, F2⟩ := e_draw (n := n + d + 1 + 4) 3 (by omega) (by omega) L1
        obtain ⟨xs, s3, g1, g2, g3, g4, L3, F3⟩ := lc_range (jj := r2) (ir := (iCons (iCall (FF (n + d + 1 + 5) 10) (iCons (iVar 0) (iCons (iC (.int 3)) iNil))) iNil)) (ig := gN 3) (e := (iCall (FF (n + d + 1 + 5) 15) (iCons (iVar 0) (iCons (iBin fSub (iVar 1) (iC (.int 1))) iNil)))) (vs := [3]) (env := [some (.ref s), some (.int D), some (.int r), none]) (s1 := s2) (st := s1)
          (fun x => wf x = true ∧ dp x ≤ d + 8) (by simp [b1]) (by omega) (by omega) (fun i s' L' => by
            obtain ⟨x, s3, e1, e2, e3, L3, F3⟩ := ih n s' L'
            exact ⟨x, [some (.ref s), some (.int D), some (.int r), some (.int i)], s3, rfl, by simp [hd1, e1], ⟨e2, e3⟩, L3, F3⟩) L2
        refine ⟨.l xs, s3, ?_, ?_, ?_, L3, (F1.trans F2).trans F3⟩
        · simp [iDef, b__law_shape, a1, h5, hd0, q5, q6, q7, q8, g1, g2, pv, pvs_eq]
        · unfold wf
          rw [Bool.and_eq_true, decide_eq_true_eq]
          exact ⟨by omega, all_wfs fun x hx => (g4 x hx).1⟩
        · have := dps_le (xs := xs) (n := d + 8) fun x hx => (g4 x hx).2
          simp only [dp]
          omega
end
end M10

namespace M10
open PySem PySem.Spec PyProof.Rows L2 IL
section
variable {n : Nat} {st : Sto} {s c : Nat}
theorem seed_loop (v : PV) (st : Sto) : ∀ (ns : List Int) (seed : Int) (o : Option PV), ∃ seed' o', foldT (gN 2) (iAsg (gN 1) (iBin fMod (iCall (a1 fInt1) (iCons (iBin fAdd (iBin fMul (iVar 1) (iC (.int 31))) (iVar 2)) iNil)) (iC (.int 1000003)))) (ns.map .int) [some v, some (.int seed), o] st = some (.nx [some v, some (.int seed'), o'] st)
  | [], seed, o => ⟨seed, o, rfl⟩
  | x :: xs, seed, o => by
    have hm : cMul seed 31 = true := by
      unfold cMul
      simp
    obtain ⟨s', o', h⟩ := seed_loop v st xs ((seed * 31 + x).fmod 1000003) (some (.int x))
    refine ⟨s', o', ?_⟩
    rw [← h]
    show foldT _ _ (.int x :: xs.map .int) _ _ = _
    conv => lhs; unfold foldT
    simp [hm]
theorem e_state (ns : List Int) (hl : ns.length ≤ 63) : ∃ s c st', FF (n + 1) 9 [.frz (ns.map .int)] st = some (.ref s, st') ∧ LS st' s c := by
  show ∃ s c st', iDef 1 3 (b__law_state (FF n)) _ _ = _ ∧ _
  obtain ⟨seed, o, h1⟩ := seed_loop (.frz (ns.map .int)) st ns 7 none
  have hf := (iFor_frz (ie := iVar 0) (ig := gN 2) (body := (iAsg (gN 1) (iBin fMod (iCall (a1 fInt1) (iCons (iBin fAdd (iBin fMul (iVar 1) (iC (.int 31))) (iVar 2)) iNil)) (iC (.int 1000003))))) (env := [some (.frz (ns.map .int)), some (.int 7), none]) (st := st) (s1 := st) (xs := ns.map .int) (by simp)).trans h1
  obtain ⟨l, hc⟩ := iLc_frzm (ie := iVar 0) (ig := gN 2) (t := iYes) (e := iCall (a1 fAbs) (iCons (iVar 2) iNil)) (vs := [2]) (env := [some (.frz (ns.map .int)), some (.int seed), o]) (st := st) (s1 := st) (xs := ns) (f := .int) (g := fun x => .int (if x < 0 then -x else x)) (p := fun _ => true)
    (by simp) (by omega) fun x hx s' => ⟨[some (.frz (ns.map .int)), some (.int seed), some (.int x)], rfl, rfl, fun _ => ⟨[], by simp⟩⟩
  rw [filter_yes] at hc
  generalize hs2 : st ++ [SO.lst (ns.map fun x => .int (if x < 0 then -x else x))] ++ l = s2 at hc
  have hat : s2[st.length]? = some (.lst (ns.map fun x => .int (if x < 0 then -x else x))) := by rw [← hs2]; exact at_mid
  have hlt := lt_of_at hat
  refine ⟨s2.length, st.length, s2 ++ [.lst [.ref st.length, .int (seed + 1)]], ?_, ⟨by omega, seed + 1, ns.map (fun x => if x < 0 then -x else x), new_at, ?_, ?_, by rw [List.length_map]; exact hl⟩⟩
  · simp [iDef, b__law_state, -iFor_e, hf, hc]
  · rw [old_at hat, List.map_map]; rfl
  · intro x hx
    obtain ⟨y, _, rfl⟩ := List.mem_map.mp hx
    split <;> omega
theorem e_kinds : ∃ (r : Nat) (st' : Sto) (ks : List Kn), FF (n + 1) 21 [.int 4] st = some (.ref r, st') ∧ st'[r]? = some (.lst (ks.map pk)) ∧ (∀ k ∈ ks, conc k = true ∧ kd k ≤ 4) ∧ Ext st st' := by
  show ∃ (r : Nat) (st' : Sto) (ks : List Kn), iDef 1 5 (b__law_kinds (FF n)) _ _ = _ ∧ _
  have a0 : (st ++ [SO.lst [.str S_int, .str S_bool, .str S_text, .str S_nothing]])[st.length]? = some (.lst ([Kn.s 2, .s 5, .s 3, .s 6].map pk)) := new_at
  obtain ⟨e', s', hf, f, l, fs, ls, o3, o4, he, h1, h2, h3, h4, h5, h6, h7⟩ := for_rangei (jj := 4) (k := 3) (ir := iCons (iVar 0) iNil) (body := (iSeq (iAsg (gN 2) (iLc (iWalk (iVar 2)) (gN 4) iYes (iTup (iCons (iC (.str S_list)) (iCons (iVar 4) iNil))) [4])) (iAsg (gN 1) (iBin fAdd (iVar 1) (iVar 2)))))
    (env := [some (.int 4), some (.ref st.length), some (.ref st.length), none, none]) (st := st ++ [SO.lst [.str S_int, .str S_bool, .str S_text, .str S_nothing]]) (s1 := st ++ [SO.lst [.str S_int, .str S_bool, .str S_text, .str S_nothing]]) (by simp) (by omega) (by omega)
    (fun i e s => ∃ (f l : Nat) (fs ls : List Kn) (o3 o4 : Option PV), e = [some (.int 4), some (.ref f), some (.ref l), o3, o4] ∧ s[f]? = some (.lst (fs.map pk)) ∧ s[l]? = some (.lst (ls.map pk)) ∧ (∀ k ∈ fs, conc k = true ∧ kd k ≤ i) ∧ (∀ k ∈ ls, conc k = true ∧ kd k ≤ i) ∧ fs.length ≤ 4 * (i + 1) ∧ ls.length ≤ 4 ∧ Ext st s)
    ⟨st.length, st.length, [.s 2, .s 5, .s 3, .s 6], [.s 2, .s 5, .s 3, .s 6], none, none, rfl, a0, a0, by simp [conc, simpleK, kd], by simp [conc, simpleK, kd], by simp, by simp, ⟨_, rfl⟩⟩
    (fun i e s hi ⟨f, l, fs, ls, o3, o4, he, h1, h2, h3, h4, h5, h6, h7⟩ => by
      subst he
      obtain ⟨g, hc⟩ := iLc_refm (ie := iVar 2) (ig := gN 4) (t := iYes) (e := iTup (iCons (iC (.str S_list)) (iCons (iVar 4) iNil))) (vs := [4]) (env := [some (.int 4), some (.ref f), some (.ref l), some (.int i), o4]) (st := s) (s1 := s) (r := l) (xs := ls) (f := pk) (g := fun k => pk (.l k)) (p := fun _ => true)
        (by simp) h2 (by omega) fun k hk s' => ⟨[some (.int 4), some (.ref f), some (.ref l), some (.int i), some (pk k)], rfl, rfl, fun _ => ⟨[], by simp [pk]⟩⟩
      rw [filter_yes] at hc
      generalize hs2 : s ++ [SO.lst (ls.map fun k => pk (.l k))] ++ g = s2 at hc
      have b1 : s2[s.length]? = some (.lst (ls.map fun k => pk (.l k))) := by rw [← hs2]; exact at_mid
      have b2 : s2[f]? = some (.lst (fs.map pk)) := by rw [← hs2, List.append_assoc]; exact old_at h1
      have hadd : fAdd (.ref f) (.ref s.length) s2 = some (.ref s2.length, s2 ++ [.lst (fs.map pk ++ ls.map fun k => pk (.l k))]) := by
        unfold fAdd
        simp only [b2, b1]
        rw [if_pos (by simp; omega)]
        rfl
      refine ⟨[some (.int 4), some (.ref s2.length), some (.ref s.length), some (.int i), o4], s2 ++ [.lst (fs.map pk ++ ls.map fun k => pk (.l k))], by simp [hc, hadd], s2.length, s.length, fs ++ ls.map .l, ls.map .l, some (.int i), o4, rfl, ?_, ?_, ?_, ?_, ?_, ?_, ?_⟩
      · rw [new_at, List.map_append, List.map_map]; rfl
      · rw [old_at b1, List.map_map]; rfl
      · intro k hk
        rcases List.mem_append.mp hk with hk | hk
        · exact ⟨(h3 k hk).1, Nat.le_succ_of_le (h3 k hk).2⟩
        · obtain ⟨y, hy, rfl⟩ := List.mem_map.mp hk
          exact ⟨(h4 y hy).1, Nat.succ_le_succ (h4 y hy).2⟩
      · intro k hk
        obtain ⟨y, hy, rfl⟩ := List.mem_map.mp hk
        exact ⟨(h4 y hy).1, Nat.succ_le_succ (h4 y hy).2⟩
      · rw [List.length_append, List.length_map]; omega
      · rw [List.length_map]; exact h6
      · refine h7.trans ?_
        rw [← hs2]
        exact Ext.app (Ext.app ⟨_, rfl⟩))
  subst he
  refine ⟨f, s', fs, ?_, h1, h3, h7⟩
  simp [iDef, b__law_kinds, -iFor_e, hf]
theorem pv_head (x : Sh) : ∃ t xs, t < 17 ∧ pv x = .tup (.str (Sx t) :: xs) := by
  cases x
  · exact ⟨2, _, by omega, rfl⟩
  · exact ⟨5, _, by omega, rfl⟩
  · exact ⟨3, _, by omega, rfl⟩
  · exact ⟨6, _, by omega, rfl⟩
  · exact ⟨4, _, by omega, rfl⟩
end
end M10

namespace M10
open PySem PySem.Spec PyProof.Rows L2 IL
theorem for_goE {n : Nat} {b : Sto} {ig : IG} {body : IS} (I : PEnv → Prop) (all : List PV) (h : ∀ x ∈ all, ∀ e, I e → ∀ s, Ext b s → ∃ e1, ig x e s = some e1 ∧ Goes body e1 s fun e2 s2 => Ext s s2 ∧ I e2) :
    ∀ (ys pre : List PV) (e : PEnv) (s : Sto), all = pre ++ ys → Ext b s → s[n]? = some (.lst all) → I e → ∃ e2 s2, loop (srcL n all.length).at_ ig body (ys.length + 1) pre.length e s = some (.nx e2 s2) ∧ Ext s s2 ∧ I e2
  | [], pre, e, s, he, hb, hs, hI => by
    rw [List.append_nil] at he
    subst he
    refine ⟨e, s, ?_, Ext.refl, hI⟩
    unfold loop
    simp [srcL, hs]
  | y :: ys, pre, e, s, he, hb, hs, hI => by
    obtain ⟨e1, h1, e2, s2, h2, h3, h4⟩ := h y (by rw [he]; simp) e hI s hb
    obtain ⟨e3, s3, h5, h6, h7⟩ := for_goE (n := n) I all h ys (pre ++ [y]) e2 s2 (by rw [he]; simp) (hb.trans h3) (h3.at hs) h4
    refine ⟨e3, s3, ?_, h3.trans h6, h7⟩
    have hat : (srcL n all.length).at_ s pre.length = some (some y) := by
      simp only [srcL, hs]
      rw [he, List.getElem?_append_right (Nat.le_refl _), Nat.sub_self]; rfl
    show loop _ _ _ (ys.length + 1 + 1) _ _ _ = _
    conv => lhs; unfold loop
    simp only [hat, h1, h2]
    rw [List.length_append] at h5
    exact h5
theorem goes_refE {ie : IE} {ig : IG} {body : IS} {env : PEnv} {st s1 : Sto} {r : Nat} {xs : List PV} (I : PEnv → Prop) (hi : ie env st = some (.ref r, s1)) (hx : Ext st s1) (hr : s1[r]? = some (.lst xs)) (hI : I env)
    (h : ∀ x ∈ xs, ∀ e, I e → ∀ s, Ext s1 s → ∃ e1, ig x e s = some e1 ∧ Goes body e1 s fun e2 s2 => Ext s s2 ∧ I e2) : Goes (iFor (iWalk ie) ig body) env st fun e2 s2 => Ext st s2 ∧ I e2 := by
  obtain ⟨e2, s2, h1, h2, h3⟩ := for_goE (n := r) I xs h xs [] env s1 rfl Ext.refl hr hI
  refine ⟨e2, s2, ?_, hx.trans h2, h3⟩
  simp only [iFor_e, iWalk_e, hi, ob_s, hr]
  exact h1
theorem goes_rangei {jj : Int} {k : Nat} {body : IS} {env : PEnv} {st s1 : Sto} {ir : IA} (I : Nat → PEnv → Sto → Prop) (hir : ir env st = some ([.int jj], s1)) (h0 : 0 ≤ jj) (h1 : jj ≤ 1000) (hI : I 0 env s1)
    (h : ∀ (i : Nat) (e : PEnv) (s : Sto), (i : Int) < jj → I i e s → Goes body (e.set k (some (.int i))) s (I (i + 1))) : Goes (iFor (iRange1 ir) (gN k) body) env st (I jj.toNat) :=
  for_rangei hir h0 h1 I hI h
theorem tl_isNot {A : IE} {env : PEnv} (h : Vl A env (.bl true)) : Tl (iTestB (iBin fIsNot A (iC (.bl true)))) env false := fun st => by
  obtain ⟨s1, a1, a2⟩ := h st
  exact ⟨s1, by simp [a1], a2⟩
def rep (b : Bool) : PV := .str (if b then "True" else "False")
theorem gd_rep (b : Bool) : gd (rep b) 60 = true := by cases b <;> decide +kernel
theorem vl_rep {A : IE} {env : PEnv} {b : Bool} (h : Vl A env (.bl b)) : Vl (iCall (a1 fRepr) (iCons A iNil)) env (rep b) := fun st => by
  obtain ⟨s1, a1, a2⟩ := h st
  exact ⟨s1, by simp [a1, rep], a2⟩
section
variable {n : Nat} {st : Sto} {s c : Nat}
/-- one turn over types -/
theorem turn1 {x kk : PV} {o7 o8 o9 : Option PV} {jj : Int} (h0 : 0 ≤ jj) (h9 : jj < 9) (L : LS st s c) {body : IS}
    (hb : body = (iSeq (iAsg (gN 7) (iCall (FF (n + 20) 11) (iCons (iVar 1) (iCons (iLst (iCons (iC (.str S_int)) (iCons (iC (.str S_bool)) (iCons (iC (.str S_text)) (iCons (iC (.str S_nothing)) (iCons (iC (.str S_list)) (iCons (iC (.str S_number)) (iCons (iC (.str S_)) iNil)))))))) iNil)))) (iSeq (iFor (iRange1 (iCons (iVar 3) iNil)) (gN 8) (iAsg (gN 7) (iTup (iCons (iC (.str S_list)) (iCons (iVar 7) iNil))))) (iSeq (iAsg (gN 9) (iVar 7)) (iSeq (iFor (iRange1 (iCons (iVar 3) iNil)) (gN 8) (iAsg (gN 9) (iBin fSubA (iVar 9) (iC (.int 1))))) (iIfS (iTestB (iBin fNe (iCall (a1 fRepr) (iCons (iCall (FF (n + 20) 0) (iCons (iVar 7) iNil)) iNil)) (iCall (a1 fRepr) (iCons (iAndV (iBin fInA (iVar 9) (iTup (iCons (iC (.str S_int)) (iCons (iC (.str S_bool)) (iCons (iC (.str S_text)) (iCons (iC (.str S_nothing)) iNil)))))) (iBin fLe (iVar 3) (iC (.int 6)))) iNil)))) (iRet (iC (.bl false))) iSkip)))))) :
    Goes body [some x, some (.ref s), some kk, some (.int jj), none, none, none, o7, o8, o9, none, none, none, none, none] st (fun e s' => (∃ o3 o7 o8 o9, e = [some x, some (.ref s), some kk, o3, none, none, none, o7, o8, o9, none, none, none, none, none]) ∧ LS s' s c) := by
  subst hb
  obtain ⟨y, s1, a1, a2, L1, F1⟩ := e_pick (n := n + 18) ([2, 5, 3, 6, 4, 16, 7].map fun j => PV.str (Sx j)) (by simp) (by simp) L
  obtain ⟨j, hj, rfl⟩ := List.mem_map.mp a2
  have hj17 : j < 17 := by
    simp at hj
    omega
  simp at a1
  refine goes_seq (fun e s' => e = [some x, some (.ref s), some kk, some (.int jj), none, none, none, some (.str (Sx j)), o8, o9, none, none, none, none, none] ∧ LS s' s c) (goes_asg (by simp [a1]) ⟨rfl, L1⟩) ?_
  rintro e st ⟨rfl, L⟩
  refine goes_seq (fun e s' => (∃ o8, e = [some x, some (.ref s), some kk, some (.int jj), none, none, none, some (wr jj.toNat (.str (Sx j))), o8, o9, none, none, none, none, none]) ∧ LS s' s c) ?_ ?_
  · refine goes_rangei (jj := jj) (fun i e s' => (∃ o8, e = [some x, some (.ref s), some kk, some (.int jj), none, none, none, some (wr i (.str (Sx j))), o8, o9, none, none, none, none, none]) ∧ LS s' s c) (by simp) h0 (by omega) ⟨⟨_, rfl⟩, L⟩ ?_
    rintro i e s' hi ⟨⟨o8, rfl⟩, L⟩
    exact goes_asg (x := wr (i + 1) (.str (Sx j))) (by simp [wr]) ⟨⟨_, rfl⟩, L⟩
  rintro e st ⟨⟨o8, rfl⟩, L⟩
  refine goes_seq (fun e s' => (∃ o8, e = [some x, some (.ref s), some kk, some (.int jj), none, none, none, some (wr jj.toNat (.str (Sx j))), o8, some (wr jj.toNat (.str (Sx j))), none, none, none, none, none]) ∧ LS s' s c) (goes_asg (by simp) ⟨⟨_, rfl⟩, L⟩) ?_
  rintro e st ⟨⟨o8, rfl⟩, L⟩
  refine goes_seq (fun e s' => (∃ o8, e = [some x, some (.ref s), some kk, some (.int jj), none, none, none, some (wr jj.toNat (.str (Sx j))), o8, some (.str (Sx j)), none, none, none, none, none]) ∧ LS s' s c) ?_ ?_
  · refine Goes.mono (goes_rangei (jj := jj) (fun i e s' => (∃ o8, e = [some x, some (.ref s), some kk, some (.int jj), none, none, none, some (wr jj.toNat (.str (Sx j))), o8, some (wr (jj.toNat - i) (.str (Sx j))), none, none, none, none, none]) ∧ LS s' s c) (by simp) h0 (by omega) ⟨⟨_, rfl⟩, L⟩ ?_) (fun e s h => by
      obtain ⟨⟨o8, h1⟩, h2⟩ := h
      rw [Nat.sub_self] at h1
      exact ⟨⟨o8, h1⟩, h2⟩)
    rintro i e s' hi ⟨⟨o8, rfl⟩, L⟩
    obtain ⟨m, hm⟩ : ∃ m, jj.toNat - i = m + 1 := ⟨jj.toNat - i - 1, by omega⟩
    have hm2 : jj.toNat - (i + 1) = m := by omega
    rw [hm, hm2]
    exact goes_asg (x := wr m (.str (Sx j))) (by simp [wr]) ⟨⟨_, rfl⟩, L⟩
  rintro e st ⟨⟨o8, rfl⟩, L⟩
  have ht : ∀ st, FF (n + 20) 0 [wr jj.toNat (.str (Sx j))] st = some (.bl (simpleK j && decide (jj ≤ 6)), st) := fun st => by
    rw [e_type jj.toNat j (by omega) hj17 (n + 19) st]
    have e6 : decide (jj.toNat ≤ 6) = decide (jj ≤ 6) := decide_eq_decide.mpr (by omega)
    rw [e6]
  have hi := fun st => in_simple (st := st) hj17
  refine Goes.mono (goes_if (tl_ne (v := rep (simpleK j && decide (jj ≤ 6))) (vl_rep (vl_call (fun _ => rfl) (pu0 ht))) (vl_rep (vl_pure fun st => ?_)) (gd_rep _))) (fun e s' h => ?_)
  · have hi := hi st
    cases hs : simpleK j <;> rw [hs] at hi <;> simp [-inA_st, hi]
  · obtain ⟨rfl, h⟩ := h
    exact ⟨⟨_, _, _, _, rfl⟩, L.ext h⟩
end
end M10

namespace M10
open PySem PySem.Spec PyProof.Rows L2 IL
theorem vl_andV {A B : IE} {env : PEnv} {a b : Bool} (h1 : Vl A env (.bl a)) (h2 : Vl B env (.bl b)) : Vl (iAndV A B) env (.bl (a && b)) := fun st => by
  obtain ⟨s1, a1, a2⟩ := h1 st
  cases a with
  | false => exact ⟨s1, by simp [a1], a2⟩
  | true =>
    obtain ⟨s2, b1, b2⟩ := h2 s1
    exact ⟨s2, by simp [a1, b1], a2.trans b2⟩
theorem vl_le {A : IE} {env : PEnv} {m k : Int} (h : Vl A env (.int m)) : Vl (iBin fLe A (iC (.int k))) env (.bl (decide (m ≤ k))) := fun st => by
  obtain ⟨s1, a1, a2⟩ := h st
  exact ⟨s1, by simp [a1], a2⟩
theorem gd_tk {o : Option Kn} (h : ∀ k, o = some k → okK k = true ∧ kd k < 60) : gd (tk o) 60 = true := by
  cases o with
  | none => rfl
  | some k => exact gd_pk k 60 (h k rfl).1 (h k rfl).2
section
variable {n : Nat} {st : Sto} {s c : Nat}
theorem turn_rows {x : PV} {os ok : PV} {o3 o4 o7 o8 o9 o13 o14 : Option PV} {r : Nat} {y z : Sh} (hy : dp y ≤ 11) (hz : dp z ≤ 11) {body : IS}
    (hb : body = (iIfS (iAnd (iTestB (iBin fNe (iCall (FF (n + 20) 19) (iCons (iVar 12) iNil)) (iC (.str S_none)))) (iTestB (iBin fNe (iVar 11) (iC (.str S_none))))) (iSeq (iAsg (gN 13) (iCall (FF (n + 20) 8) (iCons (iVar 10) (iCons (iCall (FF (n + 20) 7) (iCons (iVar 12) iNil)) iNil)))) (iSeq (iAsg (gN 14) (iCall (FF (n + 20) 20) (iCons (iVar 11) (iCons (iCall (FF (n + 20) 19) (iCons (iVar 12) iNil)) iNil)))) (iIfS (iOr (iTestB (iBin fNe (iVar 13) (iIf (iTestB (iBin fEq (iVar 14) (iC (.str S_none)))) (iC (.bl false)) (iVar 14)))) (iTestB (iBin fNe (iCall (FF (n + 20) 8) (iCons (iCall (FF (n + 20) 7) (iCons (iVar 12) iNil)) (iCons (iVar 10) iNil))) (iVar 13)))) (iRet (iC (.bl false))) iSkip))) iSkip)) :
    Goes body [some x, some os, some ok, o3, o4, some (.ref r), some (pv y), o7, o8, o9, some (tk (kn y)), some (lk (kn y)), some (pv z), o13, o14] st (fun e s' => Ext st s' ∧ ∃ o12 o13 o14, e = [some x, some os, some ok, o3, o4, some (.ref r), some (pv y), o7, o8, o9, some (tk (kn y)), some (lk (kn y)), o12, o13, o14]) := by
  subst hb
  have kz := e_known z (n + 20) st (by omega) (by omega)
  have lz := e_lknown z (n + 20) st (by omega) (by omega)
  have oy : ∀ k, kn y = some k → okK k = true ∧ kd k < 60 := fun k e => ⟨(kn_ok y k e).1, by have := (kn_ok y k e).2; omega⟩
  have oz : ∀ k, kn z = some k → okK k = true ∧ kd k < 60 := fun k e => ⟨(kn_ok z k e).1, by have := (kn_ok z k e).2; omega⟩
  have ey := eq_lk_none (kn y) st oy
  have ez := eq_lk_none (kn z) st oz
  cases hkz : kn z with
  | none =>
    rw [hkz] at lz ez
    refine ⟨_, st, ?_, Ext.refl, some (pv z), o13, o14, rfl⟩
    simp [lz, ez]
  | some b =>
    rw [hkz] at kz lz ez
    cases hky : kn y with
    | none =>
      rw [hky] at ey
      refine ⟨_, st, ?_, Ext.refl, some (pv z), o13, o14, rfl⟩
      simp [lz, ez, ey]
    | some a =>
      rw [hky] at ey
      obtain ⟨a1, a2⟩ := kn_ok y a hky
      obtain ⟨b1, b2⟩ := kn_ok z b hkz
      have j1 := e_joined a b (n + 20) st (by omega) a1 b1 (by omega) (by omega)
      have j2 := e_joined b a (n + 20) st (by omega) b1 a1 (by omega) (by omega)
      rw [jn_comm b a] at j2
      have l1 := e_both a b (n + 20) st (by omega) a1 b1 (by omega) (by omega)
      have oj : ∀ k, jn a b = some k → okK k = true ∧ kd k < 60 := fun k e => by
        obtain ⟨f1, f2⟩ := jn_ok a b k a1 b1 e
        exact ⟨f1, by omega⟩
      have ej := eq_lk_none (jn a b) st oj
      have es := eqP_gd_self (st := st) (gd_tk oj)
      refine ⟨[some x, some os, some ok, o3, o4, some (.ref r), some (pv y), o7, o8, o9, some (tk (some a)), some (lk (some a)), some (pv z), some (tk (jn a b)), some (lk (jn a b))], st, ?_, Ext.refl, _, _, _, rfl⟩
      have lk1 : ∀ k, lk (some k) = pk k := fun _ => rfl
      have tk1 : ∀ k, tk (some k) = pk k := fun _ => rfl
      simp only [lk1, tk1] at kz lz ez ey ⊢
      cases hj : jn a b with
      | none =>
        rw [hj] at j1 j2 l1 ej es
        have t0 : tk (none : Option Kn) = .bl false := rfl
        simp only [t0] at j1 j2
        simp [lz, ez, ey, kz, j1, j2, l1, ej, t0]
      | some d =>
        rw [hj] at j1 j2 l1 ej es
        simp only [lk1, tk1] at j1 j2 l1 ej es ⊢
        simp [lz, ez, ey, kz, j1, j2, l1, ej, es]
end
end M10

namespace M10
open PySem PySem.Spec PyProof.Rows L2 IL
section
variable {n : Nat} {st : Sto} {s c : Nat}
theorem e_law (ns : List Int) (hlen : ns.length ≤ 63) : ∃ s', FF (n + 21) 22 [.frz (ns.map .int)] st = some (.bl true, s') := by
  show ∃ s', iDef 1 15 (b_law (FF (n + 20))) _ _ = _
  obtain ⟨s, c, s0, h0, L0⟩ := e_state (n := n + 19) (st := st) ns hlen
  generalize hx : PV.frz (ns.map .int) = x at h0 ⊢
  have key : Ends (b_law (FF (n + 20))) [some x, none, none, none, none, none, none, none, none, none, none, none, none, none, none] st (.bl true) fun _ => True := by
    unfold b_law
    refine ends_seq (fun e s' => e = [some x, some (.ref s), none, none, none, none, none, none, none, none, none, none, none, none, none] ∧ LS s' s c) (goes_asg (by simp [h0]) ⟨rfl, L0⟩) ?_
    rintro e st ⟨rfl, L⟩
    have hty : ∃ k st', FF (n + 20) 12 [.ref s, .int 6] st = some (pk k, st') ∧ conc k = true ∧ kd k ≤ 6 ∧ LS st' s c ∧ Fm s c st st' := e_ty 6 (n + 11) st L
    obtain ⟨K, s1, a1, hK, dK, L1, F1⟩ := hty
    refine ends_seq (fun e s' => (∃ o3 o7 o8 o9, e = [some x, some (.ref s), some (pk K), o3, none, none, none, o7, o8, o9, none, none, none, none, none]) ∧ LS s' s c) (goes_asg (by simp [a1]) ⟨⟨_, _, _, _, rfl⟩, L1⟩) ?_
    rintro e st ⟨⟨o3, o7, o8, o9, rfl⟩, L⟩
    clear a1 L1 F1
    refine ends_seq (fun e s' => (∃ o3 o7 o8 o9, e = [some x, some (.ref s), some (pk K), o3, none, none, none, o7, o8, o9, none, none, none, none, none]) ∧ LS s' s c) ?_ ?_
    · refine goes_rangei (jj := 9) (fun _ e s' => (∃ o3 o7 o8 o9, e = [some x, some (.ref s), some (pk K), o3, none, none, none, o7, o8, o9, none, none, none, none, none]) ∧ LS s' s c) (by simp) (by omega) (by omega) ⟨⟨_, _, _, _, rfl⟩, L⟩ ?_
      rintro i e s' hi ⟨⟨o3, o7, o8, o9, rfl⟩, L⟩
      simp only [List.set_cons_succ, List.set_cons_zero]
      have h0 : 0 ≤ (i : Int) := Int.natCast_nonneg i
      generalize (i : Int) = jj at hi h0
      exact turn1 (n := n) h0 hi L rfl
    rintro e st ⟨⟨o3, o7, o8, o9, rfl⟩, L⟩
    have hv := e_vd K (n + 16 - kd K) st hK (by omega) L
    rw [show n + 16 - kd K + kd K + 4 = n + 20 by omega] at hv
    obtain ⟨v, s1, a1, wv, iv, fv, L1, F1⟩ := hv
    refine ends_seq (fun e s' => e = [some x, some (.ref s), some (pk K), o3, some (pv v), none, none, o7, o8, o9, none, none, none, none, none] ∧ LS s' s c) (goes_asg (by simp [a1]) ⟨rfl, L1⟩) ?_
    rintro e st ⟨rfl, L⟩
    clear a1 L1 F1
    obtain ⟨⟨av, hav, _⟩, dv⟩ := ft_kn v K fv
    obtain ⟨jK, sK, eK⟩ := pk_wr hK
    obtain ⟨tv, xv, htv, hpv⟩ := pv_head v
    have c0 : Pu (FF (n + 20) 0) [pk K] (.bl true) := pu0 fun st => by
      rw [eK, e_type (kd K) jK (by omega) (simple_lt sK).1 (n + 19) st, sK, decide_eq_true dK]
      rfl
    have c6 : Pu (FF (n + 20) 6) [pv v, pk K] (.bl true) := pu fun st => by
      have := e_fits v K (n + 20) st (by omega) wv hK (by omega)
      rwa [fv] at this
    have c5 : Pu (FF (n + 20) 5) [pv v] (.bl true) := pu fun st => by
      have := e_value v (n + 20) st (by omega) (by omega) wv
      rw [hav, bd_eq v 0 (by omega), iv, decide_eq_true (show dp v + 0 ≤ 6 by omega)] at this
      exact this
    have c1 : Pu (FF (n + 20) 1) [pv v] (.str (Sx tv)) := pu0 fun st => by
      show iDef 1 1 (b_kind_of (FF (n + 19))) _ _ = _
      simp [iDef, b_kind_of, hpv]
    refine ends_seq (fun e s' => e = [some x, some (.ref s), some (pk K), o3, some (pv v), none, none, o7, o8, o9, none, none, none, none, none] ∧ LS s' s c)
      (Goes.mono (goes_if (tl_or (tl_not (vl_call (fun _ => rfl) c0)) (tl_or (tl_isNot (vl_call (fun _ => rfl) c6)) (tl_or (tl_isNot (vl_call (fun _ => rfl) c5))
        (tl_ne (v := .str (Sx tv)) (vl_call (fun _ => rfl) c1) (vl_pure fun st => by simp [hpv]) (by simp [gd, htv])))))) (fun e st h => ⟨h.1, L.ext h.2⟩)) ?_
    rintro e st ⟨rfl, L⟩
    -- rows
    obtain ⟨xs, s2, g1, g2, g3, g4, L2, F2⟩ := lc_range (jj := 3) (ir := (iCons (iC (.int 3)) iNil)) (ig := gN 3) (e := (iCall (FF (n + 20) 15) (iCons (iVar 1) (iCons (iC (.int 3)) iNil)))) (vs := [3]) (env := [some x, some (.ref s), some (pk K), o3, some (pv v), none, none, o7, o8, o9, none, none, none, none, none]) (s1 := st) (st := st)
      (fun x => wf x = true ∧ dp x ≤ 11) (by simp) (by omega) (by omega) (fun i s' L' => by
        have hsh : ∃ x st', FF (n + 20) 15 [.ref s, .int 3] s' = some (pv x, st') ∧ wf x = true ∧ dp x ≤ 3 + 8 ∧ LS st' s c ∧ Fm s c s' st' := e_shape 3 (n + 11) s' L'
        obtain ⟨y, s3, e1, e2, e3, L3, F3⟩ := hsh
        exact ⟨y, [some x, some (.ref s), some (pk K), some (.int i), some (pv v), none, none, o7, o8, o9, none, none, none, none, none], s3, rfl, by simp [e1], ⟨e2, e3⟩, L3, F3⟩) L
    generalize hr : st.length = r at g1 g2
    refine ends_seq (fun e s' => e = [some x, some (.ref s), some (pk K), o3, some (pv v), some (.ref r), none, o7, o8, o9, none, none, none, none, none] ∧ s'[r]? = some (.lst (xs.map pv))) (goes_asg g1 ⟨rfl, g2⟩) ?_
    clear g1 g2 hr L
    rintro e st ⟨rfl, g2⟩
    refine ends_seq (fun _ _ => True) (Goes.mono (goes_refE (r := r) (xs := xs.map pv) (fun e => ∃ o6 o10 o11 o12 o13 o14, e = [some x, some (.ref s), some (pk K), o3, some (pv v), some (.ref r), o6, o7, o8, o9, o10, o11, o12, o13, o14]) (by simp) Ext.refl g2 ⟨_, _, _, _, _, _, rfl⟩ ?_) (fun _ _ _ => trivial)) ?_
    · intro p hp e he st1 hst1
      obtain ⟨o6, o10, o11, o12, o13, o14, rfl⟩ := he
      obtain ⟨y, hy, rfl⟩ := List.mem_map.mp hp
      obtain ⟨wy, dy⟩ := g4 y hy
      have rows1 := hst1.at g2
      clear hst1
      refine ⟨_, gN_e, ?_⟩
      simp only [List.set_cons_succ, List.set_cons_zero]
      have oy : ∀ k, kn y = some k → okK k = true ∧ kd k < 60 := fun k e => ⟨(kn_ok y k e).1, by have := (kn_ok y k e).2; omega⟩
      -- told
      refine goes_seq (fun e s' => e = [some x, some (.ref s), some (pk K), o3, some (pv v), some (.ref r), some (pv y), o7, o8, o9, some (tk (kn y)), o11, o12, o13, o14] ∧ Ext st1 s') (Goes.mono (goes_asgV (vl_call (fun _ => rfl) (pu0 fun st => e_known y (n + 20) st (by omega) (by omega)))) (fun e s h => ⟨h.1, h.2⟩)) ?_
      rintro e st2 ⟨rfl, x2⟩
      refine goes_seq (fun e s' => e = [some x, some (.ref s), some (pk K), o3, some (pv v), some (.ref r), some (pv y), o7, o8, o9, some (tk (kn y)), some (lk (kn y)), o12, o13, o14] ∧ Ext st1 s') (Goes.mono (goes_asgV (vl_call (fun _ => rfl) (pu0 fun st => e_lknown y (n + 20) st (by omega) (by omega)))) (fun e s h => ⟨h.1, x2.trans h.2⟩)) ?_
      rintro e st3 ⟨rfl, x3⟩
      clear x2
      refine goes_seq (fun e s' => e = [some x, some (.ref s), some (pk K), o3, some (pv v), some (.ref r), some (pv y), o7, o8, o9, some (tk (kn y)), some (lk (kn y)), o12, o13, o14] ∧ Ext st1 s') (Goes.mono (goes_if (tl_ne (v := tk (kn y)) (vl_pure fun st => rfl) (vl_pure fun st => by
        have e := eq_lk_none (kn y) st oy
        cases hk : kn y with
        | none => rw [hk] at e; simp [e]; rfl
        | some k => rw [hk] at e; simp [e]; rfl) (gd_tk oy))) (fun e s h => ⟨h.1, x3.trans h.2⟩)) ?_
      rintro e st4 ⟨rfl, x4⟩
      clear x3
      refine goes_seq (fun e s' => e = [some x, some (.ref s), some (pk K), o3, some (pv v), some (.ref r), some (pv y), o7, o8, o9, some (tk (kn y)), some (lk (kn y)), o12, o13, o14] ∧ Ext st1 s') (Goes.mono (goes_if (tl_ne (v := rep (bd y 0 && (kn y).isSome)) (vl_rep (vl_call (fun _ => rfl) (pu fun st => e_value y (n + 20) st (by omega) (by omega) wy))) (by
        have hb : (bd y 0 && (kn y).isSome) = (wi y && (decide ((dp y : Int) ≤ 6) && (kn y).isSome)) := by
          rw [bd_eq y 0 (by omega), Bool.and_assoc]
          congr 2
          rw [decide_eq_decide]
          omega
        rw [hb]
        refine vl_rep (vl_andV (vl_call (fun _ => rfl) (pu fun st => e_within y (n + 20) st (by omega) wy)) (vl_andV (vl_le (vl_call (fun _ => rfl) (pu fun st => e_depth y (n + 20) st (by omega) wy))) (vl_pure fun st => ?_)))
        have e := eq_lk_none (kn y) st oy
        simp [e]) (gd_rep _))) (fun e s h => ⟨h.1, x4.trans h.2⟩)) ?_
      rintro e st5 ⟨rfl, x5⟩
      clear x4
      -- types
      obtain ⟨rk, sk, ks, k1, k2, k3, k4⟩ := e_kinds (n := n + 19) (st := st5)
      refine goes_seq (fun e s' => (∃ o12, e = [some x, some (.ref s), some (pk K), o3, some (pv v), some (.ref r), some (pv y), o7, o8, o9, some (tk (kn y)), some (lk (kn y)), o12, o13, o14]) ∧ Ext st1 s') (Goes.mono (goes_refE (r := rk) (xs := ks.map pk) (fun e => ∃ o12, e = [some x, some (.ref s), some (pk K), o3, some (pv v), some (.ref r), some (pv y), o7, o8, o9, some (tk (kn y)), some (lk (kn y)), o12, o13, o14]) (by simp [k1]) k4 k2 ⟨_, rfl⟩ ?_) (fun e s h => ⟨h.2, x5.trans h.1⟩)) ?_
      · intro q hq e he st6 _
        obtain ⟨o12, rfl⟩ := he
        obtain ⟨k, hk, rfl⟩ := List.mem_map.mp hq
        obtain ⟨ck, dk⟩ := k3 k hk
        refine ⟨_, gN_e, ?_⟩
        simp only [List.set_cons_succ, List.set_cons_zero]
        refine Goes.mono (goes_if (tl_ne (v := rep (ft y k)) (vl_rep (vl_call (fun _ => rfl) (pu fun st => e_fits y k (n + 20) st (by omega) wy ck (by omega)))) (vl_rep (vl_call (fun _ => rfl) (pu fun st => e_lfits y k (n + 20) st (by omega) wy ck (by omega)))) (gd_rep _))) (fun e s h => ?_)
        obtain ⟨rfl, h⟩ := h
        exact ⟨h, _, rfl⟩
      rintro e st7 ⟨⟨o12, rfl⟩, x7⟩
      clear x5
      refine Goes.mono (goes_refE (r := r) (xs := xs.map pv) (fun e => ∃ o12 o13 o14, e = [some x, some (.ref s), some (pk K), o3, some (pv v), some (.ref r), some (pv y), o7, o8, o9, some (tk (kn y)), some (lk (kn y)), o12, o13, o14]) (by simp) Ext.refl (x7.at rows1) ⟨_, _, _, rfl⟩ ?_) (fun e s h => ?_)
      · intro q hq e he st8 _
        obtain ⟨o12, o13, o14, rfl⟩ := he
        obtain ⟨z, hz, rfl⟩ := List.mem_map.mp hq
        obtain ⟨wz, dz⟩ := g4 z hz
        refine ⟨_, gN_e, ?_⟩
        simp only [List.set_cons_succ, List.set_cons_zero]
        exact turn_rows (n := n) dy dz rfl
      · obtain ⟨h1, o12, o13, o14, rfl⟩ := h
        exact ⟨x7.trans h1, _, _, _, _, _, _, rfl⟩
    · intro e st _
      exact ⟨st, by simp, trivial⟩
  obtain ⟨s', h, _⟩ := key
  exact ⟨s', by simp [iDef, h]⟩
end
end M10

namespace M10
open PySem PySem.Spec PyProof.Rows L2 IL
def spLaw (K : PySem.W.Frag) : Sp := fun vs H Q _ => ∃ (a : Addr) (ns : List Int), vs = [.ref a] ∧ SqL K H a (ns.map V.int) ∧ ns.length ≤ 63 ∧ ∀ H', Q (.bl true) H'
theorem its_small {vs : List V} {its : Array Value} (v : Vals vs its.toList) (h : vs.length ≤ sizeLine) : its.size ≤ sizeLine := by
  rw [← Array.length_toList, ← v.length]
  exact h
theorem reps_ints {K : PySem.W.Frag} {H : Hp} {ρ : List Addr} : ∀ ns : List Int, Reps K H ρ (ns.map PV.int) (ns.map V.int)
  | [] => by simp [Reps]
  | n :: ns => by
    show Reps K H ρ (PV.int n :: ns.map PV.int) (V.int n :: ns.map V.int)
    unfold Reps
    exact ⟨_, _, rfl, by unfold Rep; rfl, reps_ints ns⟩
theorem law_sp {K : PySem.W.Frag} {vs : List V} {H : Hp} {Q : VK} {E : XK} (h : spLaw K vs H Q E) : spI K 1 (FF 21 22) vs H Q E := by
  obtain ⟨a, ns, rfl, hS, hlen, q⟩ := h
  obtain ⟨s', hl⟩ := e_law (n := 0) (st := []) ns hlen
  refine ⟨rfl, [], [], [.frz (ns.map .int)], .bl true, s', ⟨rfl, List.nodup_nil, fun n so h => by simp at h⟩, ?_, hl, fun v H' ρ' _ _ h => ?_⟩
  · unfold Reps
    refine ⟨.ref a, [], rfl, ?_, by unfold Reps; rfl⟩
    unfold Rep
    refine ⟨a, ns.map V.int, rfl, ?_, reps_ints ns⟩
    rcases hS with h | h
    · exact .inl ⟨h, by simp⟩
    · exact .inr h
  · unfold Rep at h
    subst h
    exact q _
set_option maxHeartbeats 0 in
theorem all_mk {l : PySem.W.OpenLaw} {w : World} {K : PySem.W.Frag} {h : Heap} {mg : Str → Option Value} {fa : Addr} (X : K.In h) (G : h.Ns mainGlobals mg) (hfa : mg "law" = some (.ref fa))
    {f0 f1 f2 f3 f4 f5 f6 f7 f8 f9 f10 f11 f12 f13 f14 f15 f16 f17 f18 f19 f20 f21 f22 : Addr} {od0 an0 od1 an1 od2 an2 od3 an3 od4 an4 od5 an5 od6 an6 od7 an7 od8 an8 od9 an9 od10 an10 od11 an11 od12 an12 od13 an13 od14 an14 od15 an15 od16 an16 od17 an17 od18 an18 od19 an19 od20 an20 od21 an21 od22 an22 : Option Addr} {sl0 sl1 sl2 sl3 sl4 sl5 sl6 sl7 sl8 sl9 sl10 sl11 sl12 sl13 sl14 sl15 sl16 sl17 sl18 sl19 sl20 sl21 sl22 : Array (Option Value)} {oc0 kV0 dc0 pm0 cd0 ct0 oc1 kV1 dc1 pm1 cd1 ct1 oc2 kV2 dc2 pm2 cd2 ct2 oc3 kV3 dc3 pm3 cd3 ct3 oc4 kV4 dc4 pm4 cd4 ct4 oc5 kV5 dc5 pm5 cd5 ct5 oc6 kV6 dc6 pm6 cd6 ct6 oc7 kV7 dc7 pm7 cd7 ct7 oc8 kV8 dc8 pm8 cd8 ct8 oc9 kV9 dc9 pm9 cd9 ct9 oc10 kV10 dc10 pm10 cd10 ct10 oc11 kV11 dc11 pm11 cd11 ct11 oc12 kV12 dc12 pm12 cd12 ct12 oc13 kV13 dc13 pm13 cd13 ct13 oc14 kV14 dc14 pm14 cd14 ct14 oc15 kV15 dc15 pm15 cd15 ct15 oc16 kV16 dc16 pm16 cd16 ct16 oc17 kV17 dc17 pm17 cd17 ct17 oc18 kV18 dc18 pm18 cd18 ct18 oc19 kV19 dc19 pm19 cd19 ct19 oc20 kV20 dc20 pm20 cd20 ct20 oc21 kV21 dc21 pm21 cd21 ct21 oc22 kV22 dc22 pm22 cd22 ct22 : Value}
    {f_SIMPLE_KINDS : Addr} {od_SIMPLE_KINDS : Option Addr} {its_SIMPLE_KINDS : Array Value} {nn_SIMPLE_KINDS : Nat} {sl_SIMPLE_KINDS : Array (Option Value)} {tok_MOST_NUMBER : Tok} {tok_MOST_LETTERS : Tok} {tok_MOST_ITEMS : Tok} {tok_MOST_DEPTH : Tok}
    (a0 : PySem.W.nsIn K mainGlobals "is_type" = some (some (.ref f0))) (l0 : K.lookup f0 = some ⟨oc0, od0, .func (PySem.W.fnOf "is_type" "is_type" (C8.fnArgs s_is_type) (C8.fnBody s_is_type) (C8.fnScope s_is_type) .none kV0 dc0 pm0 an0 cd0 ct0), sl0⟩) (c0 : PySem.W.codeIn K cd0 "is_type" = true) (k0 : PySem.W.keepIn K (.ref f0) = true)
    (a1 : PySem.W.nsIn K mainGlobals "kind_of" = some (some (.ref f1))) (l1 : K.lookup f1 = some ⟨oc1, od1, .func (PySem.W.fnOf "kind_of" "kind_of" (C8.fnArgs s_kind_of) (C8.fnBody s_kind_of) (C8.fnScope s_kind_of) .none kV1 dc1 pm1 an1 cd1 ct1), sl1⟩) (c1 : PySem.W.codeIn K cd1 "kind_of" = true) (k1 : PySem.W.keepIn K (.ref f1) = true)
    (a2 : PySem.W.nsIn K mainGlobals "is_letter" = some (some (.ref f2))) (l2 : K.lookup f2 = some ⟨oc2, od2, .func (PySem.W.fnOf "is_letter" "is_letter" (C8.fnArgs s_is_letter) (C8.fnBody s_is_letter) (C8.fnScope s_is_letter) .none kV2 dc2 pm2 an2 cd2 ct2), sl2⟩) (c2 : PySem.W.codeIn K cd2 "is_letter" = true) (k2 : PySem.W.keepIn K (.ref f2) = true)
    (a3 : PySem.W.nsIn K mainGlobals "_bounded_at" = some (some (.ref f3))) (l3 : K.lookup f3 = some ⟨oc3, od3, .func (PySem.W.fnOf "_bounded_at" "_bounded_at" (C8.fnArgs s__bounded_at) (C8.fnBody s__bounded_at) (C8.fnScope s__bounded_at) .none kV3 dc3 pm3 an3 cd3 ct3), sl3⟩) (c3 : PySem.W.codeIn K cd3 "_bounded_at" = true) (k3 : PySem.W.keepIn K (.ref f3) = true)
    (a4 : PySem.W.nsIn K mainGlobals "is_bounded" = some (some (.ref f4))) (l4 : K.lookup f4 = some ⟨oc4, od4, .func (PySem.W.fnOf "is_bounded" "is_bounded" (C8.fnArgs s_is_bounded) (C8.fnBody s_is_bounded) (C8.fnScope s_is_bounded) .none kV4 dc4 pm4 an4 cd4 ct4), sl4⟩) (c4 : PySem.W.codeIn K cd4 "is_bounded" = true) (k4 : PySem.W.keepIn K (.ref f4) = true)
    (a5 : PySem.W.nsIn K mainGlobals "is_value" = some (some (.ref f5))) (l5 : K.lookup f5 = some ⟨oc5, od5, .func (PySem.W.fnOf "is_value" "is_value" (C8.fnArgs s_is_value) (C8.fnBody s_is_value) (C8.fnScope s_is_value) .none kV5 dc5 pm5 an5 cd5 ct5), sl5⟩) (c5 : PySem.W.codeIn K cd5 "is_value" = true) (k5 : PySem.W.keepIn K (.ref f5) = true)
    (a6 : PySem.W.nsIn K mainGlobals "fits" = some (some (.ref f6))) (l6 : K.lookup f6 = some ⟨oc6, od6, .func (PySem.W.fnOf "fits" "fits" (C8.fnArgs s_fits) (C8.fnBody s_fits) (C8.fnScope s_fits) .none kV6 dc6 pm6 an6 cd6 ct6), sl6⟩) (c6 : PySem.W.codeIn K cd6 "fits" = true) (k6 : PySem.W.keepIn K (.ref f6) = true)
    (a7 : PySem.W.nsIn K mainGlobals "known_type" = some (some (.ref f7))) (l7 : K.lookup f7 = some ⟨oc7, od7, .func (PySem.W.fnOf "known_type" "known_type" (C8.fnArgs s_known_type) (C8.fnBody s_known_type) (C8.fnScope s_known_type) .none kV7 dc7 pm7 an7 cd7 ct7), sl7⟩) (c7 : PySem.W.codeIn K cd7 "known_type" = true) (k7 : PySem.W.keepIn K (.ref f7) = true)
    (a8 : PySem.W.nsIn K mainGlobals "joined" = some (some (.ref f8))) (l8 : K.lookup f8 = some ⟨oc8, od8, .func (PySem.W.fnOf "joined" "joined" (C8.fnArgs s_joined) (C8.fnBody s_joined) (C8.fnScope s_joined) .none kV8 dc8 pm8 an8 cd8 ct8), sl8⟩) (c8 : PySem.W.codeIn K cd8 "joined" = true) (k8 : PySem.W.keepIn K (.ref f8) = true)
    (a9 : PySem.W.nsIn K mainGlobals "_law_state" = some (some (.ref f9))) (l9 : K.lookup f9 = some ⟨oc9, od9, .func (PySem.W.fnOf "_law_state" "_law_state" (C8.fnArgs s__law_state) (C8.fnBody s__law_state) (C8.fnScope s__law_state) .none kV9 dc9 pm9 an9 cd9 ct9), sl9⟩) (c9 : PySem.W.codeIn K cd9 "_law_state" = true) (k9 : PySem.W.keepIn K (.ref f9) = true)
    (a10 : PySem.W.nsIn K mainGlobals "_law_draw" = some (some (.ref f10))) (l10 : K.lookup f10 = some ⟨oc10, od10, .func (PySem.W.fnOf "_law_draw" "_law_draw" (C8.fnArgs s__law_draw) (C8.fnBody s__law_draw) (C8.fnScope s__law_draw) .none kV10 dc10 pm10 an10 cd10 ct10), sl10⟩) (c10 : PySem.W.codeIn K cd10 "_law_draw" = true) (k10 : PySem.W.keepIn K (.ref f10) = true)
    (a11 : PySem.W.nsIn K mainGlobals "_law_pick" = some (some (.ref f11))) (l11 : K.lookup f11 = some ⟨oc11, od11, .func (PySem.W.fnOf "_law_pick" "_law_pick" (C8.fnArgs s__law_pick) (C8.fnBody s__law_pick) (C8.fnScope s__law_pick) .none kV11 dc11 pm11 an11 cd11 ct11), sl11⟩) (c11 : PySem.W.codeIn K cd11 "_law_pick" = true) (k11 : PySem.W.keepIn K (.ref f11) = true)
    (a12 : PySem.W.nsIn K mainGlobals "_law_type" = some (some (.ref f12))) (l12 : K.lookup f12 = some ⟨oc12, od12, .func (PySem.W.fnOf "_law_type" "_law_type" (C8.fnArgs s__law_type) (C8.fnBody s__law_type) (C8.fnScope s__law_type) .none kV12 dc12 pm12 an12 cd12 ct12), sl12⟩) (c12 : PySem.W.codeIn K cd12 "_law_type" = true) (k12 : PySem.W.keepIn K (.ref f12) = true)
    (a13 : PySem.W.nsIn K mainGlobals "_law_value" = some (some (.ref f13))) (l13 : K.lookup f13 = some ⟨oc13, od13, .func (PySem.W.fnOf "_law_value" "_law_value" (C8.fnArgs s__law_value) (C8.fnBody s__law_value) (C8.fnScope s__law_value) .none kV13 dc13 pm13 an13 cd13 ct13), sl13⟩) (c13 : PySem.W.codeIn K cd13 "_law_value" = true) (k13 : PySem.W.keepIn K (.ref f13) = true)
    (a14 : PySem.W.nsIn K mainGlobals "_law_deep_list" = some (some (.ref f14))) (l14 : K.lookup f14 = some ⟨oc14, od14, .func (PySem.W.fnOf "_law_deep_list" "_law_deep_list" (C8.fnArgs s__law_deep_list) (C8.fnBody s__law_deep_list) (C8.fnScope s__law_deep_list) .none kV14 dc14 pm14 an14 cd14 ct14), sl14⟩) (c14 : PySem.W.codeIn K cd14 "_law_deep_list" = true) (k14 : PySem.W.keepIn K (.ref f14) = true)
    (a15 : PySem.W.nsIn K mainGlobals "_law_shape" = some (some (.ref f15))) (l15 : K.lookup f15 = some ⟨oc15, od15, .func (PySem.W.fnOf "_law_shape" "_law_shape" (C8.fnArgs s__law_shape) (C8.fnBody s__law_shape) (C8.fnScope s__law_shape) .none kV15 dc15 pm15 an15 cd15 ct15), sl15⟩) (c15 : PySem.W.codeIn K cd15 "_law_shape" = true) (k15 : PySem.W.keepIn K (.ref f15) = true)
    (a16 : PySem.W.nsIn K mainGlobals "_law_within" = some (some (.ref f16))) (l16 : K.lookup f16 = some ⟨oc16, od16, .func (PySem.W.fnOf "_law_within" "_law_within" (C8.fnArgs s__law_within) (C8.fnBody s__law_within) (C8.fnScope s__law_within) .none kV16 dc16 pm16 an16 cd16 ct16), sl16⟩) (c16 : PySem.W.codeIn K cd16 "_law_within" = true) (k16 : PySem.W.keepIn K (.ref f16) = true)
    (a17 : PySem.W.nsIn K mainGlobals "_law_depth" = some (some (.ref f17))) (l17 : K.lookup f17 = some ⟨oc17, od17, .func (PySem.W.fnOf "_law_depth" "_law_depth" (C8.fnArgs s__law_depth) (C8.fnBody s__law_depth) (C8.fnScope s__law_depth) .none kV17 dc17 pm17 an17 cd17 ct17), sl17⟩) (c17 : PySem.W.codeIn K cd17 "_law_depth" = true) (k17 : PySem.W.keepIn K (.ref f17) = true)
    (a18 : PySem.W.nsIn K mainGlobals "_law_fits" = some (some (.ref f18))) (l18 : K.lookup f18 = some ⟨oc18, od18, .func (PySem.W.fnOf "_law_fits" "_law_fits" (C8.fnArgs s__law_fits) (C8.fnBody s__law_fits) (C8.fnScope s__law_fits) .none kV18 dc18 pm18 an18 cd18 ct18), sl18⟩) (c18 : PySem.W.codeIn K cd18 "_law_fits" = true) (k18 : PySem.W.keepIn K (.ref f18) = true)
    (a19 : PySem.W.nsIn K mainGlobals "_law_known" = some (some (.ref f19))) (l19 : K.lookup f19 = some ⟨oc19, od19, .func (PySem.W.fnOf "_law_known" "_law_known" (C8.fnArgs s__law_known) (C8.fnBody s__law_known) (C8.fnScope s__law_known) .none kV19 dc19 pm19 an19 cd19 ct19), sl19⟩) (c19 : PySem.W.codeIn K cd19 "_law_known" = true) (k19 : PySem.W.keepIn K (.ref f19) = true)
    (a20 : PySem.W.nsIn K mainGlobals "_law_both" = some (some (.ref f20))) (l20 : K.lookup f20 = some ⟨oc20, od20, .func (PySem.W.fnOf "_law_both" "_law_both" (C8.fnArgs s__law_both) (C8.fnBody s__law_both) (C8.fnScope s__law_both) .none kV20 dc20 pm20 an20 cd20 ct20), sl20⟩) (c20 : PySem.W.codeIn K cd20 "_law_both" = true) (k20 : PySem.W.keepIn K (.ref f20) = true)
    (a21 : PySem.W.nsIn K mainGlobals "_law_kinds" = some (some (.ref f21))) (l21 : K.lookup f21 = some ⟨oc21, od21, .func (PySem.W.fnOf "_law_kinds" "_law_kinds" (C8.fnArgs s__law_kinds) (C8.fnBody s__law_kinds) (C8.fnScope s__law_kinds) .none kV21 dc21 pm21 an21 cd21 ct21), sl21⟩) (c21 : PySem.W.codeIn K cd21 "_law_kinds" = true) (k21 : PySem.W.keepIn K (.ref f21) = true)
    (a22 : PySem.W.nsIn K mainGlobals "law" = some (some (.ref f22))) (l22 : K.lookup f22 = some ⟨oc22, od22, .func (PySem.W.fnOf "law" "law" (C8.fnArgs s_law) (C8.fnBody s_law) (C8.fnScope s_law) .none kV22 dc22 pm22 an22 cd22 ct22), sl22⟩) (c22 : PySem.W.codeIn K cd22 "law" = true) (k22 : PySem.W.keepIn K (.ref f22) = true)
    (z_abs : PySem.W.nsIn K mainGlobals "abs" = some none) (z_all : PySem.W.nsIn K mainGlobals "all" = some none) (z_int : PySem.W.nsIn K mainGlobals "int" = some none) (z_isinstance : PySem.W.nsIn K mainGlobals "isinstance" = some none) (z_len : PySem.W.nsIn K mainGlobals "len" = some none) (z_max : PySem.W.nsIn K mainGlobals "max" = some none) (z_range : PySem.W.nsIn K mainGlobals "range" = some none) (z_repr : PySem.W.nsIn K mainGlobals "repr" = some none) (z_tuple : PySem.W.nsIn K mainGlobals "tuple" = some none)
    (n_SIMPLE_KINDS : PySem.W.nsIn K mainGlobals "SIMPLE_KINDS" = some (some (.ref f_SIMPLE_KINDS))) (l_SIMPLE_KINDS : K.lookup f_SIMPLE_KINDS = some ⟨.type "tuple", od_SIMPLE_KINDS, .seq its_SIMPLE_KINDS nn_SIMPLE_KINDS, sl_SIMPLE_KINDS⟩) (v_SIMPLE_KINDS : Vals [V.str S_int, V.str S_bool, V.str S_text, V.str S_nothing] its_SIMPLE_KINDS.toList) (n_MOST_NUMBER : PySem.W.nsIn K mainGlobals "MOST_NUMBER" = some (some (.int 1000000000000 tok_MOST_NUMBER))) (n_MOST_LETTERS : PySem.W.nsIn K mainGlobals "MOST_LETTERS" = some (some (.int 60 tok_MOST_LETTERS))) (n_MOST_ITEMS : PySem.W.nsIn K mainGlobals "MOST_ITEMS" = some (some (.int 20 tok_MOST_ITEMS))) (n_MOST_DEPTH : PySem.W.nsIn K mainGlobals "MOST_DEPTH" = some (some (.int 6 tok_MOST_DEPTH))) :
    ∃ fd : FuncData, (∀ (s : Shared) (v : Value), BindsTo s fd ⟨[v], []⟩ [("script", v)]) ∧ ∀ base : Heap, K.In base → base.Ns mainGlobals mg → FnOk l.prog w K mg base CX0 21 fa fd ["script"] (spLaw K) := by
  have e := hfa.symm.trans (PySem.W.mg_of X G a22)
  cases e
  refine ⟨(PySem.W.fnOf "law" "law" (C8.fnArgs s_law) (C8.fnBody s_law) (C8.fnScope s_law) .none kV22 dc22 pm22 an22 cd22 ct22), fun s v => .of_eq rfl, fun base _ _ => ?_⟩
  exact ((all_tb X G a0 l0 c0 k0 a1 l1 c1 k1 a2 l2 c2 k2 a3 l3 c3 k3 a4 l4 c4 k4 a5 l5 c5 k5 a6 l6 c6 k6 a7 l7 c7 k7 a8 l8 c8 k8 a9 l9 c9 k9 a10 l10 c10 k10 a11 l11 c11 k11 a12 l12 c12 k12 a13 l13 c13 k13 a14 l14 c14 k14 a15 l15 c15 k15 a16 l16 c16 k16 a17 l17 c17 k17 a18 l18 c18 k18 a19 l19 c19 k19 a20 l20 c20 k20 a21 l21 c21 k21 a22 l22 c22 k22 z_abs z_all z_int z_isinstance z_len z_max z_range z_repr z_tuple ⟨_, .ref f_SIMPLE_KINDS, PySem.W.mg_of X G n_SIMPLE_KINDS, rfl, fun H ρ => ⟨f_SIMPLE_KINDS, [V.str S_int, V.str S_bool, V.str S_text, V.str S_nothing], rfl, .inr ⟨_, _, _, l_SIMPLE_KINDS, rfl, rfl, its_small v_SIMPLE_KINDS (by decide), v_SIMPLE_KINDS⟩, by simp [Reps, Rep]⟩⟩ ⟨_, .int 1000000000000, PySem.W.mg_of X G n_MOST_NUMBER, ⟨_, rfl⟩, fun _ _ => rfl⟩ ⟨_, .int 60, PySem.W.mg_of X G n_MOST_LETTERS, ⟨_, rfl⟩, fun _ _ => rfl⟩ ⟨_, .int 20, PySem.W.mg_of X G n_MOST_ITEMS, ⟨_, rfl⟩, fun _ _ => rfl⟩ ⟨_, .int 6, PySem.W.mg_of X G n_MOST_DEPTH, ⟨_, rfl⟩, fun _ _ => rfl⟩) 20).2.imp fun vs H Q E h => law_sp h
end M10
open PySem PySem.W PyProof.Rows
set_option maxRecDepth 100000 in
set_option maxHeartbeats 0 in
theorem PySem.Challenge.cw_flowreprise_k10_types_and_values_holds : PySem.Challenge.rw_flowreprise_k10_types_and_values.Holds := by
  w_on; o_law; k_head; (case hw => w_witness2)
  k_fill
  refine L2.walk_of (l := PySem.Challenge.rw_flowreprise_k10_types_and_values) (n := 63) (k := 21) (x := "script") (CX := fun _ => L2.CX0) (sp := fun w => M10.spLaw _) rfl (by decide) rfl ⟨rfl, by decide, by decide⟩ (fun w h Y => PySem.W.kIn_of Y) ?F (fun _ _ a ns hl _ hS => ⟨a, ns, rfl, hS, hl, fun _ => rfl⟩) (fun _ _ _ _ _ h => h)
  case F =>
    intro w mg fa h KX G hmg
    refine' M10.all_mk KX G hmg ?a0 ?l0 ?c0 ?k0 ?a1 ?l1 ?c1 ?k1 ?a2 ?l2 ?c2 ?k2 ?a3 ?l3 ?c3 ?k3 ?a4 ?l4 ?c4 ?k4 ?a5 ?l5 ?c5 ?k5 ?a6 ?l6 ?c6 ?k6 ?a7 ?l7 ?c7 ?k7 ?a8 ?l8 ?c8 ?k8 ?a9 ?l9 ?c9 ?k9 ?a10 ?l10 ?c10 ?k10 ?a11 ?l11 ?c11 ?k11 ?a12 ?l12 ?c12 ?k12 ?a13 ?l13 ?c13 ?k13 ?a14 ?l14 ?c14 ?k14 ?a15 ?l15 ?c15 ?k15 ?a16 ?l16 ?c16 ?k16 ?a17 ?l17 ?c17 ?k17 ?a18 ?l18 ?c18 ?k18 ?a19 ?l19 ?c19 ?k19 ?a20 ?l20 ?c20 ?k20 ?a21 ?l21 ?c21 ?k21 ?a22 ?l22 ?c22 ?k22 ?z_abs ?z_all ?z_int ?z_isinstance ?z_len ?z_max ?z_range ?z_repr ?z_tuple ?n_SIMPLE_KINDS ?l_SIMPLE_KINDS ?v_SIMPLE_KINDS ?n_MOST_NUMBER ?n_MOST_LETTERS ?n_MOST_ITEMS ?n_MOST_DEPTH
    (case a0 => k_is)
    (case l0 => k_is)
    (case c0 => k_is)
    (case k0 => k_is)
    (case a1 => k_is)
    (case l1 => k_is)
    (case c1 => k_is)
    (case k1 => k_is)
    (case a2 => k_is)
    (case l2 => k_is)
    (case c2 => k_is)
    (case k2 => k_is)
    (case a3 => k_is)
    (case l3 => k_is)
    (case c3 => k_is)
    (case k3 => k_is)
    (case a4 => k_is)
    (case l4 => k_is)
    (case c4 => k_is)
    (case k4 => k_is)
    (case a5 => k_is)
    (case l5 => k_is)
    (case c5 => k_is)
    (case k5 => k_is)
    (case a6 => k_is)
    (case l6 => k_is)
    (case c6 => k_is)
    (case k6 => k_is)
    (case a7 => k_is)
    (case l7 => k_is)
    (case c7 => k_is)
    (case k7 => k_is)
    (case a8 => k_is)
    (case l8 => k_is)
    (case c8 => k_is)
    (case k8 => k_is)
    (case a9 => k_is)
    (case l9 => k_is)
    (case c9 => k_is)
    (case k9 => k_is)
    (case a10 => k_is)
    (case l10 => k_is)
    (case c10 => k_is)
    (case k10 => k_is)
    (case a11 => k_is)
    (case l11 => k_is)
    (case c11 => k_is)
    (case k11 => k_is)
    (case a12 => k_is)
    (case l12 => k_is)
    (case c12 => k_is)
    (case k12 => k_is)
    (case a13 => k_is)
    (case l13 => k_is)
    (case c13 => k_is)
    (case k13 => k_is)
    (case a14 => k_is)
    (case l14 => k_is)
    (case c14 => k_is)
    (case k14 => k_is)
    (case a15 => k_is)
    (case l15 => k_is)
    (case c15 => k_is)
    (case k15 => k_is)
    (case a16 => k_is)
    (case l16 => k_is)
    (case c16 => k_is)
    (case k16 => k_is)
    (case a17 => k_is)
    (case l17 => k_is)
    (case c17 => k_is)
    (case k17 => k_is)
    (case a18 => k_is)
    (case l18 => k_is)
    (case c18 => k_is)
    (case k18 => k_is)
    (case a19 => k_is)
    (case l19 => k_is)
    (case c19 => k_is)
    (case k19 => k_is)
    (case a20 => k_is)
    (case l20 => k_is)
    (case c20 => k_is)
    (case k20 => k_is)
    (case a21 => k_is)
    (case l21 => k_is)
    (case c21 => k_is)
    (case k21 => k_is)
    (case a22 => k_is)
    (case l22 => k_is)
    (case c22 => k_is)
    (case k22 => k_is)
    (case z_abs => k_is)
    (case z_all => k_is)
    (case z_int => k_is)
    (case z_isinstance => k_is)
    (case z_len => k_is)
    (case z_max => k_is)
    (case z_range => k_is)
    (case z_repr => k_is)
    (case z_tuple => k_is)
    (case n_SIMPLE_KINDS => k_is)
    (case l_SIMPLE_KINDS => k_is)
    (case v_SIMPLE_KINDS => exact (.cons ⟨_, rfl⟩ (.cons ⟨_, rfl⟩ (.cons ⟨_, rfl⟩ (.cons ⟨_, rfl⟩ .nil)))))
    (case n_MOST_NUMBER => k_is)
    (case n_MOST_LETTERS => k_is)
    (case n_MOST_ITEMS => k_is)
    (case n_MOST_DEPTH => k_is)
