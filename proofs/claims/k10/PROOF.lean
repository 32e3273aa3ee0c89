import PyProof.Rows.All
import Wide.All
import OpenK.AllK
import Wide.FinOn
import HandS.ForMost
import HandS.Exc
import HandS.TryOnly
import HandS.ExcOwn
import HandS.WordsExc
import HandS.RaiseMore
import HandS.FStr
import HandS.TryMany
import HandS.ExcCtx
import HandS.ExcIs
import HandS.HotCalls
import HandS.Deep
import HandS.SetFor
import HandS.Strs
import HandS.Codes
import KE.RegKIsAll
import HandS.Style
import HandS.IsInst
import HandS.Conv
import HandS.Rev
import KE.DataMinMax
import PySem.Challenge.RW_fareweb_k10_whole_cards_pay_the_least
set_option Elab.async false
set_option linter.all false
set_option maxRecDepth 100000
section
set_option autoImplicit false
set_option linter.all false
namespace FW
/-! Webs: plain mathematics of levels and ways. -/
abbrev Lv := List (Option Nat)
def lk (L : Lv) (v : Nat) : Option Nat := L.getD v none
def Adj (near : List (List Nat)) (u v : Nat) : Prop := ∃ l, near[u]? = some l ∧ v ∈ l
def wt (zs : List Int) (u v : Nat) : Nat := if zs[u]? = zs[v]? then 0 else 1
inductive Way (near : List (List Nat)) (zs : List Int) (s : Nat) : Nat → Nat → Prop
  | nil : Way near zs s s 1
  | step {v u k : Nat} : Way near zs s v k → Adj near v u → Way near zs s u (k + wt zs v u)
theorem wt_comm (zs : List Int) (u v : Nat) : wt zs u v = wt zs v u := by
  unfold wt
  by_cases h : zs[u]? = zs[v]?
  · rw [if_pos h, if_pos h.symm]
  · rw [if_neg h, if_neg (fun e => h e.symm)]
theorem wt_le (zs : List Int) (u v : Nat) : wt zs u v ≤ 1 := by
  unfold wt
  split <;> omega
theorem lk_set {L : Lv} {v : Nat} {x : Option Nat} (h : v < L.length) (u : Nat) : lk (L.set v x) u = if u = v then x else lk L u := by
  unfold lk
  rw [List.getD_eq_getElem?_getD, List.getD_eq_getElem?_getD, List.getElem?_set]
  by_cases e : v = u
  · subst e
    simp [h]
  · rw [if_neg e, if_neg (fun z => e z.symm)]
theorem lk_get {L : Lv} {v : Nat} (h : v < L.length) : L[v]? = some (lk L v) := by
  unfold lk
  rw [List.getD_eq_getElem?_getD, List.getElem?_eq_getElem h]
  rfl
theorem lk_lt {L : Lv} {v k : Nat} (h : lk L v = some k) : v < L.length := by
  apply Classical.byContradiction
  intro z
  unfold lk at h
  rw [List.getD_eq_getElem?_getD, List.getElem?_eq_none (by omega)] at h
  cases h
theorem lk_rep (n v : Nat) : lk (List.replicate n none) v = none := by
  unfold lk
  rw [List.getD_eq_getElem?_getD, List.getElem?_replicate]
  split <;> rfl
theorem lk_ext {L M : Lv} (h : L.length = M.length) (e : ∀ v, v < L.length → lk L v = lk M v) : L = M := by
  apply List.ext_getElem? 
  intro i
  by_cases hi : i < L.length
  · rw [lk_get hi, lk_get (by omega), e i hi]
  · rw [List.getElem?_eq_none (by omega), List.getElem?_eq_none (by omega)]
/-! levels -/
structure IsLevels (near : List (List Nat)) (zs : List Int) (s : Nat) (L : Lv) : Prop where
  len : L.length = zs.length
  one : lk L s = some 1
  kept : ∀ u v k, lk L u = some k → Adj near u v → ∃ k', lk L v = some k' ∧ k' ≤ k + wt zs u v
  sound : ∀ v k, lk L v = some k → Way near zs s v k ∧ 1 ≤ k
section
variable {near : List (List Nat)} {zs : List Int} {s : Nat} {L M : Lv}
theorem IsLevels.min (h : IsLevels near zs s L) {v k : Nat} (w : Way near zs s v k) : ∃ l, lk L v = some l ∧ l ≤ k := by
  induction w with
  | nil => exact ⟨1, h.one, Nat.le_refl 1⟩
  | step _ a ih =>
    obtain ⟨l, e, hl⟩ := ih
    obtain ⟨k', e', hk⟩ := h.kept _ _ _ e a
    exact ⟨k', e', by omega⟩
theorem IsLevels.unique (h : IsLevels near zs s L) (g : IsLevels near zs s M) : L = M := by
  refine lk_ext (h.len.trans g.len.symm) fun v _ => ?_
  cases e : lk L v with
  | some k =>
    obtain ⟨l, e1, hl⟩ := g.min (h.sound v k e).1
    obtain ⟨l', e2, hl'⟩ := h.min (g.sound v l e1).1
    rw [e] at e2
    cases e2
    rw [e1, show l = k by omega]
  | none =>
    cases e1 : lk M v with
    | none => rfl
    | some k =>
      obtain ⟨l, e2, _⟩ := h.min (g.sound v k e1).1
      rw [e] at e2
      cases e2
end
/-! the search -/
abbrev Sp := Nat × Option Nat
def Org (near : List (List Nat)) (zs : List Int) (s : Nat) (L : Lv) (lv v : Nat) : Option Nat → Prop
  | none => v = s ∧ lv = 1
  | some u => Adj near u v ∧ ∃ k, lk L u = some k ∧ lv = k + wt zs u v
structure Srch (near : List (List Nat)) (zs : List Int) (s lv : Nat) (St On : List Sp) (L O : Lv) (r : Nat → Nat) (t : Nat) : Prop where
  lenL : L.length = zs.length
  lenO : O.length = zs.length
  sound : ∀ v k, lk L v = some k → Way near zs s v k ∧ k ≤ lv ∧ 1 ≤ k
  st : ∀ v o, (v, o) ∈ St → v < zs.length ∧ Way near zs s v lv ∧ Org near zs s L lv v o
  on : ∀ v o, (v, o) ∈ On → v < zs.length ∧ Way near zs s v (lv + 1) ∧ Org near zs s L (lv + 1) v o
  kept : ∀ u v k, lk L u = some k → Adj near u v → (∃ k', lk L v = some k' ∧ k' ≤ k + wt zs u v) ∨ ((v, some u) ∈ St ∧ lv ≤ k + wt zs u v) ∨ ((v, some u) ∈ On ∧ lv + 1 ≤ k + wt zs u v)
  start : lk L s = some 1 ∨ ((s, none) ∈ St ∧ lv = 1)
  org : ∀ v k, lk L v = some k → r v < t ∧ Org near zs s L k v (lk O v) ∧ ∀ u, lk O v = some u → r u < r v
  pos : 1 ≤ lv
section
variable {near : List (List Nat)} {zs : List Int} {s lv t : Nat} {St On : List Sp} {L O : Lv} {r : Nat → Nat}
theorem Srch.popped {v : Nat} {o : Option Nat} {k : Nat} (h : Srch near zs s lv (St ++ [(v, o)]) On L O r t) (e : lk L v = some k) : Srch near zs s lv St On L O r t := by
  refine ⟨h.lenL, h.lenO, h.sound, fun v o m => h.st v o (List.mem_append_left _ m), h.on, fun u x k' e' a => ?_, ?_, h.org, h.pos⟩
  · rcases h.kept u x k' e' a with z | ⟨m, z⟩ | z
    · exact .inl z
    · rcases List.mem_append.mp m with m | m
      · exact .inr (.inl ⟨m, z⟩)
      · have q := List.mem_singleton.mp m
        cases q
        exact .inl ⟨k, e, by have := (h.sound _ _ e).2.1; omega⟩
    · exact .inr (.inr z)
  · rcases h.start with z | ⟨m, z⟩
    · exact .inl z
    · rcases List.mem_append.mp m with m | m
      · exact .inr ⟨m, z⟩
      · have q := List.mem_singleton.mp m
        cases q
        have := h.sound _ _ e
        exact .inl (by rw [e, show k = 1 by omega])
theorem Org.grow {L' : Lv} {v k : Nat} {o : Option Nat} (g : ∀ u k, lk L u = some k → lk L' u = some k) (h : Org near zs s L k v o) : Org near zs s L' k v o := by
  cases o with
  | none => exact h
  | some u =>
    obtain ⟨a, k', e, z⟩ := h
    exact ⟨a, k', g _ _ e, z⟩
/-- a stop is marked, all its neighbours told off -/
theorem Srch.marked {v : Nat} {o : Option Nat} {l : List Nat} {St' On' : List Sp} (h : Srch near zs s lv (St ++ [(v, o)]) On L O r t) (e : lk L v = none) (hl : near[v]? = some l) (hb : ∀ x, x ∈ l → x < zs.length)
    (e1 : St' = St ++ (l.filter fun x => decide (zs[x]? = zs[v]?)).map fun x => (x, some v)) (e2 : On' = On ++ (l.filter fun x => !decide (zs[x]? = zs[v]?)).map fun x => (x, some v)) :
    Srch near zs s lv St' On' (L.set v (some lv)) (O.set v o) (fun x => if x = v then t else r x) (t + 1) := by
  obtain ⟨hv, wv, ov⟩ := h.st v o (List.mem_append_right _ List.mem_cons_self)
  have vL : v < L.length := by rw [h.lenL]; exact hv
  have vO : v < O.length := by rw [h.lenO]; exact hv
  have g : ∀ u k, lk L u = some k → lk (L.set v (some lv)) u = some k := fun u k q => by
    rw [lk_set vL]
    by_cases z : u = v
    · rw [z, e] at q
      cases q
    · rw [if_neg z, q]
  have gv : lk (L.set v (some lv)) v = some lv := by rw [lk_set vL, if_pos rfl]
  subst e1 e2
  refine ⟨by rw [List.length_set]; exact h.lenL, by rw [List.length_set]; exact h.lenO, ?_, ?_, ?_, ?_, ?_, ?_, h.pos⟩
  · intro u k q
    rw [lk_set vL] at q
    by_cases z : u = v
    · rw [if_pos z] at q
      cases q
      exact ⟨z ▸ wv, Nat.le_refl _, h.pos⟩
    · rw [if_neg z] at q
      exact h.sound u k q
  · intro x y m
    rcases List.mem_append.mp m with m | m
    · obtain ⟨a, b, c⟩ := h.st x y (List.mem_append_left _ m)
      exact ⟨a, b, c.grow g⟩
    · obtain ⟨x', mx, ex⟩ := List.mem_map.mp m
      cases ex
      obtain ⟨m1, m2⟩ := List.mem_filter.mp mx
      have w0 : wt zs v x = 0 := by
        unfold wt
        rw [if_pos (of_decide_eq_true m2).symm]
      have ad : Adj near v x := ⟨l, hl, m1⟩
      have q := Way.step wv ad
      rw [w0] at q
      exact ⟨hb x m1, q, ad, lv, gv, by omega⟩
  · intro x y m
    rcases List.mem_append.mp m with m | m
    · obtain ⟨a, b, c⟩ := h.on x y m
      exact ⟨a, b, c.grow g⟩
    · obtain ⟨x', mx, ex⟩ := List.mem_map.mp m
      cases ex
      obtain ⟨m1, m2⟩ := List.mem_filter.mp mx
      have m3 : ¬ zs[x]? = zs[v]? := by simpa using m2
      have w0 : wt zs v x = 1 := by
        unfold wt
        rw [if_neg (fun z => m3 z.symm)]
      have ad : Adj near v x := ⟨l, hl, m1⟩
      have q := Way.step wv ad
      rw [w0] at q
      exact ⟨hb x m1, q, ad, lv, gv, by omega⟩
  · intro u x k q a
    rw [lk_set vL] at q
    by_cases z : u = v
    · rw [if_pos z] at q
      cases q
      subst z
      obtain ⟨l', hl', mx⟩ := a
      rw [hl] at hl'
      cases hl'
      by_cases c : zs[x]? = zs[u]?
      · refine .inr (.inl ⟨List.mem_append_right _ (List.mem_map.mpr ⟨x, List.mem_filter.mpr ⟨mx, decide_eq_true c⟩, rfl⟩), by omega⟩)
      · refine .inr (.inr ⟨List.mem_append_right _ (List.mem_map.mpr ⟨x, List.mem_filter.mpr ⟨mx, by simpa using c⟩, rfl⟩), ?_⟩)
        unfold wt
        rw [if_neg (fun z => c z.symm)]
        exact Nat.le_refl _
    · rw [if_neg z] at q
      rcases h.kept u x k q a with ⟨k', w, y⟩ | ⟨m, y⟩ | ⟨m, y⟩
      · exact .inl ⟨k', g _ _ w, y⟩
      · rcases List.mem_append.mp m with m | m
        · exact .inr (.inl ⟨List.mem_append_left _ m, y⟩)
        · have q' := List.mem_singleton.mp m
          cases q'
          exact .inl ⟨lv, gv, y⟩
      · exact .inr (.inr ⟨List.mem_append_left _ m, y⟩)
  · rcases h.start with z | ⟨m, z⟩
    · exact .inl (g _ _ z)
    · rcases List.mem_append.mp m with m | m
      · exact .inr ⟨List.mem_append_left _ m, z⟩
      · have q' := List.mem_singleton.mp m
        cases q'
        exact .inl (by rw [gv, z])
  · intro u k q
    rw [lk_set vL] at q
    by_cases z : u = v
    · rw [if_pos z] at q
      cases q
      subst z
      have eo : lk (O.set u o) u = o := by rw [lk_set vO, if_pos rfl]
      refine ⟨by simp, by rw [eo]; exact ov.grow g, fun y ey => ?_⟩
      rw [eo] at ey
      subst ey
      obtain ⟨_, k', ek, _⟩ := ov
      have ne : y ≠ u := fun z => by
        rw [z, e] at ek
        cases ek
      have := (h.org y k' ek).1
      simp [ne, this]
    · rw [if_neg z] at q
      obtain ⟨a, b, c⟩ := h.org u k q
      have eo : lk (O.set v o) u = lk O u := by rw [lk_set vO, if_neg z]
      refine ⟨?_, by rw [eo]; exact b.grow g, fun y ey => ?_⟩
      · show (if u = v then t else r u) < t + 1
        rw [if_neg z]
        omega
      · rw [eo] at ey
        rw [ey] at b
        obtain ⟨_, k', ek, _⟩ := b
        have ne : y ≠ v := fun z => by
          rw [z, e] at ek
          cases ek
        show (if y = v then t else r y) < (if u = v then t else r u)
        rw [if_neg ne, if_neg z]
        exact c y ey
theorem Srch.next (h : Srch near zs s lv [] On L O r t) : Srch near zs s (lv + 1) On [] L O r t := by
  refine ⟨h.lenL, h.lenO, fun v k e => ?_, h.on, fun v o m => by simp at m, fun u v k e a => ?_, ?_, h.org, by omega⟩
  · obtain ⟨a, b, c⟩ := h.sound v k e
    exact ⟨a, by omega, c⟩
  · rcases h.kept u v k e a with z | ⟨m, _⟩ | z
    · exact .inl z
    · simp at m
    · exact .inr (.inl z)
  · rcases h.start with z | ⟨m, _⟩
    · exact .inl z
    · simp at m
theorem Srch.init (hs : s < zs.length) : Srch near zs s 1 [(s, none)] [] (List.replicate zs.length none) (List.replicate zs.length none) (fun _ => 0) 0 := by
  refine ⟨List.length_replicate, List.length_replicate, fun v k e => ?_, fun v o m => ?_, fun v o m => by simp at m, fun u v k e => ?_, .inr ⟨List.mem_cons_self, rfl⟩, fun v k e => ?_, Nat.le_refl 1⟩
  · rw [lk_rep] at e
    cases e
  · have q := List.mem_singleton.mp m
    cases q
    exact ⟨hs, .nil, rfl, rfl⟩
  · rw [lk_rep] at e
    cases e
  · rw [lk_rep] at e
    cases e
theorem Srch.done (h : Srch near zs s lv [] [] L O r t) : IsLevels near zs s L := by
  refine ⟨h.lenL, ?_, fun u v k e a => ?_, fun v k e => ⟨(h.sound v k e).1, (h.sound v k e).2.2⟩⟩
  · rcases h.start with z | ⟨m, _⟩
    · exact z
    · simp at m
  · rcases h.kept u v k e a with z | ⟨m, _⟩ | ⟨m, _⟩
    · exact z
    · simp at m
    · simp at m
end
/-- what a search tells of where ways come from -/
structure IsOrigins (near : List (List Nat)) (zs : List Int) (s : Nat) (L O : Lv) (r : Nat → Nat) (t : Nat) : Prop where
  len : O.length = zs.length
  org : ∀ v k, lk L v = some k → r v < t ∧ Org near zs s L k v (lk O v) ∧ ∀ u, lk O v = some u → r u < r v
/-! how much is left to do -/
def pot : List (List Nat) → Lv → Nat
  | a :: near, none :: L => a.length + 1 + pot near L
  | _ :: near, some _ :: L => pot near L
  | _, _ => 0
theorem pot_set : ∀ {near : List (List Nat)} {L : Lv} {v k : Nat} {l : List Nat}, near[v]? = some l → L[v]? = some none → pot near (L.set v (some k)) + l.length + 1 = pot near L
  | [], _, _, _, _, h, _ => by simp at h
  | _ :: _, [], _, _, _, _, h => by simp at h
  | a :: near, x :: L, 0, k, l, h, e => by
    have h1 : a = l := Option.some.inj h
    have h2 : x = none := Option.some.inj e
    subst h1 h2
    show pot near L + a.length + 1 = a.length + 1 + pot near L
    omega
  | a :: near, x :: L, v + 1, k, l, h, e => by
    have ih := pot_set (near := near) (L := L) (v := v) (k := k) (l := l) h e
    cases x with
    | none =>
      show a.length + 1 + pot near (L.set v (some k)) + l.length + 1 = a.length + 1 + pot near L
      omega
    | some y => exact ih
def tot (near : List (List Nat)) : Nat := (near.map List.length).sum
theorem pot_rep : ∀ (near : List (List Nat)) (n : Nat), near.length = n → pot near (List.replicate n none) = tot near + n
  | [], n, h => by
    subst h
    rfl
  | a :: near, n, h => by
    subst h
    show a.length + 1 + pot near (List.replicate near.length none) = (a.length :: near.map List.length).sum + (near.length + 1)
    rw [pot_rep near _ rfl, List.sum_cons]
    unfold tot
    omega
/-! links -/
abbrev Lk := Int × Int
def LinkOk (n : Nat) (p : Lk) : Prop := (0 ≤ p.1 ∧ p.1 < n) ∧ (0 ≤ p.2 ∧ p.2 < n) ∧ p.1 ≠ p.2
instance (n : Nat) (p : Lk) : Decidable (LinkOk n p) := by unfold LinkOk; exact inferInstance
structure NearOk (n : Nat) (lks : List Lk) (near : List (List Nat)) : Prop where
  len : near.length = n
  adj : ∀ u v, Adj near u v ↔ (((u : Int), (v : Int)) ∈ lks ∨ ((v : Int), (u : Int)) ∈ lks)
  size : tot near = 2 * lks.length
theorem adj_set {near : List (List Nat)} {a x : Nat} {na : List Nat} (h : near[a]? = some na) (u v : Nat) : Adj (near.set a (na ++ [x])) u v ↔ (Adj near u v ∨ (u = a ∧ v = x)) := by
  have ha := (List.getElem?_eq_some_iff.mp h).1
  unfold Adj
  rw [List.getElem?_set]
  by_cases e : a = u
  · subst e
    rw [if_pos rfl, if_pos ha]
    constructor
    · rintro ⟨l, e1, m⟩
      cases e1
      rcases List.mem_append.mp m with m | m
      · exact .inl ⟨na, h, m⟩
      · exact .inr ⟨rfl, List.mem_singleton.mp m⟩
    · rintro (⟨l, e1, m⟩ | ⟨_, rfl⟩)
      · rw [h] at e1
        cases e1
        exact ⟨_, rfl, List.mem_append_left _ m⟩
      · exact ⟨_, rfl, List.mem_append_right _ List.mem_cons_self⟩
  · rw [if_neg e]
    constructor
    · exact fun z => .inl z
    · rintro (z | ⟨z, _⟩)
      · exact z
      · exact absurd z.symm e
theorem tot_set : ∀ {near : List (List Nat)} {a x : Nat} {na : List Nat}, near[a]? = some na → tot (near.set a (na ++ [x])) = tot near + 1
  | [], _, _, _, h => by simp at h
  | b :: near, 0, x, na, h => by
    have e : b = na := Option.some.inj h
    subst e
    show ((b ++ [x]).length :: near.map List.length).sum = (b.length :: near.map List.length).sum + 1
    rw [List.sum_cons, List.sum_cons, List.length_append]
    show b.length + 1 + _ = _
    omega
  | b :: near, a + 1, x, na, h => by
    have ih := tot_set (near := near) (a := a) (x := x) (na := na) h
    unfold tot at ih
    show (b.length :: (near.set a (na ++ [x])).map List.length).sum = (b.length :: near.map List.length).sum + 1
    rw [List.sum_cons, List.sum_cons, ih]
    omega
theorem NearOk.init (n : Nat) : NearOk n [] (List.replicate n []) := by
  refine ⟨List.length_replicate, fun u v => ?_, ?_⟩
  · constructor
    · rintro ⟨l, e, m⟩
      rw [List.getElem?_replicate] at e
      split at e
      · cases e
        simp at m
      · cases e
    · rintro (z | z) <;> simp at z
  · unfold tot
    rw [List.map_replicate]
    show (List.replicate n 0).sum = _
    simp
theorem NearOk.more {n : Nat} {lks : List Lk} {near : List (List Nat)} (h : NearOk n lks near) {a b : Nat} (hab : a ≠ b) {na nb : List Nat} (ea : near[a]? = some na) (eb : near[b]? = some nb) :
    NearOk n (lks ++ [((a : Int), (b : Int))]) ((near.set a (na ++ [b])).set b (nb ++ [a])) := by
  have eb' : (near.set a (na ++ [b]))[b]? = some nb := by
    rw [List.getElem?_set, if_neg hab, eb]
  refine ⟨by rw [List.length_set, List.length_set]; exact h.len, fun u v => ?_, ?_⟩
  · rw [adj_set eb', adj_set ea, h.adj, List.mem_append, List.mem_append, List.mem_singleton, List.mem_singleton]
    constructor
    · rintro (((z | z) | ⟨rfl, rfl⟩) | ⟨rfl, rfl⟩)
      · exact .inl (.inl z)
      · exact .inr (.inl z)
      · exact .inl (.inr rfl)
      · exact .inr (.inr rfl)
    · rintro ((z | z) | (z | z))
      · exact .inl (.inl (.inl z))
      · have q := Prod.mk.inj z
        exact .inl (.inr ⟨by omega, by omega⟩)
      · exact .inl (.inl (.inr z))
      · have q := Prod.mk.inj z
        exact .inr ⟨by omega, by omega⟩
  · rw [tot_set eb', tot_set ea, h.size, List.length_append]
    show _ = 2 * (lks.length + 1)
    omega
end FW
namespace FW
/-- a row of stops from s to g that counts k zones -/
inductive RowTo (near : List (List Nat)) (zs : List Int) (s : Nat) : List Nat → Nat → Nat → Prop
  | one : RowTo near zs s [s] s 1
  | snoc {l : List Nat} {u v k : Nat} : RowTo near zs s l u k → Adj near u v → RowTo near zs s (l ++ [v]) v (k + wt zs u v)
end FW
namespace FW
theorem Way.trans {near : List (List Nat)} {zs : List Int} {s v k : Nat} (h : Way near zs s v k) {u j : Nat} (g : Way near zs v u j) : ∃ i, Way near zs s u i := by
  induction g with
  | nil => exact ⟨k, h⟩
  | step _ a ih =>
    obtain ⟨i, z⟩ := ih
    exact ⟨_, z.step a⟩
theorem Way.back {near : List (List Nat)} {zs : List Int} (sym : ∀ u v, Adj near u v → Adj near v u) {s v k : Nat} (h : Way near zs s v k) : ∃ i, Way near zs v s i := by
  induction h with
  | nil => exact ⟨1, .nil⟩
  | step _ a ih =>
    obtain ⟨i, z⟩ := ih
    exact (Way.nil.step (sym _ _ a)).trans z
theorem NearOk.sym {n : Nat} {lks : List Lk} {near : List (List Nat)} (h : NearOk n lks near) (u v : Nat) (a : Adj near u v) : Adj near v u := (h.adj v u).mpr ((h.adj u v).mp a).symm
/-- the zones of a row's first stops -/
def zsum (zs : List Int) (row : List Nat) : Nat → Nat
  | 0 => 1
  | i + 1 => zsum zs row i + wt zs (row.getD i 0) (row.getD (i + 1) 0)
theorem zsum_app (zs : List Int) (row : List Nat) (v : Nat) : ∀ i, i < row.length → zsum zs (row ++ [v]) i = zsum zs row i
  | 0, _ => rfl
  | i + 1, h => by
    show zsum zs (row ++ [v]) i + wt zs ((row ++ [v]).getD i 0) ((row ++ [v]).getD (i + 1) 0) = zsum zs row i + wt zs (row.getD i 0) (row.getD (i + 1) 0)
    rw [zsum_app zs row v i (by omega)]
    simp only [List.getD_eq_getElem?_getD]
    rw [List.getElem?_append_left (by omega), List.getElem?_append_left h]
structure RowOk (near : List (List Nat)) (zs : List Int) (s : Nat) (row : List Nat) (g k : Nat) : Prop where
  pos : 0 < row.length
  first : row[0]? = some s
  last : row[row.length - 1]? = some g
  adj : ∀ i u v, row[i]? = some u → row[i + 1]? = some v → Adj near u v
  sum : zsum zs row (row.length - 1) = k
theorem RowTo.ok {near : List (List Nat)} {zs : List Int} {s : Nat} {row : List Nat} {g k : Nat} (h : RowTo near zs s row g k) : RowOk near zs s row g k := by
  induction h with
  | one => exact ⟨Nat.zero_lt_one, rfl, rfl, fun i u v h1 h2 => by simp at h2, rfl⟩
  | @snoc l u v k _ a ih =>
    have hp := ih.pos
    have len : (l ++ [v]).length = l.length + 1 := List.length_append
    refine ⟨by omega, by rw [List.getElem?_append_left hp]; exact ih.first, ?_, fun i x y h1 h2 => ?_, ?_⟩
    · rw [len, Nat.add_sub_cancel, List.getElem?_append_right (Nat.le_refl _), Nat.sub_self]
      rfl
    · by_cases hi : i + 1 < l.length
      · rw [List.getElem?_append_left (by omega)] at h1
        rw [List.getElem?_append_left hi] at h2
        exact ih.adj i x y h1 h2
      · have hy := (List.getElem?_eq_some_iff.mp h2).1
        rw [len] at hy
        have e : i = l.length - 1 := by omega
        subst e
        rw [List.getElem?_append_left (by omega), ih.last] at h1
        rw [List.getElem?_append_right (by omega), show l.length - 1 + 1 - l.length = 0 by omega] at h2
        cases h1
        cases h2
        exact a
    · rw [len, Nat.add_sub_cancel]
      obtain ⟨m, hm⟩ : ∃ m, l.length = m + 1 := ⟨l.length - 1, by omega⟩
      rw [hm]
      show zsum zs (l ++ [v]) m + wt zs ((l ++ [v]).getD m 0) ((l ++ [v]).getD (m + 1) 0) = k + wt zs u v
      have e1 : (l ++ [v]).getD m 0 = u := by
        rw [List.getD_eq_getElem?_getD, List.getElem?_append_left (by omega)]
        have := ih.last
        rw [hm] at this
        rw [show m + 1 - 1 = m by omega] at this
        rw [this]
        rfl
      have e2 : (l ++ [v]).getD (m + 1) 0 = v := by
        rw [List.getD_eq_getElem?_getD, List.getElem?_append_right (by omega), hm, Nat.sub_self]
        rfl
      rw [e1, e2, zsum_app zs l v m (by omega)]
      have := ih.sum
      rw [hm, Nat.add_sub_cancel] at this
      rw [this]
theorem RowTo.lt {near : List (List Nat)} {zs : List Int} {s n : Nat} (hs : s < n) (hn : ∀ u v, Adj near u v → v < n) {row : List Nat} {g k : Nat} (h : RowTo near zs s row g k) : ∀ x, x ∈ row → x < n := by
  induction h with
  | one =>
    intro x m
    rw [List.mem_singleton.mp m]
    exact hs
  | snoc _ a ih =>
    intro x m
    rcases List.mem_append.mp m with m | m
    · exact ih x m
    · rw [List.mem_singleton.mp m]
      exact hn _ _ a
theorem RowTo.way {near : List (List Nat)} {zs : List Int} {s : Nat} {row : List Nat} {g k : Nat} (h : RowTo near zs s row g k) : Way near zs s g k := by
  induction h with
  | one => exact .nil
  | snoc _ a ih => exact ih.step a
end FW

end
section
set_option autoImplicit false
set_option linter.all false
namespace FT
/-! Tickets: plain mathematics of the least cost. -/
/-! sums -/
def sumR : Nat → (Nat → Int) → Int
  | 0, _ => 0
  | n + 1, f => sumR n f + f n
theorem sumR_le : ∀ (n : Nat) {f g : Nat → Int}, (∀ i, i < n → f i ≤ g i) → sumR n f ≤ sumR n g
  | 0, _, _, _ => Int.le_refl _
  | n + 1, f, g, h => by
    have h1 := sumR_le n (f := f) (g := g) fun i hi => h i (by omega)
    have h2 := h n (by omega)
    show sumR n f + f n ≤ sumR n g + g n
    omega
theorem sumR_congr : ∀ (n : Nat) {f g : Nat → Int}, (∀ i, i < n → f i = g i) → sumR n f = sumR n g
  | 0, _, _, _ => rfl
  | n + 1, f, g, h => by
    show sumR n f + f n = sumR n g + g n
    rw [sumR_congr n (f := f) (g := g) fun i hi => h i (by omega), h n (by omega)]
theorem sumR_add : ∀ (n : Nat) (f g : Nat → Int), sumR n (fun i => f i + g i) = sumR n f + sumR n g
  | 0, _, _ => rfl
  | n + 1, f, g => by
    show sumR n (fun i => f i + g i) + (f n + g n) = sumR n f + f n + (sumR n g + g n)
    rw [sumR_add n f g]
    omega
theorem sumR_zero : ∀ n : Nat, sumR n (fun _ => 0) = 0
  | 0 => rfl
  | n + 1 => by
    show sumR n (fun _ => 0) + 0 = 0
    rw [sumR_zero n]
    rfl
theorem sumR_nonneg (n : Nat) {f : Nat → Int} (h : ∀ i, i < n → 0 ≤ f i) : 0 ≤ sumR n f := by
  have := sumR_le n (f := fun _ => 0) (g := f) h
  rw [sumR_zero] at this
  exact this
theorem sumR_ind : ∀ (n k : Nat) (x : Int), sumR n (fun i => if i = k then x else 0) = if k < n then x else 0
  | 0, k, x => by
    rw [if_neg (by omega)]
    rfl
  | n + 1, k, x => by
    show sumR n (fun i => if i = k then x else 0) + (if n = k then x else 0) = _
    rw [sumR_ind n k x]
    by_cases h : n = k
    · subst h
      rw [if_neg (by omega), if_pos rfl, if_pos (by omega)]
      omega
    · rw [if_neg h]
      by_cases h2 : k < n
      · rw [if_pos h2, if_pos (by omega)]
        omega
      · rw [if_neg h2, if_neg (by omega)]
        rfl
theorem sumR_succ : ∀ (n : Nat) (f : Nat → Int), sumR (n + 1) f = f 0 + sumR n (fun i => f (i + 1))
  | 0, f => by
    show 0 + f 0 = f 0 + 0
    omega
  | n + 1, f => by
    show sumR (n + 1) f + f (n + 1) = f 0 + (sumR n (fun i => f (i + 1)) + f (n + 1))
    rw [sumR_succ n f]
    omega
theorem sum_sumR {α : Type} (f : α → Int) (d : α) : ∀ l : List α, (l.map f).sum = sumR l.length (fun i => f (l.getD i d))
  | [] => rfl
  | a :: l => by
    rw [List.map_cons, List.sum_cons, sum_sumR f d l, List.length_cons, sumR_succ]
    rfl
theorem sum_le {α : Type} {f g : α → Int} : ∀ {l : List α}, (∀ a, a ∈ l → f a ≤ g a) → (l.map f).sum ≤ (l.map g).sum
  | [], _ => Int.le_refl _
  | a :: l, h => by
    rw [List.map_cons, List.map_cons, List.sum_cons, List.sum_cons]
    have h1 := sum_le (l := l) (f := f) (g := g) fun b m => h b (List.mem_cons_of_mem _ m)
    have h2 := h a List.mem_cons_self
    omega
theorem sum_nonneg {α : Type} {f : α → Int} {l : List α} (h : ∀ a, a ∈ l → 0 ≤ f a) : 0 ≤ (l.map f).sum := by
  induction l with
  | nil => exact Int.le_refl _
  | cons a l ih =>
    rw [List.map_cons, List.sum_cons]
    have h1 := ih fun b m => h b (List.mem_cons_of_mem _ m)
    have h2 := h a List.mem_cons_self
    omega
theorem sum_zero {α : Type} : ∀ l : List α, (l.map fun _ => (0 : Int)).sum = 0
  | [] => rfl
  | a :: l => by
    rw [List.map_cons, List.sum_cons, sum_zero l]
    rfl
theorem sum_perm {α : Type} {f : α → Int} {l r : List α} (h : l.Perm r) : (l.map f).sum = (r.map f).sum := by
  induction h with
  | nil => rfl
  | cons x _ ih => rw [List.map_cons, List.map_cons, List.sum_cons, List.sum_cons, ih]
  | swap x y l =>
    simp only [List.map_cons, List.sum_cons]
    omega
  | trans _ _ h1 h2 => exact h1.trans h2
/-! the least of a row's prices for so many zones or for more -/
abbrev Row := List Int
def pr (row : Row) (z : Nat) : Int := row.getD (z - 1) 0
/-- the least of row[z - 1 ..], z from 1 to 5, of five prices -/
def best (row : Row) (z : Nat) : Int :=
  if z = 1 then min (pr row 1) (min (pr row 2) (min (pr row 3) (min (pr row 4) (pr row 5))))
  else if z = 2 then min (pr row 2) (min (pr row 3) (min (pr row 4) (pr row 5)))
  else if z = 3 then min (pr row 3) (min (pr row 4) (pr row 5))
  else if z = 4 then min (pr row 4) (pr row 5)
  else pr row 5
theorem five {z : Nat} (h1 : 1 ≤ z) (h5 : z ≤ 5) : z = 1 ∨ z = 2 ∨ z = 3 ∨ z = 4 ∨ z = 5 := by omega
theorem best_le (row : Row) {z j : Nat} (hz : 1 ≤ z) (hzj : z ≤ j) (hj : j ≤ 5) : best row z ≤ pr row j := by
  unfold best
  rcases five (by omega : 1 ≤ j) hj with rfl | rfl | rfl | rfl | rfl <;> rcases five hz (by omega) with rfl | rfl | rfl | rfl | rfl <;> simp <;> omega
theorem best_at (row : Row) {z : Nat} (hz : 1 ≤ z) (h5 : z ≤ 5) : ∃ j, z ≤ j ∧ j ≤ 5 ∧ best row z = pr row j := by
  have key : ∀ a b : Int, min a b = a ∨ min a b = b := fun a b => by omega
  unfold best
  rcases five hz h5 with rfl | rfl | rfl | rfl | rfl
  · rcases key (pr row 1) (min (pr row 2) (min (pr row 3) (min (pr row 4) (pr row 5)))) with h | h
    · exact ⟨1, by omega, by omega, h⟩
    · rcases key (pr row 2) (min (pr row 3) (min (pr row 4) (pr row 5))) with h2 | h2
      · exact ⟨2, by omega, by omega, h.trans h2⟩
      · rcases key (pr row 3) (min (pr row 4) (pr row 5)) with h3 | h3
        · exact ⟨3, by omega, by omega, (h.trans h2).trans h3⟩
        · rcases key (pr row 4) (pr row 5) with h4 | h4
          · exact ⟨4, by omega, by omega, ((h.trans h2).trans h3).trans h4⟩
          · exact ⟨5, by omega, by omega, ((h.trans h2).trans h3).trans h4⟩
  · rcases key (pr row 2) (min (pr row 3) (min (pr row 4) (pr row 5))) with h2 | h2
    · exact ⟨2, by omega, by omega, h2⟩
    · rcases key (pr row 3) (min (pr row 4) (pr row 5)) with h3 | h3
      · exact ⟨3, by omega, by omega, h2.trans h3⟩
      · rcases key (pr row 4) (pr row 5) with h4 | h4
        · exact ⟨4, by omega, by omega, (h2.trans h3).trans h4⟩
        · exact ⟨5, by omega, by omega, (h2.trans h3).trans h4⟩
  · rcases key (pr row 3) (min (pr row 4) (pr row 5)) with h3 | h3
    · exact ⟨3, by omega, by omega, h3⟩
    · rcases key (pr row 4) (pr row 5) with h4 | h4
      · exact ⟨4, by omega, by omega, h3.trans h4⟩
      · exact ⟨5, by omega, by omega, h3.trans h4⟩
  · rcases key (pr row 4) (pr row 5) with h4 | h4
    · exact ⟨4, by omega, by omega, h4⟩
    · exact ⟨5, by omega, by omega, h4⟩
  · exact ⟨5, by omega, by omega, rfl⟩
/-- a price that is the least of the row's for so many or for more is best -/
theorem best_eq {row : Row} {z : Nat} (hz : 1 ≤ z) (h5 : z ≤ 5) {b : Int} (at_ : ∃ j, z ≤ j ∧ j ≤ 5 ∧ b = pr row j) (le : ∀ j, z ≤ j → j ≤ 5 → b ≤ pr row j) : b = best row z := by
  obtain ⟨j, h1, h2, e⟩ := at_
  obtain ⟨k, k1, k2, e2⟩ := best_at row hz h5
  have a := best_le row hz h1 h2
  have c := le k k1 k2
  omega
structure Tar where
  s : Row
  d : Row
  w : Row
/-- all prices from nought on -/
structure Tar.Ok (T : Tar) : Prop where
  s : ∀ j, 1 ≤ j → j ≤ 5 → 0 ≤ pr T.s j
  d : ∀ j, 1 ≤ j → j ≤ 5 → 0 ≤ pr T.d j
  w : ∀ j, 1 ≤ j → j ≤ 5 → 0 ≤ pr T.w j
theorem best_nonneg {row : Row} (h : ∀ j, 1 ≤ j → j ≤ 5 → 0 ≤ pr row j) {z : Nat} (hz : 1 ≤ z) (h5 : z ≤ 5) : 0 ≤ best row z := by
  obtain ⟨j, h1, h2, e⟩ := best_at row hz h5
  rw [e]
  exact h j (by omega) h2
/-- a ticket for o zones, or none where o is 0 -/
def op (row : Row) (o : Nat) : Int := if o = 0 then 0 else best row o
theorem op_nonneg {row : Row} (h : ∀ j, 1 ≤ j → j ≤ 5 → 0 ≤ pr row j) {o : Nat} (h5 : o ≤ 5) : 0 ≤ op row o := by
  unfold op
  split
  · exact Int.le_refl _
  · exact best_nonneg h (by omega) h5
/-! the least over 0 to 5 -/
def m6 (f : Nat → Int) : Int := min (f 0) (min (f 1) (min (f 2) (min (f 3) (min (f 4) (f 5)))))
theorem m6_le (f : Nat → Int) {i : Nat} (h : i ≤ 5) : m6 f ≤ f i := by
  unfold m6
  have : i = 0 ∨ i = 1 ∨ i = 2 ∨ i = 3 ∨ i = 4 ∨ i = 5 := by omega
  rcases this with rfl | rfl | rfl | rfl | rfl | rfl <;> omega
theorem m6_ge (f : Nat → Int) {x : Int} (h : ∀ i, i ≤ 5 → x ≤ f i) : x ≤ m6 f := by
  unfold m6
  have h0 := h 0 (by omega)
  have h1 := h 1 (by omega)
  have h2 := h 2 (by omega)
  have h3 := h 3 (by omega)
  have h4 := h 4 (by omega)
  have h5 := h 5 (by omega)
  omega
theorem m6_at (f : Nat → Int) : ∃ i, i ≤ 5 ∧ m6 f = f i := by
  have key : ∀ a b : Int, min a b = a ∨ min a b = b := fun a b => by omega
  apply Classical.byContradiction
  intro no
  have h : ∀ i, i ≤ 5 → m6 f + 1 ≤ f i := fun i hi => by
    have a := m6_le f hi
    have b : m6 f ≠ f i := fun e => no ⟨i, hi, e⟩
    omega
  have := m6_ge f h
  omega
theorem m6_mono {f g : Nat → Int} (h : ∀ i, i ≤ 5 → f i ≤ g i) : m6 f ≤ m6 g := m6_ge g fun i hi => Int.le_trans (m6_le f hi) (h i hi)
theorem m6_congr {f g : Nat → Int} (h : ∀ i, i ≤ 5 → f i = g i) : m6 f = m6 g := Int.le_antisymm (m6_mono fun i hi => Int.le_of_eq (h i hi)) (m6_mono fun i hi => Int.le_of_eq (h i hi).symm)
/-! the least cost as a function -/
/-- what a ride of z zones still costs where tickets for h zones are held -/
def need (T : Tar) (h z : Nat) : Int := if z ≤ h then 0 else best T.s z
def restF (T : Tar) (h : Nat) (zs : List Nat) : Int := (zs.map (need T h)).sum
/-- one day beside a week ticket for w zones -/
def dayF (T : Tar) (w : Nat) (zs : List Nat) : Int := m6 fun o => op T.d o + restF T (max w o) zs
def weekF (T : Tar) (w : Nat) (days : List (List Nat)) : Int := op T.w w + (days.map (dayF T w)).sum
def leastF (T : Tar) (days : List (List Nat)) : Int := m6 fun w => weekF T w days
/-- rides of 1 to 5 zones -/
def In5 (days : List (List Nat)) : Prop := ∀ zs, zs ∈ days → ∀ z, z ∈ zs → 1 ≤ z ∧ z ≤ 5
section
variable {T : Tar}
theorem need_nonneg (h : T.Ok) {k z : Nat} (hz : 1 ≤ z ∧ z ≤ 5) : 0 ≤ need T k z := by
  unfold need
  split
  · exact Int.le_refl _
  · exact best_nonneg h.s hz.1 hz.2
theorem rest_nonneg (h : T.Ok) {k : Nat} {zs : List Nat} (hz : ∀ z, z ∈ zs → 1 ≤ z ∧ z ≤ 5) : 0 ≤ restF T k zs := sum_nonneg fun z m => need_nonneg h (hz z m)
theorem dayF_nonneg (h : T.Ok) {w : Nat} {zs : List Nat} (hz : ∀ z, z ∈ zs → 1 ≤ z ∧ z ≤ 5) : 0 ≤ dayF T w zs := m6_ge _ fun o ho => by
  have := op_nonneg h.d ho
  have := rest_nonneg h (k := max w o) hz
  omega
theorem dayF_nil (h : T.Ok) (w : Nat) : dayF T w [] = 0 := by
  refine Int.le_antisymm ?_ (dayF_nonneg h fun z m => by simp at m)
  have := m6_le (fun o => op T.d o + restF T (max w o) []) (i := 0) (by omega)
  exact this
theorem leastF_nonneg (h : T.Ok) {days : List (List Nat)} (hd : In5 days) : 0 ≤ leastF T days := m6_ge _ fun w hw => by
  have h1 := op_nonneg h.w hw
  have h2 : 0 ≤ (days.map (dayF T w)).sum := sum_nonneg fun zs m => dayF_nonneg h (hd zs m)
  show 0 ≤ op T.w w + _
  omega
theorem leastF_empty (h : T.Ok) {days : List (List Nat)} (hd : ∀ zs, zs ∈ days → zs = []) : leastF T days = 0 := by
  have h0 : ∀ w, (days.map (dayF T w)).sum = 0 := fun w => by
    have e : ∀ zs, zs ∈ days → dayF T w zs = (fun _ => (0 : Int)) zs := fun zs m => by rw [hd zs m, dayF_nil h]
    rw [List.map_congr_left e]
    exact sum_zero days
  refine Int.le_antisymm ?_ (leastF_nonneg h fun zs m z mz => by rw [hd zs m] at mz; simp at mz)
  have := m6_le (fun w => weekF T w days) (i := 0) (by omega)
  have e : weekF T 0 days = 0 := by
    unfold weekF
    rw [h0 0]
    rfl
  rw [e] at this
  exact this
/-- the order within a day is no matter -/
theorem dayF_perm {w : Nat} {zs zs' : List Nat} (p : zs.Perm zs') : dayF T w zs = dayF T w zs' := m6_congr fun o _ => by
  unfold restF
  rw [sum_perm p]
/-! one day changed -/
theorem sum_set {α : Type} (g : α → Int) : ∀ {l : List α} {d : Nat} {a b : α}, l[d]? = some a → ((l.set d b).map g).sum = (l.map g).sum - g a + g b
  | [], _, _, _, h => by simp at h
  | x :: l, 0, a, b, h => by
    have e : x = a := Option.some.inj h
    subst e
    show ((b :: l).map g).sum = ((x :: l).map g).sum - g x + g b
    rw [List.map_cons, List.map_cons, List.sum_cons, List.sum_cons]
    omega
  | x :: l, d + 1, a, b, h => by
    have ih := sum_set g (l := l) (d := d) (a := a) (b := b) h
    show ((x :: l.set d b).map g).sum = ((x :: l).map g).sum - g a + g b
    rw [List.map_cons, List.map_cons, List.sum_cons, List.sum_cons, ih]
    omega
theorem least_set_le {days : List (List Nat)} {d : Nat} {zs zs' : List Nat} (e : days[d]? = some zs) {x : Int} (h : ∀ w, w ≤ 5 → dayF T w zs' ≤ dayF T w zs + x) : leastF T (days.set d zs') ≤ leastF T days + x := by
  obtain ⟨w, hw, ew⟩ := m6_at fun w => weekF T w days
  have h1 := m6_le (fun w => weekF T w (days.set d zs')) hw
  have h2 : weekF T w (days.set d zs') ≤ weekF T w days + x := by
    unfold weekF
    rw [sum_set _ e]
    have := h w hw
    omega
  have h3 : leastF T days = weekF T w days := ew
  have h4 : leastF T (days.set d zs') ≤ weekF T w (days.set d zs') := h1
  omega
theorem rest_snoc (h : Nat) (zs : List Nat) (z : Nat) : restF T h (zs ++ [z]) = restF T h zs + need T h z := by
  unfold restF
  rw [List.map_append, List.sum_append, List.map_singleton, List.sum_singleton]
theorem dayF_more (ok : T.Ok) {w : Nat} {zs : List Nat} {z : Nat} (hz : 1 ≤ z ∧ z ≤ 5) : dayF T w zs ≤ dayF T w (zs ++ [z]) := m6_mono fun o _ => by
  rw [rest_snoc]
  have := need_nonneg ok (k := max w o) hz
  omega
theorem dayF_snoc (ok : T.Ok) {w : Nat} {zs : List Nat} {z : Nat} (hz : 1 ≤ z ∧ z ≤ 5) : dayF T w (zs ++ [z]) ≤ dayF T w zs + best T.s z := by
  obtain ⟨o, ho, e⟩ := m6_at fun o => op T.d o + restF T (max w o) zs
  have h1 := m6_le (fun o => op T.d o + restF T (max w o) (zs ++ [z])) ho
  have h2 : need T (max w o) z ≤ best T.s z := by
    have := best_nonneg ok.s hz.1 hz.2
    unfold need
    split
    · exact this
    · exact Int.le_refl _
  have h3 : op T.d o + restF T (max w o) (zs ++ [z]) = op T.d o + restF T (max w o) zs + need T (max w o) z := by
    rw [rest_snoc]
    omega
  have h4 : dayF T w zs = op T.d o + restF T (max w o) zs := e
  have h5 : dayF T w (zs ++ [z]) ≤ op T.d o + restF T (max w o) (zs ++ [z]) := h1
  omega
/-- a ride more costs from nought on, and no more than a single -/
theorem least_more (ok : T.Ok) {days : List (List Nat)} {d : Nat} {zs : List Nat} {z : Nat} (e : days[d]? = some zs) (hz : 1 ≤ z ∧ z ≤ 5) : leastF T days ≤ leastF T (days.set d (zs ++ [z])) := by
  have hd := (List.getElem?_eq_some_iff.mp e).1
  have e2 : (days.set d (zs ++ [z]))[d]? = some (zs ++ [z]) := List.getElem?_set_self hd
  have h := least_set_le (T := T) (zs' := zs) e2 (x := 0) fun w _ => by
    have := dayF_more ok (w := w) (zs := zs) hz
    omega
  rw [List.set_set] at h
  have e3 : days.set d zs = days := by
    obtain ⟨h1, h2⟩ := List.getElem?_eq_some_iff.mp e
    rw [← h2]
    exact List.set_getElem_self h1
  rw [e3] at h
  omega
theorem least_single (ok : T.Ok) {days : List (List Nat)} {d : Nat} {zs : List Nat} {z : Nat} (e : days[d]? = some zs) (hz : 1 ≤ z ∧ z ≤ 5) : leastF T (days.set d (zs ++ [z])) ≤ leastF T days + best T.s z :=
  least_set_le e fun w _ => dayF_snoc ok hz
theorem need_zero {h z : Nat} (e : z ≤ h) : need T h z = 0 := if_pos e
theorem rest_zero {h : Nat} : ∀ {zs : List Nat}, (∀ z, z ∈ zs → z ≤ h) → restF T h zs = 0
  | [], _ => rfl
  | z :: zs, e => by
    unfold restF
    rw [List.map_cons, List.sum_cons, need_zero (e z List.mem_cons_self)]
    have := rest_zero (h := h) (zs := zs) fun y m => e y (List.mem_cons_of_mem _ m)
    unfold restF at this
    rw [this]
    rfl
/-- a day costs no more than a day ticket for its greatest zones -/
theorem dayF_cap (ok : T.Ok) {w m : Nat} {zs : List Nat} (hm : 1 ≤ m ∧ m ≤ 5) (hz : ∀ z, z ∈ zs → z ≤ m) : dayF T w zs ≤ best T.d m := by
  have h := m6_le (fun o => op T.d o + restF T (max w o) zs) hm.2
  have h2 : restF T (max w m) zs = 0 := rest_zero fun z mz => Nat.le_trans (hz z mz) (Nat.le_max_right _ _)
  have h3 : op T.d m = best T.d m := if_neg (by omega)
  have h4 : dayF T w zs ≤ op T.d m + restF T (max w m) zs := h
  omega
theorem least_day_cap (ok : T.Ok) {days : List (List Nat)} {d m : Nat} {zs zs0 : List Nat} (e : days[d]? = some zs0) (h0 : zs0 = []) (hm : 1 ≤ m ∧ m ≤ 5) (hz : ∀ z, z ∈ zs → z ≤ m) : leastF T (days.set d zs) ≤ leastF T days + best T.d m :=
  least_set_le e fun w _ => by
    subst h0
    rw [dayF_nil ok]
    have := dayF_cap ok (w := w) hm hz
    omega
theorem least_week_cap (ok : T.Ok) {days : List (List Nat)} {m : Nat} (hm : 1 ≤ m ∧ m ≤ 5) (hd : In5 days) (hz : ∀ zs, zs ∈ days → ∀ z, z ∈ zs → z ≤ m) : leastF T days ≤ best T.w m := by
  have h := m6_le (fun w => weekF T w days) hm.2
  have h0 : (days.map (dayF T m)).sum ≤ (days.map fun _ => (0 : Int)).sum := sum_le fun zs mz => by
    have h := m6_le (fun o => op T.d o + restF T (max m o) zs) (i := 0) (by omega)
    have h2 : restF T (max m 0) zs = 0 := rest_zero fun z mz' => Nat.le_trans (hz zs mz z mz') (Nat.le_max_left _ _)
    have h3 : op T.d 0 = 0 := rfl
    have h4 : dayF T m zs ≤ op T.d 0 + restF T (max m 0) zs := h
    omega
  have hzero := sum_zero days
  have h3 : op T.w m = best T.w m := if_neg (by omega)
  have h4 : leastF T days ≤ op T.w m + (days.map (dayF T m)).sum := h
  omega
/-! one ride -/
theorem dayF_one (ok : T.Ok) {w z : Nat} (hz : 1 ≤ z ∧ z ≤ 5) (hw : w ≤ 5) : dayF T w [z] = if z ≤ w then 0 else min (best T.s z) (best T.d z) := by
  have rest1 : ∀ h, restF T h [z] = need T h z := fun h => by
    unfold restF
    rw [List.map_singleton, List.sum_singleton]
  have bs := best_nonneg ok.s hz.1 hz.2
  have bd := best_nonneg ok.d hz.1 hz.2
  by_cases c : z ≤ w
  · rw [if_pos c]
    refine Int.le_antisymm ?_ (dayF_nonneg ok fun y m => by rw [List.mem_singleton.mp m]; exact hz)
    have h := m6_le (fun o => op T.d o + restF T (max w o) [z]) (i := 0) (by omega)
    have h2 : restF T (max w 0) [z] = 0 := rest_zero fun y m => by
      rw [List.mem_singleton.mp m]
      exact Nat.le_trans c (Nat.le_max_left _ _)
    have h3 : dayF T w [z] ≤ op T.d 0 + restF T (max w 0) [z] := h
    have h4 : op T.d 0 = 0 := rfl
    omega
  · rw [if_neg c]
    refine Int.le_antisymm ?_ (m6_ge _ fun o ho => ?_)
    · have h := m6_le (fun o => op T.d o + restF T (max w o) [z]) (i := 0) (by omega)
      have h2 := m6_le (fun o => op T.d o + restF T (max w o) [z]) hz.2
      have e1 : restF T (max w 0) [z] = best T.s z := by
        rw [rest1]
        exact if_neg (by omega)
      have e2 : restF T (max w z) [z] = 0 := by
        rw [rest1]
        exact if_pos (Nat.le_max_right _ _)
      have e3 : op T.d z = best T.d z := if_neg (by omega)
      have h3 : dayF T w [z] ≤ op T.d 0 + restF T (max w 0) [z] := h
      have h4 : dayF T w [z] ≤ op T.d z + restF T (max w z) [z] := h2
      have h5 : op T.d 0 = 0 := rfl
      omega
    · rw [rest1]
      by_cases c2 : z ≤ max w o
      · have e1 : need T (max w o) z = 0 := if_pos c2
        have co : z ≤ o := by omega
        have e2 : op T.d o = best T.d o := if_neg (by omega)
        have h1 : best T.d z ≤ best T.d o := by
          obtain ⟨j, a, b, e⟩ := best_at T.d (z := o) (by omega) ho
          rw [e]
          exact best_le T.d hz.1 (by omega) b
        omega
      · have e1 : need T (max w o) z = best T.s z := if_neg c2
        have := op_nonneg ok.d ho
        omega
/-- the charge of a card's one ride -/
theorem least_one (ok : T.Ok) {days : List (List Nat)} {d z : Nat} (hd : ∀ zs, zs ∈ days → zs = []) (h : d < days.length) (hz : 1 ≤ z ∧ z ≤ 5) : leastF T (days.set d [z]) = min (best T.s z) (min (best T.d z) (best T.w z)) := by
  have e : days[d]? = some [] := by
    rw [List.getElem?_eq_getElem h]
    exact congrArg some (hd _ (List.getElem_mem h))
  have h0 : ∀ w, (days.map (dayF T w)).sum = 0 := fun w => by
    have e : ∀ zs, zs ∈ days → dayF T w zs = (fun _ => (0 : Int)) zs := fun zs m => by rw [hd zs m, dayF_nil ok]
    rw [List.map_congr_left e]
    exact sum_zero days
  have wk : ∀ w, w ≤ 5 → weekF T w (days.set d [z]) = op T.w w + if z ≤ w then 0 else min (best T.s z) (best T.d z) := fun w hw => by
    unfold weekF
    rw [sum_set _ e, h0, dayF_nil ok, dayF_one ok hz hw]
    omega
  have bs := best_nonneg ok.s hz.1 hz.2
  have bd := best_nonneg ok.d hz.1 hz.2
  refine Int.le_antisymm ?_ (m6_ge _ fun w hw => ?_)
  · have a := m6_le (fun w => weekF T w (days.set d [z])) (i := 0) (by omega)
    have b := m6_le (fun w => weekF T w (days.set d [z])) hz.2
    have a2 : leastF T (days.set d [z]) ≤ weekF T 0 (days.set d [z]) := a
    have b2 : leastF T (days.set d [z]) ≤ weekF T z (days.set d [z]) := b
    rw [wk 0 (by omega), if_neg (by omega)] at a2
    rw [wk z hz.2, if_pos (Nat.le_refl _)] at b2
    have e0 : op T.w 0 = 0 := rfl
    have e1 : op T.w z = best T.w z := if_neg (by omega)
    omega
  · rw [wk w hw]
    by_cases c : z ≤ w
    · rw [if_pos c]
      have e1 : op T.w w = best T.w w := if_neg (by omega)
      have h1 : best T.w z ≤ best T.w w := by
        obtain ⟨j, a, b, e⟩ := best_at T.w (z := w) (by omega) hw
        rw [e]
        exact best_le T.w hz.1 (by omega) b
      omega
    · rw [if_neg c]
      have := op_nonneg ok.w hw
      omega
/-! tickets that serve cost no less -/
inductive Tk
  | week (z : Nat)
  | day (d z : Nat)
  | single (d i z : Nat)
def Tk.price (T : Tar) : Tk → Int
  | .week z => pr T.w z
  | .day _ z => pr T.d z
  | .single _ _ z => pr T.s z
def Tk.Ok : Tk → Prop
  | .week z => 1 ≤ z ∧ z ≤ 5
  | .day _ z => 1 ≤ z ∧ z ≤ 5
  | .single _ _ z => 1 ≤ z ∧ z ≤ 5
/-- the ticket serves the ride i of the day d, of z zones -/
def Tk.Serves : Tk → Nat → Nat → Nat → Prop
  | .week z', _, _, z => z ≤ z'
  | .day d' z', d, _, z => d = d' ∧ z ≤ z'
  | .single d' i' z', d, i, z => d = d' ∧ i = i' ∧ z ≤ z'
def cost (T : Tar) (ts : List Tk) : Int := (ts.map (Tk.price T)).sum
def AllServed (ts : List Tk) (days : List (List Nat)) : Prop := ∀ d i z zs, days[d]? = some zs → zs[i]? = some z → ∃ t, t ∈ ts ∧ t.Serves d i z
def wC (T : Tar) : Tk → Int
  | .week z => pr T.w z
  | _ => 0
def dC (T : Tar) (d : Nat) : Tk → Int
  | .day d' z => if d = d' then pr T.d z else 0
  | _ => 0
def sC (T : Tar) (d i : Nat) : Tk → Int
  | .single d' i' z => if d = d' then (if i = i' then pr T.s z else 0) else 0
  | _ => 0
theorem Tk.price_nonneg (ok : T.Ok) {t : Tk} (h : t.Ok) : 0 ≤ t.price T := by
  cases t with
  | week z => exact ok.w z h.1 h.2
  | day d z => exact ok.d z h.1 h.2
  | single d i z => exact ok.s z h.1 h.2
theorem wC_nonneg (ok : T.Ok) {t : Tk} (h : t.Ok) : 0 ≤ wC T t := by
  cases t with
  | week z => exact ok.w z h.1 h.2
  | day d z => exact Int.le_refl _
  | single d i z => exact Int.le_refl _
theorem dC_nonneg (ok : T.Ok) {d : Nat} {t : Tk} (h : t.Ok) : 0 ≤ dC T d t := by
  cases t with
  | week z => exact Int.le_refl _
  | day d' z =>
    show 0 ≤ if d = d' then pr T.d z else 0
    split
    · exact ok.d z h.1 h.2
    · exact Int.le_refl _
  | single d i z => exact Int.le_refl _
theorem sC_nonneg (ok : T.Ok) {d i : Nat} {t : Tk} (h : t.Ok) : 0 ≤ sC T d i t := by
  cases t with
  | week z => exact Int.le_refl _
  | day d' z => exact Int.le_refl _
  | single d' i' z =>
    show 0 ≤ if d = d' then (if i = i' then pr T.s z else 0) else 0
    split
    · split
      · exact ok.s z h.1 h.2
      · exact Int.le_refl _
    · exact Int.le_refl _
theorem parts_one (ok : T.Ok) (n : Nat) (len : Nat → Nat) {t : Tk} (h : t.Ok) : wC T t + sumR n (fun d => dC T d t + sumR (len d) (fun i => sC T d i t)) ≤ t.price T := by
  have pn := Tk.price_nonneg ok h
  have z0 : sumR n (fun d => (0 : Int) + sumR (len d) (fun _ => 0)) = 0 := by
    rw [sumR_congr n (g := fun _ => 0) fun d _ => by rw [sumR_zero]; rfl]
    exact sumR_zero n
  cases t with
  | week z =>
    show pr T.w z + sumR n (fun d => (0 : Int) + sumR (len d) (fun _ => 0)) ≤ pr T.w z
    rw [z0]
    omega
  | day d' z =>
    show 0 + sumR n (fun d => (if d = d' then pr T.d z else 0) + sumR (len d) (fun _ => 0)) ≤ pr T.d z
    rw [sumR_congr n (g := fun d => if d = d' then pr T.d z else 0) fun d _ => by rw [sumR_zero, Int.add_zero], sumR_ind]
    have : 0 ≤ pr T.d z := pn
    split <;> omega
  | single d' i' z =>
    have hp : 0 ≤ pr T.s z := pn
    show 0 + sumR n (fun d => 0 + sumR (len d) (fun i => if d = d' then (if i = i' then pr T.s z else 0) else 0)) ≤ pr T.s z
    have h1 := sumR_le n (f := fun d => 0 + sumR (len d) (fun i => if d = d' then (if i = i' then pr T.s z else 0) else 0)) (g := fun d => if d = d' then pr T.s z else 0) fun d _ => by
      show 0 + sumR (len d) (fun i => if d = d' then (if i = i' then pr T.s z else 0) else 0) ≤ _
      by_cases e : d = d'
      · have e2 : sumR (len d) (fun i => if d = d' then (if i = i' then pr T.s z else 0) else 0) = sumR (len d) (fun i => if i = i' then pr T.s z else 0) := sumR_congr _ fun i _ => if_pos e
        rw [e2, sumR_ind, if_pos e]
        split <;> omega
      · have e2 : sumR (len d) (fun i => if d = d' then (if i = i' then pr T.s z else 0) else 0) = sumR (len d) (fun _ => 0) := sumR_congr _ fun i _ => if_neg e
        rw [e2, sumR_zero, if_neg e]
        omega
    rw [sumR_ind] at h1
    split at h1 <;> omega
theorem parts_all (ok : T.Ok) (n : Nat) (len : Nat → Nat) : ∀ ts : List Tk, (∀ t, t ∈ ts → t.Ok) →
    (ts.map (wC T)).sum + sumR n (fun d => (ts.map (dC T d)).sum + sumR (len d) (fun i => (ts.map (sC T d i)).sum)) ≤ cost T ts
  | [], _ => by
    have z0 : sumR n (fun d => (0 : Int) + sumR (len d) (fun _ => 0)) = 0 := by
      rw [sumR_congr n (g := fun _ => 0) fun d _ => by rw [sumR_zero]; rfl]
      exact sumR_zero n
    show 0 + sumR n (fun d => (0 : Int) + sumR (len d) (fun _ => 0)) ≤ 0
    rw [z0]
    omega
  | t :: ts, h => by
    have ih := parts_all ok n len ts fun u m => h u (List.mem_cons_of_mem _ m)
    have h1 := parts_one ok n len (h t List.mem_cons_self)
    have e : sumR n (fun d => ((t :: ts).map (dC T d)).sum + sumR (len d) (fun i => ((t :: ts).map (sC T d i)).sum)) =
        sumR n (fun d => dC T d t + sumR (len d) (fun i => sC T d i t)) + sumR n (fun d => (ts.map (dC T d)).sum + sumR (len d) (fun i => (ts.map (sC T d i)).sum)) := by
      rw [← sumR_add]
      refine sumR_congr n fun d _ => ?_
      have e2 : sumR (len d) (fun i => ((t :: ts).map (sC T d i)).sum) = sumR (len d) (fun i => sC T d i t) + sumR (len d) (fun i => (ts.map (sC T d i)).sum) := by
        rw [← sumR_add]
        exact sumR_congr _ fun i _ => by rw [List.map_cons, List.sum_cons]
      rw [e2, List.map_cons, List.sum_cons]
      omega
    rw [e, List.map_cons, List.sum_cons]
    have e3 : cost T (t :: ts) = t.price T + cost T ts := by
      unfold cost
      rw [List.map_cons, List.sum_cons]
    rw [e3]
    omega
def maxW : List Tk → Nat
  | [] => 0
  | .week z :: r => max z (maxW r)
  | _ :: r => maxW r
def maxD (d : Nat) : List Tk → Nat
  | [] => 0
  | .day d' z :: r => if d = d' then max z (maxD d r) else maxD d r
  | _ :: r => maxD d r
theorem maxW_le : ∀ {ts : List Tk}, (∀ t, t ∈ ts → t.Ok) → maxW ts ≤ 5
  | [], _ => Nat.zero_le _
  | .week z :: r, h => Nat.max_le.mpr ⟨(h _ List.mem_cons_self).2, maxW_le fun t m => h t (List.mem_cons_of_mem _ m)⟩
  | .day _ _ :: r, h => maxW_le (ts := r) fun t m => h t (List.mem_cons_of_mem _ m)
  | .single _ _ _ :: r, h => maxW_le (ts := r) fun t m => h t (List.mem_cons_of_mem _ m)
theorem maxD_le (d : Nat) : ∀ {ts : List Tk}, (∀ t, t ∈ ts → t.Ok) → maxD d ts ≤ 5
  | [], _ => Nat.zero_le _
  | .week _ :: r, h => maxD_le d (ts := r) fun t m => h t (List.mem_cons_of_mem _ m)
  | .day d' z :: r, h => by
    have ih := maxD_le d (ts := r) fun t m => h t (List.mem_cons_of_mem _ m)
    show (if d = d' then max z (maxD d r) else maxD d r) ≤ 5
    split
    · exact Nat.max_le.mpr ⟨(h _ List.mem_cons_self).2, ih⟩
    · exact ih
  | .single _ _ _ :: r, h => maxD_le d (ts := r) fun t m => h t (List.mem_cons_of_mem _ m)
theorem in_maxW {z : Nat} : ∀ {ts : List Tk}, Tk.week z ∈ ts → z ≤ maxW ts
  | [], h => by simp at h
  | .week y :: r, h => by
    rcases List.mem_cons.mp h with e | h
    · cases e
      exact Nat.le_max_left _ _
    · exact Nat.le_trans (in_maxW h) (Nat.le_max_right _ _)
  | .day _ _ :: r, h => by
    rcases List.mem_cons.mp h with e | h
    · cases e
    · exact in_maxW (ts := r) h
  | .single _ _ _ :: r, h => by
    rcases List.mem_cons.mp h with e | h
    · cases e
    · exact in_maxW (ts := r) h
theorem in_maxD {d z : Nat} : ∀ {ts : List Tk}, Tk.day d z ∈ ts → z ≤ maxD d ts
  | [], h => by simp at h
  | .week _ :: r, h => by
    rcases List.mem_cons.mp h with e | h
    · cases e
    · exact in_maxD (ts := r) h
  | .day d' y :: r, h => by
    show z ≤ if d = d' then max y (maxD d r) else maxD d r
    rcases List.mem_cons.mp h with e | h
    · cases e
      rw [if_pos rfl]
      exact Nat.le_max_left _ _
    · have := in_maxD (ts := r) h
      split
      · exact Nat.le_trans this (Nat.le_max_right _ _)
      · exact this
  | .single _ _ _ :: r, h => by
    rcases List.mem_cons.mp h with e | h
    · cases e
    · exact in_maxD (ts := r) h
theorem op_max {row : Row} (hr : ∀ j, 1 ≤ j → j ≤ 5 → 0 ≤ pr row j) {z m : Nat} {x : Int} (hz : 1 ≤ z ∧ z ≤ 5) (hx : 0 ≤ x) (h : op row m ≤ x) : op row (max z m) ≤ pr row z + x := by
  have p0 := hr z hz.1 hz.2
  rcases Nat.le_total z m with c | c
  · rw [Nat.max_eq_right c]
    omega
  · rw [Nat.max_eq_left c]
    have e : op row z = best row z := if_neg (by omega)
    have := best_le row hz.1 (Nat.le_refl z) hz.2
    omega
theorem maxW_cost (ok : T.Ok) : ∀ {ts : List Tk}, (∀ t, t ∈ ts → t.Ok) → op T.w (maxW ts) ≤ (ts.map (wC T)).sum
  | [], _ => Int.le_refl _
  | .week z :: r, h => by
    have hr := fun t m => h t (List.mem_cons_of_mem _ m)
    rw [List.map_cons, List.sum_cons]
    exact op_max ok.w (h _ List.mem_cons_self) (sum_nonneg fun t m => wC_nonneg ok (hr t m)) (maxW_cost ok hr)
  | .day d z :: r, h => by
    rw [List.map_cons, List.sum_cons]
    have := maxW_cost ok (ts := r) fun t m => h t (List.mem_cons_of_mem _ m)
    show op T.w (maxW r) ≤ 0 + _
    omega
  | .single d i z :: r, h => by
    rw [List.map_cons, List.sum_cons]
    have := maxW_cost ok (ts := r) fun t m => h t (List.mem_cons_of_mem _ m)
    show op T.w (maxW r) ≤ 0 + _
    omega
theorem maxD_cost (ok : T.Ok) (d : Nat) : ∀ {ts : List Tk}, (∀ t, t ∈ ts → t.Ok) → op T.d (maxD d ts) ≤ (ts.map (dC T d)).sum
  | [], _ => Int.le_refl _
  | .week z :: r, h => by
    rw [List.map_cons, List.sum_cons]
    have := maxD_cost ok d (ts := r) fun t m => h t (List.mem_cons_of_mem _ m)
    show op T.d (maxD d r) ≤ 0 + _
    omega
  | .day d' z :: r, h => by
    have hr := fun t m => h t (List.mem_cons_of_mem _ m)
    have ih := maxD_cost ok d hr
    rw [List.map_cons, List.sum_cons]
    show op T.d (if d = d' then max z (maxD d r) else maxD d r) ≤ (if d = d' then pr T.d z else 0) + _
    split
    · exact op_max ok.d (h _ List.mem_cons_self) (sum_nonneg fun t m => dC_nonneg ok (hr t m)) ih
    · omega
  | .single d' i z :: r, h => by
    rw [List.map_cons, List.sum_cons]
    have := maxD_cost ok d (ts := r) fun t m => h t (List.mem_cons_of_mem _ m)
    show op T.d (maxD d r) ≤ 0 + _
    omega
theorem mem_sum_le {α : Type} {f : α → Int} {a : α} : ∀ {l : List α}, (∀ b, b ∈ l → 0 ≤ f b) → a ∈ l → f a ≤ (l.map f).sum
  | [], _, m => by simp at m
  | b :: l, h, m => by
    rw [List.map_cons, List.sum_cons]
    rcases List.mem_cons.mp m with e | m
    · rw [← e]
      have := sum_nonneg (f := f) (l := l) fun c mc => h c (List.mem_cons_of_mem _ mc)
      omega
    · have := mem_sum_le (l := l) (fun c mc => h c (List.mem_cons_of_mem _ mc)) m
      have := h b List.mem_cons_self
      omega
/-- any tickets that serve all rides cost no less than the least -/
theorem leastF_le (ok : T.Ok) {days : List (List Nat)} (h5 : In5 days) {ts : List Tk} (hok : ∀ t, t ∈ ts → t.Ok) (hs : AllServed ts days) : leastF T days ≤ cost T ts := by
  have h0 := parts_all ok days.length (fun d => (days.getD d []).length) ts hok
  have hw := maxW_cost ok hok
  have h1 := m6_le (fun w => weekF T w days) (maxW_le hok)
  have h2 : leastF T days ≤ op T.w (maxW ts) + (days.map (dayF T (maxW ts))).sum := h1
  rw [sum_sumR (dayF T (maxW ts)) [] days] at h2
  have h3 := sumR_le days.length (f := fun d => dayF T (maxW ts) (days.getD d [])) (g := fun d => (ts.map (dC T d)).sum + sumR ((days.getD d []).length) (fun i => (ts.map (sC T d i)).sum)) fun d hd => by
    have ed : days[d]? = some (days.getD d []) := by
      rw [List.getD_eq_getElem?_getD, List.getElem?_eq_getElem hd]
      rfl
    have a := m6_le (fun o => op T.d o + restF T (max (maxW ts) o) (days.getD d [])) (maxD_le d hok)
    have a2 : dayF T (maxW ts) (days.getD d []) ≤ op T.d (maxD d ts) + restF T (max (maxW ts) (maxD d ts)) (days.getD d []) := a
    have b := maxD_cost ok d hok
    unfold restF at a2
    rw [sum_sumR (need T (max (maxW ts) (maxD d ts))) 0] at a2
    have c := sumR_le (days.getD d []).length (f := fun i => need T (max (maxW ts) (maxD d ts)) ((days.getD d []).getD i 0)) (g := fun i => (ts.map (sC T d i)).sum) fun i hi => by
      have ei : (days.getD d [])[i]? = some ((days.getD d []).getD i 0) := by
        rw [List.getD_eq_getElem?_getD (l := days.getD d []), List.getElem?_eq_getElem hi]
        rfl
      have sn : 0 ≤ (ts.map (sC T d i)).sum := sum_nonneg fun t m => sC_nonneg ok (hok t m)
      show need T _ _ ≤ _
      unfold need
      split
      · exact sn
      · rename_i nz
        obtain ⟨t, mt, st⟩ := hs d i _ _ ed ei
        cases t with
        | week z' =>
          have : (days.getD d []).getD i 0 ≤ z' := st
          have := in_maxW mt
          exact absurd (Nat.le_trans (by omega : (days.getD d []).getD i 0 ≤ maxW ts) (Nat.le_max_left _ _)) nz
        | day d' z' =>
          obtain ⟨rfl, st⟩ := st
          have := in_maxD mt
          exact absurd (Nat.le_trans (by omega : (days.getD d []).getD i 0 ≤ maxD d ts) (Nat.le_max_right _ _)) nz
        | single d' i' z' =>
          obtain ⟨rfl, rfl, st⟩ := st
          have := mem_sum_le (f := sC T d i) (fun t m => sC_nonneg ok (hok t m)) mt
          have e : sC T d i (.single d i z') = pr T.s z' := by
            show (if d = d then (if i = i then pr T.s z' else 0) else 0) = _
            rw [if_pos rfl, if_pos rfl]
          rw [e] at this
          have hz1 := h5 _ (List.mem_of_getElem? ed) _ (List.mem_of_getElem? ei)
          exact Int.le_trans (best_le T.s hz1.1 st (hok _ mt).2) this
    show dayF T (maxW ts) (days.getD d []) ≤ _
    omega
  omega
end
end FT

end
section
set_option autoImplicit false
set_option linter.all false
namespace FT
/-! Counts of rides by their zones; the cheapest plan: plain mathematics. -/
def cnt (zs : List Nat) : List Nat := (List.range 6).map fun z => zs.count z
theorem cnt_len (zs : List Nat) : (cnt zs).length = 6 := by unfold cnt; rw [List.length_map, List.length_range]
theorem cnt_get {zs : List Nat} {z : Nat} (h : z < 6) : (cnt zs)[z]? = some (zs.count z) := by
  unfold cnt
  rw [List.getElem?_map, List.getElem?_range h]
  rfl
theorem cnt_nil : cnt [] = List.replicate 6 0 := rfl
theorem cnt_snoc {zs : List Nat} {z : Nat} : cnt (zs ++ [z]) = (cnt zs).set z (zs.count z + 1) := by
  apply List.ext_getElem?
  intro i
  rw [List.getElem?_set, cnt_len]
  by_cases hi : i < 6
  · rw [cnt_get hi, List.count_append]
    by_cases e : z = i
    · subst e
      rw [if_pos rfl, if_pos hi, List.count_singleton_self]
    · rw [if_neg e, cnt_get hi, List.count_singleton, if_neg (by simpa using e)]
      rfl
  · rw [List.getElem?_eq_none (by rw [cnt_len]; omega)]
    by_cases e : z = i
    · rw [if_pos e, if_neg (by omega)]
    · rw [if_neg e, List.getElem?_eq_none (by rw [cnt_len]; omega)]
theorem count_le_length (z : Nat) (zs : List Nat) : zs.count z ≤ zs.length := List.count_le_length
section
variable {T : Tar}
theorem need_step {z x : Nat} (hz : 1 ≤ z) (hx : 1 ≤ x) : need T (z - 1) x = need T z x + if x = z then best T.s z else 0 := by
  unfold need
  by_cases e : x = z
  · subst e
    rw [if_neg (by omega), if_pos (Nat.le_refl _), if_pos rfl]
    omega
  · rw [if_neg e]
    by_cases c : x ≤ z
    · rw [if_pos c, if_pos (by omega)]
      omega
    · rw [if_neg c, if_neg (by omega)]
      omega
theorem rest_step {z : Nat} (hz : 1 ≤ z) : ∀ {zs : List Nat}, (∀ x, x ∈ zs → 1 ≤ x ∧ x ≤ 5) → restF T (z - 1) zs = restF T z zs + (zs.count z : Nat) * best T.s z
  | [], _ => by
    show (0 : Int) = 0 + ((0 : Nat) : Int) * _
    simp
  | x :: zs, h => by
    have ih := rest_step hz (zs := zs) fun y m => h y (List.mem_cons_of_mem _ m)
    have e1 : restF T (z - 1) (x :: zs) = need T (z - 1) x + restF T (z - 1) zs := by
      unfold restF
      rw [List.map_cons, List.sum_cons]
    have e2 : restF T z (x :: zs) = need T z x + restF T z zs := by
      unfold restF
      rw [List.map_cons, List.sum_cons]
    rw [e1, e2, ih, need_step hz (h x List.mem_cons_self).1, List.count_cons]
    by_cases e : x = z
    · subst e
      rw [if_pos rfl, if_pos (by simp)]
      rw [Int.natCast_add, Int.add_mul]
      show need T x x + best T.s x + (restF T x zs + _) = need T x x + restF T x zs + (_ + 1 * best T.s x)
      rw [Int.one_mul]
      omega
    · rw [if_neg e, if_neg (by simpa using e)]
      show _ = need T z x + restF T z zs + ((zs.count z + 0 : Nat) : Int) * _
      rw [Nat.add_zero]
      omega
theorem rest_five {zs : List Nat} (h : ∀ x, x ∈ zs → 1 ≤ x ∧ x ≤ 5) : restF T 5 zs = 0 := rest_zero fun x m => (h x m).2
/-- what is least over 0 to 5 is m6 -/
theorem m6_pick {f : Nat → Int} {o : Nat} (ho : o ≤ 5) (h : ∀ i, i ≤ 5 → f o ≤ f i) : f o = m6 f := Int.le_antisymm (m6_ge f h) (m6_le f ho)
/-- the tickets of a plan: zones w of the week's, ds of the days' -/
structure Good (T : Tar) (days : List (List Nat)) (w : Nat) (ds : List Nat) : Prop where
  w5 : w ≤ 5
  len : ds.length = days.length
  at_ : ∀ (i : Nat) (d : Nat) (zs : List Nat), ds[i]? = some d → days[i]? = some zs → d ≤ 5 ∧ op T.d d + restF T (max w d) zs = dayF T w zs ∧ (op T.d 0 + restF T (max w 0) zs = dayF T w zs → d = 0)
  w0 : weekF T 0 days = leastF T days → w = 0
  least : op T.w w + (days.map (dayF T w)).sum = leastF T days
theorem cost_append (ts us : List Tk) : cost T (ts ++ us) = cost T ts + cost T us := by
  unfold cost
  rw [List.map_append, List.sum_append]
theorem cost_one (t : Tk) : cost T [t] = t.price T := by
  unfold cost
  rw [List.map_singleton, List.sum_singleton]
theorem get_snoc {α : Type} {l : List α} {a x : α} {i : Nat} (h : (l ++ [a])[i]? = some x) : l[i]? = some x ∨ (i = l.length ∧ x = a) := by
  rw [List.getElem?_append] at h
  split at h
  · exact .inl h
  · rename_i hi
    have := (List.getElem?_eq_some_iff.mp h).1
    simp at this
    have e : i = l.length := by omega
    subst e
    rw [Nat.sub_self] at h
    cases h
    exact .inr ⟨rfl, rfl⟩
/-- singles for the rides of one day of more than h zones -/
structure SinOk (T : Tar) (d h : Nat) (zs : List Nat) (ts : List Tk) : Prop where
  mem : ∀ t, t ∈ ts → ∃ i k, i < zs.length ∧ t = .single d i k ∧ 1 ≤ k ∧ k ≤ 5
  srv : ∀ i z, zs[i]? = some z → ¬ z ≤ h → ∃ k, Tk.single d i k ∈ ts ∧ z ≤ k
  cost : cost T ts = restF T h zs
  len : ts.length ≤ zs.length
theorem SinOk.nil {d h : Nat} : SinOk T d h [] [] := ⟨fun t m => by simp at m, fun i z e => by simp at e, rfl, Nat.le_refl _⟩
theorem SinOk.skip {d h : Nat} {zs : List Nat} {ts : List Tk} (o : SinOk T d h zs ts) {z : Nat} (c : z ≤ h) : SinOk T d h (zs ++ [z]) ts := by
  refine ⟨fun t m => ?_, fun i x e n => ?_, ?_, ?_⟩
  · obtain ⟨i, k, a, b, c⟩ := o.mem t m
    exact ⟨i, k, by rw [List.length_append]; omega, b, c⟩
  · rcases get_snoc e with e | ⟨_, rfl⟩
    · exact o.srv i x e n
    · exact absurd c n
  · rw [rest_snoc, need_zero c, o.cost]
    omega
  · have := o.len
    rw [List.length_append]
    omega
theorem SinOk.take {d h : Nat} {zs : List Nat} {ts : List Tk} (o : SinOk T d h zs ts) {z k : Nat} (c : ¬ z ≤ h) (hz : 1 ≤ z) (zk : z ≤ k) (k5 : k ≤ 5) (e : pr T.s k = best T.s z) : SinOk T d h (zs ++ [z]) (ts ++ [.single d zs.length k]) := by
  refine ⟨fun t m => ?_, fun i x e' n => ?_, ?_, ?_⟩
  · rcases List.mem_append.mp m with m | m
    · obtain ⟨i, k, a, b, c⟩ := o.mem t m
      exact ⟨i, k, by rw [List.length_append]; omega, b, c⟩
    · exact ⟨zs.length, k, by rw [List.length_append]; simp, List.mem_singleton.mp m, by omega, k5⟩
  · rcases get_snoc e' with e' | ⟨rfl, rfl⟩
    · obtain ⟨k', a, b⟩ := o.srv i x e' n
      exact ⟨k', List.mem_append_left _ a, b⟩
    · exact ⟨k, List.mem_append_right _ (List.mem_singleton.mpr rfl), zk⟩
  · rw [rest_snoc, cost_append, cost_one, o.cost]
    have : need T h z = best T.s z := if_neg c
    rw [this]
    show _ + pr T.s k = _
    rw [e]
  · have := o.len
    rw [List.length_append, List.length_append]
    simp
    omega
def TkIn (days : List (List Nat)) : Tk → Prop
  | .week _ => True
  | .day d _ => d < days.length
  | .single d i _ => ∃ zs, days[d]? = some zs ∧ i < zs.length
/-- the tickets of the first n days -/
structure PlOk (T : Tar) (days : List (List Nat)) (w n : Nat) (ts : List Tk) : Prop where
  mem : ∀ t, t ∈ ts → t.Ok ∧ TkIn days t
  wk : 0 < w → ∃ k, Tk.week k ∈ ts ∧ w ≤ k
  srv : ∀ d i z zs, d < n → days[d]? = some zs → zs[i]? = some z → ∃ t, t ∈ ts ∧ t.Serves d i z
  cost : cost T ts = op T.w w + ((days.take n).map (dayF T w)).sum
  len : ts.length ≤ 1 + ((days.take n).map fun zs => zs.length + 1).sum
theorem PlOk.none {days : List (List Nat)} : PlOk T days 0 0 [] := ⟨fun t m => by simp at m, fun h => absurd h (Nat.lt_irrefl 0), fun d i z zs h => absurd h (Nat.not_lt_zero d), rfl, Nat.zero_le _⟩
theorem PlOk.week {days : List (List Nat)} {w k : Nat} (hw : 0 < w) (wk : w ≤ k) (k5 : k ≤ 5) (e : pr T.w k = best T.w w) : PlOk T days w 0 [.week k] := by
  refine ⟨fun t m => ?_, fun _ => ⟨k, List.mem_singleton.mpr rfl, wk⟩, fun d i z zs h => absurd h (Nat.not_lt_zero d), ?_, Nat.le_refl _⟩
  · rw [List.mem_singleton.mp m]
    exact ⟨⟨by omega, k5⟩, trivial⟩
  · rw [cost_one]
    have : op T.w w = best T.w w := if_neg (by omega)
    rw [this]
    show pr T.w k = best T.w w + 0
    omega
/-- a day more: its ticket, or none, and its singles -/
theorem PlOk.more {days : List (List Nat)} {w n d : Nat} {zs : List Nat} {ts ds us : List Tk} (o : PlOk T days w n ts) (e : days[n]? = some zs) (h1 : ∀ z, z ∈ zs → 1 ≤ z ∧ z ≤ 5) (ed : op T.d d + restF T (max w d) zs = dayF T w zs)
    (hd : (d = 0 ∧ ds = []) ∨ ∃ k, 0 < d ∧ d ≤ k ∧ k ≤ 5 ∧ pr T.d k = best T.d d ∧ ds = [.day n k]) (s : SinOk T n (max w d) zs us) : PlOk T days w (n + 1) (ts ++ ds ++ us) := by
  have hn : n < days.length := (List.getElem?_eq_some_iff.mp e).1
  have et : days.take (n + 1) = days.take n ++ [zs] := by
    rw [List.take_add_one, e]
    rfl
  have cd : FT.cost T ds = op T.d d := by
    rcases hd with ⟨rfl, rfl⟩ | ⟨k, a, b, c, e, rfl⟩
    · rfl
    · rw [cost_one]
      have : op T.d d = best T.d d := if_neg (by omega)
      rw [this, ← e]
      rfl
  have ld : ds.length ≤ 1 := by
    rcases hd with ⟨_, rfl⟩ | ⟨k, _, _, _, _, rfl⟩
    · exact Nat.zero_le _
    · exact Nat.le_refl _
  refine ⟨fun t m => ?_, fun hw => ?_, fun d' i z zs' hl e1 e2 => ?_, ?_, ?_⟩
  · rcases List.mem_append.mp m with m | m
    · rcases List.mem_append.mp m with m | m
      · exact o.mem t m
      · rcases hd with ⟨_, rfl⟩ | ⟨k, a, b, c, e, rfl⟩
        · simp at m
        · rw [List.mem_singleton.mp m]
          exact ⟨⟨by omega, c⟩, hn⟩
    · obtain ⟨i, k, a, rfl, b⟩ := s.mem t m
      exact ⟨b, zs, e, a⟩
  · obtain ⟨k, a, b⟩ := o.wk hw
    exact ⟨k, List.mem_append_left _ (List.mem_append_left _ a), b⟩
  · rcases Nat.lt_succ_iff_lt_or_eq.mp hl with hl | hl
    · obtain ⟨t, a, b⟩ := o.srv d' i z zs' hl e1 e2
      exact ⟨t, List.mem_append_left _ (List.mem_append_left _ a), b⟩
    · subst hl
      rw [e] at e1
      cases e1
      have hz := h1 z (List.mem_of_getElem? e2)
      by_cases c : z ≤ max w d
      · by_cases cw : z ≤ w
        · obtain ⟨k, a, b⟩ := o.wk (by omega)
          exact ⟨_, List.mem_append_left _ (List.mem_append_left _ a), show z ≤ k by omega⟩
        · have zd : z ≤ d := by omega
          rcases hd with ⟨rfl, _⟩ | ⟨k, a, b, _, _, rfl⟩
          · omega
          · exact ⟨_, List.mem_append_left _ (List.mem_append_right _ (List.mem_singleton.mpr rfl)), rfl, show z ≤ k by omega⟩
      · obtain ⟨k, a, b⟩ := s.srv i z e2 c
        exact ⟨_, List.mem_append_right _ a, rfl, rfl, b⟩
  · rw [cost_append, cost_append, o.cost, cd, s.cost, et, List.map_append, List.sum_append, List.map_singleton, List.sum_singleton, ← ed]
    omega
  · have a := o.len
    have b := s.len
    rw [et, List.map_append, List.sum_append, List.map_singleton, List.sum_singleton, List.length_append, List.length_append]
    omega
theorem PlOk.all {days : List (List Nat)} {w : Nat} {ts : List Tk} (o : PlOk T days w days.length ts) : AllServed ts days := fun d i z zs e1 e2 => o.srv d i z zs (List.getElem?_eq_some_iff.mp e1).1 e1 e2
end
end FT

end
section
set_option autoImplicit false
set_option linter.all false
namespace FT
/-! The rides of a card, and what it is charged: plain mathematics. -/
structure Ride where
  day : Int
  start : Int
  goal : Int
  z : Nat
  c : Int
def lastDay (rs : List Ride) : Int := match rs.getLast? with
  | none => 0
  | some r => r.day
theorem lastDay_snoc (rs : List Ride) (r : Ride) : lastDay (rs ++ [r]) = r.day := by
  unfold lastDay
  rw [List.getLast?_append, List.getLast?_singleton]
  rfl
def sel (p : Ride → Bool) (rs : List Ride) : Int := ((rs.filter p).map Ride.c).sum
def inD (d : Int) (r : Ride) : Bool := decide (r.day = d)
def inW (w : Int) (r : Ride) : Bool := decide (r.day / 7 = w)
def inWD (w : Int) (j : Nat) (r : Ride) : Bool := decide (r.day / 7 = w ∧ r.day % 7 = (j : Int))
def dsum (d : Int) (rs : List Ride) : Int := sel (inD d) rs
def wsum (w : Int) (rs : List Ride) : Int := sel (inW w) rs
def tsum (rs : List Ride) : Int := (rs.map Ride.c).sum
def dz (w : Int) (j : Nat) (rs : List Ride) : List Nat := (rs.filter (inWD w j)).map Ride.z
def wdays (w : Int) (rs : List Ride) : List (List Nat) := (List.range 7).map fun j => dz w j rs
theorem sel_snoc (p : Ride → Bool) (rs : List Ride) (r : Ride) : sel p (rs ++ [r]) = sel p rs + if p r = true then r.c else 0 := by
  unfold sel
  rw [List.filter_append, List.map_append, List.sum_append]
  congr 1
  by_cases h : p r = true
  · rw [if_pos h, List.filter_cons_of_pos h]
    simp
  · rw [if_neg h, List.filter_cons_of_neg h]
    simp
theorem dsum_snoc (d : Int) (rs : List Ride) (r : Ride) : dsum d (rs ++ [r]) = dsum d rs + if r.day = d then r.c else 0 := by
  unfold dsum
  rw [sel_snoc]
  by_cases h : r.day = d
  · rw [if_pos h, if_pos (show inD d r = true from decide_eq_true h)]
  · rw [if_neg h, if_neg (by unfold inD; simpa using h)]
theorem wsum_snoc (w : Int) (rs : List Ride) (r : Ride) : wsum w (rs ++ [r]) = wsum w rs + if r.day / 7 = w then r.c else 0 := by
  unfold wsum
  rw [sel_snoc]
  by_cases h : r.day / 7 = w
  · rw [if_pos h, if_pos (show inW w r = true from decide_eq_true h)]
  · rw [if_neg h, if_neg (by unfold inW; simpa using h)]
theorem tsum_snoc (rs : List Ride) (r : Ride) : tsum (rs ++ [r]) = tsum rs + r.c := by
  unfold tsum
  rw [List.map_append, List.sum_append, List.map_singleton, List.sum_singleton]
theorem wdays_len (w : Int) (rs : List Ride) : (wdays w rs).length = 7 := by unfold wdays; rw [List.length_map, List.length_range]
theorem wdays_get {w : Int} {rs : List Ride} {j : Nat} (h : j < 7) : (wdays w rs)[j]? = some (dz w j rs) := by
  unfold wdays
  rw [List.getElem?_map, List.getElem?_range h]
  rfl
theorem dz_snoc (w : Int) (j : Nat) (rs : List Ride) (r : Ride) : dz w j (rs ++ [r]) = dz w j rs ++ if inWD w j r = true then [r.z] else [] := by
  unfold dz
  rw [List.filter_append, List.map_append]
  congr 1
  by_cases h : inWD w j r = true
  · rw [if_pos h, List.filter_cons_of_pos h]
    rfl
  · rw [if_neg h, List.filter_cons_of_neg h]
    rfl
/-- the place of a day in its week -/
def dw (d : Int) : Nat := (d % 7).toNat
theorem dw_lt (d : Int) : dw d < 7 := by unfold dw; omega
theorem dw_eq (d : Int) : ((dw d : Nat) : Int) = d % 7 := by unfold dw; omega
theorem wdays_snoc (w : Int) (rs : List Ride) (r : Ride) : wdays w (rs ++ [r]) = if r.day / 7 = w then (wdays w rs).set (dw r.day) (dz w (dw r.day) rs ++ [r.z]) else wdays w rs := by
  apply List.ext_getElem?
  intro j
  by_cases hj : j < 7
  · rw [wdays_get hj, dz_snoc]
    by_cases h : r.day / 7 = w
    · rw [if_pos h, List.getElem?_set, wdays_len]
      by_cases c : dw r.day = j
      · subst c
        rw [if_pos rfl, if_pos hj, if_pos]
        unfold inWD
        exact decide_eq_true ⟨h, (dw_eq _).symm⟩
      · rw [if_neg c, wdays_get hj, if_neg, List.append_nil]
        unfold inWD
        intro z
        have := of_decide_eq_true z
        have e := dw_eq r.day
        omega
    · rw [if_neg h, wdays_get hj, if_neg, List.append_nil]
      unfold inWD
      intro z
      exact h (of_decide_eq_true z).1
  · rw [List.getElem?_eq_none (by rw [wdays_len]; omega), List.getElem?_eq_none]
    split
    · rw [List.length_set, wdays_len]
      omega
    · rw [wdays_len]
      omega
theorem wdays_nil (w : Int) : wdays w [] = List.replicate 7 [] := rfl
theorem wdays_new {w : Int} {rs : List Ride} (h : ∀ r, r ∈ rs → r.day / 7 ≠ w) : wdays w rs = List.replicate 7 [] := by
  have e : ∀ j, dz w j rs = [] := fun j => by
    unfold dz
    rw [List.map_eq_nil_iff, List.filter_eq_nil_iff]
    intro r m z
    unfold inWD at z
    exact h r m (of_decide_eq_true z).1
  unfold wdays
  rw [List.map_congr_left fun j _ => e j]
  rfl
theorem wsum_new {w : Int} {rs : List Ride} (h : ∀ r, r ∈ rs → r.day / 7 ≠ w) : wsum w rs = 0 := by
  unfold wsum sel
  have : rs.filter (inW w) = [] := by
    rw [List.filter_eq_nil_iff]
    intro r m z
    unfold inW at z
    exact h r m (of_decide_eq_true z)
  rw [this]
  rfl
theorem dz_len (w : Int) (j : Nat) (rs : List Ride) : (dz w j rs).length ≤ rs.length := by
  unfold dz
  rw [List.length_map]
  exact List.length_filter_le _ _
/-- the week's rides with one more of z zones on the day d -/
def wadd (d : Int) (z : Nat) (rs : List Ride) : List (List Nat) := (wdays (d / 7) rs).set (dw d) (dz (d / 7) (dw d) rs ++ [z])
/-- what one more ride is charged -/
def charge (T : Tar) (rs : List Ride) (d : Int) (z : Nat) : Int := leastF T (wadd d z rs) - wsum (d / 7) rs
structure Book (T : Tar) (rs : List Ride) : Prop where
  z : ∀ r, r ∈ rs → 1 ≤ r.z ∧ r.z ≤ 5
  day : ∀ r, r ∈ rs → 0 ≤ r.day ∧ r.day ≤ lastDay rs
  week : ∀ w, wsum w rs = leastF T (wdays w rs)
theorem Book.nil {T : Tar} (ok : T.Ok) : Book T [] := ⟨fun r m => by simp at m, fun r m => by simp at m, fun w => by
  rw [wdays_nil, leastF_empty ok fun zs m => List.eq_of_mem_replicate m]
  rfl⟩
theorem Book.last {T : Tar} {rs : List Ride} (b : Book T rs) : 0 ≤ lastDay rs := by
  unfold lastDay
  cases e : rs.getLast? with
  | none => exact Int.le_refl _
  | some r => exact (b.day r (List.mem_of_getLast? e)).1
theorem Book.in5 {T : Tar} {rs : List Ride} (b : Book T rs) (w : Int) : In5 (wdays w rs) := fun zs m z mz => by
  obtain ⟨j, hj, rfl⟩ := List.mem_map.mp m
  obtain ⟨r, mr, rfl⟩ := List.mem_map.mp mz
  exact b.z r (List.mem_filter.mp mr).1
theorem wdays_add (rs : List Ride) (d s g c : Int) (z : Nat) : wdays (d / 7) (rs ++ [⟨d, s, g, z, c⟩]) = wadd d z rs := by
  rw [wdays_snoc, if_pos rfl]
  rfl
theorem Book.snoc {T : Tar} {rs : List Ride} (b : Book T rs) {d : Int} (s g : Int) {z : Nat} (hd : lastDay rs ≤ d) (hz : 1 ≤ z ∧ z ≤ 5) : Book T (rs ++ [⟨d, s, g, z, charge T rs d z⟩]) := by
  have h0 := b.last
  refine ⟨fun r m => ?_, fun r m => ?_, fun w => ?_⟩
  · rcases List.mem_append.mp m with m | m
    · exact b.z r m
    · rw [List.mem_singleton.mp m]
      exact hz
  · rw [lastDay_snoc]
    rcases List.mem_append.mp m with m | m
    · have := b.day r m
      exact ⟨this.1, Int.le_trans this.2 hd⟩
    · rw [List.mem_singleton.mp m]
      exact ⟨Int.le_trans h0 hd, Int.le_refl _⟩
  · rw [wsum_snoc]
    by_cases h : d / 7 = w
    · subst h
      rw [if_pos rfl, wdays_add]
      show wsum (d / 7) rs + (leastF T (wadd d z rs) - wsum (d / 7) rs) = _
      omega
    · rw [if_neg h, wdays_snoc, if_neg h, b.week w]
      omega
theorem wadd_get (d : Int) (rs : List Ride) : (wdays (d / 7) rs)[dw d]? = some (dz (d / 7) (dw d) rs) := wdays_get (dw_lt d)
theorem charge_nonneg {T : Tar} (ok : T.Ok) {rs : List Ride} (b : Book T rs) {d : Int} {z : Nat} (hz : 1 ≤ z ∧ z ≤ 5) : 0 ≤ charge T rs d z := by
  have := least_more ok (wadd_get d rs) hz
  unfold charge wadd
  rw [b.week]
  omega
theorem charge_le {T : Tar} (ok : T.Ok) {rs : List Ride} (b : Book T rs) {d : Int} {z : Nat} (hz : 1 ≤ z ∧ z ≤ 5) : charge T rs d z ≤ best T.s z := by
  have := least_single ok (wadd_get d rs) hz
  unfold charge wadd
  rw [b.week]
  omega
theorem charge_first {T : Tar} (ok : T.Ok) {d : Int} {z : Nat} (hz : 1 ≤ z ∧ z ≤ 5) : charge T [] d z = min (best T.s z) (min (best T.d z) (best T.w z)) := by
  have e : wadd d z [] = (List.replicate 7 []).set (dw d) [z] := rfl
  unfold charge
  rw [e, least_one ok (fun zs m => List.eq_of_mem_replicate m) (by rw [List.length_replicate]; exact dw_lt d) hz]
  show _ - 0 = _
  omega
end FT

end
section
set_option autoImplicit false
set_option linter.all false
namespace FW
/-! Stops in a row, neighbours in unlike zones; perhaps more stops that no link joins. -/
def dist (s g : Nat) : Nat := if s ≤ g then g - s else s - g
theorem dist_comm (s g : Nat) : dist s g = dist g s := by
  unfold dist
  split <;> split <;> omega
structure RowNet (n : Nat) (near : List (List Nat)) (zs : List Int) : Prop where
  le : n ≤ zs.length
  adj : ∀ u v, Adj near u v ↔ (u < n ∧ v < n ∧ (v = u + 1 ∨ u = v + 1))
  un : ∀ u, u + 1 < n → zs[u]? ≠ zs[u + 1]?
theorem RowNet.wt {n : Nat} {near : List (List Nat)} {zs : List Int} (h : RowNet n near zs) {u v : Nat} (a : Adj near u v) : wt zs u v = 1 := by
  obtain ⟨hu, hv, e | e⟩ := (h.adj u v).mp a
  · subst e
    exact if_neg (h.un u hv)
  · subst e
    exact if_neg fun z => h.un v hu z.symm
def rowLv (n N s : Nat) : Lv := (List.range N).map fun g => if g < n then some (1 + dist s g) else none
theorem lk_rowLv {n N s g : Nat} (hg : g < N) : lk (rowLv n N s) g = if g < n then some (1 + dist s g) else none := by
  unfold lk rowLv
  rw [List.getD_eq_getElem?_getD, List.getElem?_map, List.getElem?_range hg]
  rfl
theorem lk_rowLv_some {n N s g k : Nat} (h : lk (rowLv n N s) g = some k) : g < N ∧ g < n ∧ k = 1 + dist s g := by
  have hl := lk_lt h
  have hN : g < N := by
    unfold rowLv at hl
    rw [List.length_map, List.length_range] at hl
    exact hl
  rw [lk_rowLv hN] at h
  by_cases c : g < n
  · rw [if_pos c] at h
    cases h
    exact ⟨hN, c, rfl⟩
  · rw [if_neg c] at h
    cases h
theorem row_way {n : Nat} {near : List (List Nat)} {zs : List Int} (h : RowNet n near zs) {s : Nat} (hs : s < n) : ∀ d g, g < n → dist s g = d → Way near zs s g (1 + d)
  | 0, g, _, e => by
    have : g = s := by
      unfold dist at e
      split at e <;> omega
    rw [this]
    exact .nil
  | d + 1, g, hg, e => by
    by_cases c : s ≤ g
    · have e' : g - s = d + 1 := by
        unfold dist at e
        rw [if_pos c] at e
        exact e
      obtain ⟨p, rfl⟩ : ∃ p, g = p + 1 := ⟨g - 1, by omega⟩
      have w := row_way h hs d p (by omega) (by
        unfold dist
        rw [if_pos (by omega)]
        omega)
      have a : Adj near p (p + 1) := (h.adj _ _).mpr ⟨by omega, hg, .inl rfl⟩
      have := w.step a
      rw [h.wt a] at this
      rw [← Nat.add_assoc]
      exact this
    · have e' : s - g = d + 1 := by
        unfold dist at e
        rw [if_neg c] at e
        exact e
      have w := row_way h hs d (g + 1) (by omega) (by
        unfold dist
        split <;> omega)
      have a : Adj near (g + 1) g := (h.adj _ _).mpr ⟨by omega, hg, .inr rfl⟩
      have := w.step a
      rw [h.wt a] at this
      rw [← Nat.add_assoc]
      exact this
theorem row_levels {n : Nat} {near : List (List Nat)} {zs : List Int} (h : RowNet n near zs) {s : Nat} (hs : s < n) : IsLevels near zs s (rowLv n zs.length s) := by
  have hl := h.le
  refine ⟨by unfold rowLv; rw [List.length_map, List.length_range], ?_, fun u v k e a => ?_, fun v k e => ?_⟩
  · rw [lk_rowLv (by omega), if_pos hs]
    unfold dist
    rw [if_pos (Nat.le_refl s), Nat.sub_self]
  · obtain ⟨hu, hv, c⟩ := (h.adj u v).mp a
    obtain ⟨_, _, ek⟩ := lk_rowLv_some e
    refine ⟨1 + dist s v, by rw [lk_rowLv (by omega), if_pos hv], ?_⟩
    rw [h.wt a, ek]
    unfold dist
    rcases c with c | c
    · subst c
      split <;> split <;> omega
    · subst c
      split <;> split <;> omega
  · obtain ⟨_, hv, ek⟩ := lk_rowLv_some e
    rw [ek]
    exact ⟨row_way h hs _ v hv rfl, by omega⟩
/-- a start that no link joins reaches itself alone -/
def oneLv (N s : Nat) : Lv := (List.replicate N none).set s (some 1)
theorem one_levels {n : Nat} {near : List (List Nat)} {zs : List Int} (h : RowNet n near zs) {s : Nat} (hs : n ≤ s) (hN : s < zs.length) : IsLevels near zs s (oneLv zs.length s) := by
  have hl : s < (List.replicate zs.length (none : Option Nat)).length := by rw [List.length_replicate]; exact hN
  have lk1 : ∀ v, lk (oneLv zs.length s) v = if v = s then some 1 else none := fun v => by
    unfold oneLv
    rw [lk_set hl, lk_rep]
  refine ⟨by unfold oneLv; rw [List.length_set, List.length_replicate], by rw [lk1, if_pos rfl], fun u v k e a => ?_, fun v k e => ?_⟩
  · rw [lk1] at e
    by_cases c : u = s
    · have := ((h.adj u v).mp a).1
      omega
    · rw [if_neg c] at e
      cases e
  · rw [lk1] at e
    by_cases c : v = s
    · rw [if_pos c] at e
      cases e
      rw [c]
      exact ⟨.nil, Nat.le_refl 1⟩
    · rw [if_neg c] at e
      cases e
/-- the levels of a row of stops -/
theorem row_level {n : Nat} {near : List (List Nat)} {zs : List Int} (h : RowNet n near zs) {s g : Nat} (hs : s < n) (hg : g < n) {L : Lv} (IL : IsLevels near zs s L) : lk L g = some (1 + dist s g) := by
  rw [IL.unique (row_levels h hs), lk_rowLv (Nat.lt_of_lt_of_le hg h.le), if_pos hg]
theorem row_apart {n : Nat} {near : List (List Nat)} {zs : List Int} (h : RowNet n near zs) {s g : Nat} (hs : s < n) (hg : n ≤ g) (hgN : g < zs.length) {L : Lv} (IL : IsLevels near zs s L) : lk L g = none := by
  rw [IL.unique (row_levels h hs), lk_rowLv hgN, if_neg (by omega)]
/-- links of each stop with the next one make a row -/
theorem rowNet_of {n : Nat} {near : List (List Nat)} {zs : List Int} {lks : List Lk} (hn : n ≤ zs.length) (NO : NearOk zs.length lks near) (hl : ∀ a b : Nat, (((a : Int), (b : Int)) ∈ lks ∨ ((b : Int), (a : Int)) ∈ lks) ↔ (a < n ∧ b < n ∧ (b = a + 1 ∨ a = b + 1)))
    (un : ∀ u, u + 1 < n → zs[u]? ≠ zs[u + 1]?) : RowNet n near zs := ⟨hn, fun u v => (NO.adj u v).trans (hl u v), un⟩
end FW

end
section
set_option autoImplicit false
set_option linter.all false
namespace FT
/-! The rides of one day in another order: plain mathematics. -/
theorem leastF_perm {T : Tar} {w : Int} {rs rs' : List Ride} (h : ∀ j, (dz w j rs).Perm (dz w j rs')) : leastF T (wdays w rs) = leastF T (wdays w rs') := m6_congr fun o _ => by
  unfold weekF wdays
  rw [List.map_map, List.map_map]
  congr 2
  exact List.map_congr_left fun j _ => dayF_perm (h j)
/-- the same rides but for their order within the days -/
structure Alike (rs rs' : List Ride) : Prop where
  z : ∀ w j, (dz w j rs).Perm (dz w j rs')
  t : tsum rs = tsum rs'
theorem Alike.nil : Alike [] [] := ⟨fun _ _ => List.Perm.refl _, rfl⟩
theorem Alike.week {T : Tar} {rs rs' : List Ride} (h : Alike rs rs') (b : Book T rs) (b' : Book T rs') (w : Int) : wsum w rs = wsum w rs' := by
  rw [b.week, b'.week]
  exact leastF_perm (h.z w)
/-- rides of one day, behind rs, with these zones -/
structure Block (d : Int) (zs : List Nat) (rs rs' : List Ride) : Prop where
  z : ∀ w j, dz w j rs' = dz w j rs ++ if d / 7 = w ∧ d % 7 = (j : Int) then zs else []
  t : tsum rs' - wsum (d / 7) rs' = tsum rs - wsum (d / 7) rs
  ds : dsum d rs' - wsum (d / 7) rs' = dsum d rs - wsum (d / 7) rs
  o : ∀ e, e ≠ d → dsum e rs' = dsum e rs
  l : lastDay rs' = lastDay rs ∨ lastDay rs' = d
theorem Block.nil (d : Int) (rs : List Ride) : Block d [] rs rs := ⟨fun w j => by split <;> rw [List.append_nil], rfl, rfl, fun _ _ => rfl, .inl rfl⟩
theorem Block.snoc {d : Int} {zs : List Nat} {rs rs' : List Ride} (h : Block d zs rs rs') (s g : Int) (z : Nat) (c : Int) : Block d (zs ++ [z]) rs (rs' ++ [⟨d, s, g, z, c⟩]) := by
  refine ⟨fun w j => ?_, ?_, ?_, fun e n => ?_, .inr (lastDay_snoc _ _)⟩
  · rw [dz_snoc, h.z]
    by_cases e : d / 7 = w ∧ d % 7 = (j : Int)
    · rw [if_pos e, if_pos e, if_pos (show inWD w j ⟨d, s, g, z, c⟩ = true from decide_eq_true e), List.append_assoc]
    · rw [if_neg e, if_neg e, if_neg (show ¬ inWD w j ⟨d, s, g, z, c⟩ = true from fun y => e (of_decide_eq_true y)), List.append_nil]
  · have a := h.t
    rw [tsum_snoc, wsum_snoc, if_pos rfl]
    show tsum rs' + c - (wsum (d / 7) rs' + c) = _
    omega
  · have a := h.ds
    rw [dsum_snoc, wsum_snoc, if_pos rfl, if_pos rfl]
    show dsum d rs' + c - (wsum (d / 7) rs' + c) = _
    omega
  · rw [dsum_snoc, if_neg (fun y => n y.symm), h.o e n]
    omega
/-- a day's rides told in two orders -/
theorem Alike.block {d : Int} {zs zs' : List Nat} {rs rs' qs qs' : List Ride} (h : Alike rs rs') (p : zs.Perm zs') (b : Block d zs rs qs) (b' : Block d zs' rs' qs') (w1 : wsum (d / 7) rs = wsum (d / 7) rs') (w2 : (∀ w j, (dz w j qs).Perm (dz w j qs')) → wsum (d / 7) qs = wsum (d / 7) qs') : Alike qs qs' := by
  have z : ∀ w j, (dz w j qs).Perm (dz w j qs') := fun w j => by
    rw [b.z, b'.z]
    refine (h.z w j).append ?_
    split
    · exact p
    · exact List.Perm.refl _
  have w2 := w2 z
  have a := b.t
  have a' := b'.t
  have t := h.t
  exact ⟨z, by omega⟩
end FT

end
section
set_option autoImplicit false
set_option linter.all false
namespace FT
/-! What a day and a week can cost at most: plain mathematics. -/
/-- rides told one after another -/
inductive Hist (T : Tar) : List Ride → Prop
  | nil : Hist T []
  | snoc (rs : List Ride) (d s g : Int) (z : Nat) : Hist T rs → lastDay rs ≤ d → (1 ≤ z ∧ z ≤ 5) → Hist T (rs ++ [⟨d, s, g, z, charge T rs d z⟩])
theorem Hist.book {T : Tar} (ok : T.Ok) {rs : List Ride} (h : Hist T rs) : Book T rs := by
  induction h with
  | nil => exact Book.nil ok
  | snoc rs d s g z _ hd hz ih => exact ih.snoc s g hd hz
def upTo (d : Int) (rs : List Ride) : List Ride := rs.filter fun r => decide (r.day ≤ d)
def before (d : Int) (rs : List Ride) : List Ride := rs.filter fun r => decide (r.day < d)
theorem upTo_all {d : Int} {rs : List Ride} (h : ∀ r, r ∈ rs → r.day ≤ d) : upTo d rs = rs := List.filter_eq_self.mpr fun r m => decide_eq_true (h r m)
theorem before_all {d : Int} {rs : List Ride} (h : ∀ r, r ∈ rs → r.day < d) : before d rs = rs := List.filter_eq_self.mpr fun r m => decide_eq_true (h r m)
theorem dsum_zero {d : Int} {rs : List Ride} (h : ∀ r, r ∈ rs → r.day ≠ d) : dsum d rs = 0 := by
  unfold dsum sel
  have : rs.filter (inD d) = [] := by
    rw [List.filter_eq_nil_iff]
    intro r m z
    unfold inD at z
    exact h r m (of_decide_eq_true z)
  rw [this]
  rfl
theorem Hist.day {T : Tar} (ok : T.Ok) {rs : List Ride} (h : Hist T rs) : ∀ d, dsum d rs = leastF T (wdays (d / 7) (upTo d rs)) - leastF T (wdays (d / 7) (before d rs)) := by
  induction h with
  | nil =>
    intro d
    show (0 : Int) = _
    have e : upTo d [] = before d [] := rfl
    rw [e]
    omega
  | snoc rs e s g z hh hd hz ih =>
    intro d
    have b := hh.book ok
    have all : ∀ r, r ∈ rs → r.day ≤ e := fun r m => by
      have := (b.day r m).2
      omega
    rw [dsum_snoc]
    have eu : upTo d (rs ++ [⟨e, s, g, z, charge T rs e z⟩]) = upTo d rs ++ if e ≤ d then [⟨e, s, g, z, charge T rs e z⟩] else [] := by
      unfold upTo
      rw [List.filter_append]
      congr 1
      by_cases c : e ≤ d
      · rw [if_pos c, List.filter_cons_of_pos (by simpa using c)]
        rfl
      · rw [if_neg c, List.filter_cons_of_neg (by simpa using c)]
        rfl
    have eb : before d (rs ++ [⟨e, s, g, z, charge T rs e z⟩]) = before d rs ++ if e < d then [⟨e, s, g, z, charge T rs e z⟩] else [] := by
      unfold before
      rw [List.filter_append]
      congr 1
      by_cases c : e < d
      · rw [if_pos c, List.filter_cons_of_pos (by simpa using c)]
        rfl
      · rw [if_neg c, List.filter_cons_of_neg (by simpa using c)]
        rfl
    rw [eu, eb]
    show dsum d rs + (if e = d then charge T rs e z else 0) = _
    have i1 := ih d
    by_cases c1 : e < d
    · rw [if_pos c1, if_pos (show e ≤ d by omega), if_neg (show ¬ e = d by omega), upTo_all fun r m => by have := all r m; omega, before_all fun r m => by have := all r m; omega, dsum_zero fun r m => by have := all r m; omega]
      omega
    · by_cases c2 : e = d
      · subst c2
        rw [if_neg c1, if_pos (Int.le_refl e), if_pos (rfl : e = e), upTo_all all, List.append_nil, wdays_add]
        rw [upTo_all all] at i1
        unfold charge
        rw [i1, b.week]
        omega
      · rw [if_neg c1, if_neg (show ¬ e ≤ d by omega), if_neg c2, List.append_nil, List.append_nil, i1]
        omega
theorem dz_of {w : Int} {j : Nat} {rs : List Ride} {p : Ride → Bool} (h : ∀ r, r ∈ rs → inWD w j r = true → p r = true) : dz w j (rs.filter p) = dz w j rs := by
  unfold dz
  rw [List.filter_filter]
  congr 1
  apply List.filter_congr
  intro r m
  cases hq : inWD w j r with
  | false => rfl
  | true =>
    rw [h r m hq]
    rfl
theorem dz_none {w : Int} {j : Nat} {rs : List Ride} {p : Ride → Bool} (h : ∀ r, r ∈ rs → inWD w j r = true → p r = false) : dz w j (rs.filter p) = [] := by
  unfold dz
  rw [List.map_eq_nil_iff, List.filter_eq_nil_iff]
  intro r m q
  obtain ⟨m1, m2⟩ := List.mem_filter.mp m
  rw [h r m1 q] at m2
  cases m2
theorem Hist.day_cap {T : Tar} (ok : T.Ok) {rs : List Ride} (h : Hist T rs) {d : Int} {m : Nat} (hm : 1 ≤ m ∧ m ≤ 5) (hz : ∀ r, r ∈ rs → r.day = d → r.z ≤ m) : dsum d rs ≤ best T.d m := by
  rw [h.day ok d]
  have at_ : ∀ (r : Ride) (j : Nat), inWD (d / 7) j r = true → r.day / 7 = d / 7 ∧ r.day % 7 = (j : Int) := fun r j q => of_decide_eq_true q
  have ew := dw_eq d
  have key : wdays (d / 7) (upTo d rs) = (wdays (d / 7) (before d rs)).set (dw d) (dz (d / 7) (dw d) rs) := by
    apply List.ext_getElem?
    intro j
    by_cases hj : j < 7
    · rw [wdays_get hj, List.getElem?_set, wdays_len]
      by_cases c : dw d = j
      · subst c
        rw [if_pos rfl, if_pos hj]
        congr 1
        refine dz_of fun r m' q => decide_eq_true ?_
        obtain ⟨a, b⟩ := at_ r _ q
        omega
      · rw [if_neg c, wdays_get hj]
        congr 1
        unfold upTo before dz
        rw [List.filter_filter, List.filter_filter]
        congr 1
        apply List.filter_congr
        intro r m'
        cases hq : inWD (d / 7) j r with
        | false => rfl
        | true =>
          obtain ⟨a, b⟩ := at_ r _ hq
          have : (decide (r.day ≤ d)) = decide (r.day < d) := by
            by_cases x : r.day < d
            · rw [decide_eq_true x, decide_eq_true (by omega)]
            · rw [decide_eq_false x, decide_eq_false (by omega)]
          rw [this]
    · rw [List.getElem?_eq_none (by rw [wdays_len]; omega), List.getElem?_eq_none (by rw [List.length_set, wdays_len]; omega)]
  rw [key]
  have cap := least_day_cap ok (days := wdays (d / 7) (before d rs)) (d := dw d) (m := m) (zs := dz (d / 7) (dw d) rs) (wdays_get (dw_lt d)) (dz_none fun r m' q => by
    obtain ⟨a, b⟩ := at_ r _ q
    exact decide_eq_false (by omega)) hm fun z mz => by
      unfold dz at mz
      obtain ⟨r, mr, rfl⟩ := List.mem_map.mp mz
      obtain ⟨m1, m2⟩ := List.mem_filter.mp mr
      obtain ⟨a, b⟩ := at_ r _ m2
      exact hz r m1 (by omega)
  omega
theorem Hist.week_cap {T : Tar} (ok : T.Ok) {rs : List Ride} (h : Hist T rs) {w : Int} {m : Nat} (hm : 1 ≤ m ∧ m ≤ 5) (hz : ∀ r, r ∈ rs → r.day / 7 = w → r.z ≤ m) : wsum w rs ≤ best T.w m := by
  have b := h.book ok
  rw [b.week]
  refine least_week_cap ok hm (b.in5 w) fun zs mz z mz' => ?_
  obtain ⟨j, hj, rfl⟩ := List.mem_map.mp mz
  obtain ⟨r, mr, rfl⟩ := List.mem_map.mp mz'
  obtain ⟨m1, m2⟩ := List.mem_filter.mp mr
  exact hz r m1 (of_decide_eq_true m2).1
/-- the chosen rides' numbers -/
def selL (p : Ride → Bool) (f : Ride → Int) (rs : List Ride) : List Int := (rs.filter p).map f
theorem selL_pos {p : Ride → Bool} {f : Ride → Int} {rs : List Ride} {i : Nat} {r : Ride} (e : rs[i]? = some r) (h : p r = true) : selL p f (rs.take (i + 1)) = selL p f (rs.take i) ++ [f r] := by
  unfold selL
  rw [List.take_add_one, e, List.filter_append, List.map_append]
  show _ ++ ([r].filter p).map f = _
  rw [List.filter_cons_of_pos h]
  rfl
theorem selL_neg {p : Ride → Bool} {f : Ride → Int} {rs : List Ride} {i : Nat} {r : Ride} (e : rs[i]? = some r) (h : ¬ p r = true) : selL p f (rs.take (i + 1)) = selL p f (rs.take i) := by
  unfold selL
  rw [List.take_add_one, e, List.filter_append, List.map_append]
  show _ ++ ([r].filter p).map f = _
  rw [List.filter_cons_of_neg h]
  show _ ++ [] = _
  rw [List.append_nil]
theorem selL_len (p : Ride → Bool) (f : Ride → Int) (rs : List Ride) : (selL p f rs).length ≤ rs.length := by
  unfold selL
  rw [List.length_map]
  exact List.length_filter_le _ _
theorem selL_take_len (p : Ride → Bool) (f : Ride → Int) (rs : List Ride) (i : Nat) : (selL p f (rs.take i)).length ≤ rs.length :=
  Nat.le_trans (selL_len p f _) (by rw [List.length_take]; omega)
theorem selL_mem {p : Ride → Bool} {f : Ride → Int} {rs : List Ride} {x : Int} (m : x ∈ selL p f rs) : ∃ r, r ∈ rs ∧ p r = true ∧ f r = x := by
  obtain ⟨r, mr, e⟩ := List.mem_map.mp m
  obtain ⟨m1, m2⟩ := List.mem_filter.mp mr
  exact ⟨r, m1, m2, e⟩
theorem mem_selL {p : Ride → Bool} {f : Ride → Int} {rs : List Ride} {r : Ride} (m : r ∈ rs) (h : p r = true) : f r ∈ selL p f rs := List.mem_map.mpr ⟨r, List.mem_filter.mpr ⟨m, h⟩, rfl⟩
end FT

end
set_option Elab.async false
set_option linter.all false
set_option maxRecDepth 100000

namespace FW
open PySem PySem.Spec PyProof.Rows L2
/-! ### the text by places -/
def top (i : Nat) : Stmt := PySem.Challenge.pw_fareweb_k10_whole_cards_pay_the_least.main.body.getD i (.Pass ⟨0, 0, 0, 0⟩)
abbrev sInit : Stmt := inClass (top 32) 0
abbrev sLevels : Stmt := inClass (top 32) 1
abbrev sFewest : Stmt := inClass (top 32) 2
abbrev sWay : Stmt := inClass (top 32) 3
abbrev sCheckStop : Stmt := inClass (top 32) 4
abbrev sSearchGoal : Stmt := inClass (top 32) 5
abbrev sSearch : Stmt := inClass (top 32) 6
abbrev sFill : Stmt := inClass (top 32) 7
abbrev sIsStop : Stmt := top 33
abbrev sNeigh : Stmt := top 34
abbrev sCheckLink : Stmt := top 35
theorem scInit : FnScope ["self", "zones", "links"] ["self", "zones", "links"] (defScope sInit) := ⟨rfl, rfl, rfl, by decide +kernel, rfl, by decide +kernel, by decide +kernel⟩
theorem scLevels : FnScope ["self", "start", "levels", "_"] ["self", "start"] (defScope sLevels) := ⟨rfl, rfl, rfl, by decide +kernel, rfl, by decide +kernel, by decide +kernel⟩
theorem scFewest : FnScope ["self", "start", "goal", "levels", "_"] ["self", "start", "goal"] (defScope sFewest) := ⟨rfl, rfl, rfl, by decide +kernel, rfl, by decide +kernel, by decide +kernel⟩
theorem scWay : FnScope ["self", "start", "goal", "_", "origins", "row"] ["self", "start", "goal"] (defScope sWay) := ⟨rfl, rfl, rfl, by decide +kernel, rfl, by decide +kernel, by decide +kernel⟩
theorem scCheckStop : FnScope ["self", "stop"] ["self", "stop"] (defScope sCheckStop) := ⟨rfl, rfl, rfl, by decide +kernel, rfl, by decide +kernel, by decide +kernel⟩
theorem scSearchGoal : FnScope ["self", "start", "goal", "levels", "origins"] ["self", "start", "goal"] (defScope sSearchGoal) := ⟨rfl, rfl, rfl, by decide +kernel, rfl, by decide +kernel, by decide +kernel⟩
theorem scSearch : FnScope ["self", "start", "levels", "origins", "steps", "level"] ["self", "start"] (defScope sSearch) := ⟨rfl, rfl, rfl, by decide +kernel, rfl, by decide +kernel, by decide +kernel⟩
theorem scFill : FnScope ["self", "level", "entries", "levels", "origins", "steps", "onward", "stop", "origin", "other"] ["self", "level", "entries", "levels", "origins"] (defScope sFill) := ⟨rfl, rfl, rfl, by decide +kernel, rfl, by decide +kernel, by decide +kernel⟩
theorem scIsStop : FnScope ["stop", "count"] ["stop", "count"] (defScope sIsStop) := ⟨rfl, rfl, rfl, by decide +kernel, rfl, by decide +kernel, by decide +kernel⟩
theorem scNeigh : FnScope ["count", "links", "near", "one", "other", "stop"] ["count", "links"] (defScope sNeigh) := ⟨rfl, rfl, rfl, by decide +kernel, rfl, by decide +kernel, by decide +kernel⟩
theorem scCheckLink : FnScope ["one", "other", "count"] ["one", "other", "count"] (defScope sCheckLink) := ⟨rfl, rfl, rfl, by decide +kernel, rfl, by decide +kernel, by decide +kernel⟩
/-! ### data on the heap -/
def optV : Option Nat → V
  | none => .non
  | some k => .int (k : Nat)
theorem optV_non (o : Option Nat) : decide (optV o = V.non) = decide (o = none) := by
  cases o with
  | none => rfl
  | some k => exact decide_eq_decide.mpr ⟨(fun z => nomatch z), (fun z => nomatch z)⟩
inductive All2 {α β : Type} (R : α → β → Prop) : List α → List β → Prop
  | nil : All2 R [] []
  | cons {a : α} {b : β} {as : List α} {bs : List β} : R a b → All2 R as bs → All2 R (a :: as) (b :: bs)
theorem All2.len {α β : Type} {R : α → β → Prop} {as : List α} {bs : List β} (h : All2 R as bs) : as.length = bs.length := by
  induction h with
  | nil => rfl
  | cons _ _ ih => rw [List.length_cons, List.length_cons, ih]
theorem All2.imp {α β : Type} {R S : α → β → Prop} (f : ∀ a b, R a b → S a b) {as : List α} {bs : List β} (h : All2 R as bs) : All2 S as bs := by
  induction h with
  | nil => exact .nil
  | cons r _ ih => exact .cons (f _ _ r) ih
theorem All2.imp_mem {α β : Type} {R S : α → β → Prop} {as : List α} {bs : List β} (h : All2 R as bs) (f : ∀ a b, a ∈ as → R a b → S a b) : All2 S as bs := by
  induction h with
  | nil => exact .nil
  | cons r _ ih => exact .cons (f _ _ List.mem_cons_self r) (ih fun a b m => f a b (List.mem_cons_of_mem _ m))
theorem All2.app {α β : Type} {R : α → β → Prop} {as cs : List α} {bs ds : List β} (h : All2 R as bs) (g : All2 R cs ds) : All2 R (as ++ cs) (bs ++ ds) := by
  induction h with
  | nil => exact g
  | cons r _ ih => exact .cons r ih
theorem All2.one {α β : Type} {R : α → β → Prop} {a : α} {b : β} (r : R a b) : All2 R [a] [b] := .cons r .nil
theorem All2.get {α β : Type} {R : α → β → Prop} {as : List α} {bs : List β} (h : All2 R as bs) {i : Nat} {b : β} (e : bs[i]? = some b) : ∃ a, as[i]? = some a ∧ R a b := by
  induction h generalizing i with
  | nil => simp at e
  | cons r _ ih =>
    cases i with
    | zero =>
      cases e
      exact ⟨_, rfl, r⟩
    | succ i => exact ih (i := i) e
theorem All2.getL {α β : Type} {R : α → β → Prop} {as : List α} {bs : List β} (h : All2 R as bs) {i : Nat} {a : α} (e : as[i]? = some a) : ∃ b, bs[i]? = some b ∧ R a b := by
  induction h generalizing i with
  | nil => simp at e
  | cons r _ ih =>
    cases i with
    | zero =>
      cases e
      exact ⟨_, rfl, r⟩
    | succ i => exact ih (i := i) e
theorem All2.set {α β : Type} {R : α → β → Prop} {as : List α} {bs : List β} (h : All2 R as bs) {i : Nat} {a : α} {b : β} (ea : as[i]? = some a) (r : R a b) : All2 R as (bs.set i b) := by
  induction h generalizing i with
  | nil => simp at ea
  | cons r' h' ih =>
    cases i with
    | zero =>
      cases ea
      exact .cons r h'
    | succ i => exact .cons r' (ih (i := i) ea)
theorem All2.snoc {α β : Type} {R : α → β → Prop} {as : List α} {bs : List β} {b : β} (h : All2 R as (bs ++ [b])) : ∃ as' a, as = as' ++ [a] ∧ All2 R as' bs ∧ R a b := by
  induction bs generalizing as with
  | nil =>
    cases h with
    | cons r t =>
      cases t
      exact ⟨[], _, rfl, .nil, r⟩
  | cons x bs ih =>
    cases h with
    | cons r t =>
      obtain ⟨as', a, e, h', r'⟩ := ih t
      exact ⟨_ :: as', a, by rw [e]; rfl, .cons r h', r'⟩
theorem All2.of_get {α β : Type} {R : α → β → Prop} : ∀ {as : List α} {bs : List β}, as.length = bs.length → (∀ (i : Nat) (a : α) (b : β), as[i]? = some a → bs[i]? = some b → R a b) → All2 R as bs
  | [], [], _, _ => .nil
  | a :: as, b :: bs, h, f => .cons (f 0 a b rfl rfl) (All2.of_get (Nat.succ.inj h) fun i a b e1 e2 => f (i + 1) a b e1 e2)
  | [], _ :: _, h, _ => nomatch h
  | _ :: _, [], h, _ => nomatch h
theorem All2.at {α β : Type} {R : α → β → Prop} {as : List α} {bs : List β} (h : All2 R as bs) {i : Nat} {a : α} {b : β} (e1 : as[i]? = some a) (e2 : bs[i]? = some b) : R a b := by
  obtain ⟨a', e, r⟩ := h.get e2
  rw [e1] at e
  cases e
  exact r
/-- a step: a stop and where it comes from -/
def StepAt (H : Hp) (a : Addr) (p : Sp) : Prop := H a = some (.tup [.int (p.1 : Nat), optV p.2])
def LinkAt (H : Hp) (a : Addr) (p : Lk) : Prop := H a = some (.tup [.int p.1, .int p.2])
def NearAt1 (H : Hp) (a : Addr) (l : List Nat) : Prop := H a = some (.lst (l.map fun (k : Nat) => V.int (k : Nat)))
/-- a list of steps stands at l -/
def Stk (H : Hp) (l : Addr) (ps : List Sp) : Prop := ∃ as : List Addr, H l = some (.lst (as.map V.ref)) ∧ All2 (StepAt H) as ps
def LinksAt (H : Hp) (l : Addr) (lks : List Lk) : Prop := ∃ as : List Addr, H l = some (.lst (as.map V.ref)) ∧ All2 (LinkAt H) as lks
def NearAt (H : Hp) (l : Addr) (near : List (List Nat)) : Prop := ∃ as : List Addr, H l = some (.lst (as.map V.ref)) ∧ All2 (NearAt1 H) as near
theorem Stk.to {H H' : Hp} {l l' : Addr} {ps : List Sp} (h : Stk H l ps) (k : ∀ b xs, H b = some (.tup xs) → H' b = some (.tup xs)) (kl : ∀ as : List Addr, H l = some (.lst (as.map V.ref)) → H' l' = some (.lst (as.map V.ref))) : Stk H' l' ps := by
  obtain ⟨as, e, q⟩ := h
  exact ⟨as, kl as e, q.imp fun a b r => k _ _ r⟩
theorem LinksAt.to {H H' : Hp} {l l' : Addr} {ps : List Lk} (h : LinksAt H l ps) (k : ∀ b xs, H b = some (.tup xs) → H' b = some (.tup xs)) (kl : ∀ as : List Addr, H l = some (.lst (as.map V.ref)) → H' l' = some (.lst (as.map V.ref))) : LinksAt H' l' ps := by
  obtain ⟨as, e, q⟩ := h
  exact ⟨as, kl as e, q.imp fun a b r => k _ _ r⟩
theorem NearAt.to {H H' : Hp} {l : Addr} {near : List (List Nat)} (h : NearAt H l near) (k : Same H H') : NearAt H' l near := by
  obtain ⟨as, e, q⟩ := h
  exact ⟨as, k _ _ e, q.imp fun a b r => k _ _ r⟩
theorem LinksAt.same {H H' : Hp} {l : Addr} {lks : List Lk} (h : LinksAt H l lks) (k : Same H H') : LinksAt H' l lks := h.to (fun b xs e => k _ _ e) fun as e => k _ _ e
theorem same_upd {H : Hp} {p : Addr} {o : HO} (h : H p = none) : Same H (upd H p o) := fun b x e => by
  rw [upd_ne (ne_of_none e h)]
  exact e
theorem NearAt.toL {H H' : Hp} {l : Addr} {near : List (List Nat)} (h : NearAt H l near) (k : ∀ b xs, H b = some (.lst xs) → H' b = some (.lst xs)) : NearAt H' l near := by
  obtain ⟨as, e, q⟩ := h
  exact ⟨as, k _ _ e, q.imp fun a b r => k _ _ r⟩
theorem near_upd {H : Hp} {as : List Addr} {near : List (List Nat)} {a aa : Nat} {na : List Nat} {o : HO} (h : All2 (NearAt1 H) as near) (nd : as.Nodup) (ea : as[a]? = some aa) (x : Nat) (en : near[a]? = some na)
    (eo : o = .lst ((na.map fun (k : Nat) => V.int (k : Nat)) ++ [V.int (x : Nat)])) : All2 (NearAt1 (upd H aa o)) as (near.set a (na ++ [x])) := by
  subst eo
  refine All2.of_get (by rw [List.length_set]; exact h.len) fun i b l e1 e2 => ?_
  rw [List.getElem?_set] at e2
  by_cases ia : a = i
  · subst ia
    rw [if_pos rfl, if_pos (List.getElem?_eq_some_iff.mp en).1] at e2
    cases e2
    have eb : b = aa := Option.some.inj (e1.symm.trans ea)
    subst eb
    show upd H b _ b = _
    rw [upd_same, List.map_append]
    rfl
  · rw [if_neg ia] at e2
    have nb : b ≠ aa := fun z => ia (nd_ix nd ea (by rw [← z]; exact e1))
    show upd H aa _ b = _
    rw [upd_ne nb]
    exact h.at e1 e2
/-- the fields of a web -/
theorem f12 : ¬ (("zones" : Str) = "links") := by decide +kernel
theorem f13 : ¬ (("zones" : Str) = "_near") := by decide +kernel
theorem f23 : ¬ (("links" : Str) = "_near") := by decide +kernel
def wf (zl ll nl : Addr) : List (Str × V) := putF "_near" (.ref nl) (putF "links" (.ref ll) (putF "zones" (.ref zl) []))
theorem wf_zones (zl ll nl : Addr) : (wf zl ll nl).lookup ("zones" : Str) = some (.ref zl) := by
  unfold wf
  rw [lookup_putF, if_neg f13, lookup_putF, if_neg f12, lookup_putF, if_pos rfl]
theorem wf_links (zl ll nl : Addr) : (wf zl ll nl).lookup ("links" : Str) = some (.ref ll) := by
  unfold wf
  rw [lookup_putF, if_neg f23, lookup_putF, if_pos rfl]
theorem wf_near (zl ll nl : Addr) : (wf zl ll nl).lookup ("_near" : Str) = some (.ref nl) := by
  unfold wf
  rw [lookup_putF, if_pos rfl]
theorem wf_no (zl ll nl : Addr) {m : Str} (h1 : ¬ m = "zones") (h2 : ¬ m = "links") (h3 : ¬ m = "_near") : (wf zl ll nl).lookup m = none := by
  unfold wf
  rw [lookup_putF, if_neg h3, lookup_putF, if_neg h2, lookup_putF, if_neg h1]
  all_goals rfl
/-- A WEB stands at p -/
structure WebAt (C : Addr) (H : Hp) (p : Addr) (zs : List Int) (lks : List Lk) (near : List (List Nat)) : Prop where
  ob : ∃ dx zl ll nl, H p = some (.ins C dx (wf zl ll nl)) ∧ H zl = some (.lst (zs.map V.int)) ∧ LinksAt H ll lks ∧ NearAt H nl near
  ok : NearOk zs.length lks near
  lt : ∀ q, q ∈ lks → LinkOk zs.length q
  small : 2 * lks.length + zs.length ≤ 100000
theorem WebAt.same {C p : Addr} {H H' : Hp} {zs : List Int} {lks : List Lk} {near : List (List Nat)} (h : WebAt C H p zs lks near) (k : Same H H') : WebAt C H' p zs lks near := by
  obtain ⟨⟨dx, zl, ll, nl, h1, h2, h3, h4⟩, a, b, c⟩ := h
  exact ⟨⟨dx, zl, ll, nl, k _ _ h1, k _ _ h2, h3.same k, h4.to k⟩, a, b, c⟩
theorem WebAt.near_lt {C p : Addr} {H : Hp} {zs : List Int} {lks : List Lk} {near : List (List Nat)} (h : WebAt C H p zs lks near) {u v : Nat} (a : Adj near u v) : v < zs.length := by
  rcases (h.ok.adj u v).mp a with z | z
  · have := (h.lt _ z).2.1.2
    exact Int.ofNat_lt.mp this
  · have := (h.lt _ z).1.2
    exact Int.ofNat_lt.mp this
/-! ### what the top has written -/
structure ErrT (K : PySem.W.Frag) (mg : Str → Option Value) (nm : Str) (C : Addr) : Prop where
  g : mg nm = some (.ref C)
  x : PySem.W.excIn K C [.type "ValueError", .type "Exception", .type "BaseException", .type "object"] "ValueError.__new__" = true
  k : PySem.W.keepIn K (.ref C) = true
  b : PySem.W.subIn K (.ref C) (.type "BaseException") = some true
  t : PySem.W.typeIn K (.ref C) = some (.type "type")
structure Txt (K : PySem.W.Frag) (mg : Str → Option Value) (C CL CS CN : Addr) : Prop where
  cl : Cls K C
  nZ : NoAttr K C "zones"
  nL : NoAttr K C "links"
  nN : NoAttr K C "_near"
  len : mg "len" = none
  list : mg "list" = none
  range : mg "range" = none
  eL : ErrT K mg "BadLink" CL
  eS : ErrT K mg "BadStop" CS
  eN : ErrT K mg "NoWay" CN
section
variable {P : Program} {w : World} {K : PySem.W.Frag} {mg : Str → Option Value} {base : Heap} {C CL CS CN : Addr}
theorem ErrT.raises {X : Cx} {nm : Str} {C : Addr} (T : ErrT X.K X.mg nm C) : Raises X (.ref C) := raises_own T.b T.t
theorem nd_of {p : Prop} [Decidable p] (e : (!decide p) = true) : ¬ p := fun z => by
  rw [decide_eq_true z] at e
  cases e
theorem d_of {p : Prop} [Decidable p] (e : ¬ (!decide p) = true) : p := by
  by_cases z : p
  · exact z
  · exact absurd (by rw [decide_eq_false z]; rfl) e
/-! ### what is raised: its context stays None, as nothing is handled where it is raised -/
theorem okN {x qual : Str} {st : Stmt} {f : Addr} {fd : FuncData} {N ps : List Str} {k : Nat} {sp : L2.Sp} (F : Fun K x qual st f fd) (S : FnScope N ps (defScope st)) (len : ∀ vs H Q E, sp vs H Q E → vs.length = ps.length)
    (body : ∀ (cdv : Value) (A : Around) (outer : List Env) (s : Shared) (H : Hp) (vs : List V) (Q : VK) (E : XK), Room k (A.deeper (envOfC qual (defScope st) s.heap.objs.size f cdv)) → sp vs H Q E →
      ∃ t, PSs (cxOf (L2N.CX P w) P w K mg base N qual (defScope st) f cdv A outer s H E) (defBody st) t ∧ t { nx := fun _ H' => Q .non H', rt := Q } (L2.start N vs) H) :
    FnOk P w K mg base (L2N.CX P w) (k + 1) f fd ps sp := by
  obtain ⟨_, _, _, _, _, _, cdv, _, _, rfl, at_f, code⟩ := F.ex
  exact fn_of at_f code S len fun A outer s H vs Q E room promised => body cdv A outer s H vs Q E room promised
theorem passN {X : Cx} : Passes (L2N.CX X.prog X.w) X E0 := by
  rintro _ _ _ _ _ _ _ ⟨_, _, _, _, _, _, _, _, _, _, _, _, z⟩
  exact z.elim
theorem pmk_msg {X : Cx} {C : Addr} {nm m : Str} {j : Nat} {p p2 pos : Pos} (T : ErrT X.K X.mg nm C) (hg : Gl X nm) (hdb : (nm == ("__debug__" : Str)) = false := by decide) :
    L2N.PMk X (.Call (.Name nm p) [.Constant (.str m) j p2] [] pos) (fun _ H Q => Q (.ref C) none H) := L2N.pmk_own PySem.F.excBase_ValueError T.x T.g T.k T.raises hg hdb
/-- the same with one argument of any form -/
theorem pmk_one {X : Cx} {C : Addr} {nm : Str} {e : Expr} {ta : TE} {p pos : Pos} (T : ErrT X.K X.mg nm C) (hg : Gl X nm) (he : PE X e ta) (hs : starEach [e] X.env = (false, eval e X.env) :: starEach [] X.env := by rfl)
    (hdb : (nm == ("__debug__" : Str)) = false := by decide) : L2N.PMk X (.Call (.Name nm p) [e] [] pos) (fun σ H Q => ta σ H fun _ H1 => Q (.ref C) none H1) := by
  intro pins st σ H Q inv reading
  refine wpAny_Call_Name_kw (ld_glob inv hg T.g ?_ hdb)
  refine PySem.W.callWith_K (h₀ := X.base) inv.ok.mod.kin T.k ?_ hs (by rfl)
  rw [hs]
  show wpAny _ _ (spliced ((false, eval e X.env) :: backTo pos (starEach [] X.env))) _ _ st
  refine Calls.spliced_cons (thn (he.run pins st σ H _ inv reading) fun made behind ⟨_, _, inv1, _, wish⟩ => ?_)
  refine Calls.spliced_nil ⟨inv1.kIn, ?_⟩
  show wpAny _ _ (call (.ref C) [made]) _ _ _
  obtain ⟨_, _, _, _, _, _, _, _, _, _, _, _, _, _, _, _, _, there, names, none_init, tail⟩ := exc_obj inv1.kIn T.x
  refine wpAny_call_exc_subT PySem.F.excBase_ValueError tail there names none_init (fun heap new is_made => ?_) (by show 1 ≤ sizeLine; rw [sizeLine_eq]; decide)
  exact L2N.mk_of inv1 is_made T.raises wish (inv1.hok.gone is_made.new)
/-! ### _is_stop -/
def spIsStop : L2.Sp := fun vs H Q _ => ∃ a n : Int, vs = [.int a, .int n] ∧ Q (.bl (decide (0 ≤ a ∧ a < n))) H
theorem ok_isStop {f : Addr} {fd : FuncData} (F : Fun K "_is_stop" "_is_stop" sIsStop f fd) : FnOk P w K mg base CX0 1 f fd ["stop", "count"] spIsStop := by
  refine F.ok scIsStop (fun vs H Q E h => ?_) (fun cdv A outer s H vs Q E hr h => ?_)
  · obtain ⟨a, n, rfl, _⟩ := h
    rfl
  · obtain ⟨a, n, rfl, q⟩ := h
    refine ⟨_, pss_one (ps_ret (pe_chain op_le op_lt pe_int (pv 0) (pv 1))), ?_⟩
    refine ⟨_, rfl, _, _, rfl, rfl, _, rfl, ?_⟩
    refine ite2 (fun e => ?_) (fun e => ?_)
    · have h0 : 0 ≤ a := of_decide_eq_true e
      refine ⟨_, rfl, _, _, rfl, rfl, ?_⟩
      have e1 : decide (a < n) = decide (0 ≤ a ∧ a < n) := decide_eq_decide.mpr ⟨fun z => ⟨h0, z⟩, fun z => z.2⟩
      show Q (.bl (decide (a < n))) H
      rw [e1]
      exact q
    · have h0 : ¬ 0 ≤ a := fun z => e (decide_eq_true z)
      have e1 : decide (0 ≤ a ∧ a < n) = false := decide_eq_false fun z => h0 z.1
      rw [e1] at q
      exact q
/-! ### _check_link -/
def spCheckLink (CL : Addr) : L2.Sp := fun vs H Q E => ∃ (a b : Int) (n : Nat), vs = [.int a, .int b, .int n] ∧ n ≤ 100000 ∧ (LinkOk n (a, b) → Q .non H) ∧ (¬ LinkOk n (a, b) → E (.ref CL) none H)
theorem log_small {i : Int} (h0 : 0 ≤ i) (h : i < 100000) : i.natAbs.log2 < 1920 := by
  have h1 : i.natAbs < 2 ^ 1920 := by
    have : i.natAbs < 100000 := by omega
    exact Nat.lt_of_lt_of_le this (by decide +kernel)
  by_cases hz : i.natAbs = 0
  · rw [hz]
    decide +kernel
  · exact (Nat.log2_lt hz).mpr h1
theorem text_le {x y : Str} {m n k : Nat} (hx : x.length ≤ m) (hy : y.length ≤ n) (h : m + n ≤ k) : (x ++ y).length ≤ k := by
  rw [PySem.Str.length_append]
  omega
theorem text_fits {x y : Str} {m n : Nat} (hx : x.length ≤ m) (hy : y.length ≤ n) (h : m + n ≤ 16777216) : (x ++ y).length ≤ sizeLine := by
  rw [sizeLine_eq]
  exact text_le hx hy h
theorem ok_checkLink {f fI : Addr} {fd fdI : FuncData} (F : Fun K "_check_link" "_check_link" sCheckLink f fd) (T : Txt K mg C CL CS CN) (FI : Fun K "_is_stop" "_is_stop" sIsStop fI fdI) (bI : Binds K fdI ["stop", "count"] []) (gI : mg "_is_stop" = some (.ref fI)) :
    FnOk P w K mg base (L2N.CX P w) 2 f fd ["one", "other", "count"] (spCheckLink CL) := by
  have GI : FnOk P w K mg base CX0 1 fI fdI ["stop", "count"] spIsStop := ok_isStop FI
  refine okN F scCheckLink (fun vs H Q E h => ?_) (fun cdv A outer s H vs Q E hr h => ?_)
  · obtain ⟨a, b, n, rfl, _⟩ := h
    rfl
  · obtain ⟨a, b, n, rfl, hn, q1, q2⟩ := h
    refine ⟨_, pss_cons (ps_if (PW.pt (pw_or (pt_not (pt_val (pe_call GI hr (by rfl) gI FI.kp bI .nil pass0 (pa_cons (pv 0) (pa_cons (pv 2) pa_nil)))))
        (pw_or1 (pt_not (pt_val (pe_call GI hr (by rfl) gI FI.kp bI .nil pass0 (pa_cons (pv 1) (pa_cons (pv 2) pa_nil))))))))
        (pss_one (L2N.ps_raise rfl (L2N.takes_of rfl rfl rfl rfl) (pmk_msg T.eL rfl))) pss_nil)
      (pss_one (ps_if (pt_cmpR op_eq (pv 0) (pv 1) (nomark _))
        (pss_one (L2N.ps_raise rfl (L2N.takes_of rfl rfl rfl rfl) (pmk_one T.eL rfl (pe_joined (PJ.cons pe_str (PJ.cons (pe_fmt (pv 0)) (PJ.cons pe_str PJ.nil))))))) pss_nil)), ?_⟩
    refine ⟨_, rfl, _, rfl, a, n, rfl, _, rfl, ?_⟩
    refine ite2 (fun e => ?_) (fun e => ?_)
    · -- one is not there
      have na : ¬ (0 ≤ a ∧ a < n) := nd_of e
      refine iteT ?_
      exact q2 fun z => na z.1
    · have ha : 0 ≤ a ∧ a < n := d_of e
      refine ⟨_, rfl, _, rfl, b, n, rfl, _, rfl, ?_⟩
      refine ite2 (fun e => ?_) (fun e => ?_)
      · have nb : ¬ (0 ≤ b ∧ b < n) := nd_of e
        exact q2 fun z => nb z.2.1
      · have hb : 0 ≤ b ∧ b < n := d_of e
        refine ⟨_, rfl, _, rfl, rfl, _, rfl, ?_⟩
        refine ite2 (fun e => ?_) (fun e => ?_)
        · have eab : a = b := V.int.inj (of_decide_eq_true e)
          have l1 : a.natAbs.log2 < 1920 := log_small ha.1 (by omega)
          refine ⟨_, rfl, ?_⟩
          refine ⟨by rw [sizeLine_eq]; decide +kernel, _, rfl, .inr ⟨a, rfl, l1, ⟨_, rfl, ?_, ?_⟩⟩⟩
          · exact text_fits (m := 100) (by decide +kernel) (int_text_len_1921 l1) (by decide)
          · refine ⟨_, rfl, ?_, ?_⟩
            · exact text_fits (m := 3000) (n := 100) (text_le (m := 100) (by decide +kernel) (int_text_len_1921 l1) (by decide)) (by decide +kernel) (by decide)
            · exact q2 fun z => z.2.2 eab
        · have nab : a ≠ b := fun z => e (decide_eq_true (by rw [z]))
          exact q1 ⟨ha, hb, nab⟩
theorem tYes_if {σ : L2.St} {H : Hp} {A B : Hp → Prop} (h : A H) : tYes σ H (fun b H3 => if b = true then A H3 else B H3) := by
  show (if true = true then A H else B H)
  rw [if_pos rfl]
  exact h
/-! ### _neighbours -/
/-- the lists of neighbours, all new since H -/
def NearNew (H H' : Hp) (l : Addr) (near : List (List Nat)) : Prop := ∃ as : List Addr, H' l = some (.lst (as.map V.ref)) ∧ All2 (NearAt1 H') as near ∧ ∀ a, a ∈ as → H a = none
def spNeigh (CL : Addr) : L2.Sp := fun vs H Q E => ∃ (n : Nat) (l : Addr) (lks : List Lk), vs = [.int n, .ref l] ∧ LinksAt H l lks ∧ 2 * lks.length + n ≤ 100000 ∧
  ((∀ q, q ∈ lks → LinkOk n q) → ∀ (near : List (List Nat)) (H' : Hp) (p : Addr), Same H H' → H p = none → NearNew H H' p near → NearOk n lks near → Q (.ref p) H') ∧
  ((∃ q, q ∈ lks ∧ ¬ LinkOk n q) → ∀ H', Same H H' → E (.ref CL) none H')
theorem upd_out {H H' : Hp} {a : Addr} {o : HO} (k : Same H H') (n : H a = none) : Same H (upd H' a o) := fun b x e => by
  rw [upd_ne (ne_of_none e n)]
  exact k b x e
theorem near_small {n m : Nat} {lks : List Lk} {near : List (List Nat)} (h : NearOk n lks near) (hs : 2 * lks.length ≤ m) {a : Nat} {na : List Nat} (e : near[a]? = some na) : na.length ≤ m := by
  have : na.length ≤ tot near := by
    have hm := List.mem_of_getElem? e
    clear e h
    induction near with
    | nil => simp at hm
    | cons b near ih =>
      show na.length ≤ (b.length :: near.map List.length).sum
      rw [List.sum_cons]
      rcases List.mem_cons.mp hm with rfl | hm
      · omega
      · have := ih hm
        unfold tot at this
        omega
  rw [h.size] at this
  omega
theorem small_line {n : Nat} (h : n ≤ 200000) : n < sizeLine := Nat.lt_of_le_of_lt h (by rw [sizeLine_eq]; decide)
theorem ok_neigh {f fI fL : Addr} {fd fdI fdL : FuncData} (F : Fun K "_neighbours" "_neighbours" sNeigh f fd) (T : Txt K mg C CL CS CN) (FI : Fun K "_is_stop" "_is_stop" sIsStop fI fdI) (bI : Binds K fdI ["stop", "count"] []) (gI : mg "_is_stop" = some (.ref fI))
    (FL : Fun K "_check_link" "_check_link" sCheckLink fL fdL) (bL : Binds K fdL ["one", "other", "count"] []) (gL : mg "_check_link" = some (.ref fL)) :
    FnOk P w K mg base (L2N.CX P w) 3 f fd ["count", "links"] (spNeigh CL) := by
  have GL : FnOk P w K mg base (L2N.CX P w) 2 fL fdL ["one", "other", "count"] (spCheckLink CL) := ok_checkLink FL T FI bI gI
  refine okN F scNeigh (fun vs H Q E h => ?_) (fun cdv A outer s H vs Q E hr h => ?_)
  · obtain ⟨n, l, lks, rfl, _⟩ := h
    rfl
  · obtain ⟨n, l, lks, rfl, ⟨asL, hl, hL⟩, hn, q1, q2⟩ := h
    refine ⟨_, pss_cons (ps_setLc (i := 2) (own := [("stop", 5)]) (g := gName 5) (by rfl) scNeigh.nd rfl rfl (sw_true rfl rfl rfl (by decide +kernel))
        (pi_range1 (by rfl) T.range (pa_cons (pv 0) pa_nil)) (blkOk_by (own := [("stop", 5)]) (N := ["count", "links", "near", "one", "other", "stop"]) (sc := defScope sNeigh) (by decide +kernel))
        (fun _ _ _ _ _ => pg_name (i := 5) scNeigh.nd rfl (Or.inl rfl)) (fun _ _ _ _ _ => pts_nil) (fun _ _ _ _ _ => pe_lst pa_nil))
      (pss_cons (ps_for (passes_of rfl) rfl (pi_list (pv 1)) (pg_tup rfl (pgs_cons (pg_name (i := 3) scNeigh.nd rfl (.inl rfl)) (pgs_cons (pg_name (i := 4) scNeigh.nd rfl (.inl rfl)) pgs_nil)))
        (pss_cons (ps_expr (pe_call GL hr (by rfl) gL FL.kp bL .nil (L2N.passes_call (W := fun cls d _ H => E cls d H) (L2N.takes_of rfl rfl rfl rfl) (fun _ _ _ _ h => h)) (pa_cons (pv 3) (pa_cons (pv 4) (pa_cons (pv 0) pa_nil)))))
        (pss_cons (ps_expr (pe_bm PySem.F.plainAttrs_list PySem.F.slot_list_append PySem.F.type_list_append mt_append (pe_ix ix_list (pv 2) (pv 3) (fun _ _ => rfl)) (pa_cons (pv 4) pa_nil)))
        (pss_one (ps_expr (pe_bm PySem.F.plainAttrs_list PySem.F.slot_list_append PySem.F.type_list_append mt_append (pe_ix ix_list (pv 2) (pv 4) (fun _ _ => rfl)) (pa_cons (pv 3) pa_nil)))))))
      (pss_one (ps_ret (pv 2)))), ?_⟩
    -- near = [[] for stop in range(count)]
    refine ⟨_, rfl, n, rfl, by omega, by omega, fun D hD => ?_⟩
    have nDl : l ≠ D := ne_of_none hl hD
    refine lc_range (lo := 0) (n := (n : Int).toNat) (fun i H' => Same H H' ∧ ∃ as : List Addr, H' D = some (.lst (as.map V.ref)) ∧ All2 (NearAt1 H') as (List.replicate i []) ∧ as.Nodup ∧ D ∉ as ∧ ∀ a, a ∈ as → H a = none)
      ⟨same_upd hD, [], upd_same, .nil, List.nodup_nil, by simp, by simp⟩ ?_ ?_
    · rintro i H1 hi ⟨sm, as, eD, hA, nd, nm, hnew⟩
      refine ⟨rfl, ?_⟩
      refine tYes_if ?_
      refine ⟨Nat.zero_le _, fun p hp => ?_⟩
      have hD1 : H1 D = some (.lst (as.map V.ref)) := eD
      have npD : D ≠ p := ne_of_none hD1 hp
      have npa : ∀ a, a ∈ as → a ≠ p := fun a m => by
        obtain ⟨j, hj⟩ := List.getElem?_of_mem m
        obtain ⟨b, _, r⟩ := hA.getL hj
        exact ne_of_none r hp
      have hil : i < n := by omega
      refine ⟨as.map V.ref, by rw [upd_ne npD]; exact eD, small_line (by rw [List.length_map, hA.len, List.length_replicate]; omega), ?_, as ++ [p], ?_, ?_, ?_, ?_, ?_⟩
      · exact upd_out (sm.trans (same_upd hp)) hD
      · rw [upd_same, List.map_append]
        rfl
      · rw [List.replicate_succ']
        refine All2.app (hA.imp_mem fun a b m r => ?_) (All2.one ?_)
        · show upd (upd H1 p _) D _ a = _
          rw [upd_ne (show a ≠ D from fun z => nm (by rw [← z]; exact m)), upd_ne (npa a m)]
          exact r
        · show upd (upd H1 p _) D _ p = _
          rw [upd_ne npD.symm, upd_same]
          rfl
      · refine List.nodup_append.mpr ⟨nd, by simp, fun a m b m2 => ?_⟩
        rw [List.mem_singleton.mp m2]
        exact npa a m
      · intro m
        rcases List.mem_append.mp m with m | m
        · exact nm m
        · exact npD (List.mem_singleton.mp m)
      · intro a m
        rcases List.mem_append.mp m with m | m
        · exact hnew a m
        · rw [List.mem_singleton.mp m]
          exact sm.free hp
    · rintro H1 ⟨sm, as, eD, hA, nd, nm, hnew⟩
      rw [Int.toNat_natCast] at hA
      -- for one, other in links
      refine ⟨_, rfl, l, rfl, ⟨_, SqL.of (sm _ _ hl)⟩, for_list (K := K) (a := l) (xs := asL.map V.ref) (fun i σ H2 => ∃ (y3 y4 : Option V) (near : List (List Nat)), σ = [some (.int n), some (.ref l), some (.ref D), y3, y4, none] ∧ Same H H2 ∧
          H2 D = some (.lst (as.map V.ref)) ∧ All2 (NearAt1 H2) as near ∧ NearOk n (lks.take i) near ∧ (∀ q, q ∈ lks.take i → LinkOk n q))
        ⟨none, none, List.replicate n [], rfl, sm, eD, hA, NearOk.init n, by simp⟩ (fun i σ H2 _ ⟨_, _, _, _, s2, _⟩ => SqL.of (s2 _ _ hl)) ?_ ?_⟩
      · rintro i x σ H2 hi ⟨y3, y4, near, rfl, s2, eD2, hA2, hN, hok⟩
        obtain ⟨a0, ha0, rfl⟩ : ∃ a0, asL[i]? = some a0 ∧ x = V.ref a0 := by
          rw [List.getElem?_map] at hi
          cases e : asL[i]? with
          | none =>
            rw [e] at hi
            cases hi
          | some a0 =>
            rw [e] at hi
            exact ⟨a0, rfl, (Option.some.inj hi).symm⟩
        obtain ⟨q, hq, hqa⟩ := hL.getL ha0
        obtain ⟨u, v⟩ := q
        have hqa2 : H2 a0 = some (.tup [.int u, .int v]) := s2 _ _ hqa
        have hmem : (u, v) ∈ lks := List.mem_of_getElem? hq
        -- one, other = the pair; _check_link(one, other, count)
        refine ⟨a0, _, rfl, SqT.of hqa2, rfl, _, _, rfl, _, _, rfl, rfl, ?_⟩
        refine ⟨_, rfl, _, rfl, _, rfl, u, v, n, rfl, by omega, fun lo => ?_, fun lo => q2 ⟨(u, v), hmem, lo⟩ H2 s2⟩
        obtain ⟨⟨u0, un⟩, ⟨v0, vn⟩, uv⟩ := id lo
        obtain ⟨a, rfl⟩ : ∃ a : Nat, u = (a : Int) := ⟨u.toNat, by have : 0 ≤ u := u0; omega⟩
        obtain ⟨b, rfl⟩ : ∃ b : Nat, v = (b : Int) := ⟨v.toNat, by have : 0 ≤ v := v0; omega⟩
        have han : a < n := by have : (a : Int) < n := un; omega
        have hbn : b < n := by have : (b : Int) < n := vn; omega
        have hab : a ≠ b := fun z => uv (by rw [z])
        obtain ⟨na, ena⟩ : ∃ na, near[a]? = some na := ⟨near[a]'(by rw [hN.len]; exact han), List.getElem?_eq_getElem _⟩
        obtain ⟨nb, enb⟩ : ∃ nb, near[b]? = some nb := ⟨near[b]'(by rw [hN.len]; exact hbn), List.getElem?_eq_getElem _⟩
        obtain ⟨aa, eaa, ra⟩ := hA2.get ena
        obtain ⟨ab, eab, rb⟩ := hA2.get enb
        have naab : ab ≠ aa := fun z => hab (nd_ix nd eaa (by rw [← z]; exact eab))
        have ltk : (lks.take i).length ≤ lks.length := by rw [List.length_take]; omega
        have sa : na.length ≤ 100000 := near_small hN (by omega) ena
        have sb : nb.length ≤ 100000 := near_small hN (by omega) enb
        have nDa : D ≠ aa := fun z => nm (z ▸ List.mem_of_getElem? eaa)
        have nDb : D ≠ ab := fun z => nm (z ▸ List.mem_of_getElem? eab)
        -- near[one].append(other)
        refine ⟨_, rfl, _, rfl, D, _, _, _, rfl, rfl, SqL.of eD2, at_of (j := a) (v := V.ref aa) rfl (by rw [List.getElem?_map, eaa]; rfl), .inl ⟨rfl, _, SqL.of ra⟩, _, rfl, aa, _, _, rfl, rfl, ra, small_line (by rw [List.length_map]; omega), ?_⟩
        have s3 : Same H (upd H2 aa (.lst ((na.map fun (k : Nat) => V.int (k : Nat)) ++ [V.int (b : Nat)]))) := upd_out s2 (hnew _ (List.mem_of_getElem? eaa))
        have hA3 := near_upd hA2 nd eaa b ena rfl
        have enb' : (near.set a (na ++ [b]))[b]? = some nb := by rw [List.getElem?_set, if_neg hab, enb]
        have rb' := hA3.at eab enb'
        -- near[other].append(one)
        refine ⟨_, rfl, _, rfl, D, _, _, _, rfl, rfl, SqL.of (by rw [upd_ne nDa]; exact eD2), at_of (j := b) (v := V.ref ab) rfl (by rw [List.getElem?_map, eab]; rfl), .inl ⟨rfl, _, SqL.of rb'⟩, _, rfl, ab, _, _, rfl, rfl, rb', small_line (by rw [List.length_map]; omega), ?_⟩
        have hA4 := near_upd hA3 nd eab a enb' rfl
        have htk : lks.take (i + 1) = lks.take i ++ [((a : Int), (b : Int))] := by
          rw [List.take_add_one, hq]
          rfl
        refine ⟨_, _, _, rfl, upd_out s3 (hnew _ (List.mem_of_getElem? eab)), by rw [upd_ne nDb, upd_ne nDa]; exact eD2, hA4, ?_, ?_⟩
        · rw [htk]
          exact hN.more hab ena enb
        · rw [htk]
          intro q m
          rcases List.mem_append.mp m with m | m
          · exact hok q m
          · rw [List.mem_singleton.mp m]
            exact lo
      · rintro σ H2 ⟨y3, y4, near, rfl, s2, eD2, hA2, hN, hok⟩
        have hlen : lks.take (asL.map V.ref).length = lks := by
          rw [List.length_map, hL.len, List.take_length]
        rw [hlen] at hN hok
        exact ⟨_, rfl, q1 hok near H2 D s2 hD ⟨as, eD2, hA2, hnew⟩ hN⟩
/-! ### Web.__init__ -/
def Kept (H H' : Hp) (p : Addr) : Prop := ∀ b o, H b = some o → b ≠ p → H' b = some o
theorem Kept.of {H H1 H2 : Hp} {p : Addr} (a : Kept H H1 p) (b : Same H1 H2) : Kept H H2 p := fun c o e n => b c o (a c o e n)
theorem Kept.put {H H1 : Hp} {p : Addr} {o : HO} (a : Kept H H1 p) : Kept H (upd H1 p o) p := fun c x e n => by
  rw [upd_ne n]
  exact a c x e n
/-- the web is one of objects that are new since H: what becomes of the others is no matter -/
def Stays (C : Addr) (H H' : Hp) (p : Addr) (zs : List Int) (lks : List Lk) (near : List (List Nat)) : Prop :=
  ∀ H'' : Hp, (∀ b o, H' b = some o → (H b = none ∨ b = p ∨ ∃ xs, o = .tup xs) → H'' b = some o) → WebAt C H'' p zs lks near
theorem Kept.new {H H1 : Hp} {p b : Addr} (k : Kept H H1 p) (n : H1 b = none) (np : b ≠ p) : H b = none := by
  cases e : H b with
  | none => rfl
  | some o =>
    rw [k b o e np] at n
    cases n
def spInit (K : PySem.W.Frag) (C CL : Addr) : L2.Sp := fun vs H Q E => ∃ (p dx za la : Addr) (zs : List Int) (lks : List Lk), vs = [.ref p, .ref za, .ref la] ∧ H p = some (.ins C dx []) ∧ SqL K H za (zs.map V.int) ∧ (∀ H', Kept H H' p → SqL K H' za (zs.map V.int)) ∧
  LinksAt H la lks ∧ 2 * lks.length + zs.length ≤ 100000 ∧
  ((∀ q, q ∈ lks → LinkOk zs.length q) → ∀ (near : List (List Nat)) (H' : Hp), Kept H H' p → WebAt C H' p zs lks near → Stays C H H' p zs lks near → Q .non H') ∧
  ((∃ q, q ∈ lks ∧ ¬ LinkOk zs.length q) → ∀ H', Kept H H' p → E (.ref CL) none H')
theorem ok_init {f fN fI fL : Addr} {fd fdN fdI fdL : FuncData} (F : Fun K "__init__" "Web.__init__" sInit f fd) (T : Txt K mg C CL CS CN) (FI : Fun K "_is_stop" "_is_stop" sIsStop fI fdI) (bI : Binds K fdI ["stop", "count"] []) (gI : mg "_is_stop" = some (.ref fI))
    (FL : Fun K "_check_link" "_check_link" sCheckLink fL fdL) (bL : Binds K fdL ["one", "other", "count"] []) (gL : mg "_check_link" = some (.ref fL)) (FN : Fun K "_neighbours" "_neighbours" sNeigh fN fdN) (bN : Binds K fdN ["count", "links"] []) (gN : mg "_neighbours" = some (.ref fN)) :
    FnOk P w K mg base (L2N.CX P w) 4 f fd ["self", "zones", "links"] (spInit K C CL) := by
  have GN : FnOk P w K mg base (L2N.CX P w) 3 fN fdN ["count", "links"] (spNeigh CL) := ok_neigh FN T FI bI gI FL bL gL
  refine okN F scInit (fun vs H Q E h => ?_) (fun cdv A outer s H vs Q E hr h => ?_)
  · obtain ⟨p, dx, za, la, zs, lks, rfl, _⟩ := h
    rfl
  · obtain ⟨p, dx, za, la, zs, lks, rfl, hp, hz, hzk, hl, hn, q1, q2⟩ := h
    refine ⟨_, pss_cons (ps_fld (pv 0) (pe_callTy call_list_of (by rfl) T.list (by decide +kernel) (pa_cons (pv 1) pa_nil)) rfl)
      (pss_cons (ps_fld (pv 0) (pe_callTy call_list_of (by rfl) T.list (by decide +kernel) (pa_cons (pv 2) pa_nil)) rfl)
      (pss_one (ps_fld (pv 0) (pe_call GN hr (by rfl) gN FN.kp bN .nil (L2N.passes_call (W := fun cls d _ H => E cls d H) (L2N.takes_of rfl rfl rfl rfl) (fun _ _ _ _ h => h))
        (pa_cons (pe_callB call_len_seq (by rfl) T.len PySem.boot_len (pa_cons (pv 1) pa_nil)) (pa_cons (pv 2) pa_nil))) rfl))), ?_⟩
    -- self.zones = list(zones)
    refine ⟨_, rfl, za, _, rfl, .inl hz, fun zl nz => ?_⟩
    have pz : p ≠ zl := ne_of_none hp nz
    have k1 : Kept H (upd H zl (.lst (zs.map V.int))) p := fun b o e n => by rw [upd_ne (ne_of_none e nz)]; exact e
    refine ⟨_, rfl, p, C, dx, [], rfl, by rw [upd_ne pz]; exact hp, T.cl, T.nZ, by show 0 < 1000; decide, ?_⟩
    obtain ⟨H1, e1⟩ : ∃ H1, H1 = upd (upd H zl (.lst (zs.map V.int))) p (.ins C dx (putF "zones" (.ref zl) [])) := ⟨_, rfl⟩
    rw [← e1]
    have k2 : Kept H H1 p := e1 ▸ k1.put
    have hz1 : H1 zl = some (.lst (zs.map V.int)) := by rw [e1, upd_ne pz.symm, upd_same]
    have hp1 : H1 p = some (.ins C dx (putF "zones" (.ref zl) [])) := by rw [e1, upd_same]
    have hl1 : LinksAt H1 la lks := hl.to (fun b xs e => k2 b _ e (ne_of e hp (by intro z; cases z))) (fun as e => k2 la _ e (ne_of e hp (by intro z; cases z)))
    clear e1
    obtain ⟨asL, ela, hLa⟩ := id hl1
    -- self.links = list(links)
    refine ⟨_, rfl, la, _, rfl, .inl (SqL.of ela), fun ll nl => ?_⟩
    have pl : p ≠ ll := ne_of_none hp1 nl
    have zl2 : zl ≠ ll := ne_of_none hz1 nl
    refine ⟨_, rfl, p, C, dx, _, rfl, by rw [upd_ne pl]; exact hp1, T.cl, T.nL, by show 1 < 1000; decide, ?_⟩
    obtain ⟨H2, e2⟩ : ∃ H2, H2 = upd (upd H1 ll (.lst (asL.map V.ref))) p (.ins C dx (putF "links" (.ref ll) (putF "zones" (.ref zl) []))) := ⟨_, rfl⟩
    rw [← e2]
    have k3 : Kept H1 H2 p := e2 ▸ Kept.put fun b o e n => by rw [upd_ne (ne_of_none e nl)]; exact e
    have k4 : Kept H H2 p := fun b o e n => k3 b o (k2 b o e n) n
    have hz2 : H2 zl = some (.lst (zs.map V.int)) := k3 _ _ hz1 pz.symm
    have hp2 : H2 p = some (.ins C dx (putF "links" (.ref ll) (putF "zones" (.ref zl) []))) := by rw [e2, upd_same]
    have hll : H2 ll = some (.lst (asL.map V.ref)) := by rw [e2, upd_ne pl.symm, upd_same]
    have hl2 : LinksAt H2 la lks := hl1.to (fun b xs e => k3 b _ e (ne_of e hp1 (by intro z; cases z))) (fun as e => k3 la _ e (ne_of e hp1 (by intro z; cases z)))
    have hl3 : LinksAt H2 ll lks := ⟨asL, hll, hLa.imp fun a b r => k3 _ _ r (ne_of r hp1 (by intro z; cases z))⟩
    clear e2
    -- self._near = _neighbours(len(zones), links)
    refine ⟨_, rfl, za, _, rfl, .inl (hzk H2 k4), _, rfl, zs.length, la, lks, ?_, hl2, hn, fun ok near H3 nl3 s3 n3 hn3 hok => ?_, fun bad H3 s3 => q2 bad H3 (k4.of s3)⟩
    · rw [List.length_map]
      rfl
    have hp3 := s3 _ _ hp2
    have np : p ≠ nl3 := ne_of_none hp2 n3
    refine ⟨_, rfl, p, C, dx, _, rfl, hp3, T.cl, T.nN, by show 2 < 1000; decide, ?_⟩
    obtain ⟨asN, enl, hAN, hnewN⟩ := hn3
    obtain ⟨H4, e4⟩ : ∃ H4, H4 = upd H3 p (.ins C dx (wf zl ll nl3)) := ⟨_, rfl⟩
    have kk : ∀ b o, H3 b = some o → b ≠ p → H4 b = some o := fun b o e n => by rw [e4, upd_ne n]; exact e
    have hp4 : H4 p = some (.ins C dx (wf zl ll nl3)) := by rw [e4, upd_same]
    have k5 : Kept H H4 p := e4 ▸ (k4.of s3).put
    have hz4 := kk _ _ (s3 _ _ hz2) pz.symm
    have hll4 := kk _ _ (s3 _ _ hll) pl.symm
    have hL4 : All2 (LinkAt H4) asL lks := hLa.imp fun a b r => kk a _ (s3 a _ (k3 a _ r (ne_of r hp1 (by intro z; cases z)))) (ne_of (s3 a _ (k3 a _ r (ne_of r hp1 (by intro z; cases z)))) hp3 (by intro z; cases z))
    have hnl4 : H4 nl3 = some (.lst (asN.map V.ref)) := kk _ _ enl np.symm
    have hN4 : All2 (NearAt1 H4) asN near := hAN.imp fun a b r => kk a _ r (ne_of r hp3 (by intro z; cases z))
    have stays : Stays C H H4 p zs lks near := fun H'' keep => ⟨⟨dx, zl, ll, nl3, keep _ _ hp4 (.inr (.inl rfl)), keep _ _ hz4 (.inl nz), ⟨asL, keep _ _ hll4 (.inl (k2.new nl pl.symm)), hL4.imp fun a b r => keep a _ r (.inr (.inr ⟨_, rfl⟩))⟩,
      ⟨asN, keep _ _ hnl4 (.inl (k4.new n3 np.symm)), hN4.imp_mem fun a b m r => keep a _ r (.inl (k4.new (hnewN a m) (ne_of r hp4 (by intro z; cases z))))⟩⟩, hok, ok, hn⟩
    have fin := q1 ok near H4 k5 (stays H4 fun b o e _ => e) stays
    rw [e4] at fin
    exact fin
/-! ### Web._check_stop -/
def spCheckStop (C CS : Addr) : L2.Sp := fun vs H Q E => ∃ (p : Addr) (i : Int) (zs : List Int) (lks : List Lk) (near : List (List Nat)), vs = [.ref p, .int i] ∧ WebAt C H p zs lks near ∧
  ((0 ≤ i ∧ i < zs.length) → Q .non H) ∧ (¬ (0 ≤ i ∧ i < zs.length) → E (.ref CS) none H)
theorem ok_checkStop {f fI : Addr} {fd fdI : FuncData} (F : Fun K "_check_stop" "Web._check_stop" sCheckStop f fd) (T : Txt K mg C CL CS CN) (FI : Fun K "_is_stop" "_is_stop" sIsStop fI fdI) (bI : Binds K fdI ["stop", "count"] []) (gI : mg "_is_stop" = some (.ref fI)) :
    FnOk P w K mg base (L2N.CX P w) 2 f fd ["self", "stop"] (spCheckStop C CS) := by
  have GI : FnOk P w K mg base CX0 1 fI fdI ["stop", "count"] spIsStop := ok_isStop FI
  refine okN F scCheckStop (fun vs H Q E h => ?_) (fun cdv A outer s H vs Q E hr h => ?_)
  · obtain ⟨p, i, zs, lks, near, rfl, _⟩ := h
    rfl
  · obtain ⟨p, i, zs, lks, near, rfl, W, q1, q2⟩ := h
    obtain ⟨⟨dx, zl, ll, nl, h1, h2, h3, ⟨as, h4, hA⟩⟩, ok, _, _⟩ := id W
    refine ⟨_, pss_one (ps_if (pt_not (pt_val (pe_call GI hr (by rfl) gI FI.kp bI .nil pass0 (pa_cons (pv 1) (pa_cons (pe_callB call_len_seq (by rfl) T.len PySem.boot_len (pa_cons (pe_fld (pv 0) rfl) pa_nil)) pa_nil)))))
        (pss_one (L2N.ps_raise rfl (L2N.takes_of rfl rfl rfl rfl) (pmk_msg T.eS rfl))) pss_nil), ?_⟩
    have elen : ((as.map V.ref).length : Int) = zs.length := by rw [List.length_map, hA.len, ok.len]
    refine ⟨_, rfl, _, rfl, p, C, dx, _, _, rfl, h1, T.cl, T.nN, wf_near _ _ _, nl, _, rfl, .inl (SqL.of h4), i, zs.length, by rw [elen]; rfl, _, rfl, ?_⟩
    refine ite2 (fun e => ?_) (fun e => ?_)
    · exact q2 (nd_of e)
    · exact q1 (d_of e)
/-! ### Web._fill_level -/
def Frame (H H' : Hp) (la oa : Addr) : Prop := ∀ b o, H b = some o → b ≠ la → b ≠ oa → H' b = some o
theorem Frame.same {H0 H H' : Hp} {la oa : Addr} (f : Frame H H' la oa) (s : Same H0 H) (n1 : H0 la = none) (n2 : H0 oa = none) : Same H0 H' := fun b o e => f b o (s b o e) (ne_of_none e n1) (ne_of_none e n2)
def spFill (C : Addr) : L2.Sp := fun vs H Q _ => ∃ (p ea la oa : Addr) (lv s t B : Nat) (zs : List Int) (lks : List Lk) (near : List (List Nat)) (S : List Sp) (L O : Lv) (r : Nat → Nat) (H0 : Hp), vs = [.ref p, .int lv, .ref ea, .ref la, .ref oa] ∧
  WebAt C H0 p zs lks near ∧ Same H0 H ∧ H0 la = none ∧ H0 oa = none ∧ la ≠ oa ∧ Stk H ea S ∧ H la = some (.lst (L.map optV)) ∧ H oa = some (.lst (O.map optV)) ∧ Srch near zs s lv S [] L O r t ∧ t + S.length + pot near L ≤ B ∧ B ≤ 150000 ∧
  ∀ (On : List Sp) (L' O' : Lv) (r' : Nat → Nat) (t' : Nat) (H' : Hp) (on : Addr), Frame H H' la oa → H on = none → Stk H' on On → H' la = some (.lst (L'.map optV)) → H' oa = some (.lst (O'.map optV)) → Srch near zs s lv [] On L' O' r' t' →
    t' + On.length + pot near L' ≤ B → (S ≠ [] → On.length + pot near L' < S.length + pot near L) → Q (.ref on) H'
theorem push_step {H : Hp} {l t : Addr} {x y : Nat} {as : List Addr} {ps : List Sp} (hl : H l = some (.lst (as.map V.ref))) (ha : All2 (StepAt H) as ps) (nt : H t = none) :
    Stk (upd (upd H t (.tup [.int (x : Nat), .int (y : Nat)])) l (.lst (as.map V.ref ++ [.ref t]))) l (ps ++ [(x, some y)]) ∧
    (∀ b o, H b = some o → b ≠ l → upd (upd H t (.tup [.int (x : Nat), .int (y : Nat)])) l (.lst (as.map V.ref ++ [.ref t])) b = some o) := by
  have k : ∀ b o, H b = some o → b ≠ l → upd (upd H t (.tup [.int (x : Nat), .int (y : Nat)])) l (.lst (as.map V.ref ++ [.ref t])) b = some o := fun b o e n => by
    rw [upd_ne n, upd_ne (ne_of_none e nt)]
    exact e
  refine ⟨⟨as ++ [t], by rw [upd_same, List.map_append]; rfl, All2.app (ha.imp fun a b r => k _ _ r (ne_of r hl (by intro z; cases z))) (All2.one ?_)⟩, k⟩
  show upd (upd H t _) l _ t = _
  rw [upd_ne (ne_of_none hl nt).symm, upd_same]
  rfl
theorem take_filter {l : List Nat} {i x : Nat} (h : l[i]? = some x) (p : Nat → Bool) (v : Nat) :
    ((l.take (i + 1)).filter p).map (fun x => (x, some v)) = ((l.take i).filter p).map (fun x => (x, some v)) ++ (if p x = true then [(x, some v)] else []) := by
  rw [List.take_add_one, h, List.filter_append, List.map_append]
  by_cases c : p x = true
  · simp [c]
  · simp [c]
theorem filter_two (p : Nat → Bool) : ∀ l : List Nat, (l.filter p).length + (l.filter fun x => !p x).length = l.length
  | [] => rfl
  | a :: l => by
    have ih := filter_two p l
    cases c : p a with
    | true => simp [c]; omega
    | false => simp [c]; omega
theorem ixN_nat {n i : Nat} (h : i < n) : ixN n (i : Int) = some i := by
  unfold ixN
  rw [if_pos (Int.natCast_nonneg i), if_pos (Int.ofNat_lt.mpr h)]
  rfl
theorem ok_fill {f : Addr} {fd : FuncData} (F : Fun K "_fill_level" "Web._fill_level" sFill f fd) (T : Txt K mg C CL CS CN) : FnOk P w K mg base CX0 1 f fd ["self", "level", "entries", "levels", "origins"] (spFill C) := by
  refine F.ok scFill (fun vs H Q E h => ?_) (fun cdv A outer s0 H vs Q E hr h => ?_)
  · obtain ⟨p, ea, la, oa, lv, s, t, B, zs, lks, near, S, L, O, r, H0, rfl, _⟩ := h
    rfl
  · obtain ⟨p, ea, la, oa, lv, s, t, B, zs, lks, near, S, L, O, r, H0, rfl, W, sm0, n0l, n0o, nlo, ⟨asE, hE, hEA⟩, hL, hO, R, hB, hB2, q⟩ := h
    obtain ⟨⟨dx, zl, ll, nl, h1, h2, h3, ⟨asN, h4, hN⟩⟩, ok, _, _⟩ := id W
    refine ⟨_, pss_cons (ps_set (i := 5) scFill.nd rfl (.inl rfl) (pe_callTy call_list_of (by rfl) T.list (by decide +kernel) (pa_cons (pv 2) pa_nil)))
      (pss_cons (ps_set (i := 6) scFill.nd rfl (.inl rfl) (pe_lst pa_nil))
      (pss_cons (ps_while PassesOwn.never (pt_truth (pv 5) (by intro _; rfl))
        (pss_cons (ps_asg (pe_bm0 PySem.F.plainAttrs_list PySem.F.slot_list_pop PySem.F.type_list_pop mt_pop (pv 5)) (pg_tup rfl (pgs_cons (pg_name (i := 7) scFill.nd rfl (.inl rfl)) (pgs_cons (pg_name (i := 8) scFill.nd rfl (.inl rfl)) pgs_nil))))
        (pss_one (ps_if (pt_cmpR op_isN (pe_ix ix_list (pv 3) (pv 7) (fun _ _ => rfl)) pe_non (nomark _))
          (pss_cons (ps_asg (pv 1) (pg_sub (pv 3) (pv 7) set_list))
          (pss_cons (ps_asg (pv 8) (pg_sub (pv 4) (pv 7) set_list))
          (pss_one (ps_for PassesOwn.never rfl (pi_list (pe_ix ix_list (pe_fld (pv 0) rfl) (pv 7) (fun _ _ => rfl))) (pg_name (i := 9) scFill.nd rfl (.inl rfl))
            (pss_one (ps_if (pt_cmpR op_eq (pe_ix ix_list (pe_fld (pv 0) rfl) (pv 9) (fun _ _ => rfl)) (pe_ix ix_list (pe_fld (pv 0) rfl) (pv 7) (fun _ _ => rfl)) (nomark _))
              (pss_one (ps_expr (pe_bm PySem.F.plainAttrs_list PySem.F.slot_list_append PySem.F.type_list_append mt_append (pv 5) (pa_cons (pe_tup (pa_cons (pv 9) (pa_cons (pv 7) pa_nil))) pa_nil))))
              (pss_one (ps_expr (pe_bm PySem.F.plainAttrs_list PySem.F.slot_list_append PySem.F.type_list_append mt_append (pv 6) (pa_cons (pe_tup (pa_cons (pv 9) (pa_cons (pv 7) pa_nil))) pa_nil)))))))))) pss_nil))))
      (pss_one (ps_ret (pv 6))))), ?_⟩
    -- steps = list(entries); onward = []
    refine ⟨_, rfl, ea, _, rfl, .inl (SqL.of hE), fun sl nsl => ?_⟩
    refine ⟨Nat.zero_le _, fun on non => ?_⟩
    have nso : sl ≠ on := ne_of_none (upd_same) non
    obtain ⟨H1, e1⟩ : ∃ H1, H1 = upd (upd H sl (.lst (asE.map V.ref))) on (.lst []) := ⟨_, rfl⟩
    rw [← e1]
    have k1 : Same H H1 := e1 ▸ (same_upd nsl).trans (same_upd non)
    have hs1 : H1 sl = some (.lst (asE.map V.ref)) := by rw [e1, upd_ne nso, upd_same]
    have ho1 : H1 on = some (.lst []) := by rw [e1, upd_same]
    have non0 : H on = none := (same_upd nsl).free non
    clear e1
    have nsl_la : sl ≠ la := (ne_of_none hL nsl).symm
    have nsl_oa : sl ≠ oa := (ne_of_none hO nsl).symm
    have non_la : on ≠ la := (ne_of_none hL non0).symm
    have non_oa : on ≠ oa := (ne_of_none hO non0).symm
    refine ⟨fun m σ H2 => ∃ (S2 On2 : List Sp) (La Oa : Lv) (r2 : Nat → Nat) (t2 : Nat) (y7 y8 y9 : Option V), σ = [some (.ref p), some (.int lv), some (.ref ea), some (.ref la), some (.ref oa), some (.ref sl), some (.ref on), y7, y8, y9] ∧
        m = S2.length + pot near La ∧ Frame H H2 la oa ∧ Stk H2 sl S2 ∧ Stk H2 on On2 ∧ H2 la = some (.lst (La.map optV)) ∧ H2 oa = some (.lst (Oa.map optV)) ∧ Srch near zs s lv S2 On2 La Oa r2 t2 ∧
        t2 + S2.length + On2.length + pot near La ≤ B ∧ (S2.length + On2.length + pot near La < S.length + pot near L ∨ (S2 = S ∧ On2 = [] ∧ La = L)),
      ⟨_, S, [], L, O, r, t, none, none, none, rfl, rfl, fun b o e _ _ => k1 b o e, ⟨asE, hs1, hEA.imp fun a b r => k1 _ _ r⟩, ⟨[], ho1, .nil⟩, k1 _ _ hL, k1 _ _ hO, R, hB, .inr ⟨rfl, rfl, rfl⟩⟩, ?_⟩
    rintro m σ H2 ⟨S2, On2, La, Oa, r2, t2, y7, y8, y9, rfl, rfl, fr, ⟨as2, hs2, hA2⟩, hOn, hL2, hO2, R2, hB3, hd⟩
    refine ⟨_, rfl, _, .inl ⟨_, SqL.of hs2, rfl⟩, ?_⟩
    refine ite2 (fun e => ?_) (fun e => ?_)
    · -- a step is taken off
      obtain ⟨S3, vo, rfl⟩ : ∃ S3 vo, S2 = S3 ++ [vo] := by
        rcases List.eq_nil_or_concat S2 with z | ⟨S3, vo, z⟩
        · subst z
          cases hA2
          exact absurd e (by simp)
        · exact ⟨S3, vo, by rw [z, List.concat_eq_append]⟩
      obtain ⟨v, o⟩ := vo
      obtain ⟨as3, a0, rfl, hA3, ra⟩ := hA2.snoc
      obtain ⟨hv, wv, ov⟩ := R2.st v o (List.mem_append_right _ List.mem_cons_self)
      have hvL : v < La.length := by rw [R2.lenL]; exact hv
      have hvO : v < Oa.length := by rw [R2.lenO]; exact hv
      have epop : ((as3 ++ [a0]).map V.ref)[((as3 ++ [a0]).map V.ref).length - 1]? = some (V.ref a0) := by
        simp
      have edrop : ((as3 ++ [a0]).map V.ref).dropLast = as3.map V.ref := by
        rw [List.map_append]
        exact List.dropLast_concat
      refine ⟨_, fun σ' H' z => z, ?_⟩
      refine ⟨_, rfl, .inl ⟨rfl, _, SqL.of hs2⟩, sl, _, _, rfl, rfl, hs2, epop, ?_⟩
      rw [edrop]
      obtain ⟨H3, e3⟩ : ∃ H3, H3 = upd H2 sl (.lst (as3.map V.ref)) := ⟨_, rfl⟩
      rw [← e3]
      have k3 : ∀ b o, H2 b = some o → b ≠ sl → H3 b = some o := fun b o z n => by rw [e3, upd_ne n]; exact z
      have hs3 : H3 sl = some (.lst (as3.map V.ref)) := by rw [e3, upd_same]
      clear e3
      have kt3 : ∀ b xs, H2 b = some (.tup xs) → H3 b = some (.tup xs) := fun b xs z => k3 b _ z (ne_of z hs2 (by intro z; cases z))
      have fr3 : Frame H H3 la oa := fun b o z n1 n2 => k3 b o (fr b o z n1 n2) (ne_of_none z nsl)
      have hOn3 : Stk H3 on On2 := hOn.to kt3 fun as z => k3 _ _ z nso.symm
      have hL3 := k3 _ _ hL2 nsl_la.symm
      have hO3 := k3 _ _ hO2 nsl_oa.symm
      have sm3 : Same H0 H3 := fr3.same sm0 n0l n0o
      have ra3 : H3 a0 = some (.tup [.int (v : Nat), optV o]) := kt3 _ _ ra
      have gL : (La.map optV)[v]? = some (optV (lk La v)) := by rw [List.getElem?_map, lk_get hvL]; rfl
      -- stop, origin = steps.pop()
      refine ⟨a0, _, rfl, SqT.of ra3, rfl, _, _, rfl, _, _, rfl, rfl, ?_⟩
      -- if levels[stop] is None
      refine ⟨_, rfl, _, rfl, la, _, _, _, rfl, rfl, SqL.of hL3, at_of (j := v) rfl gL, rfl, _, rfl, ?_⟩
      refine ite2 (fun e => ?_) (fun e => ?_)
      · have eN : lk La v = none := of_decide_eq_true ((optV_non _).symm.trans e)
        -- levels[stop] = level; origins[stop] = origin
        refine ⟨_, rfl, _, rfl, _, rfl, la, _, _, v, rfl, rfl, hL3, ixN_nat (by rw [List.length_map]; exact hvL), ?_⟩
        refine ⟨_, rfl, _, rfl, _, rfl, oa, _, _, v, rfl, rfl, by rw [upd_ne nlo.symm]; exact hO3, ixN_nat (by rw [List.length_map]; exact hvO), ?_⟩
        obtain ⟨H4, e4⟩ : ∃ H4, H4 = upd (upd H3 la (.lst ((La.map optV).set v (.int lv)))) oa (.lst ((Oa.map optV).set v (optV o))) := ⟨_, rfl⟩
        rw [← e4]
        have k4 : ∀ b o, H3 b = some o → b ≠ la → b ≠ oa → H4 b = some o := fun b o z n1 n2 => by rw [e4, upd_ne n2, upd_ne n1]; exact z
        have hL4 : H4 la = some (.lst ((La.set v (some lv)).map optV)) := by
          rw [e4, upd_ne nlo, upd_same, List.map_set]
          rfl
        have hO4 : H4 oa = some (.lst ((Oa.set v o).map optV)) := by
          rw [e4, upd_same, List.map_set]
        clear e4
        have fr4 : Frame H H4 la oa := fun b o z n1 n2 => k4 b o (fr3 b o z n1 n2) n1 n2
        have sm4 : Same H0 H4 := fr4.same sm0 n0l n0o
        have kt4 : ∀ b xs, H3 b = some (.tup xs) → H4 b = some (.tup xs) := fun b xs z => k4 b _ z (ne_of z hL3 (by intro z; cases z)) (ne_of z hO3 (by intro z; cases z))
        have hs4 : H4 sl = some (.lst (as3.map V.ref)) := k4 _ _ hs3 nsl_la nsl_oa
        have hA4 : All2 (StepAt H4) as3 S3 := hA3.imp fun a b r => kt4 _ _ (kt3 _ _ r)
        have hOn4 : Stk H4 on On2 := hOn3.to kt4 fun as z => k4 _ _ z non_la non_oa
        -- the neighbours
        obtain ⟨ln, eln⟩ : ∃ ln, near[v]? = some ln := ⟨near[v]'(by rw [ok.len]; exact hv), List.getElem?_eq_getElem _⟩
        obtain ⟨an, ean, rn⟩ := hN.get eln
        have hln : ∀ x, x ∈ ln → x < zs.length := fun x m => W.near_lt ⟨ln, eln, m⟩
        have epot : pot near (La.set v (some lv)) + ln.length + 1 = pot near La := pot_set eln (by rw [lk_get hvL, eN])
        obtain ⟨zv, ezv⟩ : ∃ zv, zs[v]? = some zv := ⟨zs[v], List.getElem?_eq_getElem hv⟩
        have hB4 : S3.length + On2.length + ln.length + 2 ≤ B := by
          rw [List.length_append] at hB3
          have : [(v, o)].length = 1 := rfl
          omega
        have sz : ∀ i, ((ln.take i).filter fun x => decide (zs[x]? = zs[v]?)).length ≤ ln.length := fun i => Nat.le_trans (List.length_filter_le _ _) (by rw [List.length_take]; omega)
        have sz2 : ∀ i, ((ln.take i).filter fun x => !decide (zs[x]? = zs[v]?)).length ≤ ln.length := fun i => Nat.le_trans (List.length_filter_le _ _) (by rw [List.length_take]; omega)
        refine ⟨_, rfl, p, C, dx, _, _, rfl, sm4 _ _ h1, T.cl, T.nN, wf_near _ _ _, _, rfl, nl, _, _, _, rfl, rfl, SqL.of (sm4 _ _ h4), at_of (j := v) rfl (by rw [List.getElem?_map, ean]; rfl), an, rfl, ⟨_, SqL.of (sm4 _ _ rn)⟩,
          for_list (K := K) (a := an) (xs := ln.map fun (k : Nat) => V.int (k : Nat)) (fun i σ H5 => ∃ y9 : Option V, σ = [some (.ref p), some (.int lv), some (.ref ea), some (.ref la), some (.ref oa), some (.ref sl), some (.ref on), some (.int v), some (optV o), y9] ∧
            Frame H H5 la oa ∧ Stk H5 sl (S3 ++ ((ln.take i).filter fun x => decide (zs[x]? = zs[v]?)).map fun x => (x, some v)) ∧ Stk H5 on (On2 ++ ((ln.take i).filter fun x => !decide (zs[x]? = zs[v]?)).map fun x => (x, some v)) ∧
            H5 la = some (.lst ((La.set v (some lv)).map optV)) ∧ H5 oa = some (.lst ((Oa.set v o).map optV)))
          ⟨_, rfl, fr4, by simpa using ⟨as3, hs4, hA4⟩, by simpa using hOn4, hL4, hO4⟩ (fun i σ H5 _ ⟨_, _, f5, _⟩ => SqL.of ((f5.same sm0 n0l n0o) _ _ rn)) ?_ ?_⟩
        · rintro i x σ H5 hi ⟨y9, rfl, f5, ⟨as5, hs5, hA5⟩, ⟨bs5, hb5, hB5⟩, hL5, hO5⟩
          obtain ⟨x, hx, rfl⟩ : ∃ x', ln[i]? = some x' ∧ x = V.int (x' : Nat) := by
            rw [List.getElem?_map] at hi
            cases z : ln[i]? with
            | none =>
              rw [z] at hi
              cases hi
            | some x' =>
              rw [z] at hi
              exact ⟨x', rfl, (Option.some.inj hi).symm⟩
          have hxn := hln x (List.mem_of_getElem? hx)
          obtain ⟨zx, ezx⟩ : ∃ zx, zs[x]? = some zx := ⟨zs[x], List.getElem?_eq_getElem hxn⟩
          have sm5 : Same H0 H5 := f5.same sm0 n0l n0o
          have gz : ∀ (j : Nat) (y : Int), zs[j]? = some y → atI (zs.map V.int) (j : Nat) = some (.int y) := fun j y z => at_of rfl (by rw [List.getElem?_map, z]; rfl)
          have hil : i < ln.length := (List.getElem?_eq_some_iff.mp hx).1
          -- if self.zones[other] == self.zones[stop]
          refine ⟨_, rfl, p, C, dx, _, _, rfl, sm5 _ _ h1, T.cl, T.nZ, wf_zones _ _ _, _, rfl, zl, _, _, _, rfl, rfl, SqL.of (sm5 _ _ h2), gz x zx ezx,
            _, rfl, p, C, dx, _, _, rfl, sm5 _ _ h1, T.cl, T.nZ, wf_zones _ _ _, _, rfl, zl, _, _, _, rfl, rfl, SqL.of (sm5 _ _ h2), gz v zv ezv, rfl, _, rfl, ?_⟩
          have ec : decide (zs[x]? = zs[v]?) = decide (V.int zx = V.int zv) := decide_eq_decide.mpr ⟨fun z => by
            rw [ezx, ezv] at z
            cases z
            rfl, fun z => by
            cases z
            rw [ezx, ezv]⟩
          have lenA : as5.length ≤ 200000 := by
            rw [hA5.len, List.length_append, List.length_map]
            have := sz i
            omega
          have lenB : bs5.length ≤ 200000 := by
            rw [hB5.len, List.length_append, List.length_map]
            have := sz2 i
            omega
          refine ite2 (fun e => ?_) (fun e => ?_)
          · -- in one zone
            have ec2 : decide (zs[x]? = zs[v]?) = true := ec.trans e
            refine ⟨_, rfl, .inl ⟨rfl, _, SqL.of hs5⟩, _, rfl, _, rfl, by show 2 ≤ sizeLine; decide, fun tp ntp => ?_⟩
            obtain ⟨g1, g2⟩ := push_step (x := x) (y := v) hs5 hA5 ntp
            refine ⟨sl, _, _, rfl, rfl, by rw [upd_ne (ne_of_none hs5 ntp)]; exact hs5, small_line (by rw [List.length_map]; exact lenA), ?_⟩
            refine ⟨_, rfl, fun b o z n1 n2 => g2 b o (f5 b o z n1 n2) (ne_of_none z nsl), ?_, ?_, g2 _ _ hL5 nsl_la.symm, g2 _ _ hO5 nsl_oa.symm⟩
            · rw [take_filter hx, if_pos ec2, ← List.append_assoc]
              exact g1
            · rw [take_filter hx, if_neg (by simp [ec2]), List.append_nil]
              exact Stk.to ⟨bs5, hb5, hB5⟩ (fun b xs z => g2 b _ z (ne_of z hs5 (by intro z; cases z))) fun as z => g2 _ _ z nso.symm
          · have ec2 : decide (zs[x]? = zs[v]?) = false := by
              rw [ec]
              cases z : decide (V.int zx = V.int zv) with
              | false => rfl
              | true => exact absurd z e
            refine ⟨_, rfl, .inl ⟨rfl, _, SqL.of hb5⟩, _, rfl, _, rfl, by show 2 ≤ sizeLine; decide, fun tp ntp => ?_⟩
            obtain ⟨g1, g2⟩ := push_step (x := x) (y := v) hb5 hB5 ntp
            refine ⟨on, _, _, rfl, rfl, by rw [upd_ne (ne_of_none hb5 ntp)]; exact hb5, small_line (by rw [List.length_map]; exact lenB), ?_⟩
            refine ⟨_, rfl, fun b o z n1 n2 => g2 b o (f5 b o z n1 n2) (ne_of_none z non0), ?_, ?_, g2 _ _ hL5 non_la.symm, g2 _ _ hO5 non_oa.symm⟩
            · rw [take_filter hx, if_neg (by simp [ec2]), List.append_nil]
              exact Stk.to ⟨as5, hs5, hA5⟩ (fun b xs z => g2 b _ z (ne_of z hb5 (by intro z; cases z))) fun as z => g2 _ _ z nso
            · rw [take_filter hx, if_pos (by simp [ec2]), ← List.append_assoc]
              exact g1
        · rintro σ H5 ⟨y9, rfl, f5, hS5, hO5', hL5, hO5⟩
          rw [List.length_map, List.take_length] at hS5 hO5'
          have ft := filter_two (fun x => decide (zs[x]? = zs[v]?)) ln
          have el : [(v, o)].length = 1 := rfl
          rw [List.length_append, el] at hB3 hd
          refine ⟨_, ?_, _, _, _, _, _, _, _, _, _, rfl, rfl, f5, hS5, hO5', hL5, hO5, R2.marked eN eln hln rfl rfl, ?_, .inl ?_⟩
          · simp only [List.length_append, List.length_map, el]
            omega
          · simp only [List.length_append, List.length_map]
            omega
          · simp only [List.length_append, List.length_map]
            rcases hd with z | ⟨z1, z2, z3⟩
            · omega
            · rw [← z1, ← z3, z2, List.length_append, el]
              show _ + (0 + _) + _ < _
              omega
      · -- it had its level before
        obtain ⟨k, eK⟩ : ∃ k, lk La v = some k := by
          cases z : lk La v with
          | none =>
            rw [z] at e
            exact absurd rfl e
          | some k => exact ⟨k, rfl⟩
        refine ⟨S3.length + pot near La, by rw [List.length_append]; show S3.length + pot near La < S3.length + 1 + pot near La; omega, S3, On2, La, Oa, r2, t2, _, _, _, rfl, rfl, fr3, ⟨as3, hs3, hA3.imp fun a b r => kt3 _ _ r⟩, hOn3, hL3, hO3, R2.popped eK, ?_, .inl ?_⟩
        · rw [List.length_append] at hB3
          have : [(v, o)].length = 1 := rfl
          omega
        · rcases hd with z | ⟨z1, z2, z3⟩
          · rw [List.length_append] at z
            have : [(v, o)].length = 1 := rfl
            omega
          · rw [← z1, z2, z3, List.length_append]
            show S3.length + 0 + pot near L < S3.length + 1 + pot near L
            omega
    · -- no step is left
      have eS : S2 = [] := by
        have : as2 = [] := by
          cases as2 with
          | nil => rfl
          | cons a as => exact absurd rfl e
        subst this
        cases hA2
        rfl
      subst eS
      refine ⟨_, rfl, q On2 La Oa r2 t2 H2 on fr non0 hOn hL2 hO2 R2 (by simpa using hB3) fun ne => ?_⟩
      rcases hd with z | ⟨z, _, _⟩
      · simpa using z
      · exact absurd z.symm ne
/-! ### Web._search -/
def spSearch (C : Addr) : L2.Sp := fun vs H Q _ => ∃ (p : Addr) (s : Nat) (zs : List Int) (lks : List Lk) (near : List (List Nat)), vs = [.ref p, .int s] ∧ s < zs.length ∧ WebAt C H p zs lks near ∧
  ∀ (L O : Lv) (r : Nat → Nat) (t : Nat) (H' : Hp) (tp la oa : Addr), Same H H' → H la = none → H oa = none → la ≠ oa → H' tp = some (.tup [.ref la, .ref oa]) → H' la = some (.lst (L.map optV)) → H' oa = some (.lst (O.map optV)) →
    IsLevels near zs s L → IsOrigins near zs s L O r t → t ≤ 150000 → Q (.ref tp) H'
theorem rep_non (n : Nat) : (List.replicate n [V.non]).flatten = (List.replicate n (none : Option Nat)).map optV := by
  rw [List.flatten_replicate_singleton, List.map_replicate]
  rfl
theorem ok_search {f fF : Addr} {fd fdF : FuncData} (F : Fun K "_search" "Web._search" sSearch f fd) (T : Txt K mg C CL CS CN) (FF : Fun K "_fill_level" "Web._fill_level" sFill fF fdF) (bF : Binds K fdF ["self", "level", "entries", "levels", "origins"] []) (mF : Meth K C "_fill_level" fF) :
    FnOk P w K mg base CX0 2 f fd ["self", "start"] (spSearch C) := by
  have GF : FnOk P w K mg base CX0 1 fF fdF ["self", "level", "entries", "levels", "origins"] (spFill C) := ok_fill FF T
  refine F.ok scSearch (fun vs H Q E h => ?_) (fun cdv A outer s0 H vs Q E hr h => ?_)
  · obtain ⟨p, s, zs, lks, near, rfl, _⟩ := h
    rfl
  · obtain ⟨p, s, zs, lks, near, rfl, hs, W, q⟩ := h
    obtain ⟨⟨dx, zl, ll, nl, h1, h2, h3, ⟨asN, h4, hN⟩⟩, ok, _, hsm⟩ := id W
    have elen : ((asN.map V.ref).length : Int) = zs.length := by rw [List.length_map, hN.len, ok.len]
    refine ⟨_, pss_cons (ps_set (i := 2) scSearch.nd rfl (.inl rfl) (pe_op op_rep (pe_lst (pa_cons pe_non pa_nil)) (pe_callB call_len_seq (by rfl) T.len PySem.boot_len (pa_cons (pe_fld (pv 0) rfl) pa_nil))))
      (pss_cons (ps_set (i := 3) scSearch.nd rfl (.inl rfl) (pe_op op_rep (pe_lst (pa_cons pe_non pa_nil)) (pe_callB call_len_seq (by rfl) T.len PySem.boot_len (pa_cons (pe_fld (pv 0) rfl) pa_nil))))
      (pss_cons (ps_set (i := 4) scSearch.nd rfl (.inl rfl) (pe_lst (pa_cons (pe_tup (pa_cons (pv 1) (pa_cons pe_non pa_nil))) pa_nil)))
      (pss_cons (ps_set (i := 5) scSearch.nd rfl (.inl rfl) pe_int)
      (pss_cons (ps_while PassesOwn.never (pt_truth (pv 4) (by intro _; rfl))
        (pss_cons (ps_aug (i := 5) scSearch.nd rfl (.inl rfl) pe_int ip_add)
        (pss_one (ps_set (i := 4) scSearch.nd rfl (.inl rfl) (pe_meth (pv 0) T.cl mF GF hr bF .nil pass0 (pa_cons (pv 5) (pa_cons (pv 4) (pa_cons (pv 2) (pa_cons (pv 3) pa_nil)))))))))
      (pss_one (ps_ret (pe_tup (pa_cons (pv 2) (pa_cons (pv 3) pa_nil))))))))), ?_⟩
    -- levels = [None] * len(self._near)
    refine ⟨by show 1 ≤ sizeLine; decide, fun q1 n1 => ?_⟩
    have a1 := same_upd (o := .lst [V.non]) n1
    refine ⟨_, rfl, p, C, dx, _, _, rfl, a1 _ _ h1, T.cl, T.nN, wf_near _ _ _, nl, _, rfl, .inl (SqL.of (a1 _ _ h4)), q1, _, _, rfl, rfl, upd_same, by rw [elen]; omega, by rw [elen]; omega, ?_, fun la nla => ?_⟩
    · rw [elen, Int.toNat_natCast]
      show 1 * zs.length ≤ sizeLine
      exact Nat.le_of_lt (small_line (by omega))
    rw [elen, Int.toNat_natCast, rep_non]
    obtain ⟨H1, e1⟩ : ∃ H1, H1 = upd (upd H q1 (.lst [V.non])) la (.lst ((List.replicate zs.length none).map optV)) := ⟨_, rfl⟩
    rw [← e1]
    have s1 : Same H H1 := e1 ▸ a1.trans (same_upd nla)
    have hla1 : H1 la = some (.lst ((List.replicate zs.length none).map optV)) := by rw [e1, upd_same]
    have nla0 : H la = none := a1.free nla
    clear e1
    -- origins = [None] * len(self._near)
    refine ⟨by show 1 ≤ sizeLine; decide, fun q2 n2 => ?_⟩
    have a2 := same_upd (o := .lst [V.non]) n2
    refine ⟨_, rfl, p, C, dx, _, _, rfl, a2 _ _ (s1 _ _ h1), T.cl, T.nN, wf_near _ _ _, nl, _, rfl, .inl (SqL.of (a2 _ _ (s1 _ _ h4))), q2, _, _, rfl, rfl, upd_same, by rw [elen]; omega, by rw [elen]; omega, ?_, fun oa noa => ?_⟩
    · rw [elen, Int.toNat_natCast]
      show 1 * zs.length ≤ sizeLine
      exact Nat.le_of_lt (small_line (by omega))
    rw [elen, Int.toNat_natCast, rep_non]
    obtain ⟨H2, e2⟩ : ∃ H2, H2 = upd (upd H1 q2 (.lst [V.non])) oa (.lst ((List.replicate zs.length none).map optV)) := ⟨_, rfl⟩
    rw [← e2]
    have s2 : Same H1 H2 := e2 ▸ a2.trans (same_upd noa)
    have hoa2 : H2 oa = some (.lst ((List.replicate zs.length none).map optV)) := by rw [e2, upd_same]
    have noa1 : H1 oa = none := a2.free noa
    have noa0 : H oa = none := s1.free noa1
    have nlo : la ≠ oa := ne_of_none hla1 noa1
    have hla2 := s2 _ _ hla1
    clear e2
    -- steps = [(start, None)]; level = 0
    refine ⟨_, rfl, by show 2 ≤ sizeLine; decide, fun tp ntp => ?_⟩
    refine ⟨by show 1 ≤ sizeLine; decide, fun sl nsl => ?_⟩
    obtain ⟨H3, e3⟩ : ∃ H3, H3 = upd (upd H2 tp (.tup [.int s, .non])) sl (.lst [.ref tp]) := ⟨_, rfl⟩
    rw [← e3]
    have s3 : Same H2 H3 := e3 ▸ (same_upd ntp).trans (same_upd nsl)
    have hst : Stk H3 sl [(s, none)] := ⟨[tp], by rw [e3, upd_same]; rfl, All2.one (by
      show H3 tp = _
      rw [e3, upd_ne (ne_of_none upd_same nsl), upd_same]
      rfl)⟩
    clear e3
    have s03 : Same H H3 := (s1.trans s2).trans s3
    have epot : pot near (List.replicate zs.length none) = 2 * lks.length + zs.length := by rw [pot_rep near _ ok.len, ok.size]
    refine ⟨fun m σ H4 => ∃ (S : List Sp) (L O : Lv) (r : Nat → Nat) (t lv : Nat) (st : Addr), σ = [some (.ref p), some (.int s), some (.ref la), some (.ref oa), some (.ref st), some (.int lv)] ∧ m = S.length + pot near L ∧ Same H H4 ∧
        H4 la = some (.lst (L.map optV)) ∧ H4 oa = some (.lst (O.map optV)) ∧ Stk H4 st S ∧ Srch near zs s (lv + 1) S [] L O r t ∧ t + S.length + pot near L ≤ 150000,
      ⟨_, [(s, none)], _, _, _, 0, 0, sl, rfl, rfl, s03, s3 _ _ hla2, s3 _ _ hoa2, hst, Srch.init hs, by rw [epot]; show 0 + 1 + _ ≤ _; omega⟩, ?_⟩
    rintro m σ H4 ⟨S, L, O, r, t, lv, st, rfl, rfl, s4, hL, hO, hS, R, hB⟩
    obtain ⟨asS, hS1, hS2⟩ := id hS
    refine ⟨_, rfl, _, .inl ⟨_, SqL.of hS1, rfl⟩, ?_⟩
    refine ite2 (fun e => ?_) (fun e => ?_)
    · refine ⟨_, fun σ' H' z => z, ?_⟩
      refine ⟨_, rfl, _, _, rfl, rfl, ?_⟩
      have neS : S ≠ [] := fun z => by
        subst z
        cases hS2
        exact absurd e (by simp)
      refine ⟨_, rfl, p, dx, _, rfl, s4 _ _ h1, wf_no _ _ _ (by decide +kernel) (by decide +kernel) (by decide +kernel), _, rfl, _, rfl, _, rfl, _, rfl, ?_⟩
      refine ⟨p, st, la, oa, lv + 1, s, t, 150000, zs, lks, near, S, L, O, r, H, rfl, W, s4, nla0, noa0, nlo, hS, hL, hO, R, hB, Nat.le_refl _, ?_⟩
      intro On L' O' r' t' H' on fr non hOn hL' hO' R' hB' lt
      exact ⟨On.length + pot near L', lt neS, On, L', O', r', t', lv + 1, on, rfl, rfl, fr.same s4 nla0 noa0, hL', hO', hOn, R'.next, hB'⟩
    · have eS : S = [] := by
        cases asS with
        | nil =>
          cases hS2
          rfl
        | cons a as => exact absurd rfl e
      subst eS
      refine ⟨_, rfl, _, rfl, by show 2 ≤ sizeLine; decide, fun tr ntr => ?_⟩
      have s5 := same_upd (o := .tup [V.ref la, V.ref oa]) ntr
      exact q L O r t _ tr la oa (s4.trans s5) nla0 noa0 nlo upd_same (s5 _ _ hL) (s5 _ _ hO) R.done ⟨R.lenO, R.org⟩ (by have : ([] : List Sp).length = 0 := rfl; omega)
/-! ### Web.levels -/
def spLevels (C CS : Addr) : L2.Sp := fun vs H Q E => ∃ (p : Addr) (i : Int) (zs : List Int) (lks : List Lk) (near : List (List Nat)), vs = [.ref p, .int i] ∧ WebAt C H p zs lks near ∧
  (∀ s : Nat, i = s → s < zs.length → ∀ (L : Lv) (H' : Hp) (la : Addr), Same H H' → H la = none → H' la = some (.lst (L.map optV)) → IsLevels near zs s L → Q (.ref la) H') ∧
  (¬ (0 ≤ i ∧ i < zs.length) → E (.ref CS) none H)
theorem ok_levels {f fI fC fS fF : Addr} {fd fdI fdC fdS fdF : FuncData} (F : Fun K "levels" "Web.levels" sLevels f fd) (T : Txt K mg C CL CS CN) (FI : Fun K "_is_stop" "_is_stop" sIsStop fI fdI) (bI : Binds K fdI ["stop", "count"] []) (gI : mg "_is_stop" = some (.ref fI))
    (FC : Fun K "_check_stop" "Web._check_stop" sCheckStop fC fdC) (bC : Binds K fdC ["self", "stop"] []) (mC : Meth K C "_check_stop" fC)
    (FS : Fun K "_search" "Web._search" sSearch fS fdS) (bS : Binds K fdS ["self", "start"] []) (mS : Meth K C "_search" fS)
    (FF : Fun K "_fill_level" "Web._fill_level" sFill fF fdF) (bF : Binds K fdF ["self", "level", "entries", "levels", "origins"] []) (mF : Meth K C "_fill_level" fF) :
    FnOk P w K mg base (L2N.CX P w) 3 f fd ["self", "start"] (spLevels C CS) := by
  have GC : FnOk P w K mg base (L2N.CX P w) 2 fC fdC ["self", "stop"] (spCheckStop C CS) := ok_checkStop FC T FI bI gI
  have GS : FnOk P w K mg base CX0 2 fS fdS ["self", "start"] (spSearch C) := ok_search FS T FF bF mF
  refine okN F scLevels (fun vs H Q E h => ?_) (fun cdv A outer s0 H vs Q E hr h => ?_)
  · obtain ⟨p, i, zs, lks, near, rfl, _⟩ := h
    rfl
  · obtain ⟨p, i, zs, lks, near, rfl, W, q1, q2⟩ := h
    obtain ⟨⟨dx, zl, ll, nl, h1, _⟩, _⟩ := id W
    refine ⟨_, pss_cons (ps_expr (pe_meth (pv 0) T.cl mC GC hr bC .nil (L2N.passes_call (W := fun cls d _ H => E cls d H) (L2N.takes_of rfl rfl rfl rfl) (fun _ _ _ _ h => h)) (pa_cons (pv 1) pa_nil)))
      (pss_cons (ps_asg (pe_meth (pv 0) T.cl mS GS hr bS .nil pass0 (pa_cons (pv 1) pa_nil)) (pg_tup rfl (pgs_cons (pg_name (i := 2) scLevels.nd rfl (.inl rfl)) (pgs_cons (pg_name (i := 3) scLevels.nd rfl (.inl rfl)) pgs_nil))))
      (pss_one (ps_ret (pv 2)))), ?_⟩
    refine ⟨_, rfl, p, dx, _, rfl, h1, wf_no _ _ _ (by decide +kernel) (by decide +kernel) (by decide +kernel), _, rfl, p, i, zs, lks, near, rfl, W, fun hi => ?_, q2⟩
    obtain ⟨s, rfl⟩ : ∃ s : Nat, i = s := ⟨i.toNat, by omega⟩
    refine ⟨_, rfl, p, dx, _, rfl, h1, wf_no _ _ _ (by decide +kernel) (by decide +kernel) (by decide +kernel), _, rfl, p, s, zs, lks, near, rfl, by omega, W, fun L O r t H' tp la oa sm nla noa nlo htp hL hO IL IO ht => ?_⟩
    exact ⟨tp, _, rfl, SqT.of htp, rfl, _, _, rfl, _, _, rfl, rfl, _, rfl, q1 s rfl (by omega) L H' la sm nla hL IL⟩
/-! ### Web._search_goal -/
def Both (i j : Int) (n : Nat) : Prop := (0 ≤ i ∧ i < n) ∧ (0 ≤ j ∧ j < n)
def spSearchGoal (C CS CN : Addr) : L2.Sp := fun vs H Q E => ∃ (p : Addr) (i j : Int) (zs : List Int) (lks : List Lk) (near : List (List Nat)), vs = [.ref p, .int i, .int j] ∧ WebAt C H p zs lks near ∧
  (∀ s g : Nat, i = s → j = g → s < zs.length → g < zs.length → ∀ (L : Lv) (H' : Hp), IsLevels near zs s L → Same H H' → (lk L g = none → E (.ref CN) none H') ∧
    ∀ (O : Lv) (r : Nat → Nat) (t k : Nat) (tp la oa : Addr), lk L g = some k → H la = none → H oa = none → H' tp = some (.tup [.ref la, .ref oa]) → H' la = some (.lst (L.map optV)) → H' oa = some (.lst (O.map optV)) → IsOrigins near zs s L O r t → t ≤ 150000 → Q (.ref tp) H') ∧
  (¬ Both i j zs.length → E (.ref CS) none H)
theorem ok_searchGoal {f fI fC fS fF : Addr} {fd fdI fdC fdS fdF : FuncData} (F : Fun K "_search_goal" "Web._search_goal" sSearchGoal f fd) (T : Txt K mg C CL CS CN) (FI : Fun K "_is_stop" "_is_stop" sIsStop fI fdI) (bI : Binds K fdI ["stop", "count"] []) (gI : mg "_is_stop" = some (.ref fI))
    (FC : Fun K "_check_stop" "Web._check_stop" sCheckStop fC fdC) (bC : Binds K fdC ["self", "stop"] []) (mC : Meth K C "_check_stop" fC)
    (FS : Fun K "_search" "Web._search" sSearch fS fdS) (bS : Binds K fdS ["self", "start"] []) (mS : Meth K C "_search" fS)
    (FF : Fun K "_fill_level" "Web._fill_level" sFill fF fdF) (bF : Binds K fdF ["self", "level", "entries", "levels", "origins"] []) (mF : Meth K C "_fill_level" fF) :
    FnOk P w K mg base (L2N.CX P w) 3 f fd ["self", "start", "goal"] (spSearchGoal C CS CN) := by
  have GC : FnOk P w K mg base (L2N.CX P w) 2 fC fdC ["self", "stop"] (spCheckStop C CS) := ok_checkStop FC T FI bI gI
  have GS : FnOk P w K mg base CX0 2 fS fdS ["self", "start"] (spSearch C) := ok_search FS T FF bF mF
  refine okN F scSearchGoal (fun vs H Q E h => ?_) (fun cdv A outer s0 H vs Q E hr h => ?_)
  · obtain ⟨p, i, j, zs, lks, near, rfl, _⟩ := h
    rfl
  · obtain ⟨p, i, j, zs, lks, near, rfl, W, q1, q2⟩ := h
    obtain ⟨⟨dx, zl, ll, nl, h1, _⟩, _, _, hsm⟩ := id W
    refine ⟨_, pss_cons (ps_expr (pe_meth (pv 0) T.cl mC GC hr bC .nil (L2N.passes_call (W := fun cls d _ H => E cls d H) (L2N.takes_of rfl rfl rfl rfl) (fun _ _ _ _ h => h)) (pa_cons (pv 1) pa_nil)))
      (pss_cons (ps_expr (pe_meth (pv 0) T.cl mC GC hr bC .nil (L2N.passes_call (W := fun cls d _ H => E cls d H) (L2N.takes_of rfl rfl rfl rfl) (fun _ _ _ _ h => h)) (pa_cons (pv 2) pa_nil)))
      (pss_cons (ps_asg (pe_meth (pv 0) T.cl mS GS hr bS .nil pass0 (pa_cons (pv 1) pa_nil)) (pg_tup rfl (pgs_cons (pg_name (i := 3) scSearchGoal.nd rfl (.inl rfl)) (pgs_cons (pg_name (i := 4) scSearchGoal.nd rfl (.inl rfl)) pgs_nil))))
      (pss_cons (ps_if (pt_cmpR op_isN (pe_ix ix_list (pv 3) (pv 2) (fun _ _ => rfl)) pe_non (nomark _))
        (pss_one (L2N.ps_raise rfl (L2N.takes_of rfl rfl rfl rfl) (pmk_one T.eN rfl (pe_joined (PJ.cons pe_str (PJ.cons (pe_fmt (pv 1)) (PJ.cons pe_str (PJ.cons (pe_fmt (pv 2)) PJ.nil)))))))) pss_nil)
      (pss_one (ps_ret (pe_tup (pa_cons (pv 3) (pa_cons (pv 4) pa_nil)))))))), ?_⟩
    have noC := wf_no zl ll nl (m := "_check_stop") (by decide +kernel) (by decide +kernel) (by decide +kernel)
    have noS := wf_no zl ll nl (m := "_search") (by decide +kernel) (by decide +kernel) (by decide +kernel)
    refine ⟨_, rfl, p, dx, _, rfl, h1, noC, _, rfl, p, i, zs, lks, near, rfl, W, fun hi => ?_, fun no => q2 fun b => no b.1⟩
    refine ⟨_, rfl, p, dx, _, rfl, h1, noC, _, rfl, p, j, zs, lks, near, rfl, W, fun hj => ?_, fun no => q2 fun b => no b.2⟩
    obtain ⟨s, rfl⟩ : ∃ s : Nat, i = s := ⟨i.toNat, by omega⟩
    obtain ⟨g, rfl⟩ : ∃ g : Nat, j = g := ⟨j.toNat, by omega⟩
    refine ⟨_, rfl, p, dx, _, rfl, h1, noS, _, rfl, p, s, zs, lks, near, rfl, by omega, W, fun L O r t H' tp la oa sm nla noa nlo htp hL hO IL IO ht => ?_⟩
    refine ⟨tp, _, rfl, SqT.of htp, rfl, _, _, rfl, _, _, rfl, rfl, ?_⟩
    have hgL : g < L.length := by rw [IL.len]; omega
    have gL : atI (L.map optV) (g : Nat) = some (optV (lk L g)) := at_of rfl (by rw [List.getElem?_map, lk_get hgL]; rfl)
    refine ⟨_, rfl, _, rfl, la, _, _, _, rfl, rfl, SqL.of hL, gL, rfl, _, rfl, ?_⟩
    refine ite2 (fun e => ?_) (fun e => ?_)
    · have eN : lk L g = none := of_decide_eq_true ((optV_non _).symm.trans e)
      have l1 : (s : Int).natAbs.log2 < 1920 := log_small (by omega) (by omega)
      have l2 : (g : Int).natAbs.log2 < 1920 := log_small (by omega) (by omega)
      have t1 := int_text_len_1921 l1
      have t2 := int_text_len_1921 l2
      refine ⟨_, rfl, ?_⟩
      refine ⟨by rw [sizeLine_eq]; decide +kernel, _, rfl, .inr ⟨_, rfl, l1, ⟨_, rfl, ?_, ?_⟩⟩⟩
      · exact text_fits (m := 100) (by decide +kernel) t1 (by decide)
      · refine ⟨_, rfl, ?_, ?_⟩
        · exact text_fits (m := 3000) (n := 100) (text_le (m := 100) (by decide +kernel) t1 (by decide)) (by decide +kernel) (by decide)
        · refine ⟨_, rfl, .inr ⟨_, rfl, l2, ⟨_, rfl, ?_, ?_⟩⟩⟩
          · exact text_fits (m := 4000) (text_le (m := 3000) (n := 100) (text_le (m := 100) (by decide +kernel) t1 (by decide)) (by decide +kernel) (by decide)) t2 (by decide)
          · exact (q1 s g rfl rfl (by omega) (by omega) L H' IL sm).1 eN
    · have e2 : ∃ k, lk L g = some k := by
        cases z : lk L g with
        | none =>
          rw [z] at e
          exact absurd rfl e
        | some k => exact ⟨k, rfl⟩
      obtain ⟨k, ek⟩ := e2
      refine ⟨_, rfl, _, rfl, by show 2 ≤ sizeLine; decide, fun tr ntr => ?_⟩
      have s5 := same_upd (o := .tup [V.ref la, V.ref oa]) ntr
      exact (q1 s g rfl rfl (by omega) (by omega) L _ IL (sm.trans s5)).2 O r t k tr la oa ek nla noa upd_same (s5 _ _ hL) (s5 _ _ hO) IO ht
/-! ### Web.fewest -/
def spFewest (C CS CN : Addr) : L2.Sp := fun vs H Q E => ∃ (p : Addr) (i j : Int) (zs : List Int) (lks : List Lk) (near : List (List Nat)), vs = [.ref p, .int i, .int j] ∧ WebAt C H p zs lks near ∧
  (∀ s g : Nat, i = s → j = g → s < zs.length → g < zs.length → ∀ (L : Lv) (H' : Hp), IsLevels near zs s L → Same H H' → (lk L g = none → E (.ref CN) none H') ∧ ∀ k : Nat, lk L g = some k → Q (.int k) H') ∧
  (¬ Both i j zs.length → E (.ref CS) none H)
theorem ok_fewest {f fG fI fC fS fF : Addr} {fd fdG fdI fdC fdS fdF : FuncData} (F : Fun K "fewest" "Web.fewest" sFewest f fd) (T : Txt K mg C CL CS CN) (FI : Fun K "_is_stop" "_is_stop" sIsStop fI fdI) (bI : Binds K fdI ["stop", "count"] []) (gI : mg "_is_stop" = some (.ref fI))
    (FC : Fun K "_check_stop" "Web._check_stop" sCheckStop fC fdC) (bC : Binds K fdC ["self", "stop"] []) (mC : Meth K C "_check_stop" fC)
    (FS : Fun K "_search" "Web._search" sSearch fS fdS) (bS : Binds K fdS ["self", "start"] []) (mS : Meth K C "_search" fS)
    (FF : Fun K "_fill_level" "Web._fill_level" sFill fF fdF) (bF : Binds K fdF ["self", "level", "entries", "levels", "origins"] []) (mF : Meth K C "_fill_level" fF)
    (FG : Fun K "_search_goal" "Web._search_goal" sSearchGoal fG fdG) (bG : Binds K fdG ["self", "start", "goal"] []) (mG : Meth K C "_search_goal" fG) :
    FnOk P w K mg base (L2N.CX P w) 4 f fd ["self", "start", "goal"] (spFewest C CS CN) := by
  have GG : FnOk P w K mg base (L2N.CX P w) 3 fG fdG ["self", "start", "goal"] (spSearchGoal C CS CN) := ok_searchGoal FG T FI bI gI FC bC mC FS bS mS FF bF mF
  refine okN F scFewest (fun vs H Q E h => ?_) (fun cdv A outer s0 H vs Q E hr h => ?_)
  · obtain ⟨p, i, j, zs, lks, near, rfl, _⟩ := h
    rfl
  · obtain ⟨p, i, j, zs, lks, near, rfl, W, q1, q2⟩ := h
    obtain ⟨⟨dx, zl, ll, nl, h1, _⟩, _, _, hsm⟩ := id W
    refine ⟨_, pss_cons (ps_asg (pe_meth (pv 0) T.cl mG GG hr bG .nil (L2N.passes_call (W := fun cls d _ H => E cls d H) (L2N.takes_of rfl rfl rfl rfl) (fun _ _ _ _ h => h)) (pa_cons (pv 1) (pa_cons (pv 2) pa_nil))) (pg_tup rfl (pgs_cons (pg_name (i := 3) scFewest.nd rfl (.inl rfl)) (pgs_cons (pg_name (i := 4) scFewest.nd rfl (.inl rfl)) pgs_nil))))
      (pss_one (ps_ret (pe_ix ix_list (pv 3) (pv 2) (fun _ _ => rfl)))), ?_⟩
    refine ⟨_, rfl, p, dx, _, rfl, h1, wf_no zl ll nl (by decide +kernel) (by decide +kernel) (by decide +kernel), _, rfl, _, rfl, p, i, j, zs, lks, near, rfl, W, fun s g ei ej hs hg L H' IL sm => ⟨fun e => ((q1 s g ei ej hs hg L H' IL sm).1 e), fun O r t k tp la oa ek nla noa htp hL hO IO ht => ?_⟩, q2⟩
    have hgL : g < L.length := by rw [IL.len]; omega
    have gL : atI (L.map optV) j = some (optV (lk L g)) := at_of ej (by rw [List.getElem?_map, lk_get hgL]; rfl)
    refine ⟨tp, _, rfl, SqT.of htp, rfl, _, _, rfl, _, _, rfl, rfl, _, rfl, _, rfl, la, _, _, _, rfl, rfl, SqL.of hL, gL, ?_⟩
    rw [ek]
    exact (q1 s g ei ej hs hg L H' IL sm).2 k ek
/-! ### Web.way -/
def spWay (C CS CN : Addr) : L2.Sp := fun vs H Q E => ∃ (p : Addr) (i j : Int) (zs : List Int) (lks : List Lk) (near : List (List Nat)), vs = [.ref p, .int i, .int j] ∧ WebAt C H p zs lks near ∧
  (∀ s g : Nat, i = s → j = g → s < zs.length → g < zs.length → ∀ (L : Lv) (H' : Hp), IsLevels near zs s L → Same H H' → (lk L g = none → E (.ref CN) none H') ∧
    ∀ (k : Nat) (row : List Nat) (a : Addr), lk L g = some k → H a = none → H' a = some (.lst (row.map fun (x : Nat) => V.int (x : Nat))) → RowTo near zs s row g k → row.length ≤ 150001 → Q (.ref a) H') ∧
  (¬ Both i j zs.length → E (.ref CS) none H)
theorem ok_way {f fG fI fC fS fF : Addr} {fd fdG fdI fdC fdS fdF : FuncData} (F : Fun K "way" "Web.way" sWay f fd) (T : Txt K mg C CL CS CN) (FI : Fun K "_is_stop" "_is_stop" sIsStop fI fdI) (bI : Binds K fdI ["stop", "count"] []) (gI : mg "_is_stop" = some (.ref fI))
    (FC : Fun K "_check_stop" "Web._check_stop" sCheckStop fC fdC) (bC : Binds K fdC ["self", "stop"] []) (mC : Meth K C "_check_stop" fC)
    (FS : Fun K "_search" "Web._search" sSearch fS fdS) (bS : Binds K fdS ["self", "start"] []) (mS : Meth K C "_search" fS)
    (FF : Fun K "_fill_level" "Web._fill_level" sFill fF fdF) (bF : Binds K fdF ["self", "level", "entries", "levels", "origins"] []) (mF : Meth K C "_fill_level" fF)
    (FG : Fun K "_search_goal" "Web._search_goal" sSearchGoal fG fdG) (bG : Binds K fdG ["self", "start", "goal"] []) (mG : Meth K C "_search_goal" fG) :
    FnOk P w K mg base (L2N.CX P w) 4 f fd ["self", "start", "goal"] (spWay C CS CN) := by
  have GG : FnOk P w K mg base (L2N.CX P w) 3 fG fdG ["self", "start", "goal"] (spSearchGoal C CS CN) := ok_searchGoal FG T FI bI gI FC bC mC FS bS mS FF bF mF
  refine okN F scWay (fun vs H Q E h => ?_) (fun cdv A outer s0 H vs Q E hr h => ?_)
  · obtain ⟨p, i, j, zs, lks, near, rfl, _⟩ := h
    rfl
  · obtain ⟨p, i, j, zs, lks, near, rfl, W, q1, q2⟩ := h
    obtain ⟨⟨dx, zl, ll, nl, h1, _⟩, _, _, hsm⟩ := id W
    refine ⟨_, pss_cons (ps_asg (pe_meth (pv 0) T.cl mG GG hr bG .nil (L2N.passes_call (W := fun cls d _ H => E cls d H) (L2N.takes_of rfl rfl rfl rfl) (fun _ _ _ _ h => h)) (pa_cons (pv 1) (pa_cons (pv 2) pa_nil))) (pg_tup rfl (pgs_cons (pg_name (i := 3) scWay.nd rfl (.inl rfl)) (pgs_cons (pg_name (i := 4) scWay.nd rfl (.inl rfl)) pgs_nil))))
      (pss_cons (ps_set (i := 5) scWay.nd rfl (.inl rfl) (pe_lst (pa_cons (pv 2) pa_nil)))
      (pss_cons (ps_while (passes_of rfl) (pt_cmpR op_ne (pe_ix ix_list (pv 5) (pe_un un_neg pe_int) (fun _ _ => rfl)) (pv 1) (nomark _))
        (pss_one (ps_expr (pe_bm PySem.F.plainAttrs_list PySem.F.slot_list_append PySem.F.type_list_append mt_append (pv 5) (pa_cons (pe_ix ix_list (pv 4) (pe_ix ix_list (pv 5) (pe_un un_neg pe_int) (fun _ _ => rfl)) (fun _ _ => rfl)) pa_nil)))))
      (pss_one (ps_ret (pe_revL (pv 5)))))), ?_⟩
    refine ⟨_, rfl, p, dx, _, rfl, h1, wf_no zl ll nl (by decide +kernel) (by decide +kernel) (by decide +kernel), _, rfl, _, rfl, p, i, j, zs, lks, near, rfl, W, fun s g ei ej hs hg L H' IL sm => ⟨fun e => ((q1 s g ei ej hs hg L H' IL sm).1 e), fun O r t k tp la oa ek nla noa htp hL hO IO ht => ?_⟩, q2⟩
    subst ei ej
    refine ⟨tp, _, rfl, SqT.of htp, rfl, _, _, rfl, _, _, rfl, rfl, ?_⟩
    refine ⟨_, rfl, by show 1 ≤ sizeLine; decide, fun rw nrw => ?_⟩
    have sr := same_upd (o := .lst [V.int (g : Nat)]) nrw
    have nrw0 := sm.free nrw
    obtain ⟨rg, _, _⟩ := IO.org g k ek
    refine ⟨fun m σ H2 => ∃ (R suf : List Nat) (c d kc : Nat), σ = [some (.ref p), some (.int s), some (.int g), some (.ref la), some (.ref oa), some (.ref rw)] ∧ m = r c ∧ Same H' H2 ∧ H2 rw = some (.lst ((R ++ [c]).map fun (x : Nat) => V.int (x : Nat))) ∧
        R.reverse = suf ∧ lk L c = some kc ∧ kc + d = k ∧ (∀ l kk, RowTo near zs s l c kk → RowTo near zs s (l ++ suf) g (kk + d)) ∧ R.length + r c ≤ r g,
      ⟨_, [], [], g, 0, k, rfl, rfl, sr, upd_same, rfl, ek, rfl, fun l kk x => by rw [List.append_nil]; exact x, by show 0 + r g ≤ r g; omega⟩, ?_⟩
    rintro m σ H2 ⟨R, suf, c, d, kc, rfl, rfl, s2', hR, hsuf, ec, hd, hrow, hlen⟩
    have alast : atI ((R ++ [c]).map fun (x : Nat) => V.int (x : Nat)) (-1) = some (.int (c : Nat)) := by
      rw [List.map_append]
      exact atI_last _ _
    obtain ⟨rc, oc, lc⟩ := IO.org c kc ec
    refine ⟨_, rfl, 1, rfl, rw, _, _, _, rfl, rfl, SqL.of hR, alast, _, rfl, rfl, _, rfl, ?_⟩
    refine ite2 (fun e => ?_) (fun e => ?_)
    · have nc : c ≠ s := fun z => nd_of e (by rw [z])
      obtain ⟨u, eu⟩ : ∃ u, lk O c = some u := by
        cases z : lk O c with
        | some u => exact ⟨u, rfl⟩
        | none =>
          rw [z] at oc
          exact absurd oc.1 nc
      rw [eu] at oc
      obtain ⟨ad, ku, eku, hku⟩ := oc
      have hcO : c < O.length := lk_lt eu
      have gO : atI (O.map optV) (c : Nat) = some (.int (u : Nat)) := at_of rfl (by rw [List.getElem?_map, lk_get hcO, eu]; rfl)
      have hru := lc u eu
      refine ⟨_, fun σ' H' z => z, ?_⟩
      refine ⟨_, rfl, .inl ⟨rfl, _, SqL.of hR⟩, _, rfl, _, rfl, 1, rfl, rw, _, _, _, rfl, rfl, SqL.of hR, alast, oa, _, _, _, rfl, rfl, SqL.of (s2' _ _ hO), gO, rw, _, _, rfl, rfl, hR, small_line (by rw [List.length_map, List.length_append]; show R.length + 1 ≤ _; omega), ?_⟩
      refine ⟨r u, hru, R ++ [c], c :: suf, u, d + wt zs u c, ku, rfl, rfl, upd_out s2' nrw, ?_, by rw [List.reverse_append, hsuf]; rfl, eku, by omega, fun l kk x => ?_, by rw [List.length_append]; show R.length + 1 + r u ≤ r g; omega⟩
      · rw [upd_same, List.map_append (l₂ := [u])]
        rfl
      · have z := hrow _ _ (RowTo.snoc x ad)
        rw [List.append_assoc] at z
        have e2 : kk + wt zs u c + d = kk + (d + wt zs u c) := by omega
        rw [e2] at z
        exact z
    · have ecs : c = s := by
        have z : V.int (c : Nat) = V.int (s : Nat) := d_of e
        have := V.int.inj z
        omega
      subst ecs
      have k1 : kc = 1 := by
        rw [IL.one] at ec
        cases ec
        rfl
      refine ⟨_, rfl, rw, _, rfl, SqL.of hR, fun a na => ?_⟩
      have s3 := same_upd (o := .lst ((R ++ [c]).map fun (x : Nat) => V.int (x : Nat)).reverse) na
      have er : ((R ++ [c]).map fun (x : Nat) => V.int (x : Nat)).reverse = ((c :: suf).map fun (x : Nat) => V.int (x : Nat)) := by
        rw [← List.map_reverse, List.reverse_append, hsuf]
        rfl
      have z := hrow [c] 1 .one
      have e2 : 1 + d = k := by omega
      rw [e2] at z
      refine (q1 c g rfl rfl hs hg L _ IL (sm.trans (s2'.trans s3))).2 k (c :: suf) a ek (sm.free (s2'.free na)) (by rw [upd_same, er]) z ?_
      have : suf.length = R.length := by rw [← hsuf, List.length_reverse]
      rw [List.length_cons]
      omega
end
end FW

namespace FW
open PySem PySem.Spec PyProof.Rows L2
/-! ### the law's helpers that several laws have -/
abbrev sCell : Stmt := top 37
theorem scCell : FnScope ["_law_script", "_law_k"] ["_law_script", "_law_k"] (defScope sCell) := ⟨rfl, rfl, rfl, by decide +kernel, rfl, by decide +kernel, by decide +kernel⟩
def cell (ns : List Int) (k : Nat) : Int := ns.getD k 0
/-- what the law's text asks of the built-ins -/
structure BT (mg : Str → Option Value) : Prop where
  len : mg "len" = none
  list : mg "list" = none
  range : mg "range" = none
  min : mg "min" = none
  int : mg "int" = none
section
variable {P : Program} {w : World} {K : PySem.W.Frag} {mg : Str → Option Value} {base : Heap}
def spCell (K : PySem.W.Frag) : L2.Sp := fun vs H Q _ => ∃ (a : Addr) (ns : List Int) (k : Nat), vs = [.ref a, .int k] ∧ SqL K H a (ns.map V.int) ∧ Q (.int (cell ns k)) H
theorem ok_cell {f : Addr} {fd : FuncData} (F : Fun K "_law_cell_at" "_law_cell_at" sCell f fd) (B : mg "len" = none) : FnOk P w K mg base CX0 1 f fd ["_law_script", "_law_k"] (spCell K) := by
  refine F.ok scCell (fun vs H Q E h => ?_) (fun cdv A outer s H vs Q E hr h => ?_)
  · obtain ⟨a, ns, k, rfl, _⟩ := h
    rfl
  · obtain ⟨a, ns, k, rfl, hS, q⟩ := h
    refine ⟨_, pss_cons (ps_if (pt_cmpR op_lt (pv 1) (pe_callB call_len_seq (by rfl) B PySem.boot_len (pa_cons (pv 0) pa_nil)) (nomark _)) (pss_one (ps_ret (pe_ix ix_list (pv 0) (pv 1) (fun _ _ => rfl)))) pss_nil)
      (pss_one (ps_ret pe_int)), ?_⟩
    refine ⟨_, rfl, _, rfl, a, _, rfl, .inl hS, _, _, rfl, rfl, _, rfl, ?_⟩
    rw [List.length_map]
    refine ite2 (fun e => ?_) (fun e => ?_)
    · have hk : k < ns.length := Int.ofNat_lt.mp (of_decide_eq_true e)
      have eg : ns[k]? = some (cell ns k) := by
        unfold cell
        rw [List.getD_eq_getElem?_getD, List.getElem?_eq_getElem hk]
        rfl
      exact ⟨_, rfl, _, rfl, a, _, _, _, rfl, rfl, hS, at_of (j := k) rfl (by rw [List.getElem?_map, eg]; rfl), q⟩
    · have hk : ns.length ≤ k := by
        have : ¬ ((k : Int) < ns.length) := fun z => e (decide_eq_true z)
        omega
      have eg : cell ns k = 0 := by
        unfold cell
        rw [List.getD_eq_getElem?_getD, List.getElem?_eq_none hk]
        rfl
      rw [eg] at q
      exact q
end
end FW

namespace FW
open PySem PySem.Spec PyProof.Rows L2
/-! ### tariffs: what the document asks of them, for any form of the program -/
def Five (r : List Int) : Prop := r.length = 5 ∧ ∀ x, x ∈ r → 0 ≤ x
def mn (a b : Int) : Int := if b < a then b else a
theorem mn_lt {a b : Int} (h : b < a) : mn a b = b := if_pos h
theorem mn_ge {a b : Int} (h : ¬ b < a) : mn a b = a := if_neg h
/-- the least price of a row for z zones or for more -/
def lpr (r : List Int) (z : Nat) : Int := (r.drop z).foldl mn (r.getD (z - 1) 0)
theorem foldl_mn_le : ∀ (l : List Int) (a : Int), l.foldl mn a ≤ a ∧ ∀ x, x ∈ l → l.foldl mn a ≤ x
  | [], a => ⟨Int.le_refl _, fun x m => nomatch m⟩
  | b :: l, a => by
    have h := foldl_mn_le l (mn a b)
    have h1 : mn a b ≤ a ∧ mn a b ≤ b := by unfold mn; split <;> omega
    refine ⟨Int.le_trans h.1 h1.1, fun x m => ?_⟩
    rcases List.mem_cons.mp m with rfl | m
    · exact Int.le_trans h.1 h1.2
    · exact h.2 x m
theorem foldl_mn_mem : ∀ (l : List Int) (a : Int), l.foldl mn a = a ∨ l.foldl mn a ∈ l
  | [], a => .inl rfl
  | b :: l, a => by
    rcases foldl_mn_mem l (mn a b) with h | h
    · by_cases c : b < a
      · right
        show l.foldl mn (mn a b) ∈ b :: l
        rw [h]
        unfold mn
        rw [if_pos c]
        exact List.mem_cons_self
      · left
        show l.foldl mn (mn a b) = a
        rw [h]
        unfold mn
        rw [if_neg c]
    · exact .inr (List.mem_cons_of_mem _ h)
/-- what is least of the row's prices from place z - 1 on is lpr -/
theorem lpr_iff {r : List Int} {z : Nat} (h1 : 1 ≤ z) (h2 : z ≤ r.length) (m : Int) : (m ∈ r.drop (z - 1) ∧ ∀ x, x ∈ r.drop (z - 1) → m ≤ x) ↔ m = lpr r z := by
  have hz : z - 1 < r.length := by omega
  have e : r.drop (z - 1) = r.getD (z - 1) 0 :: r.drop z := by
    rw [List.drop_eq_getElem_cons hz, show z - 1 + 1 = z by omega, List.getD_eq_getElem?_getD, List.getElem?_eq_getElem hz]
    rfl
  have hl := foldl_mn_le (r.drop z) (r.getD (z - 1) 0)
  have hm := foldl_mn_mem (r.drop z) (r.getD (z - 1) 0)
  rw [e]
  constructor
  · rintro ⟨m1, m2⟩
    have a1 : m ≤ lpr r z := by
      unfold lpr
      rcases hm with hm | hm
      · rw [hm]
        exact m2 _ List.mem_cons_self
      · exact m2 _ (List.mem_cons_of_mem _ hm)
    have a2 : lpr r z ≤ m := by
      unfold lpr
      rcases List.mem_cons.mp m1 with rfl | m1
      · exact hl.1
      · exact hl.2 _ m1
    exact Int.le_antisymm a1 a2
  · rintro rfl
    unfold lpr
    refine ⟨?_, fun x m => ?_⟩
    · rcases hm with hm | hm
      · rw [hm]
        exact List.mem_cons_self
      · exact List.mem_cons_of_mem _ hm
    · rcases List.mem_cons.mp m with rfl | m
      · exact hl.1
      · exact hl.2 _ m
def RowAt (H : Hp) (a : Addr) (r : List Int) : Prop := H a = some (.lst (r.map V.int))
/-- A TARIFF stands at p: its three fields; no field hides a method -/
structure TarAt (C : Addr) (H : Hp) (p : Addr) (S D W : List Int) : Prop where
  ob : ∃ dx fs a b c, H p = some (.ins C dx fs) ∧ fs.lookup ("singles" : Str) = some (.ref a) ∧ fs.lookup ("days" : Str) = some (.ref b) ∧ fs.lookup ("weeks" : Str) = some (.ref c) ∧
    fs.lookup ("single" : Str) = none ∧ fs.lookup ("day" : Str) = none ∧ fs.lookup ("week" : Str) = none ∧ RowAt H a S ∧ RowAt H b D ∧ RowAt H c W
  ok : Five S ∧ Five D ∧ Five W
theorem TarAt.same {C p : Addr} {H H' : Hp} {S D W : List Int} (h : TarAt C H p S D W) (k : Same H H') : TarAt C H' p S D W := by
  obtain ⟨⟨dx, fs, a, b, c, h1, e1, e2, e3, n1, n2, n3, r1, r2, r3⟩, ok⟩ := h
  exact ⟨⟨dx, fs, a, b, c, k _ _ h1, e1, e2, e3, n1, n2, n3, k _ _ r1, k _ _ r2, k _ _ r3⟩, ok⟩
/-- the tariff leans on objects that are new since H: what becomes of the others is no matter -/
def TStays (C : Addr) (H H' : Hp) (p : Addr) (S D W : List Int) : Prop := ∀ H'' : Hp, (∀ b o, H' b = some o → (H b = none ∨ b = p) → H'' b = some o) → TarAt C H'' p S D W
def spTInit (K : PySem.W.Frag) (C CP : Addr) : L2.Sp := fun vs H Q E => ∃ (p dx sa da wa : Addr) (S D W : List Int), vs = [.ref p, .ref sa, .ref da, .ref wa] ∧ H p = some (.ins C dx []) ∧
  (∀ H', Kept H H' p → SqL K H' sa (S.map V.int) ∧ SqL K H' da (D.map V.int) ∧ SqL K H' wa (W.map V.int)) ∧ S.length ≤ 1000 ∧ D.length ≤ 1000 ∧ W.length ≤ 1000 ∧
  (Five S ∧ Five D ∧ Five W → ∀ H', Kept H H' p → TarAt C H' p S D W → TStays C H H' p S D W → Q .non H') ∧
  (¬ (Five S ∧ Five D ∧ Five W) → ∀ H', Kept H H' p → E (.ref CP) none H')
def rowOf (j : Nat) (S D W : List Int) : List Int := match j with | 0 => S | 1 => D | _ => W
def spPrice (C CZ : Addr) (j : Nat) : L2.Sp := fun vs H Q E => ∃ (p : Addr) (z : Int) (S D W : List Int), vs = [.ref p, .int z] ∧ TarAt C H p S D W ∧
  (1 ≤ z ∧ z ≤ 5 → ∀ H', Same H H' → Q (.int (lpr (rowOf j S D W) z.toNat)) H') ∧ (¬ (1 ≤ z ∧ z ≤ 5) → ∀ H', Same H H' → E (.ref CZ) none H')
end FW

namespace FW
open PySem PySem.Spec PyProof.Rows L2
/-! ### covers: what the document asks of least, for any form of the program -/
theorem lpr_best {r : List Int} (h5 : r.length = 5) {z : Nat} (h1 : 1 ≤ z) (hz : z ≤ 5) : lpr r z = FT.best r z := by
  have key := ((lpr_iff h1 (by omega) (lpr r z)).mpr rfl)
  refine FT.best_eq h1 hz ?_ fun j a b => key.2 _ ?_
  · obtain ⟨i, hi, e⟩ := List.getElem_of_mem key.1
    rw [List.length_drop] at hi
    refine ⟨z + i, by omega, by omega, ?_⟩
    rw [← e, List.getElem_drop]
    unfold FT.pr
    rw [List.getD_eq_getElem?_getD, List.getElem?_eq_getElem (by omega)]
    show r[z - 1 + i] = r[z + i - 1]
    congr 1
    omega
  · unfold FT.pr
    rw [List.getD_eq_getElem?_getD, List.getElem?_eq_getElem (by omega)]
    show r[j - 1] ∈ _
    rw [List.mem_iff_getElem]
    exact ⟨j - z, by rw [List.length_drop]; omega, by rw [List.getElem_drop]; congr 1; omega⟩
theorem five_ok {S D W : List Int} (h : Five S ∧ Five D ∧ Five W) : FT.Tar.Ok ⟨S, D, W⟩ := by
  have key : ∀ r : List Int, Five r → ∀ j, 1 ≤ j → j ≤ 5 → 0 ≤ FT.pr r j := fun r f j a b => by
    unfold FT.pr
    rw [List.getD_eq_getElem?_getD, List.getElem?_eq_getElem (by have := f.1; omega)]
    exact f.2 _ (List.getElem_mem _)
  exact ⟨key S h.1, key D h.2.1, key W h.2.2⟩
/-- a ticket as it is told -/
def TkAt (T : FT.Tar) (H : Hp) (a : Addr) : FT.Tk → Prop
  | .week z => H a = some (.tup [.str "week", .int (z : Nat), .int (FT.pr T.w z)])
  | .day d z => H a = some (.tup [.str "day", .int (d : Nat), .int (z : Nat), .int (FT.pr T.d z)])
  | .single d i z => H a = some (.tup [.str "single", .int (d : Nat), .int (i : Nat), .int (z : Nat), .int (FT.pr T.s z)])
/-- its day and its ride are there -/
def TkIn (days : List (List Nat)) : FT.Tk → Prop
  | .week _ => True
  | .day d _ => d < days.length
  | .single d i _ => ∃ zs, days[d]? = some zs ∧ i < zs.length
def spCovers (C CZ : Addr) : L2.Sp := fun vs H Q E => ∃ (t dl : Addr) (S D W : List Int) (as : List Addr) (dz : List (List Int)), vs = [.ref t, .ref dl] ∧ TarAt C H t S D W ∧
  H dl = some (.lst (as.map V.ref)) ∧ All2 (RowAt H) as dz ∧ dz.length ≤ 50 ∧ (∀ zs, zs ∈ dz → zs.length ≤ 1000) ∧
  (∀ days : List (List Nat), dz = days.map (fun zs => zs.map fun (z : Nat) => (z : Int)) → FT.In5 days → ∀ (H' : Hp) (p tl : Addr) (tas : List Addr) (ts : List FT.Tk), Same H H' → H p = none → H tl = none →
    H' p = some (.tup [.int (FT.leastF ⟨S, D, W⟩ days), .ref tl]) → H' tl = some (.lst (tas.map V.ref)) → All2 (TkAt ⟨S, D, W⟩ H') tas ts → ts.length ≤ 100000 →
    (∀ k, k ∈ ts → k.Ok ∧ TkIn days k) → FT.AllServed ts days → FT.cost ⟨S, D, W⟩ ts = FT.leastF ⟨S, D, W⟩ days → ((∀ zs, zs ∈ days → zs = []) → ts = []) → Q (.ref p) H') ∧
  ((∃ zs z, zs ∈ dz ∧ z ∈ zs ∧ ¬ (1 ≤ z ∧ z ≤ 5)) → ∀ H', Same H H' → E (.ref CZ) none H')
end FW

namespace FW
open PySem PySem.Spec PyProof.Rows L2
open PySem.W (dataLt alike alikeAll dataLt_tuple dataLt_int dataLt_all_no dataLt_all_yes AlikeAll readsAll_atA cmpIn_lt iter_listW moved_old argBest_fold)
/-! ### min of a list of tuples that begin with a whole number: one whose first number is least -/
def fst1 : PyData → Int
  | .tuple (.int a :: _) => a
  | _ => 0
def snd1 : PyData → Int
  | .tuple (.int _ :: .int b :: _) => b
  | _ => 0
def TupI (d : PyData) : Prop := ∃ a b r, d = .tuple (.int a :: .int b :: r)
/-- by the first number, then by the second -/
def lexLe (d e : PyData) : Prop := fst1 d < fst1 e ∨ (fst1 d = fst1 e ∧ snd1 d ≤ snd1 e)
theorem lexLe.refl (d : PyData) : lexLe d d := .inr ⟨rfl, Int.le_refl _⟩
theorem lexLe.trans {d e f : PyData} (h : lexLe d e) (g : lexLe e f) : lexLe d f := by
  unfold lexLe at *
  omega
theorem int_lt (a b : Int) : (a = b → alike (.int a) (.int b) = true ∧ PyData.eqv (.int a) (.int b) = true) ∧ (a ≠ b → alike (.int a) (.int b) = true ∧ PyData.eqv (.int a) (.int b) = false) := by
  refine ⟨fun e => ?_, fun e => ?_⟩
  · subst e
    simp [alike, PyData.eqv]
  · simp [alike, PyData.eqv, e]
theorem lt_lex {d e : PyData} (hd : TupI d) (he : TupI e) : (dataLt d e = true → lexLe d e) ∧ (dataLt d e = false → lexLe e d) := by
  obtain ⟨a, b, r, rfl⟩ := hd
  obtain ⟨a', b', s, rfl⟩ := he
  show (_ → a < a' ∨ (a = a' ∧ b ≤ b')) ∧ (_ → a' < a ∨ (a' = a ∧ b' ≤ b))
  by_cases c : a = a'
  · obtain ⟨al, ev⟩ := (int_lt a a').1 c
    by_cases c2 : b = b'
    · exact ⟨fun _ => by omega, fun _ => by omega⟩
    · obtain ⟨al2, ne⟩ := (int_lt b b').2 c2
      have e : dataLt (.tuple (.int a :: .int b :: r)) (.tuple (.int a' :: .int b' :: s)) = decide (b < b') := by
        rw [dataLt_tuple, dataLt_all_yes al ev, dataLt_all_no al2 ne, dataLt_int]
      rw [e]
      exact ⟨fun z => by have := of_decide_eq_true z; omega, fun z => by have := of_decide_eq_false z; omega⟩
  · obtain ⟨al, ne⟩ := (int_lt a a').2 c
    have e : dataLt (.tuple (.int a :: .int b :: r)) (.tuple (.int a' :: .int b' :: s)) = decide (a < a') := by
      rw [dataLt_tuple, dataLt_all_no al ne, dataLt_int]
    rw [e]
    exact ⟨fun z => by have := of_decide_eq_true z; omega, fun z => by have := of_decide_eq_false z; omega⟩
theorem fold_fst : ∀ (xs : List PyData) (x : PyData), TupI x → (∀ d, d ∈ xs → TupI d) →
    let m := xs.foldl (fun a y => if dataLt y a then y else a) x
    TupI m ∧ lexLe m x ∧ ∀ d, d ∈ xs → lexLe m d
  | [], x, hx, _ => ⟨hx, .refl _, fun d m => nomatch m⟩
  | y :: xs, x, hx, h => by
    have hy := h y List.mem_cons_self
    have hc : TupI (if dataLt y x then y else x) := by split <;> assumption
    have k : lexLe (if dataLt y x then y else x) x ∧ lexLe (if dataLt y x then y else x) y := by
      have := lt_lex hy hx
      by_cases c : dataLt y x = true
      · rw [if_pos c]
        exact ⟨this.1 c, .refl _⟩
      · rw [if_neg c]
        exact ⟨.refl _, this.2 (by simpa using c)⟩
    obtain ⟨a, b, c⟩ := fold_fst xs _ hc fun d m => h d (List.mem_cons_of_mem _ m)
    refine ⟨a, b.trans k.1, fun d m => ?_⟩
    rcases List.mem_cons.mp m with rfl | m
    · exact b.trans k.2
    · exact c d m
section
variable {X : Cx}
def rMinD (K : PySem.W.Frag) : List V → Hp → VK → Prop := fun vs H Q => ∃ (a : Addr) (ys : List V) (ds : List PyData), vs = [.ref a] ∧ SqL K H a ys ∧ DpAll K H ys ds ∧ AlikeAll ds ∧ PyData.depthAll ds ≤ 60 ∧ ds ≠ [] ∧ (∀ d, d ∈ ds → TupI d) ∧
  ∀ (i : Nat) (y : V) (d : PyData), ys[i]? = some y → ds[i]? = some d → (∀ e, e ∈ ds → lexLe d e) → Q y H
theorem cr_minD (hc : X.calm = true) (hu : X.A.units + 64 < cLine) : CallR X (.builtin "min") (rMinD X.K) := by
  intro pins s σ H vs us Q I r h
  obtain ⟨a, ys, ds, rfl, hs, hd, ha, hdp, hne, ht, q⟩ := h
  obtain ⟨its, rv, hl, _⟩ := I.list hs
  rw [Vals.ref1 r]
  obtain ⟨as, hr⟩ := Dp.readsAll I ds _ its hd rv
  have hr' : ReadsAll s.heap its.toArray.toList ds as := hr
  cases ds with
  | nil => exact absurd rfl hne
  | cons x xs =>
    have hn : its.toArray.size = xs.length + 1 := PySem.W.readsAll_len hr'
    refine call_min_walkH (iter_listW (A := X.A.in1) (I.ok.hd hc) hl.isList fun s₂ e W st hfp hw hk => ?_)
    refine ⟨_, _, _, _, _, _, _, s.heap, _, rfl, W, st, hfp, by omega, hw, hk, cmpIn_lt (A := X.A.in1) hr' ha (by show X.A.units + 1 + _ < _; omega), fun v s' hP m => ?_⟩
    obtain ⟨h', tk, rfl, hk'⟩ := moved_old e rfl m
    have e1 : its.toArray.size - 1 = xs.length := by omega
    have e2 := argBest_fold dataLt PyData.none x xs xs.length (Nat.le_refl _)
    rw [List.take_length] at e2
    rw [e1] at hP
    obtain ⟨_, _, il, _, _⟩ := readsAll_atA hr' _ v hP
    have hv : its[argBest (fun i j => dataLt ((x :: xs).getD i .none) ((x :: xs).getD j .none)) xs.length]? = some v := by
      have := hP
      simpa using this
    have hy : ∃ y, ys[argBest (fun i j => dataLt ((x :: xs).getD i .none) ((x :: xs).getD j .none)) xs.length]? = some y ∧ RelV y v := by
      clear e2 hP m hk' W st hfp hw hk e il q
      generalize argBest (fun i j => dataLt ((x :: xs).getD i .none) ((x :: xs).getD j .none)) xs.length = k at hv
      have hlen := rv.length
      have hk : k < ys.length := by
        have := (List.getElem?_eq_some_iff.mp hv).1
        omega
      obtain ⟨w, ew, rw'⟩ := rv.get (List.getElem?_eq_getElem hk)
      rw [hv] at ew
      cases ew
      exact ⟨_, List.getElem?_eq_getElem hk, rw'⟩
    obtain ⟨y, ey, ry⟩ := hy
    obtain ⟨f1, f2, f3⟩ := fold_fst xs x (ht x List.mem_cons_self) fun d m => ht d (List.mem_cons_of_mem _ m)
    refine ⟨y, H, I.kept hk', ry, q _ y _ ey (List.getElem?_eq_getElem il) fun d md => ?_⟩
    have e3 : (x :: xs)[argBest (fun i j => dataLt ((x :: xs).getD i .none) ((x :: xs).getD j .none)) xs.length]'il = xs.foldl (fun a y => if dataLt y a then y else a) x := by
      rw [← e2.2, List.getD_eq_getElem?_getD, List.getElem?_eq_getElem il]
      rfl
    rw [e3]
    rcases List.mem_cons.mp md with rfl | md
    · exact f2
    · exact f3 d md
end
/-! pairs, and plans -/
section
variable {K : PySem.W.Frag}
def PairAt (H : Hp) (a : Addr) (p : Int × Nat) : Prop := H a = some (.tup [.int p.1, .int (p.2 : Nat)])
def pairD (p : Int × Nat) : PyData := .tuple [.int p.1, .int (p.2 : Nat)]
theorem minP_of {H : Hp} {Q : VK} {a : Addr} {as : List Addr} {ps : List (Int × Nat)} (ha : H a = some (.lst (as.map V.ref))) (h : All2 (PairAt H) as ps) (ne : ps ≠ [])
    (q : ∀ (i : Nat) (t : Addr) (p : Int × Nat), as[i]? = some t → ps[i]? = some p → PairAt H t p → (∀ r, r ∈ ps → p.1 ≤ r.1) → (∀ r, r ∈ ps → p.1 = r.1 → p.2 ≤ r.2) → Q (.ref t) H) : rMinD K [.ref a] H Q := by
  refine ⟨a, as.map V.ref, ps.map pairD, rfl, SqL.of ha, ?_, ⟨fun x mx y my => ?_, fun x mx => ?_⟩, ?_, ?_, fun d md => ?_, fun i y d ey ed hle => ?_⟩
  · clear q ne ha
    induction h with
    | nil => exact .nil
    | cons r _ ih => exact .cons (.tup (SqT.of r) (.cons (.int _) (.cons (.int _) .nil))) ih
  · obtain ⟨p, _, rfl⟩ := List.mem_map.mp mx
    obtain ⟨p2, _, rfl⟩ := List.mem_map.mp my
    simp [pairD, alike, alikeAll]
  · obtain ⟨p, _, rfl⟩ := List.mem_map.mp mx
    exact fun z => nomatch z
  · clear q ne ha h
    induction ps with
    | nil => simp [PyData.depthAll]
    | cons p ps ih => simp [PyData.depthAll, pairD, PyData.depth]; omega
  · intro z
    exact ne (List.map_eq_nil_iff.mp z)
  · obtain ⟨p, _, rfl⟩ := List.mem_map.mp md
    exact ⟨_, _, _, rfl⟩
  · rw [List.getElem?_map] at ey ed
    obtain ⟨t, et, rfl⟩ := Option.map_eq_some_iff.mp ey
    obtain ⟨p, ep, rfl⟩ := Option.map_eq_some_iff.mp ed
    have key : ∀ r, r ∈ ps → p.1 < r.1 ∨ (p.1 = r.1 ∧ ((p.2 : Nat) : Int) ≤ (r.2 : Nat)) := fun r mr => hle _ (List.mem_map.mpr ⟨r, mr, rfl⟩)
    exact q i t p et ep (h.at et ep) (fun r mr => by have := key r mr; omega) fun r mr e => by have := key r mr; omega
structure Plan where
  c : Int
  w : Nat
  ds : List Nat
def PlanAt (H : Hp) (a : Addr) (p : Plan) : Prop := ∃ l, H a = some (.tup [.int p.c, .int (p.w : Nat), .ref l]) ∧ H l = some (.lst (p.ds.map fun (k : Nat) => V.int (k : Nat)))
def planD (p : Plan) : PyData := .tuple [.int p.c, .int (p.w : Nat), .list (p.ds.map fun (k : Nat) => PyData.int (k : Nat))]
theorem nats_dp {H : Hp} : ∀ ns : List Nat, DpAll K H (ns.map fun (k : Nat) => V.int (k : Nat)) (ns.map fun (k : Nat) => PyData.int (k : Nat))
  | [] => .nil
  | n :: ns => .cons (.int _) (nats_dp ns)
theorem nats_dep : ∀ ns : List Nat, PyData.depthAll (ns.map fun (k : Nat) => PyData.int (k : Nat)) = 0
  | [] => by simp [PyData.depthAll]
  | n :: ns => by
    have ih := nats_dep ns
    simpa [PyData.depthAll, PyData.depth] using ih
theorem nats_alike : ∀ ns ms : List Nat, alikeAll (ns.map fun (k : Nat) => PyData.int (k : Nat)) (ms.map fun (k : Nat) => PyData.int (k : Nat)) = true
  | [], _ => by simp [alikeAll]
  | _ :: _, [] => by simp [alikeAll]
  | n :: ns, m :: ms => by
    have ih := nats_alike ns ms
    simpa [alikeAll, alike] using ih
theorem min3_of {H : Hp} {Q : VK} {a : Addr} {as : List Addr} {ps : List Plan} (ha : H a = some (.lst (as.map V.ref))) (h : All2 (PlanAt H) as ps) (ne : ps ≠ [])
    (q : ∀ (i : Nat) (t : Addr) (p : Plan), as[i]? = some t → ps[i]? = some p → PlanAt H t p → (∀ r, r ∈ ps → p.c ≤ r.c) → (∀ r, r ∈ ps → p.c = r.c → p.w ≤ r.w) → Q (.ref t) H) : rMinD K [.ref a] H Q := by
  refine ⟨a, as.map V.ref, ps.map planD, rfl, SqL.of ha, ?_, ⟨fun x mx y my => ?_, fun x mx => ?_⟩, ?_, ?_, fun d md => ?_, fun i y d ey ed hle => ?_⟩
  · clear q ne ha
    induction h with
    | nil => exact .nil
    | cons r _ ih =>
      obtain ⟨l, r1, r2⟩ := r
      exact .cons (.tup (SqT.of r1) (.cons (.int _) (.cons (.int _) (.cons (.lst (SqL.of r2) (nats_dp _)) .nil)))) ih
  · obtain ⟨p, _, rfl⟩ := List.mem_map.mp mx
    obtain ⟨p2, _, rfl⟩ := List.mem_map.mp my
    have := nats_alike p.ds p2.ds
    simp [planD, alike, alikeAll, this]
  · obtain ⟨p, _, rfl⟩ := List.mem_map.mp mx
    exact fun z => nomatch z
  · clear q ne ha h
    induction ps with
    | nil => simp [PyData.depthAll]
    | cons p ps ih =>
      have := nats_dep p.ds
      simp [PyData.depthAll, planD, PyData.depth, this]
      omega
  · intro z
    exact ne (List.map_eq_nil_iff.mp z)
  · obtain ⟨p, _, rfl⟩ := List.mem_map.mp md
    exact ⟨_, _, _, rfl⟩
  · rw [List.getElem?_map] at ey ed
    obtain ⟨t, et, rfl⟩ := Option.map_eq_some_iff.mp ey
    obtain ⟨p, ep, rfl⟩ := Option.map_eq_some_iff.mp ed
    have key : ∀ r, r ∈ ps → p.c < r.c ∨ (p.c = r.c ∧ ((p.w : Nat) : Int) ≤ (r.w : Nat)) := fun r mr => hle _ (List.mem_map.mpr ⟨r, mr, rfl⟩)
    exact q i t p et ep (h.at et ep) (fun r mr => by have := key r mr; omega) fun r mr e => by have := key r mr; omega
end
end FW

namespace FW
open PySem PySem.Spec PyProof.Rows L2
/-! ### the program's prices -/
abbrev sTInit : Stmt := inClass (top 11) 0
abbrev sTSingle : Stmt := inClass (top 11) 1
abbrev sTDay : Stmt := inClass (top 11) 2
abbrev sTWeek : Stmt := inClass (top 11) 3
abbrev sCheapest : Stmt := top 12
abbrev sCheckZones : Stmt := top 13
abbrev sLeastPrice : Stmt := top 14
abbrev sCheckPrices : Stmt := top 15
theorem scTInit : FnScope ["self", "singles", "days", "weeks", "prices"] ["self", "singles", "days", "weeks"] (defScope sTInit) := ⟨rfl, rfl, rfl, by decide +kernel, rfl, by decide +kernel, by decide +kernel⟩
theorem scTSingle : FnScope ["self", "zones"] ["self", "zones"] (defScope sTSingle) := ⟨rfl, rfl, rfl, by decide +kernel, rfl, by decide +kernel, by decide +kernel⟩
theorem scTDay : FnScope ["self", "zones"] ["self", "zones"] (defScope sTDay) := ⟨rfl, rfl, rfl, by decide +kernel, rfl, by decide +kernel, by decide +kernel⟩
theorem scTWeek : FnScope ["self", "zones"] ["self", "zones"] (defScope sTWeek) := ⟨rfl, rfl, rfl, by decide +kernel, rfl, by decide +kernel, by decide +kernel⟩
theorem scCheapest : FnScope ["prices", "zones", "size"] ["prices", "zones"] (defScope sCheapest) := ⟨rfl, rfl, rfl, by decide +kernel, rfl, by decide +kernel, by decide +kernel⟩
theorem scCheckZones : FnScope ["zones"] ["zones"] (defScope sCheckZones) := ⟨rfl, rfl, rfl, by decide +kernel, rfl, by decide +kernel, by decide +kernel⟩
theorem scLeastPrice : FnScope ["prices", "zones", "price", "_"] ["prices", "zones"] (defScope sLeastPrice) := ⟨rfl, rfl, rfl, by decide +kernel, rfl, by decide +kernel, by decide +kernel⟩
theorem scCheckPrices : FnScope ["prices"] ["prices"] (defScope sCheckPrices) := ⟨rfl, rfl, rfl, by decide +kernel, rfl, by decide +kernel, by decide +kernel⟩
/-- what the top has written for the prices: CP, CZ the two refusals -/
structure PTx (K : PySem.W.Frag) (mg : Str → Option Value) (C CP CZ : Addr) : Prop where
  cl : Cls K C
  nS : NoAttr K C "singles"
  nD : NoAttr K C "days"
  nW : NoAttr K C "weeks"
  len : mg "len" = none
  list : mg "list" = none
  range : mg "range" = none
  min : mg "min" = none
  mz : ∃ t, mg "MOST_ZONES" = some (.int 5 t)
  eP : ErrT K mg "BadPrices" CP
  eZ : ErrT K mg "BadZones" CZ
section
variable {P : Program} {w : World} {K : PySem.W.Frag} {mg : Str → Option Value} {base : Heap} {C CP CZ : Addr}
/-! ### _check_prices -/
def spCheckPrices (K : PySem.W.Frag) (CP : Addr) : L2.Sp := fun vs H Q E => ∃ (a : Addr) (r : List Int), vs = [.ref a] ∧ SqL K H a (r.map V.int) ∧ (Five r → Q .non H) ∧ (¬ Five r → E (.ref CP) none H)
theorem ok_checkPrices {f : Addr} {fd : FuncData} (F : Fun K "_check_prices" "_check_prices" sCheckPrices f fd) (T : PTx K mg C CP CZ) : FnOk P w K mg base (L2N.CX P w) 1 f fd ["prices"] (spCheckPrices K CP) := by
  obtain ⟨mt, mz⟩ := T.mz
  refine okN F scCheckPrices (fun vs H Q E h => ?_) (fun cdv A outer s H vs Q E hr h => ?_)
  · obtain ⟨a, r, rfl, _⟩ := h
    rfl
  · obtain ⟨a, r, rfl, hS, q1, q2⟩ := h
    refine ⟨_, pss_cons (ps_if (pt_cmpR op_ne (pe_callB call_len_seq (by rfl) T.len PySem.boot_len (pa_cons (pv 0) pa_nil)) (pe_glob (v := .int 5) rfl mz ⟨mt, rfl⟩) (nomark _))
        (pss_one (L2N.ps_raise rfl (L2N.takes_of rfl rfl rfl rfl) (pmk_msg T.eP rfl))) pss_nil)
      (pss_one (ps_if (pt_cmpR op_lt (pe_callB (cr_min rfl) (by rfl) T.min (by decide +kernel) (pa_cons (pv 0) pa_nil)) pe_int (nomark _))
        (pss_one (L2N.ps_raise rfl (L2N.takes_of rfl rfl rfl rfl) (pmk_msg T.eP rfl))) pss_nil)), ?_⟩
    refine ⟨_, rfl, a, _, rfl, .inl hS, rfl, _, rfl, ?_⟩
    refine ite2 (fun e => ?_) (fun e => ?_)
    · refine q2 fun z => nd_of e ?_
      rw [List.length_map, z.1]
      rfl
    · have l5 : r.length = 5 := by
        have := V.int.inj (d_of e)
        rw [List.length_map] at this
        omega
      refine ⟨_, rfl, a, r, rfl, hS, by omega, fun m hm hle => ⟨_, _, rfl, rfl, _, rfl, ?_⟩⟩
      refine ite2 (fun e => ?_) (fun e => ?_)
      · have hm0 : m < 0 := of_decide_eq_true e
        exact q2 fun z => by
          have := z.2 m hm
          omega
      · have hm0 : ¬ m < 0 := fun z => e (decide_eq_true z)
        exact q1 ⟨l5, fun x hx => by
          have := hle x hx
          omega⟩
/-! ### check_zones -/
def spCheckZones (CZ : Addr) : L2.Sp := fun vs H Q E => ∃ z : Int, vs = [.int z] ∧ (1 ≤ z ∧ z ≤ 5 → Q .non H) ∧ (¬ (1 ≤ z ∧ z ≤ 5) → E (.ref CZ) none H)
theorem ok_checkZones {f : Addr} {fd : FuncData} (F : Fun K "check_zones" "check_zones" sCheckZones f fd) (T : PTx K mg C CP CZ) : FnOk P w K mg base (L2N.CX P w) 1 f fd ["zones"] (spCheckZones CZ) := by
  obtain ⟨mt, mz⟩ := T.mz
  refine okN F scCheckZones (fun vs H Q E h => ?_) (fun cdv A outer s H vs Q E hr h => ?_)
  · obtain ⟨z, rfl, _⟩ := h
    rfl
  · obtain ⟨z, rfl, q1, q2⟩ := h
    refine ⟨_, pss_one (ps_if (pt_not (pt_chain op_le op_le pe_int (pv 0) (pe_glob (v := .int 5) rfl mz ⟨mt, rfl⟩)))
        (pss_one (L2N.ps_raise rfl (L2N.takes_of rfl rfl rfl rfl) (pmk_msg T.eZ rfl))) pss_nil), ?_⟩
    refine ⟨_, rfl, _, _, rfl, rfl, _, rfl, ?_⟩
    refine ite2 (fun e => ?_) (fun e => ?_)
    · have h1 : 1 ≤ z := of_decide_eq_true e
      refine ⟨_, _, rfl, rfl, _, rfl, ?_⟩
      refine ite2 (fun e => ?_) (fun e => ?_)
      · exact q2 fun y => nd_of e y.2
      · exact q1 ⟨h1, d_of e⟩
    · have h1 : ¬ 1 ≤ z := fun y => e (decide_eq_true y)
      refine ⟨_, rfl, ?_⟩
      refine iteT ?_
      exact q2 fun y => h1 y.1
/-! ### cheapest -/
def spCheapest (K : PySem.W.Frag) : L2.Sp := fun vs H Q _ => ∃ (a : Addr) (r : List Int) (z : Nat), vs = [.ref a, .int z] ∧ SqL K H a (r.map V.int) ∧ (∀ H', Same H H' → SqL K H' a (r.map V.int)) ∧ r.length = 5 ∧ 1 ≤ z ∧ z ≤ 5 ∧
  ∀ (H' : Hp) (p : Addr) (k : Nat), Same H H' → H' p = some (.tup [.int (FT.best r z), .int (k : Nat)]) → z ≤ k → k ≤ 5 → FT.pr r k = FT.best r z → Q (.ref p) H'
theorem ok_cheapest {f : Addr} {fd : FuncData} (F : Fun K "cheapest" "cheapest" sCheapest f fd) (T : PTx K mg C CP CZ) : FnOk P w K mg base CX0 1 f fd ["prices", "zones"] (spCheapest K) := by
  obtain ⟨mt, mz⟩ := T.mz
  refine F.ok scCheapest (fun vs H Q E h => ?_) (fun cdv A outer s H vs Q E hr h => ?_)
  · obtain ⟨a, r, z, rfl, _⟩ := h
    rfl
  · obtain ⟨a, r, z, rfl, hS, hK, h5, h1, hz, q⟩ := h
    refine ⟨_, pss_one (ps_ret (pe_callB (cr_minD rfl hr.units) (by rfl) T.min (by decide +kernel) (pa_cons
      (pe_lc (own := [("size", 2)]) (g := gName 2) (by rfl) scCheapest.nd (pi_range2 (by rfl) T.range (pa_cons (pv 1) (pa_cons (pe_op op_add (pe_glob (v := .int 5) rfl mz ⟨mt, rfl⟩) pe_int) pa_nil)))
        (blkOk_by (own := [("size", 2)]) (N := ["prices", "zones", "size"]) (sc := defScope sCheapest) (by decide +kernel)) (fun _ _ _ _ _ => pg_name (i := 2) scCheapest.nd rfl (Or.inl rfl)) (fun _ _ _ _ _ => pts_nil)
        (fun _ _ _ _ _ => pe_tup (pa_cons (pe_ix (r := rIxL K) ix_list (pv 0) (pe_op op_sub (pv 2) pe_int) (fun _ _ => rfl)) (pa_cons (pv 2) pa_nil)))) pa_nil))), ?_⟩
    refine ⟨_, rfl, _, _, rfl, rfl, z, 6, rfl, ⟨by omega, by omega, by omega, by omega⟩, fun D hD => ?_⟩
    refine lc_range (lo := z) (n := ((6 : Int) - z).toNat) (fun i H' => Same H H' ∧ ∃ as : List Addr, H' D = some (.lst (as.map V.ref)) ∧ All2 (PairAt H') as ((List.range i).map fun j => (FT.pr r (z + j), z + j)))
      ⟨same_upd hD, [], upd_same, .nil⟩ ?_ ?_
    · rintro i H1 hi ⟨sm, as, eD, hA⟩
      refine ⟨rfl, ?_⟩
      refine tYes_if ?_
      have hzi : z + i ≤ 5 := by omega
      have g : atI (r.map V.int) ((z : Int) + i - 1) = some (.int (FT.pr r (z + i))) := by
        refine at_of (j := z + i - 1) (by omega) ?_
        rw [List.getElem?_map, List.getElem?_eq_getElem (by omega)]
        unfold FT.pr
        rw [List.getD_eq_getElem?_getD, List.getElem?_eq_getElem (by omega)]
        rfl
      refine ⟨_, rfl, _, rfl, _, _, rfl, rfl, a, _, _, _, rfl, rfl, hK _ sm, g, _, rfl, by show 2 ≤ sizeLine; decide, fun p np => ?_⟩
      have nDp : D ≠ p := ne_of_none eD np
      refine ⟨as.map V.ref, by rw [upd_ne nDp]; exact eD, small_line (by rw [List.length_map, hA.len, List.length_map, List.length_range]; omega), ?_⟩
      have nas : ∀ b x, PairAt H1 b x → b ≠ p := fun b x hb => ne_of_none hb np
      refine ⟨upd_out (sm.trans (same_upd np)) hD, as ++ [p], by rw [upd_same, List.map_append]; rfl, ?_⟩
      rw [List.range_succ, List.map_append]
      refine All2.app (hA.imp fun b x hb => ?_) (All2.one ?_)
      · show upd (upd H1 p _) D _ b = _
        rw [upd_ne (ne_of hb eD (by intro y; cases y)), upd_ne (nas b x hb)]
        exact hb
      · show upd (upd H1 p _) D _ p = _
        rw [upd_ne nDp.symm, upd_same]
        have e : ((z : Int) + i) = ((z + i : Nat) : Int) := by omega
        rw [e]
    · rintro H1 ⟨sm, as, eD, hA⟩
      refine minP_of eD hA ?_ fun i t p et ep hp hle _ => ?_
      · intro y
        have := congrArg List.length y
        rw [List.length_map, List.length_range] at this
        simp at this
        omega
      · rw [List.getElem?_map] at ep
        obtain ⟨j, ej, rfl⟩ := Option.map_eq_some_iff.mp ep
        have hj : j < ((6 : Int) - z).toNat := List.mem_range.mp (List.mem_of_getElem? ej)
        have eb : FT.pr r (z + j) = FT.best r z := FT.best_eq h1 hz ⟨z + j, by omega, by omega, rfl⟩ fun k k1 k2 => by
          have := hle (FT.pr r (z + (k - z)), z + (k - z)) (List.mem_map.mpr ⟨k - z, List.mem_range.mpr (by omega), rfl⟩)
          have e2 : z + (k - z) = k := by omega
          rw [e2] at this
          exact this
        refine q H1 t (z + j) sm ?_ (by omega) (by omega) eb
        rw [← eb]
        exact hp
/-! ### _least_price -/
def spLeastPrice (K : PySem.W.Frag) (CZ : Addr) : L2.Sp := fun vs H Q E => ∃ (a : Addr) (r : List Int) (z : Int), vs = [.ref a, .int z] ∧ RowAt H a r ∧ r.length = 5 ∧
  (1 ≤ z ∧ z ≤ 5 → ∀ H', Same H H' → Q (.int (FT.best r z.toNat)) H') ∧ (¬ (1 ≤ z ∧ z ≤ 5) → E (.ref CZ) none H)
theorem ok_leastPrice {f fZ fC : Addr} {fd fdZ fdC : FuncData} (F : Fun K "_least_price" "_least_price" sLeastPrice f fd) (T : PTx K mg C CP CZ)
    (FZ : Fun K "check_zones" "check_zones" sCheckZones fZ fdZ) (bZ : Binds K fdZ ["zones"] []) (gZ : mg "check_zones" = some (.ref fZ))
    (FC : Fun K "cheapest" "cheapest" sCheapest fC fdC) (bC : Binds K fdC ["prices", "zones"] []) (gC : mg "cheapest" = some (.ref fC)) :
    FnOk P w K mg base (L2N.CX P w) 2 f fd ["prices", "zones"] (spLeastPrice K CZ) := by
  have GZ : FnOk P w K mg base (L2N.CX P w) 1 fZ fdZ ["zones"] (spCheckZones CZ) := ok_checkZones FZ T
  have GC : FnOk P w K mg base CX0 1 fC fdC ["prices", "zones"] (spCheapest K) := ok_cheapest FC T
  refine okN F scLeastPrice (fun vs H Q E h => ?_) (fun cdv A outer s H vs Q E hr h => ?_)
  · obtain ⟨a, r, z, rfl, _⟩ := h
    rfl
  · obtain ⟨a, r, z, rfl, hR, h5, q1, q2⟩ := h
    refine ⟨_, pss_cons (ps_expr (pe_call GZ hr (by rfl) gZ FZ.kp bZ .nil (L2N.passes_call (W := fun cls d _ H => E cls d H) (L2N.takes_of rfl rfl rfl rfl) (fun _ _ _ _ h => h)) (pa_cons (pv 1) pa_nil)))
      (pss_cons (ps_asg (pe_call GC hr (by rfl) gC FC.kp bC .nil pass0 (pa_cons (pv 0) (pa_cons (pv 1) pa_nil))) (pg_tup rfl (pgs_cons (pg_name (i := 2) scLeastPrice.nd rfl (.inl rfl)) (pgs_cons (pg_name (i := 3) scLeastPrice.nd rfl (.inl rfl)) pgs_nil))))
      (pss_one (ps_ret (pv 2)))), ?_⟩
    refine ⟨_, rfl, z, rfl, fun hz => ?_, q2⟩
    obtain ⟨k, rfl⟩ : ∃ k : Nat, z = k := ⟨z.toNat, by omega⟩
    refine ⟨_, rfl, _, rfl, a, r, k, rfl, SqL.of hR, fun H' s' => SqL.of (s' _ _ hR), h5, by omega, by omega, fun H' p j sm hp _ _ _ => ?_⟩
    refine ⟨p, _, rfl, SqT.of hp, rfl, _, _, rfl, _, _, rfl, rfl, _, rfl, ?_⟩
    exact q1 hz H' sm
/-! ### Tariff -/
def tf (sa da wa : Addr) : List (Str × V) := putF "weeks" (.ref wa) (putF "days" (.ref da) (putF "singles" (.ref sa) []))
theorem g12 : ¬ (("singles" : Str) = "days") := by decide +kernel
theorem g13 : ¬ (("singles" : Str) = "weeks") := by decide +kernel
theorem g23 : ¬ (("days" : Str) = "weeks") := by decide +kernel
theorem tf_s (sa da wa : Addr) : (tf sa da wa).lookup ("singles" : Str) = some (.ref sa) := by
  unfold tf
  rw [lookup_putF, if_neg g13, lookup_putF, if_neg g12, lookup_putF, if_pos rfl]
theorem tf_d (sa da wa : Addr) : (tf sa da wa).lookup ("days" : Str) = some (.ref da) := by
  unfold tf
  rw [lookup_putF, if_neg g23, lookup_putF, if_pos rfl]
theorem tf_w (sa da wa : Addr) : (tf sa da wa).lookup ("weeks" : Str) = some (.ref wa) := by
  unfold tf
  rw [lookup_putF, if_pos rfl]
theorem tf_no (sa da wa : Addr) {m : Str} (h1 : ¬ m = "singles") (h2 : ¬ m = "days") (h3 : ¬ m = "weeks") : (tf sa da wa).lookup m = none := by
  unfold tf
  rw [lookup_putF, if_neg h3, lookup_putF, if_neg h2, lookup_putF, if_neg h1]
  all_goals rfl
theorem ok_tInit {f fP : Addr} {fd fdP : FuncData} (F : Fun K "__init__" "Tariff.__init__" sTInit f fd) (T : PTx K mg C CP CZ)
    (FP : Fun K "_check_prices" "_check_prices" sCheckPrices fP fdP) (bP : Binds K fdP ["prices"] []) (gP : mg "_check_prices" = some (.ref fP)) :
    FnOk P w K mg base (L2N.CX P w) 2 f fd ["self", "singles", "days", "weeks"] (spTInit K C CP) := by
  have GP : FnOk P w K mg base (L2N.CX P w) 1 fP fdP ["prices"] (spCheckPrices K CP) := ok_checkPrices FP T
  refine okN F scTInit (fun vs H Q E h => ?_) (fun cdv A outer s H vs Q E hr h => ?_)
  · obtain ⟨p, dx, sa, da, wa, S, D, W, rfl, _⟩ := h
    rfl
  · obtain ⟨p, dx, sa, da, wa, S, D, W, rfl, hp, hk, _, _, _, q1, q2⟩ := h
    refine ⟨_, pss_cons (ps_for (passes_of rfl) rfl (pi_tup (pe_tup (pa_cons (pv 1) (pa_cons (pv 2) (pa_cons (pv 3) pa_nil))))) (pg_name (i := 4) scTInit.nd rfl (.inl rfl))
        (pss_one (ps_expr (pe_call GP hr (by rfl) gP FP.kp bP .nil (L2N.passes_call (W := fun cls d _ H => E cls d H) (L2N.takes_of rfl rfl rfl rfl) (fun _ _ _ _ h => h)) (pa_cons (pv 4) pa_nil)))))
      (pss_cons (ps_fld (pv 0) (pe_callTy call_list_of (by rfl) T.list (by decide +kernel) (pa_cons (pv 1) pa_nil)) rfl)
      (pss_cons (ps_fld (pv 0) (pe_callTy call_list_of (by rfl) T.list (by decide +kernel) (pa_cons (pv 2) pa_nil)) rfl)
      (pss_one (ps_fld (pv 0) (pe_callTy call_list_of (by rfl) T.list (by decide +kernel) (pa_cons (pv 3) pa_nil)) rfl)))), ?_⟩
    refine ⟨_, rfl, _, rfl, _, rfl, by show 3 ≤ sizeLine; decide, fun t nt => ?_⟩
    have k0 : Kept H (upd H t (.tup [.ref sa, .ref da, .ref wa])) p := fun b o e n => by rw [upd_ne (ne_of_none e nt)]; exact e
    have pt : p ≠ t := ne_of_none hp nt
    obtain ⟨H0, e0⟩ : ∃ H0, H0 = upd H t (.tup [V.ref sa, .ref da, .ref wa]) := ⟨_, rfl⟩
    have ht : H0 t = some (.tup [.ref sa, .ref da, .ref wa]) := by rw [e0, upd_same]
    have hp0 : H0 p = some (.ins C dx []) := by rw [e0, upd_ne pt]; exact hp
    rw [← e0] at k0
    show ∃ a, _
    rw [← e0]
    obtain ⟨hs0, hd0, hw0⟩ := hk H0 k0
    have bad : ∀ (i : Nat) (r : List Int), [S, D, W][i]? = some r → ¬ Five r → ¬ (Five S ∧ Five D ∧ Five W) := fun i r e nr z => by
      rcases i with _ | _ | _ | i
      · cases e; exact nr z.1
      · cases e; exact nr z.2.1
      · cases e; exact nr z.2.2
      · simp at e
    refine ⟨t, rfl, ⟨_, SqT.of ht⟩, for_tup (K := K) (a := t) (xs := [.ref sa, .ref da, .ref wa]) (fun i σ H' => H' = H0 ∧ (∃ y4 : Option V, σ = [some (.ref p), some (.ref sa), some (.ref da), some (.ref wa), y4]) ∧ ∀ j r, j < i → [S, D, W][j]? = some r → Five r)
      ⟨rfl, ⟨none, rfl⟩, fun j r h => absurd h (Nat.not_lt_zero j)⟩ (fun i σ H' _ h => by rw [h.1]; exact SqT.of ht) ?_ ?_⟩
    · rintro i x σ H' hi ⟨e', ⟨y4, rfl⟩, hf⟩
      have e2 := e'.symm
      subst e2
      obtain ⟨a, r, rfl, er, hS⟩ : ∃ (a : Addr) (r : List Int), x = .ref a ∧ [S, D, W][i]? = some r ∧ SqL K H0 a (r.map V.int) := by
        rcases i with _ | _ | _ | i
        · cases hi; exact ⟨sa, S, rfl, rfl, hs0⟩
        · cases hi; exact ⟨da, D, rfl, rfl, hd0⟩
        · cases hi; exact ⟨wa, W, rfl, rfl, hw0⟩
        · simp at hi
      refine ⟨_, rfl, a, r, rfl, hS, fun f5 => ⟨rfl, ⟨_, rfl⟩, fun j r' hj ej => ?_⟩, fun n5 => q2 (bad i r er n5) H0 k0⟩
      rcases Nat.lt_succ_iff_lt_or_eq.mp hj with h | h
      · exact hf j r' h ej
      · subst h
        rw [er] at ej
        cases ej
        exact f5
    · rintro σ H' ⟨e', ⟨y4, rfl⟩, hf⟩
      have e2 := e'.symm
      subst e2
      have ok : Five S ∧ Five D ∧ Five W := ⟨hf 0 S (by show 0 < 3; decide) rfl, hf 1 D (by show 1 < 3; decide) rfl, hf 2 W (by show 2 < 3; decide) rfl⟩
      -- self.singles = list(singles)
      refine ⟨_, rfl, sa, _, rfl, .inl hs0, fun la nla => ?_⟩
      have pl : p ≠ la := ne_of_none hp0 nla
      refine ⟨_, rfl, p, C, dx, [], rfl, by rw [upd_ne pl]; exact hp0, T.cl, T.nS, by show 0 < 1000; decide, ?_⟩
      obtain ⟨H1, e1⟩ : ∃ H1, H1 = upd (upd H0 la (.lst (S.map V.int))) p (.ins C dx (putF "singles" (.ref la) [])) := ⟨_, rfl⟩
      rw [← e1]
      have k1 : Kept H0 H1 p := e1 ▸ Kept.put fun b o e n => by rw [upd_ne (ne_of_none e nla)]; exact e
      have k1' : Kept H H1 p := fun b o e n => k1 b o (k0 b o e n) n
      have hl1 : RowAt H1 la S := by show H1 la = _; rw [e1, upd_ne pl.symm, upd_same]
      have hp1 : H1 p = some (.ins C dx (putF "singles" (.ref la) [])) := by rw [e1, upd_same]
      clear e1
      obtain ⟨_, hd1, _⟩ := hk H1 k1'
      -- self.days = list(days)
      refine ⟨_, rfl, da, _, rfl, .inl hd1, fun lb nlb => ?_⟩
      have pb : p ≠ lb := ne_of_none hp1 nlb
      refine ⟨_, rfl, p, C, dx, _, rfl, by rw [upd_ne pb]; exact hp1, T.cl, T.nD, by show 1 < 1000; decide, ?_⟩
      obtain ⟨H2, e2⟩ : ∃ H2, H2 = upd (upd H1 lb (.lst (D.map V.int))) p (.ins C dx (putF "days" (.ref lb) (putF "singles" (.ref la) []))) := ⟨_, rfl⟩
      rw [← e2]
      have k2 : Kept H1 H2 p := e2 ▸ Kept.put fun b o e n => by rw [upd_ne (ne_of_none e nlb)]; exact e
      have k2' : Kept H H2 p := fun b o e n => k2 b o (k1' b o e n) n
      have hl2 : RowAt H2 la S := k2 _ _ hl1 pl.symm
      have hb2 : RowAt H2 lb D := by show H2 lb = _; rw [e2, upd_ne pb.symm, upd_same]
      have hp2 : H2 p = some (.ins C dx (putF "days" (.ref lb) (putF "singles" (.ref la) []))) := by rw [e2, upd_same]
      clear e2
      obtain ⟨_, _, hw2⟩ := hk H2 k2'
      -- self.weeks = list(weeks)
      refine ⟨_, rfl, wa, _, rfl, .inl hw2, fun lc nlc => ?_⟩
      have pc : p ≠ lc := ne_of_none hp2 nlc
      refine ⟨_, rfl, p, C, dx, _, rfl, by rw [upd_ne pc]; exact hp2, T.cl, T.nW, by show 2 < 1000; decide, ?_⟩
      obtain ⟨H3, e3⟩ : ∃ H3, H3 = upd (upd H2 lc (.lst (W.map V.int))) p (.ins C dx (tf la lb lc)) := ⟨_, rfl⟩
      have k3 : Kept H2 H3 p := e3 ▸ Kept.put fun b o e n => by rw [upd_ne (ne_of_none e nlc)]; exact e
      have k3' : Kept H H3 p := fun b o e n => k3 b o (k2' b o e n) n
      have hl3 : RowAt H3 la S := k3 _ _ hl2 pl.symm
      have hb3 : RowAt H3 lb D := k3 _ _ hb2 pb.symm
      have hc3 : RowAt H3 lc W := by show H3 lc = _; rw [e3, upd_ne pc.symm, upd_same]
      have hp3 : H3 p = some (.ins C dx (tf la lb lc)) := by rw [e3, upd_same]
      have stays : TStays C H H3 p S D W := fun H'' keep => ⟨⟨dx, _, la, lb, lc, keep _ _ hp3 (.inr rfl), tf_s _ _ _, tf_d _ _ _, tf_w _ _ _, tf_no _ _ _ (by decide +kernel) (by decide +kernel) (by decide +kernel),
        tf_no _ _ _ (by decide +kernel) (by decide +kernel) (by decide +kernel), tf_no _ _ _ (by decide +kernel) (by decide +kernel) (by decide +kernel), keep _ _ hl3 (.inl (k0.new nla pl.symm)), keep _ _ hb3 (.inl (k1'.new nlb pb.symm)), keep _ _ hc3 (.inl (k2'.new nlc pc.symm))⟩, ok⟩
      have fin := q1 ok H3 k3' (stays H3 fun b o e _ => e) stays
      rw [e3] at fin
      exact fin
/-! ### Tariff.single, day, week -/
theorem ok_tSingle {f fL fZ fC : Addr} {fd fdL fdZ fdC : FuncData} (F : Fun K "single" "Tariff.single" sTSingle f fd) (T : PTx K mg C CP CZ)
    (FZ : Fun K "check_zones" "check_zones" sCheckZones fZ fdZ) (bZ : Binds K fdZ ["zones"] []) (gZ : mg "check_zones" = some (.ref fZ))
    (FC : Fun K "cheapest" "cheapest" sCheapest fC fdC) (bC : Binds K fdC ["prices", "zones"] []) (gC : mg "cheapest" = some (.ref fC))
    (FL : Fun K "_least_price" "_least_price" sLeastPrice fL fdL) (bL : Binds K fdL ["prices", "zones"] []) (gL : mg "_least_price" = some (.ref fL)) :
    FnOk P w K mg base (L2N.CX P w) 3 f fd ["self", "zones"] (spPrice C CZ 0) := by
  have GL : FnOk P w K mg base (L2N.CX P w) 2 fL fdL ["prices", "zones"] (spLeastPrice K CZ) := ok_leastPrice FL T FZ bZ gZ FC bC gC
  refine okN F scTSingle (fun vs H Q E h => ?_) (fun cdv A outer s H vs Q E hr h => ?_)
  · obtain ⟨p, z, S, D, W, rfl, _⟩ := h
    rfl
  · obtain ⟨p, z, S, D, W, rfl, TA, q1, q2⟩ := h
    obtain ⟨⟨dx, fs, sa, da, wa, hp, e1, e2, e3, _, _, _, r1, r2, r3⟩, o1, o2, o3⟩ := TA
    refine ⟨_, pss_one (ps_ret (pe_call GL hr (by rfl) gL FL.kp bL .nil (L2N.passes_call (W := fun cls d _ H => E cls d H) (L2N.takes_of rfl rfl rfl rfl) (fun _ _ _ _ h => h)) (pa_cons (pe_fld (pv 0) rfl) (pa_cons (pv 1) pa_nil)))), ?_⟩
    refine ⟨_, rfl, p, C, dx, _, _, rfl, hp, T.cl, T.nS, e1, _, rfl, _, S, z, rfl, r1, o1.1, fun hz H' sm => ?_, fun no => q2 no H fun _ _ e => e⟩
    have fin := q1 hz H' sm
    rw [lpr_best (show (rowOf 0 S D W).length = 5 from o1.1) (by omega) (by omega)] at fin
    exact fin
theorem ok_tDay {f fL fZ fC : Addr} {fd fdL fdZ fdC : FuncData} (F : Fun K "day" "Tariff.day" sTDay f fd) (T : PTx K mg C CP CZ)
    (FZ : Fun K "check_zones" "check_zones" sCheckZones fZ fdZ) (bZ : Binds K fdZ ["zones"] []) (gZ : mg "check_zones" = some (.ref fZ))
    (FC : Fun K "cheapest" "cheapest" sCheapest fC fdC) (bC : Binds K fdC ["prices", "zones"] []) (gC : mg "cheapest" = some (.ref fC))
    (FL : Fun K "_least_price" "_least_price" sLeastPrice fL fdL) (bL : Binds K fdL ["prices", "zones"] []) (gL : mg "_least_price" = some (.ref fL)) :
    FnOk P w K mg base (L2N.CX P w) 3 f fd ["self", "zones"] (spPrice C CZ 1) := by
  have GL : FnOk P w K mg base (L2N.CX P w) 2 fL fdL ["prices", "zones"] (spLeastPrice K CZ) := ok_leastPrice FL T FZ bZ gZ FC bC gC
  refine okN F scTDay (fun vs H Q E h => ?_) (fun cdv A outer s H vs Q E hr h => ?_)
  · obtain ⟨p, z, S, D, W, rfl, _⟩ := h
    rfl
  · obtain ⟨p, z, S, D, W, rfl, TA, q1, q2⟩ := h
    obtain ⟨⟨dx, fs, sa, da, wa, hp, e1, e2, e3, _, _, _, r1, r2, r3⟩, o1, o2, o3⟩ := TA
    refine ⟨_, pss_one (ps_ret (pe_call GL hr (by rfl) gL FL.kp bL .nil (L2N.passes_call (W := fun cls d _ H => E cls d H) (L2N.takes_of rfl rfl rfl rfl) (fun _ _ _ _ h => h)) (pa_cons (pe_fld (pv 0) rfl) (pa_cons (pv 1) pa_nil)))), ?_⟩
    refine ⟨_, rfl, p, C, dx, _, _, rfl, hp, T.cl, T.nD, e2, _, rfl, _, D, z, rfl, r2, o2.1, fun hz H' sm => ?_, fun no => q2 no H fun _ _ e => e⟩
    have fin := q1 hz H' sm
    rw [lpr_best (show (rowOf 1 S D W).length = 5 from o2.1) (by omega) (by omega)] at fin
    exact fin
theorem ok_tWeek {f fL fZ fC : Addr} {fd fdL fdZ fdC : FuncData} (F : Fun K "week" "Tariff.week" sTWeek f fd) (T : PTx K mg C CP CZ)
    (FZ : Fun K "check_zones" "check_zones" sCheckZones fZ fdZ) (bZ : Binds K fdZ ["zones"] []) (gZ : mg "check_zones" = some (.ref fZ))
    (FC : Fun K "cheapest" "cheapest" sCheapest fC fdC) (bC : Binds K fdC ["prices", "zones"] []) (gC : mg "cheapest" = some (.ref fC))
    (FL : Fun K "_least_price" "_least_price" sLeastPrice fL fdL) (bL : Binds K fdL ["prices", "zones"] []) (gL : mg "_least_price" = some (.ref fL)) :
    FnOk P w K mg base (L2N.CX P w) 3 f fd ["self", "zones"] (spPrice C CZ 2) := by
  have GL : FnOk P w K mg base (L2N.CX P w) 2 fL fdL ["prices", "zones"] (spLeastPrice K CZ) := ok_leastPrice FL T FZ bZ gZ FC bC gC
  refine okN F scTWeek (fun vs H Q E h => ?_) (fun cdv A outer s H vs Q E hr h => ?_)
  · obtain ⟨p, z, S, D, W, rfl, _⟩ := h
    rfl
  · obtain ⟨p, z, S, D, W, rfl, TA, q1, q2⟩ := h
    obtain ⟨⟨dx, fs, sa, da, wa, hp, e1, e2, e3, _, _, _, r1, r2, r3⟩, o1, o2, o3⟩ := TA
    refine ⟨_, pss_one (ps_ret (pe_call GL hr (by rfl) gL FL.kp bL .nil (L2N.passes_call (W := fun cls d _ H => E cls d H) (L2N.takes_of rfl rfl rfl rfl) (fun _ _ _ _ h => h)) (pa_cons (pe_fld (pv 0) rfl) (pa_cons (pv 1) pa_nil)))), ?_⟩
    refine ⟨_, rfl, p, C, dx, _, _, rfl, hp, T.cl, T.nW, e3, _, rfl, _, W, z, rfl, r3, o3.1, fun hz H' sm => ?_, fun no => q2 no H fun _ _ e => e⟩
    have fin := q1 hz H' sm
    rw [lpr_best (show (rowOf 2 S D W).length = 5 from o3.1) (by omega) (by omega)] at fin
    exact fin
end
end FW

namespace FW
open PySem PySem.Spec PyProof.Rows L2
/-! ### the program's covers: counts, plans -/
abbrev sLeastOf : Stmt := top 18
abbrev sCountRides : Stmt := top 21
abbrev sPlan : Stmt := top 22
abbrev sBySize : Stmt := top 23
abbrev sAbove : Stmt := top 24
abbrev sDayPlan : Stmt := top 25
abbrev sPlanTickets : Stmt := top 26
abbrev sSingleTickets : Stmt := top 27
theorem scCountRides : FnScope ["rides", "counts", "zones"] ["rides"] (defScope sCountRides) := ⟨rfl, rfl, rfl, by decide +kernel, rfl, by decide +kernel, by decide +kernel⟩
theorem scBySize : FnScope ["prices", "least_prices", "zones", "price", "_"] ["prices"] (defScope sBySize) := ⟨rfl, rfl, rfl, by decide +kernel, rfl, by decide +kernel, by decide +kernel⟩
theorem scAbove : FnScope ["single_prices", "counts", "costs", "zones"] ["single_prices", "counts"] (defScope sAbove) := ⟨rfl, rfl, rfl, by decide +kernel, rfl, by decide +kernel, by decide +kernel⟩
theorem scDayPlan : FnScope ["day_prices", "costs_above", "week_size", "day_size"] ["day_prices", "costs_above", "week_size"] (defScope sDayPlan) := ⟨rfl, rfl, rfl, by decide +kernel, rfl, by decide +kernel, by decide +kernel⟩
theorem scPlan : FnScope ["tariff", "counts", "single_prices", "day_prices", "week_prices", "costs_above", "plans", "week_size", "day_plans", "cost", "day_counts", "costs", "day_cost", "_", "day_size"] ["tariff", "counts"] (defScope sPlan) := ⟨rfl, rfl, rfl, by decide +kernel, rfl, by decide +kernel, by decide +kernel⟩
structure CTx (K : PySem.W.Frag) (mg : Str → Option Value) (C CP CZ : Addr) : Prop where
  P : PTx K mg C CP CZ
  sum : mg "sum" = none
  enum : mg "enumerate" = none
  max : mg "max" = none
def NatsAt (H : Hp) (a : Addr) (l : List Nat) : Prop := H a = some (.lst (l.map fun (k : Nat) => V.int (k : Nat)))
/-- six numbers -/
def six (f : Nat → Int) : List V := ((List.range 6).map f).map V.int
theorem six_len (f : Nat → Int) : (six f).length = 6 := by unfold six; rw [List.length_map, List.length_map, List.length_range]
theorem six_at (f : Nat → Int) {i : Nat} (h : i < 6) : atI (six f) (i : Int) = some (.int (f i)) := at_of rfl (by
  unfold six
  rw [List.getElem?_map, List.getElem?_map, List.getElem?_range h]
  rfl)
theorem six_congr {f g : Nat → Int} (h : ∀ i, i < 6 → f i = g i) : six f = six g := by
  unfold six
  rw [List.map_congr_left fun i m => h i (List.mem_range.mp m)]
theorem six_set (f g : Nat → Int) {k : Nat} {x : Int} (hx : g k = x) (h : ∀ i, i < 6 → i ≠ k → f i = g i) (hk : k < 6) : (six f).set k (.int x) = six g := by
  apply List.ext_getElem?
  intro i
  rw [List.getElem?_set, six_len]
  by_cases hi : i < 6
  · have e : (six g)[i]? = some (.int (g i)) := by
      unfold six
      rw [List.getElem?_map, List.getElem?_map, List.getElem?_range hi]
      rfl
    have e2 : (six f)[i]? = some (.int (f i)) := by
      unfold six
      rw [List.getElem?_map, List.getElem?_map, List.getElem?_range hi]
      rfl
    by_cases c : k = i
    · subst c
      rw [if_pos rfl, if_pos hi, e, hx]
    · rw [if_neg c, e, e2, h i hi fun z => c z.symm]
  · rw [List.getElem?_eq_none (l := six g) (by rw [six_len]; omega)]
    by_cases c : k = i
    · exact absurd (c ▸ hk) hi
    · rw [if_neg c, List.getElem?_eq_none (by rw [six_len]; omega)]
section
variable {X : Cx}
theorem get_list : PGet X (rIxL X.K) := by
  intro pins s σ H x y v u Q I rx ry h
  obtain ⟨p, xs, i, z, rfl, rfl, hq, he, q⟩ := h
  cases rx
  obtain ⟨t, rfl⟩ := ry
  obtain ⟨its, r, pl, hz⟩ := I.list hq
  obtain ⟨j, h1, h2, h3, h4, h5⟩ := atI_get he
  obtain ⟨w, ew, rw'⟩ := r.get h2
  have hl := r.length
  have hn := line63
  have fin : EP X pins σ Q w s := ⟨z, H, I, rw', q⟩
  by_cases h0 : 0 ≤ i
  · have hj : i.toNat = j := by
      rw [seqIndex_of h0 h5] at h1
      exact Option.some.inj h1
    exact wpAny_getItem_list pl.isList h0 (by omega) (by rw [hj]; simpa using ew) fin
  · have hj : (i + (its.toArray.size : Int)).toNat = j := by
      rw [seqIndex_neg (by omega) h4] at h1
      rw [List.size_toArray, ← hl]
      exact Option.some.inj h1
    exact wpAny_getItem_list_neg pl.isList (by omega) (by rw [List.size_toArray] <;> omega) (by omega) (by rw [hj]; simpa using ew) fin
end
section
variable {P : Program} {w : World} {K : PySem.W.Frag} {mg : Str → Option Value} {base : Heap} {C CP CZ : Addr}
/-! ### _count_rides -/
def spCountRides (K : PySem.W.Frag) : L2.Sp := fun vs H Q _ => ∃ (a : Addr) (zs : List Nat), vs = [.ref a] ∧ NatsAt H a zs ∧ (∀ z, z ∈ zs → z ≤ 5) ∧
  ∀ (H' : Hp) (p : Addr), Same H H' → H p = none → NatsAt H' p (FT.cnt zs) → Q (.ref p) H'
theorem ok_countRides {f : Addr} {fd : FuncData} (F : Fun K "_count_rides" "_count_rides" sCountRides f fd) (T : CTx K mg C CP CZ) : FnOk P w K mg base CX0 1 f fd ["rides"] (spCountRides K) := by
  obtain ⟨mt, mz⟩ := T.P.mz
  refine F.ok scCountRides (fun vs H Q E h => ?_) (fun cdv A outer s H vs Q E hr h => ?_)
  · obtain ⟨a, zs, rfl, _⟩ := h
    rfl
  · obtain ⟨a, zs, rfl, hA, h5, q⟩ := h
    refine ⟨_, pss_cons (ps_set (i := 1) scCountRides.nd rfl (.inl rfl) (pe_op op_rep (pe_lst (pa_cons pe_int pa_nil)) (pe_op op_add (pe_glob (v := .int 5) rfl mz ⟨mt, rfl⟩) pe_int)))
      (pss_cons (ps_for PassesOwn.never rfl (pi_list (pv 0)) (pg_name (i := 2) scCountRides.nd rfl (.inl rfl)) (pss_one (ps_augS (pv 1) (pv 2) get_list pe_int ip_add set_list)))
      (pss_one (ps_ret (pv 1)))), ?_⟩
    refine ⟨by show 1 ≤ sizeLine; decide, fun l nl => ?_⟩
    refine ⟨_, _, rfl, rfl, l, _, _, rfl, rfl, upd_same, by decide, by decide, by show 1 * 6 ≤ sizeLine; decide, fun p np => ?_⟩
    have s1 : Same H (upd (upd H l (.lst [V.int 0])) p (.lst (List.replicate ((5 : Int) + 1).toNat [V.int 0]).flatten)) := (same_upd nl).trans (same_upd np)
    have npH : H p = none := (same_upd nl).free np
    refine ⟨_, rfl, a, rfl, ⟨_, SqL.of (s1 _ _ hA)⟩, for_list (K := K) (a := a) (xs := zs.map fun (k : Nat) => V.int (k : Nat)) (fun i σ H2 => ∃ y2 : Option V, σ = [some (.ref a), some (.ref p), y2] ∧ Same H H2 ∧ NatsAt H2 p (FT.cnt (zs.take i)))
      ⟨none, rfl, s1, ?_⟩ (fun i σ H2 _ ⟨_, _, s2, _⟩ => SqL.of (s2 _ _ hA)) ?_ ?_⟩
    · show upd _ p _ p = _
      rw [upd_same]
      rfl
    · rintro i x σ H2 hi ⟨y2, rfl, s2, hp⟩
      obtain ⟨z, ez, rfl⟩ : ∃ z, zs[i]? = some z ∧ x = V.int (z : Nat) := by
        rw [List.getElem?_map] at hi
        obtain ⟨z, e, e2⟩ := Option.map_eq_some_iff.mp hi
        exact ⟨z, e, e2.symm⟩
      have hz : z < 6 := by
        have := h5 z (List.mem_of_getElem? ez)
        omega
      have lenC : ((FT.cnt (zs.take i)).map fun (k : Nat) => V.int (k : Nat)).length = 6 := by rw [List.length_map, FT.cnt_len]
      have g : atI ((FT.cnt (zs.take i)).map fun (k : Nat) => V.int (k : Nat)) (z : Nat) = some (.int ((zs.take i).count z : Nat)) := at_of rfl (by rw [List.getElem?_map, FT.cnt_get hz]; rfl)
      refine ⟨_, rfl, _, rfl, p, _, _, _, rfl, rfl, SqL.of hp, g, _, _, rfl, rfl, p, _, _, z, rfl, rfl, hp, by rw [lenC]; exact ixN_nat hz, ?_⟩
      refine ⟨_, rfl, upd_out s2 npH, ?_⟩
      show upd H2 p _ p = _
      rw [upd_same, List.take_add_one, ez]
      show some (HO.lst _) = some (.lst ((FT.cnt (zs.take i ++ [z])).map _))
      rw [FT.cnt_snoc, List.map_set]
      rfl
    · rintro σ H2 ⟨y2, rfl, s2, hp⟩
      rw [List.length_map, List.take_length] at hp
      exact ⟨_, rfl, q H2 p s2 npH hp⟩
def CountsAt (H : Hp) (l : Addr) (days : List (List Nat)) : Prop := ∃ as : List Addr, H l = some (.lst (as.map V.ref)) ∧ All2 (NatsAt H) as (days.map FT.cnt)
/-! ### _prices_by_size -/
def spBySize (K : PySem.W.Frag) : L2.Sp := fun vs H Q _ => ∃ (a : Addr) (r : List Int), vs = [.ref a] ∧ RowAt H a r ∧ r.length = 5 ∧ ∀ (H' : Hp) (p : Addr), Same H H' → H p = none → H' p = some (.lst (six (FT.op r))) → Q (.ref p) H'
theorem ok_bySize {f fC : Addr} {fd fdC : FuncData} (F : Fun K "_prices_by_size" "_prices_by_size" sBySize f fd) (T : CTx K mg C CP CZ)
    (FC : Fun K "cheapest" "cheapest" sCheapest fC fdC) (bC : Binds K fdC ["prices", "zones"] []) (gC : mg "cheapest" = some (.ref fC)) : FnOk P w K mg base CX0 2 f fd ["prices"] (spBySize K) := by
  have GC : FnOk P w K mg base CX0 1 fC fdC ["prices", "zones"] (spCheapest K) := ok_cheapest FC T.P
  obtain ⟨mt, mz⟩ := T.P.mz
  refine F.ok scBySize (fun vs H Q E h => ?_) (fun cdv A outer s H vs Q E hr h => ?_)
  · obtain ⟨a, r, rfl, _⟩ := h
    rfl
  · obtain ⟨a, r, rfl, hR, h5, q⟩ := h
    refine ⟨_, pss_cons (ps_set (i := 1) scBySize.nd rfl (.inl rfl) (pe_lst (pa_cons pe_int pa_nil)))
      (pss_cons (ps_for PassesOwn.never rfl (pi_range2 (by rfl) T.P.range (pa_cons pe_int (pa_cons (pe_op op_add (pe_glob (v := .int 5) rfl mz ⟨mt, rfl⟩) pe_int) pa_nil))) (pg_name (i := 2) scBySize.nd rfl (.inl rfl))
        (pss_cons (ps_asg (pe_call GC hr (by rfl) gC FC.kp bC .nil pass0 (pa_cons (pv 0) (pa_cons (pv 2) pa_nil))) (pg_tup rfl (pgs_cons (pg_name (i := 3) scBySize.nd rfl (.inl rfl)) (pgs_cons (pg_name (i := 4) scBySize.nd rfl (.inl rfl)) pgs_nil))))
        (pss_one (ps_expr (pe_bm PySem.F.plainAttrs_list PySem.F.slot_list_append PySem.F.type_list_append mt_append (pv 1) (pa_cons (pv 3) pa_nil))))))
      (pss_one (ps_ret (pv 1)))), ?_⟩
    refine ⟨by show 1 ≤ sizeLine; decide, fun p np => ?_⟩
    refine ⟨_, _, rfl, rfl, 1, 6, rfl, ⟨by decide, by decide, by decide, by decide⟩, for_range (lo := 1) (n := ((6 : Int) - 1).toNat) (fun i σ H2 => ∃ y2 y3 y4 : Option V, σ = [some (.ref a), some (.ref p), y2, y3, y4] ∧ Same H H2 ∧ H2 p = some (.lst (((List.range (i + 1)).map (FT.op r)).map V.int)))
      ⟨none, none, none, rfl, same_upd np, by rw [upd_same]; rfl⟩ ?_ ?_⟩
    · rintro i σ H2 hi ⟨y2, y3, y4, rfl, s2, hp⟩
      have hi5 : i < 5 := hi
      have e1 : (1 : Int) + i = ((i + 1 : Nat) : Int) := by omega
      rw [e1]
      refine ⟨_, rfl, _, rfl, a, r, i + 1, rfl, SqL.of (s2 _ _ hR), fun H' s' => SqL.of (s' _ _ (s2 _ _ hR)), h5, by omega, by omega, fun H3 t k s3 ht _ _ _ => ?_⟩
      refine ⟨t, _, rfl, SqT.of ht, rfl, _, _, rfl, _, _, rfl, rfl, ?_⟩
      have hp3 := s3 _ _ hp
      refine ⟨_, rfl, .inl ⟨rfl, _, SqL.of hp3⟩, _, rfl, p, _, _, rfl, rfl, hp3, small_line (by rw [List.length_map, List.length_map, List.length_range]; omega), ?_⟩
      refine ⟨_, _, _, rfl, upd_out (s2.trans s3) np, ?_⟩
      rw [upd_same, List.range_succ (n := i + 1), List.map_append, List.map_append]
      have e2 : FT.op r (i + 1) = FT.best r (i + 1) := if_neg (by omega)
      show _ = some (HO.lst (_ ++ [V.int (FT.op r (i + 1))]))
      rw [e2]
    · rintro σ H2 ⟨y2, y3, y4, rfl, s2, hp⟩
      exact ⟨_, rfl, q H2 p s2 np hp⟩
/-! ### _costs_above -/
def spAbove (K : PySem.W.Frag) : L2.Sp := fun vs H Q _ => ∃ (a c : Addr) (T : FT.Tar) (zs : List Nat), vs = [.ref a, .ref c] ∧ H a = some (.lst (six (FT.op T.s))) ∧ NatsAt H c (FT.cnt zs) ∧ (∀ z, z ∈ zs → 1 ≤ z ∧ z ≤ 5) ∧ zs.length ≤ 100000 ∧
  ∀ (H' : Hp) (p : Addr), Same H H' → H p = none → H' p = some (.lst (six fun k => FT.restF T k zs)) → Q (.ref p) H'
theorem ok_above {f : Addr} {fd : FuncData} (F : Fun K "_costs_above" "_costs_above" sAbove f fd) (T : CTx K mg C CP CZ) : FnOk P w K mg base CX0 1 f fd ["single_prices", "counts"] (spAbove K) := by
  obtain ⟨mt, mz⟩ := T.P.mz
  refine F.ok scAbove (fun vs H Q E h => ?_) (fun cdv A outer s H vs Q E hr h => ?_)
  · obtain ⟨a, c, T, zs, rfl, _⟩ := h
    rfl
  · obtain ⟨a, c, TT, zs, rfl, hA, hC, h5, hl, q⟩ := h
    refine ⟨_, pss_cons (ps_set (i := 2) scAbove.nd rfl (.inl rfl) (pe_op op_rep (pe_lst (pa_cons pe_int pa_nil)) (pe_op op_add (pe_glob (v := .int 5) rfl mz ⟨mt, rfl⟩) pe_int)))
      (pss_cons (ps_for PassesOwn.never rfl (pi_range3 (by rfl) T.P.range (pa_cons (pe_glob (v := .int 5) rfl mz ⟨mt, rfl⟩) (pa_cons pe_int (pa_cons (pe_un un_neg pe_int) pa_nil)))) (pg_name (i := 3) scAbove.nd rfl (.inl rfl))
        (pss_one (ps_asg (pe_op op_add (pe_ix ix_list (pv 2) (pv 3) (fun _ _ => rfl)) (pe_op op_mul (pe_ix ix_list (pv 1) (pv 3) (fun _ _ => rfl)) (pe_ix ix_list (pv 0) (pv 3) (fun _ _ => rfl)))) (pg_sub (pv 2) (pe_op op_sub (pv 3) pe_int) set_list))))
      (pss_one (ps_ret (pv 2)))), ?_⟩
    refine ⟨by show 1 ≤ sizeLine; decide, fun l nl => ?_⟩
    refine ⟨_, _, rfl, rfl, l, _, _, rfl, rfl, upd_same, by decide, by decide, by show 1 * 6 ≤ sizeLine; decide, fun p np => ?_⟩
    have s1 : Same H (upd (upd H l (.lst [V.int 0])) p (.lst (List.replicate ((5 : Int) + 1).toNat [V.int 0]).flatten)) := (same_upd nl).trans (same_upd np)
    have npH : H p = none := (same_upd nl).free np
    refine ⟨1, rfl, 5, 0, -1, 5, rfl, RgC.neg (i := 5) (j := 0) (by decide) (by decide) (by decide) (by decide), for_rangeC (lo := 5) (c := -1) (n := 5) (fun i σ H2 => ∃ y3 : Option V, σ = [some (.ref a), some (.ref c), some (.ref p), y3] ∧ Same H H2 ∧ H2 p = some (.lst (six fun k => if 5 - i ≤ k then FT.restF TT k zs else 0)))
      ⟨none, rfl, s1, ?_⟩ ?_ ?_⟩
    · rw [upd_same]
      have e5 := FT.rest_five (T := TT) h5
      show some (HO.lst [V.int 0, .int 0, .int 0, .int 0, .int 0, .int 0]) = some (.lst [V.int 0, .int 0, .int 0, .int 0, .int 0, .int (FT.restF TT 5 zs)])
      rw [e5]
    · rintro i σ H2 hi ⟨y3, rfl, s2, hp⟩
      have e1 : (5 : Int) + (i : Nat) * -1 = ((5 - i : Nat) : Int) := by omega
      rw [e1]
      have hz : 5 - i < 6 := by omega
      have gC : atI ((FT.cnt zs).map fun (k : Nat) => V.int (k : Nat)) ((5 - i : Nat) : Int) = some (.int (zs.count (5 - i) : Nat)) := at_of rfl (by rw [List.getElem?_map, FT.cnt_get hz]; rfl)
      have hc := FT.count_le_length (5 - i) zs
      refine ⟨_, rfl, _, rfl, p, _, _, _, rfl, rfl, SqL.of hp, six_at _ hz, _, rfl, _, rfl, c, _, _, _, rfl, rfl, SqL.of (s2 _ _ hC), gC, _, rfl, _, rfl, a, _, _, _, rfl, rfl, SqL.of (s2 _ _ hA), six_at _ hz, ?_⟩
      refine ⟨_, _, rfl, rfl, .inl ⟨by omega, by omega⟩, _, _, rfl, rfl, _, rfl, _, rfl, _, _, rfl, rfl, p, _, _, 5 - i - 1, rfl, rfl, hp, ?_, ?_⟩
      · rw [six_len, show ((5 - i : Nat) : Int) - 1 = ((5 - i - 1 : Nat) : Int) by omega]
        exact ixN_nat (by omega)
      · refine ⟨_, rfl, upd_out s2 npH, ?_⟩
        rw [upd_same, six_set _ (fun k => if 5 - (i + 1) ≤ k then FT.restF TT k zs else 0) ?_ ?_ (by omega)]
        · have e2 : FT.op TT.s (5 - i) = FT.best TT.s (5 - i) := if_neg (by omega)
          rw [if_pos (by omega), if_pos (by omega), e2]
          exact FT.rest_step (by omega) h5
        · intro j hj nj
          by_cases g : 5 - i ≤ j
          · rw [if_pos g, if_pos (by omega)]
          · rw [if_neg g, if_neg (by omega)]
    · rintro σ H2 ⟨y3, rfl, s2, hp⟩
      refine ⟨_, rfl, q H2 p s2 npH ?_⟩
      rw [hp]
      exact congrArg (fun x => some (HO.lst x)) (six_congr fun i _ => if_pos (by omega))
/-! ### _cheapest_day_plan -/
def spDayPlan (K : PySem.W.Frag) : L2.Sp := fun vs H Q _ => ∃ (a c : Addr) (w : Nat) (f g : Nat → Int), vs = [.ref a, .ref c, .int w] ∧ H a = some (.lst (six f)) ∧ H c = some (.lst (six g)) ∧ w ≤ 5 ∧
  ∀ (H' : Hp) (p : Addr) (o : Nat), Same H H' → H p = none → PairAt H' p (FT.m6 fun o => f o + g (max w o), o) → o ≤ 5 → f o + g (max w o) = (FT.m6 fun o => f o + g (max w o)) → (f 0 + g (max w 0) = (FT.m6 fun o => f o + g (max w o)) → o = 0) → Q (.ref p) H'
theorem ok_dayPlan {f : Addr} {fd : FuncData} (F : Fun K "_cheapest_day_plan" "_cheapest_day_plan" sDayPlan f fd) (T : CTx K mg C CP CZ) : FnOk P w K mg base CX0 1 f fd ["day_prices", "costs_above", "week_size"] (spDayPlan K) := by
  obtain ⟨mt, mz⟩ := T.P.mz
  refine F.ok scDayPlan (fun vs H Q E h => ?_) (fun cdv A outer s H vs Q E hr h => ?_)
  · obtain ⟨a, c, w, f, g, rfl, _⟩ := h
    rfl
  · obtain ⟨a, c, wz, f, g, rfl, hA, hC, hw, q⟩ := h
    refine ⟨_, pss_one (ps_ret (pe_callB (cr_minD rfl hr.units) (by rfl) T.P.min (by decide +kernel) (pa_cons
      (pe_lc (own := [("day_size", 3)]) (g := gName 3) (by rfl) scDayPlan.nd (pi_range1 (by rfl) T.P.range (pa_cons (pe_op op_add (pe_glob (v := .int 5) rfl mz ⟨mt, rfl⟩) pe_int) pa_nil))
        (blkOk_by (own := [("day_size", 3)]) (N := ["day_prices", "costs_above", "week_size", "day_size"]) (sc := defScope sDayPlan) (by decide +kernel)) (fun _ _ _ _ _ => pg_name (i := 3) scDayPlan.nd rfl (Or.inl rfl)) (fun _ _ _ _ _ => pts_nil)
        (fun _ _ _ _ _ => pe_tup (pa_cons (pe_op op_add (pe_ix (r := rIxL K) ix_list (pv 0) (pv 3) (fun _ _ => rfl)) (pe_ix (r := rIxL K) ix_list (pv 1) (pe_callB (call_max2 rfl) (by rfl) T.max (by decide +kernel) (pa_cons (pv 3) (pa_cons (pv 2) pa_nil))) (fun _ _ => rfl))) (pa_cons (pv 3) pa_nil)))) pa_nil))), ?_⟩
    refine ⟨_, _, rfl, rfl, 6, rfl, by decide, by decide, fun D hD => ?_⟩
    refine lc_range (lo := 0) (n := (6 : Int).toNat) (fun i H' => Same H H' ∧ ∃ as : List Addr, H' D = some (.lst (as.map V.ref)) ∧ All2 (PairAt H') as ((List.range i).map fun o => (f o + g (max wz o), o)) ∧ ∀ b, b ∈ as → H b = none)
      ⟨same_upd hD, [], upd_same, .nil, by simp⟩ ?_ ?_
    · rintro i H1 hi ⟨sm, as, eD, hA2, hn⟩
      have hi6 : i < 6 := hi
      refine ⟨rfl, ?_⟩
      refine tYes_if ?_
      have e0 : (0 : Int) + (i : Nat) = (i : Nat) := by omega
      rw [e0]
      have em : (if (wz : Int) > (i : Nat) then (wz : Int) else (i : Nat)) = ((max wz i : Nat) : Int) := by
        by_cases c : i < wz
        · rw [if_pos (by omega), Nat.max_eq_left (by omega)]
        · rw [if_neg (by omega), Nat.max_eq_right (by omega)]
      have gM : atI (six g) (if (wz : Int) > (i : Nat) then (wz : Int) else (i : Nat)) = some (.int (g (max wz i))) := by
        rw [em]
        exact six_at g (by omega)
      refine ⟨_, rfl, _, rfl, a, _, _, _, rfl, rfl, SqL.of (sm _ _ hA), six_at _ hi6, _, rfl, _, rfl, _, rfl, _, _, rfl, c, _, _, _, rfl, rfl, SqL.of (sm _ _ hC), gM, _, _, rfl, rfl, _, rfl, by show 2 ≤ sizeLine; decide, fun p np => ?_⟩
      have nDp : D ≠ p := ne_of_none eD np
      refine ⟨as.map V.ref, by rw [upd_ne nDp]; exact eD, small_line (by rw [List.length_map, hA2.len, List.length_map, List.length_range]; omega), ?_⟩
      refine ⟨upd_out (sm.trans (same_upd np)) hD, as ++ [p], by rw [upd_same, List.map_append]; rfl, ?_, fun b m => ?_⟩
      · rw [List.range_succ, List.map_append]
        refine All2.app (hA2.imp fun b x hb => ?_) (All2.one ?_)
        · show upd (upd H1 p _) D _ b = _
          rw [upd_ne (ne_of hb eD (by intro y; cases y)), upd_ne (ne_of_none hb np)]
          exact hb
        · show upd (upd H1 p _) D _ p = _
          rw [upd_ne nDp.symm, upd_same]
      · rcases List.mem_append.mp m with m | m
        · exact hn b m
        · rw [List.mem_singleton.mp m]
          exact sm.free np
    · rintro H1 ⟨sm, as, eD, hA2, hn⟩
      refine minP_of eD hA2 (fun y => nomatch y) fun i t p et ep hp hle hl2 => ?_
      rw [List.getElem?_map] at ep
      obtain ⟨o, eo, rfl⟩ := Option.map_eq_some_iff.mp ep
      have ho : o < 6 := List.mem_range.mp (List.mem_of_getElem? eo)
      have eb : f o + g (max wz o) = FT.m6 fun o => f o + g (max wz o) := FT.m6_pick (f := fun o => f o + g (max wz o)) (by omega) fun k hk =>
        hle (f k + g (max wz k), k) (List.mem_map.mpr ⟨k, List.mem_range.mpr (by show k < 6; omega), rfl⟩)
      refine q H1 t o sm (hn t (List.mem_of_getElem? et)) ?_ (by omega) eb fun e0 => ?_
      rotate_left
      · have := hl2 (f 0 + g (max wz 0), 0) (List.mem_map.mpr ⟨0, List.mem_range.mpr (by decide), rfl⟩) (eb.trans e0.symm)
        have : o ≤ 0 := this
        omega
      rw [← eb]
      exact hp
end
end FW

namespace FW
open PySem PySem.Spec PyProof.Rows L2
section
variable {P : Program} {w : World} {K : PySem.W.Frag} {mg : Str → Option Value} {base : Heap} {C CP CZ : Addr}
/-! ### _cheapest_plan -/
def SixAt (H : Hp) (a : Addr) (f : Nat → Int) : Prop := H a = some (.lst (six f))
def DsOk (T : FT.Tar) (days : List (List Nat)) (j : Nat) (ds : List Nat) : Prop := ds.length = days.length ∧ ∀ (k d : Nat) (zs : List Nat), ds[k]? = some d → days[k]? = some zs → d ≤ 5 ∧ FT.op T.d d + FT.restF T (max j d) zs = FT.dayF T j zs ∧ (FT.op T.d 0 + FT.restF T (max j 0) zs = FT.dayF T j zs → d = 0)
def QsOk (T : FT.Tar) (days : List (List Nat)) (j : Nat) (qs : List (Int × Nat)) : Prop := ∀ (k : Nat) (q : Int × Nat) (zs : List Nat), qs[k]? = some q → days[k]? = some zs → q.1 = FT.dayF T j zs ∧ q.2 ≤ 5 ∧ FT.op T.d q.2 + FT.restF T (max j q.2) zs = FT.dayF T j zs ∧ (FT.op T.d 0 + FT.restF T (max j 0) zs = FT.dayF T j zs → q.2 = 0)
theorem map_item {α : Type} {f : α → V} {l : List α} {i : Nat} {x : V} (h : (l.map f)[i]? = some x) : ∃ a, l[i]? = some a ∧ x = f a := by
  rw [List.getElem?_map] at h
  obtain ⟨a, e, e2⟩ := Option.map_eq_some_iff.mp h
  exact ⟨a, e, e2.symm⟩
theorem take_snoc {α : Type} {l : List α} {i : Nat} {x : α} (h : l[i]? = some x) : l.take (i + 1) = l.take i ++ [x] := by
  rw [List.take_add_one, h]
  rfl
def spPlan (K : PySem.W.Frag) (C : Addr) : L2.Sp := fun vs H Q _ => ∃ (t cl : Addr) (S D W : List Int) (days : List (List Nat)), vs = [.ref t, .ref cl] ∧ TarAt C H t S D W ∧ CountsAt H cl days ∧ FT.In5 days ∧ days.length ≤ 1000 ∧ (∀ zs, zs ∈ days → zs.length ≤ 100000) ∧
  ∀ (H' : Hp) (p l : Addr) (w : Nat) (ds : List Nat), Same H H' → H' p = some (.tup [.int (FT.leastF ⟨S, D, W⟩ days), .int (w : Nat), .ref l]) → NatsAt H' l ds → FT.Good ⟨S, D, W⟩ days w ds → Q (.ref p) H'
theorem ok_plan {f fB fA fD fC : Addr} {fd fdB fdA fdD fdC : FuncData} (F : Fun K "_cheapest_plan" "_cheapest_plan" sPlan f fd) (T : CTx K mg C CP CZ)
    (FB : Fun K "_prices_by_size" "_prices_by_size" sBySize fB fdB) (bB : Binds K fdB ["prices"] []) (gB : mg "_prices_by_size" = some (.ref fB))
    (FA : Fun K "_costs_above" "_costs_above" sAbove fA fdA) (bA : Binds K fdA ["single_prices", "counts"] []) (gA : mg "_costs_above" = some (.ref fA))
    (FD : Fun K "_cheapest_day_plan" "_cheapest_day_plan" sDayPlan fD fdD) (bD : Binds K fdD ["day_prices", "costs_above", "week_size"] []) (gD : mg "_cheapest_day_plan" = some (.ref fD))
    (FC : Fun K "cheapest" "cheapest" sCheapest fC fdC) (bC : Binds K fdC ["prices", "zones"] []) (gC : mg "cheapest" = some (.ref fC)) :
    FnOk P w K mg base CX0 3 f fd ["tariff", "counts"] (spPlan K C) := by
  have GB : FnOk P w K mg base CX0 2 fB fdB ["prices"] (spBySize K) := ok_bySize FB T FC bC gC
  have GA : FnOk P w K mg base CX0 1 fA fdA ["single_prices", "counts"] (spAbove K) := ok_above FA T
  have GD : FnOk P w K mg base CX0 1 fD fdD ["day_prices", "costs_above", "week_size"] (spDayPlan K) := ok_dayPlan FD T
  obtain ⟨mt, mz⟩ := T.P.mz
  refine F.ok scPlan (fun vs H Q E h => ?_) (fun cdv A outer s H vs Q E hr h => ?_)
  · obtain ⟨t, cl, S, D, W, days, rfl, _⟩ := h
    rfl
  · obtain ⟨t, cl, S, D, W, days, rfl, TA, ⟨cas, hcl, hCA⟩, h5, hdl, hzl, q⟩ := h
    obtain ⟨⟨dx, fs, sa, da, wa, hp, e1, e2, e3, _, _, _, r1, r2, r3⟩, o1, o2, o3⟩ := TA
    have hr1 := hr.mono (show 1 ≤ 2 by decide)
    refine ⟨_, pss_cons (ps_set (i := 2) scPlan.nd rfl (.inr rfl) (pe_call GB hr (by rfl) gB FB.kp bB .nil pass0 (pa_cons (pe_fld (pv 0) rfl) pa_nil)))
      (pss_cons (ps_set (i := 3) scPlan.nd rfl (.inr rfl) (pe_call GB hr (by rfl) gB FB.kp bB .nil pass0 (pa_cons (pe_fld (pv 0) rfl) pa_nil)))
      (pss_cons (ps_set (i := 4) scPlan.nd rfl (.inl rfl) (pe_call GB hr (by rfl) gB FB.kp bB .nil pass0 (pa_cons (pe_fld (pv 0) rfl) pa_nil)))
      (pss_cons (ps_setLc (i := 5) (own := [("day_counts", 10)]) (g := gName 10) (by rfl) scPlan.nd rfl rfl (sw_true rfl rfl rfl (by decide +kernel)) (pi_list (pv 1))
        (blkOk_by (own := [("day_counts", 10)]) (N := ["tariff", "counts", "single_prices", "day_prices", "week_prices", "costs_above", "plans", "week_size", "day_plans", "cost", "day_counts", "costs", "day_cost", "_", "day_size"]) (sc := defScope sPlan) (by decide +kernel))
        (fun _ _ _ _ _ => pg_name (i := 10) scPlan.nd rfl (Or.inl rfl)) (fun _ _ _ _ _ => pts_nil)
        (fun _ _ _ _ _ => pe_call GA hr1 (by rfl) gA FA.kp bA .nil pass0 (pa_cons (pv 2) (pa_cons (pv 10) pa_nil))))
      (pss_cons (ps_set (i := 6) scPlan.nd rfl (.inl rfl) (pe_lst pa_nil))
      (pss_cons (ps_for PassesOwn.never rfl (pi_range1 (by rfl) T.P.range (pa_cons (pe_op op_add (pe_glob (v := .int 5) rfl mz ⟨mt, rfl⟩) pe_int) pa_nil)) (pg_name (i := 7) scPlan.nd rfl (.inr rfl))
        (pss_cons (ps_setLc (i := 8) (own := [("costs", 11)]) (g := gName 11) (by rfl) scPlan.nd rfl rfl (sw_true rfl rfl rfl (by decide +kernel)) (pi_list (pv 5))
          (blkOk_by (own := [("costs", 11)]) (N := ["tariff", "counts", "single_prices", "day_prices", "week_prices", "costs_above", "plans", "week_size", "day_plans", "cost", "day_counts", "costs", "day_cost", "_", "day_size"]) (sc := defScope sPlan) (by decide +kernel))
          (fun _ _ _ _ _ => pg_name (i := 11) scPlan.nd rfl (Or.inl rfl)) (fun _ _ _ _ _ => pts_nil)
          (fun _ _ _ _ _ => pe_call GD hr1 (by rfl) gD FD.kp bD .nil pass0 (pa_cons (pv 3) (pa_cons (pv 11) (pa_cons (pv 7) pa_nil)))))
        (pss_cons (ps_set (i := 9) scPlan.nd rfl (.inl rfl) (pe_op op_add (pe_ix ix_list (pv 4) (pv 7) (fun _ _ => rfl)) (pe_callB (cr_sum rfl) (by rfl) T.sum (by decide +kernel) (pa_cons
          (pe_lc (own := [("day_cost", 12), ("_", 13)]) (g := gTup K 2 (gCons (gName 12) (gCons (gName 13) gNil))) (by rfl) scPlan.nd (pi_list (pv 8))
            (blkOk_by (own := [("day_cost", 12), ("_", 13)]) (N := ["tariff", "counts", "single_prices", "day_prices", "week_prices", "costs_above", "plans", "week_size", "day_plans", "cost", "day_counts", "costs", "day_cost", "_", "day_size"]) (sc := defScope sPlan) (by decide +kernel))
            (fun _ _ _ _ _ => pg_tup rfl (pgs_cons (pg_name (i := 12) scPlan.nd rfl (Or.inl rfl)) (pgs_cons (pg_name (i := 13) scPlan.nd rfl (Or.inl rfl)) pgs_nil))) (fun _ _ _ _ _ => pts_nil) (fun _ _ _ _ _ => pv 12)) pa_nil))))
        (pss_one (ps_expr (pe_bm PySem.F.plainAttrs_list PySem.F.slot_list_append PySem.F.type_list_append mt_append (pv 6) (pa_cons (pe_tup (pa_cons (pv 9) (pa_cons (pv 7) (pa_cons
          (pe_lc (own := [("_", 13), ("day_size", 14)]) (g := gTup K 2 (gCons (gName 13) (gCons (gName 14) gNil))) (by rfl) scPlan.nd (pi_list (pv 8))
            (blkOk_by (own := [("_", 13), ("day_size", 14)]) (N := ["tariff", "counts", "single_prices", "day_prices", "week_prices", "costs_above", "plans", "week_size", "day_plans", "cost", "day_counts", "costs", "day_cost", "_", "day_size"]) (sc := defScope sPlan) (by decide +kernel))
            (fun _ _ _ _ _ => pg_tup rfl (pgs_cons (pg_name (i := 13) scPlan.nd rfl (Or.inl rfl)) (pgs_cons (pg_name (i := 14) scPlan.nd rfl (Or.inl rfl)) pgs_nil))) (fun _ _ _ _ _ => pts_nil) (fun _ _ _ _ _ => pv 14)) pa_nil)))) pa_nil)))))))
      (pss_one (ps_ret (pe_callB (cr_minD rfl hr.units) (by rfl) T.P.min (by decide +kernel) (pa_cons (pv 6) pa_nil))))))))), ?_⟩
    -- the three rows of prices
    refine ⟨_, rfl, t, C, dx, _, _, rfl, hp, T.P.cl, T.P.nS, e1, sa, S, rfl, r1, o1.1, fun H1 sp s1 nsp hsp => ?_⟩
    refine ⟨_, rfl, t, C, dx, _, _, rfl, s1 _ _ hp, T.P.cl, T.P.nD, e2, da, D, rfl, s1 _ _ r2, o2.1, fun H2 dp s2 ndp hdp => ?_⟩
    have s12 := s1.trans s2
    refine ⟨_, rfl, t, C, dx, _, _, rfl, s12 _ _ hp, T.P.cl, T.P.nW, e3, wa, W, rfl, s12 _ _ r3, o3.1, fun H3 wp s3 nwp hwp => ?_⟩
    have s13 := s12.trans s3
    have hsp3 : H3 sp = some (.lst (six (FT.op S))) := (s2.trans s3) _ _ hsp
    have hdp3 : H3 dp = some (.lst (six (FT.op D))) := s3 _ _ hdp
    have hcl3 := s13 _ _ hcl
    have hCA3 : All2 (NatsAt H3) cas (days.map FT.cnt) := hCA.imp fun a b r => s13 _ _ r
    -- costs_above
    refine ⟨_, rfl, cl, rfl, ⟨_, SqL.of hcl3⟩, fun DL nDL => lc_list (K := K) (a := cl) (xs := cas.map V.ref) (fun i H' => Same H3 H' ∧ ∃ xs : List Addr, H' DL = some (.lst (xs.map V.ref)) ∧ All2 (SixAt H') xs ((days.take i).map fun zs k => FT.restF ⟨S, D, W⟩ k zs))
      ⟨same_upd nDL, [], upd_same, .nil⟩ (fun i H' _ ⟨s', _⟩ => SqL.of (s' _ _ hcl3)) ?_ ?_⟩
    · rintro i y H' hi ⟨s', xs, hx, hX⟩
      obtain ⟨ca, eca, rfl⟩ := map_item hi
      obtain ⟨c, ec, hc⟩ := hCA3.getL eca
      rw [List.getElem?_map] at ec
      obtain ⟨zs, ez, rfl⟩ := Option.map_eq_some_iff.mp ec
      refine ⟨rfl, ?_⟩
      refine tYes_if ?_
      have mz := List.mem_of_getElem? ez
      refine ⟨_, rfl, _, rfl, sp, ca, ⟨S, D, W⟩, zs, rfl, s' _ _ hsp3, s' _ _ hc, h5 zs mz, hzl zs mz, fun H4 p s4 np hp4 => ?_⟩
      have nDp : DL ≠ p := ne_of_none hx np
      refine ⟨xs.map V.ref, s4 _ _ hx, small_line (by rw [List.length_map, hX.len, List.length_map, List.length_take]; omega), upd_out (s'.trans s4) nDL, xs ++ [p], by rw [upd_same, List.map_append]; rfl, ?_⟩
      rw [take_snoc ez, List.map_append]
      refine All2.app (hX.imp fun b x hb => ?_) (All2.one ?_)
      · show upd H4 DL _ b = _
        have nb : b ≠ DL := fun z => by
          subst z
          unfold SixAt at hb
          rw [hx] at hb
          have := HO.lst.inj (Option.some.inj hb)
          have e6 := congrArg (fun l => l[0]?) this
          cases xs with
          | nil => simp [six] at this
          | cons x0 xs => simp [six] at e6
        rw [upd_ne nb]
        exact s4 _ _ hb
      · show upd H4 DL _ p = _
        rw [upd_ne nDp.symm]
        exact hp4
    rintro H4 ⟨s4, xs, hDL, hX⟩
    rw [List.length_map, hCA.len, List.length_map, List.take_length] at hX
    -- plans = []
    refine ⟨Nat.zero_le _, fun pl npl => ?_⟩
    refine ⟨_, _, rfl, rfl, 6, rfl, by decide, by decide, for_range (lo := 0) (n := (6 : Int).toNat) (fun i σ H5 => ∃ y7 y8 y9 : Option V, σ = [some (.ref t), some (.ref cl), some (.ref sp), some (.ref dp), some (.ref wp), some (.ref DL), some (.ref pl), y7, y8, y9, none, none, none, none, none] ∧ Same H4 H5 ∧
        ∃ (as : List Addr) (ps : List Plan), H5 pl = some (.lst (as.map V.ref)) ∧ All2 (PlanAt H5) as ps ∧ ps.length = i ∧ ∀ (j : Nat) (p : Plan), ps[j]? = some p → p.w = j ∧ p.c = FT.weekF ⟨S, D, W⟩ j days ∧ DsOk ⟨S, D, W⟩ days j p.ds)
      ⟨none, none, none, rfl, same_upd npl, [], [], upd_same, .nil, rfl, fun j p e => by simp at e⟩ ?_ ?_⟩
    · rintro i σ H5 hi ⟨y7, y8, y9, rfl, s5, as, ps, hpl, hP, hlen, hps⟩
      have hi6 : i < 6 := hi
      have e0 : (0 : Int) + (i : Nat) = (i : Nat) := by omega
      rw [e0]
      have hDL5 := s5 _ _ hDL
      -- day_plans
      refine ⟨_, rfl, DL, rfl, ⟨_, SqL.of hDL5⟩, fun E1 nE => lc_list (K := K) (a := DL) (xs := xs.map V.ref) (fun k H' => Same H5 H' ∧ ∃ (ts : List Addr) (qs : List (Int × Nat)), H' E1 = some (.lst (ts.map V.ref)) ∧ All2 (PairAt H') ts qs ∧ qs.length = k ∧ QsOk ⟨S, D, W⟩ days i qs)
        ⟨same_upd nE, [], [], upd_same, .nil, rfl, fun k q zs e => by simp at e⟩ (fun k H' _ ⟨s', _⟩ => SqL.of (s' _ _ hDL5)) ?_ ?_⟩
      · rintro k y H' hk ⟨s', ts, qs, hE, hT, hql, hq⟩
        obtain ⟨xa, exa, rfl⟩ := map_item hk
        obtain ⟨g, eg, hg⟩ := hX.getL exa
        rw [List.getElem?_map] at eg
        obtain ⟨zs, ez, rfl⟩ := Option.map_eq_some_iff.mp eg
        refine ⟨rfl, ?_⟩
        refine tYes_if ?_
        refine ⟨_, rfl, _, rfl, _, rfl, dp, xa, i, FT.op D, fun k => FT.restF ⟨S, D, W⟩ k zs, rfl, (s4.trans (s5.trans s')) _ _ hdp3, (s5.trans s') _ _ hg, by omega, fun H6 p o s6 np hp6 ho eo eo0 => ?_⟩
        have nEp : E1 ≠ p := ne_of_none hE np
        have hkd : k < days.length := (List.getElem?_eq_some_iff.mp ez).1
        refine ⟨ts.map V.ref, s6 _ _ hE, small_line (by rw [List.length_map, hT.len]; omega), upd_out (s'.trans s6) nE, ts ++ [p], qs ++ [(FT.dayF ⟨S, D, W⟩ i zs, o)], by rw [upd_same, List.map_append]; rfl, ?_, by rw [List.length_append, hql]; rfl, ?_⟩
        · refine All2.app (hT.imp fun b x hb => ?_) (All2.one ?_)
          · show upd H6 E1 _ b = _
            rw [upd_ne (ne_of hb hE (by intro z; cases z))]
            exact s6 _ _ hb
          · show upd H6 E1 _ p = _
            rw [upd_ne nEp.symm]
            exact hp6
        · intro k' q' zs' e1 e2
          rw [List.getElem?_append] at e1
          split at e1
          · exact hq k' q' zs' e1 e2
          · rename_i hk'
            have ek : k' = k := by
              have := (List.getElem?_eq_some_iff.mp e1).1
              simp at this
              omega
            subst ek
            rw [hql, Nat.sub_self] at e1
            cases e1
            rw [ez] at e2
            cases e2
            exact ⟨rfl, ho, eo, eo0⟩
      rintro H6 ⟨s6, ts, qs, hE, hT, hql, hq⟩
      rw [List.length_map, hX.len, List.length_map] at hql
      have s46 := s4.trans (s5.trans s6)
      -- cost
      refine ⟨_, rfl, _, rfl, wp, _, _, _, rfl, rfl, SqL.of (s46 _ _ hwp), six_at _ hi6, ?_⟩
      refine ⟨_, rfl, E1, rfl, ⟨_, SqL.of hE⟩, fun F1 nF => lc_list (K := K) (a := E1) (xs := ts.map V.ref) (fun k H' => Same H6 H' ∧ H' F1 = some (.lst (((qs.take k).map (·.1)).map V.int)))
        ⟨same_upd nF, upd_same⟩ (fun k H' _ ⟨s', _⟩ => SqL.of (s' _ _ hE)) ?_ ?_⟩
      · rintro k y H' hk ⟨s', hF⟩
        obtain ⟨ta, eta, rfl⟩ := map_item hk
        obtain ⟨qq, eq, hqa⟩ := hT.getL eta
        refine ⟨ta, _, rfl, SqT.of (s' _ _ hqa), rfl, _, _, rfl, _, _, rfl, rfl, rfl, ?_⟩
        refine tYes_if ?_
        refine ⟨_, rfl, _, hF, small_line (by rw [List.length_map, List.length_map, List.length_take]; omega), upd_out s' nF, ?_⟩
        rw [upd_same, take_snoc eq, List.map_append, List.map_append]
        rfl
      rintro H7 ⟨s7, hF⟩
      rw [List.length_map, hT.len, List.take_length] at hF
      have esum : (qs.map (·.1)).sum = (days.map (FT.dayF ⟨S, D, W⟩ i)).sum := by
        congr 1
        apply List.ext_getElem?
        intro k
        rw [List.getElem?_map, List.getElem?_map]
        by_cases hk : k < days.length
        · have a1 : qs[k]? = some (qs[k]'(by omega)) := List.getElem?_eq_getElem _
          have a2 : days[k]? = some days[k] := List.getElem?_eq_getElem _
          rw [a1, a2]
          exact congrArg some (hq k _ _ a1 a2).1
        · rw [List.getElem?_eq_none (by omega), List.getElem?_eq_none (by omega)]
          rfl
      refine ⟨F1, _, rfl, SqL.of hF, _, _, rfl, rfl, ?_⟩
      rw [esum]
      -- plans.append
      have s57 := s6.trans s7
      have hpl7 := s57 _ _ hpl
      refine ⟨_, rfl, .inl ⟨rfl, _, SqL.of hpl7⟩, ?_⟩
      refine ⟨_, rfl, _, rfl, _, rfl, E1, rfl, ⟨_, SqL.of (s7 _ _ hE)⟩, fun G1 nG => lc_list (K := K) (a := E1) (xs := ts.map V.ref) (fun k H' => Same H7 H' ∧ H' G1 = some (.lst (((qs.take k).map (·.2)).map fun (k : Nat) => V.int (k : Nat))))
        ⟨same_upd nG, upd_same⟩ (fun k H' _ ⟨s', _⟩ => SqL.of (s' _ _ (s7 _ _ hE))) ?_ ?_⟩
      · rintro k y H' hk ⟨s', hG⟩
        obtain ⟨ta, eta, rfl⟩ := map_item hk
        obtain ⟨qq, eq, hqa⟩ := hT.getL eta
        refine ⟨ta, _, rfl, SqT.of (s' _ _ (s7 _ _ hqa)), rfl, _, _, rfl, _, _, rfl, rfl, rfl, ?_⟩
        refine tYes_if ?_
        refine ⟨_, rfl, _, hG, small_line (by rw [List.length_map, List.length_map, List.length_take]; omega), upd_out s' nG, ?_⟩
        rw [upd_same, take_snoc eq, List.map_append, List.map_append]
        rfl
      rintro H8 ⟨s8, hG⟩
      rw [List.length_map, hT.len, List.take_length] at hG
      refine ⟨by show 3 ≤ sizeLine; decide, fun p np => ?_⟩
      have hpl8 := s8 _ _ hpl7
      have npl : pl ≠ p := ne_of_none hpl8 np
      refine ⟨pl, _, _, rfl, rfl, by rw [upd_ne npl]; exact hpl8, small_line (by rw [List.length_map, hP.len]; omega), ?_⟩
      have s58 := s57.trans s8
      have npl4 : H4 pl = none := by assumption
      refine ⟨_, _, _, rfl, upd_out (s5.trans (s58.trans (same_upd np))) npl4, as ++ [p], ps ++ [⟨FT.weekF ⟨S, D, W⟩ i days, i, qs.map (·.2)⟩], by rw [upd_same, List.map_append]; rfl, ?_, by rw [List.length_append, hlen]; rfl, ?_⟩
      · have k8 : ∀ b o, H5 b = some o → b ≠ pl → upd (upd H8 p (.tup [V.int (FT.op W i + (days.map (FT.dayF ⟨S, D, W⟩ i)).sum), .int (i : Nat), .ref G1])) pl (.lst (as.map V.ref ++ [V.ref p])) b = some o := fun b o e n => by
          rw [upd_ne n, upd_ne (ne_of_none (s58 _ _ e) np)]
          exact s58 _ _ e
        refine All2.app (hP.imp_mem fun b x mb hb => ?_) (All2.one ?_)
        · obtain ⟨l, b1, b2⟩ := hb
          refine ⟨l, k8 _ _ b1 (ne_of b1 hpl (by intro z; cases z)), ?_⟩
          have nl : l ≠ pl := fun z => by
            subst z
            rw [hpl] at b2
            have := HO.lst.inj (Option.some.inj b2)
            have e6 := congrArg (fun l => l[0]?) this
            cases as with
            | nil => exact absurd mb (by simp)
            | cons x0 xs => 
              cases hd : x.ds with
              | nil => rw [hd] at this; simp at this
              | cons d0 ds => rw [hd] at e6; simp at e6
          exact k8 _ _ b2 nl
        · refine ⟨G1, ?_, ?_⟩
          · show upd _ pl _ p = _
            rw [upd_ne npl.symm, upd_same]
            rfl
          · show upd _ pl _ G1 = _
            have nG8 : G1 ≠ pl := fun z => by
              subst z
              rw [hpl7] at nG
              cases nG
            rw [upd_ne nG8, upd_ne (ne_of_none hG np)]
            exact hG
      · intro j p' e
        rw [List.getElem?_append] at e
        split at e
        · exact hps j p' e
        · rename_i hj
          have ej : j = i := by
            have := (List.getElem?_eq_some_iff.mp e).1
            simp at this
            omega
          subst ej
          rw [hlen, Nat.sub_self] at e
          cases e
          refine ⟨rfl, rfl, by rw [List.length_map, hql], fun k d zs e1 e2 => ?_⟩
          rw [List.getElem?_map] at e1
          obtain ⟨q', eq', rfl⟩ := Option.map_eq_some_iff.mp e1
          exact (hq k q' zs eq' e2).2
    · rintro σ H5 ⟨y7, y8, y9, rfl, s5, as, ps, hpl, hP, hlen, hps⟩
      have hlen6 : ps.length = 6 := hlen
      refine ⟨_, rfl, min3_of hpl hP (fun z => by rw [z] at hlen6; cases hlen6) fun i t' p et ep hp hle hl2 => ?_⟩
      obtain ⟨l, hp1, hp2⟩ := hp
      obtain ⟨ew, ec, ed⟩ := hps i p ep
      have hi : i < 6 := by rw [← hlen6]; exact (List.getElem?_eq_some_iff.mp ep).1
      have em : FT.weekF ⟨S, D, W⟩ i days = FT.leastF ⟨S, D, W⟩ days := FT.m6_pick (f := fun w => FT.weekF ⟨S, D, W⟩ w days) (by omega) fun j hj => by
        have e6 : ps[j]? = some (ps[j]'(by omega)) := List.getElem?_eq_getElem _
        have := hle _ (List.mem_of_getElem? e6)
        rw [ec, (hps j _ e6).2.1] at this
        exact this
      rw [ew] at hp1
      rw [ec, em] at hp1
      refine q H5 t' l i p.ds (s13.trans (s4.trans s5)) hp1 hp2 ⟨by omega, ed.1, ed.2, fun e0 => ?_, em⟩
      have e6 : ps[0]? = some (ps[0]'(by omega)) := List.getElem?_eq_getElem _
      have := hl2 _ (List.mem_of_getElem? e6) (by rw [ec, (hps 0 _ e6).2.1, em, e0])
      rw [ew, (hps 0 _ e6).1] at this
      omega
end
end FW

namespace FW
open PySem PySem.Spec PyProof.Rows L2
theorem scSingleTickets : FnScope ["tariff", "day", "rides", "served", "tickets", "ride", "zones", "price", "size"] ["tariff", "day", "rides", "served"] (defScope sSingleTickets) := ⟨rfl, rfl, rfl, by decide +kernel, rfl, by decide +kernel, by decide +kernel⟩
theorem scPlanTickets : FnScope ["tariff", "days", "week_size", "day_sizes", "tickets", "price", "size", "day", "rides"] ["tariff", "days", "week_size", "day_sizes"] (defScope sPlanTickets) := ⟨rfl, rfl, rfl, by decide +kernel, rfl, by decide +kernel, by decide +kernel⟩
theorem scLeastOf : FnScope ["tariff", "days", "rides", "zones", "cost", "week_size", "day_sizes"] ["tariff", "days"] (defScope sLeastOf) := ⟨rfl, rfl, rfl, by decide +kernel, rfl, by decide +kernel, by decide +kernel⟩
theorem for_enum {K : PySem.W.Frag} {a : Addr} {xs : List V} {g : TG} {tb : TS} {D : Ends} {σ : L2.St} {H : Hp} (Pv : Nat → L2.St → Hp → Prop) (h0 : Pv 0 σ H) (hl : ∀ i σ H, i ≤ xs.length → Pv i σ H → SqL K H a xs)
    (hs : ∀ i x T σ H, xs[i]? = some x → Pv i σ H → H T = none → g (.ref T) σ (upd H T (.tup [.int (i : Nat), x])) fun σ2 H2 => tb { D with nx := Pv (i + 1), ct := Pv (i + 1), bk := D.nx } σ2 H2) (hd : ∀ σ H, Pv xs.length σ H → D.nx σ H) :
    ∃ W : Nat → Nat → L2.St → Hp → Prop, (∃ m, W 0 m σ H) ∧ ∀ i m σ H, W i m σ H →
      ((Ite K a).stop i H ∧ D.nx σ H) ∨ ((Ite K a).go i H ∧ ∃ N : L2.St → Hp → Prop, (∀ σ' H', N σ' H' → ∃ m', m' < m ∧ W (i + 1) m' σ' H') ∧ ∀ x H', (Ite K a).yld i H x H' → g x σ H' fun σ2 H2 => tb { D with nx := N, ct := N, bk := D.nx } σ2 H2) := by
  refine ⟨fun i m σ H => m = xs.length - i ∧ i ≤ xs.length ∧ Pv i σ H, ⟨xs.length, by simp, Nat.zero_le _, h0⟩, ?_⟩
  rintro i m σ H ⟨rfl, hi, p⟩
  have q := hl i σ H hi p
  by_cases hlt : i < xs.length
  · refine .inr ⟨⟨xs, xs[i], q, by simp [hlt]⟩, Pv (i + 1), fun σ' H' p' => ⟨xs.length - (i + 1), by omega, rfl, hlt, p'⟩, fun x H' y => ?_⟩
    obtain ⟨T, x', rfl, nT, rfl, y⟩ := y
    exact hs i x' T σ H (y xs q) p nT
  · have e : i = xs.length := by omega
    subst e
    exact .inl ⟨⟨xs, q, Nat.le_refl _⟩, hd σ H p⟩
theorem tkin {days : List (List Nat)} {k : FT.Tk} (h : FT.TkIn days k) : TkIn days k := by cases k <;> exact h
theorem tkAt_same {T : FT.Tar} {H H' : Hp} {a : Addr} {k : FT.Tk} (h : TkAt T H a k) (s : Same H H') : TkAt T H' a k := by cases k <;> exact s _ _ h
theorem tkAt_keep {T : FT.Tar} {H H' : Hp} {a : Addr} {k : FT.Tk} (h : TkAt T H a k) (s : ∀ b xs, H b = some (.tup xs) → H' b = some (.tup xs)) : TkAt T H' a k := by cases k <;> exact s _ _ h
section
variable {P : Program} {w : World} {K : PySem.W.Frag} {mg : Str → Option Value} {base : Heap} {C CP CZ : Addr}
/-! ### _single_tickets -/
def spSingleTickets (K : PySem.W.Frag) (C : Addr) : L2.Sp := fun vs H Q _ => ∃ (t ra : Addr) (d h : Nat) (S D W : List Int) (zs : List Nat), vs = [.ref t, .int d, .ref ra, .int h] ∧ TarAt C H t S D W ∧ NatsAt H ra zs ∧ (∀ z, z ∈ zs → 1 ≤ z ∧ z ≤ 5) ∧ zs.length ≤ 100000 ∧
  ∀ (H' : Hp) (p : Addr) (tas : List Addr) (ts : List FT.Tk), Same H H' → H p = none → H' p = some (.lst (tas.map V.ref)) → All2 (TkAt ⟨S, D, W⟩ H') tas ts → FT.SinOk ⟨S, D, W⟩ d h zs ts → Q (.ref p) H'
theorem ok_singleTickets {f fC : Addr} {fd fdC : FuncData} (F : Fun K "_single_tickets" "_single_tickets" sSingleTickets f fd) (T : CTx K mg C CP CZ)
    (FC : Fun K "cheapest" "cheapest" sCheapest fC fdC) (bC : Binds K fdC ["prices", "zones"] []) (gC : mg "cheapest" = some (.ref fC)) : FnOk P w K mg base CX0 2 f fd ["tariff", "day", "rides", "served"] (spSingleTickets K C) := by
  have GC : FnOk P w K mg base CX0 1 fC fdC ["prices", "zones"] (spCheapest K) := ok_cheapest FC T.P
  refine F.ok scSingleTickets (fun vs H Q E h => ?_) (fun cdv A outer s H vs Q E hr h => ?_)
  · obtain ⟨t, ra, d, h', S, D, W, zs, rfl, _⟩ := h
    rfl
  · obtain ⟨t, ra, d, hh, S, D, W, zs, rfl, TA, hR, h5, hl, q⟩ := h
    obtain ⟨⟨dx, fs, sa, da, wa, hp, e1, e2, e3, _, _, _, r1, r2, r3⟩, o1, o2, o3⟩ := TA
    refine ⟨_, pss_cons (ps_set (i := 4) scSingleTickets.nd rfl (.inl rfl) (pe_lst pa_nil))
      (pss_cons (ps_for PassesOwn.never rfl (pi_enum (by rfl) T.enum (pa_cons (pv 2) pa_nil)) (pg_tup rfl (pgs_cons (pg_name (i := 5) scSingleTickets.nd rfl (.inl rfl)) (pgs_cons (pg_name (i := 6) scSingleTickets.nd rfl (.inl rfl)) pgs_nil)))
        (pss_one (ps_if (pt_cmpR op_gt (pv 6) (pv 3) (nomark _))
          (pss_cons (ps_asg (pe_call GC hr (by rfl) gC FC.kp bC .nil pass0 (pa_cons (pe_fld (pv 0) rfl) (pa_cons (pv 6) pa_nil))) (pg_tup rfl (pgs_cons (pg_name (i := 7) scSingleTickets.nd rfl (.inl rfl)) (pgs_cons (pg_name (i := 8) scSingleTickets.nd rfl (.inl rfl)) pgs_nil))))
          (pss_one (ps_expr (pe_bm PySem.F.plainAttrs_list PySem.F.slot_list_append PySem.F.type_list_append mt_append (pv 4) (pa_cons (pe_tup (pa_cons pe_str (pa_cons (pv 1) (pa_cons (pv 5) (pa_cons (pv 8) (pa_cons (pv 7) pa_nil)))))) pa_nil))))) pss_nil)))
      (pss_one (ps_ret (pv 4)))), ?_⟩
    refine ⟨Nat.zero_le _, fun l nl => ?_⟩
    have s1 := same_upd (o := .lst []) nl
    refine ⟨_, rfl, ra, _, rfl, SqL.of (s1 _ _ hR), for_enum (K := K) (a := ra) (xs := zs.map fun (k : Nat) => V.int (k : Nat)) (fun i σ H2 => ∃ y5 y6 y7 y8 : Option V, σ = [some (.ref t), some (.int d), some (.ref ra), some (.int hh), some (.ref l), y5, y6, y7, y8] ∧ Same H H2 ∧
        ∃ (tas : List Addr) (ts : List FT.Tk), H2 l = some (.lst (tas.map V.ref)) ∧ All2 (TkAt ⟨S, D, W⟩ H2) tas ts ∧ FT.SinOk ⟨S, D, W⟩ d hh (zs.take i) ts)
      ⟨none, none, none, none, rfl, s1, [], [], upd_same, .nil, .nil⟩ (fun i σ H2 _ ⟨_, _, _, _, _, s2, _⟩ => SqL.of (s2 _ _ hR)) ?_ ?_⟩
    · rintro i x T0 σ H2 hi ⟨y5, y6, y7, y8, rfl, s2, tas, ts, hl2, hT, ho⟩ nT
      obtain ⟨z, ez, rfl⟩ := map_item hi
      have hz := h5 z (List.mem_of_getElem? ez)
      have hil : i < zs.length := (List.getElem?_eq_some_iff.mp ez).1
      have lt : (zs.take i).length = i := by rw [List.length_take]; omega
      obtain ⟨H3, e3'⟩ : ∃ H3, H3 = upd H2 T0 (.tup [.int (i : Nat), V.int (z : Nat)]) := ⟨_, rfl⟩
      have s3 : Same H2 H3 := e3' ▸ same_upd nT
      have hT0 : H3 T0 = some (.tup [.int (i : Nat), V.int (z : Nat)]) := by rw [e3', upd_same]
      rw [← e3']
      clear e3'
      have hl3 := s3 _ _ hl2
      have hT3 : All2 (TkAt ⟨S, D, W⟩ H3) tas ts := hT.imp fun a b r => tkAt_same r s3
      have s23 := s2.trans s3
      refine ⟨T0, _, rfl, SqT.of hT0, rfl, _, _, rfl, _, _, rfl, rfl, ?_⟩
      refine ⟨_, rfl, _, rfl, _, _, rfl, rfl, _, rfl, ?_⟩
      refine ite2 (fun e => ?_) (fun e => ?_)
      · have hgt : ¬ z ≤ hh := by
          have := of_decide_eq_true e
          omega
        refine ⟨_, rfl, t, C, dx, _, _, rfl, s23 _ _ hp, T.P.cl, T.P.nS, e1, _, rfl, sa, S, z, rfl, SqL.of (s23 _ _ r1), fun H' s' => SqL.of (s' _ _ (s23 _ _ r1)), o1.1, hz.1, hz.2, fun H4 p k s4 hp4 zk k5 ek => ?_⟩
        refine ⟨p, _, rfl, SqT.of hp4, rfl, _, _, rfl, _, _, rfl, rfl, ?_⟩
        have hl4 := s4 _ _ hl3
        refine ⟨_, rfl, .inl ⟨rfl, _, SqL.of hl4⟩, ?_⟩
        refine ⟨_, rfl, _, rfl, _, rfl, _, rfl, by show 5 ≤ sizeLine; decide, fun p2 np2 => ?_⟩
        have nlp : l ≠ p2 := ne_of_none hl4 np2
        refine ⟨l, _, _, rfl, rfl, by rw [upd_ne nlp]; exact hl4, small_line (by rw [List.length_map, hT.len]; have := ho.len; rw [lt] at this; omega), ?_⟩
        refine ⟨_, _, _, _, rfl, upd_out (s23.trans (s4.trans (same_upd np2))) nl, tas ++ [p2], ts ++ [.single d i k], by rw [upd_same, List.map_append]; rfl, ?_, ?_⟩
        · refine All2.app (hT3.imp fun b x hb => tkAt_keep hb fun c xs hc => ?_) (All2.one ?_)
          · rw [upd_ne (ne_of hc hl3 (by intro z; cases z)), upd_ne (ne_of_none (s4 _ _ hc) np2)]
            exact s4 _ _ hc
          · show upd _ l _ p2 = _
            rw [upd_ne nlp.symm, upd_same]
            show some (HO.tup [_, _, _, V.int (k : Nat), V.int (FT.best S z)]) = _
            rw [← ek]
        · have := ho.take hgt hz.1 zk k5 ek
          rw [lt] at this
          rw [take_snoc ez]
          exact this
      · have hle : z ≤ hh := by
          have : ¬ (z : Int) > hh := fun c => e (decide_eq_true c)
          omega
        refine ⟨_, _, _, _, rfl, s23, tas, ts, hl3, hT3, ?_⟩
        rw [take_snoc ez]
        exact ho.skip hle
    · rintro σ H2 ⟨y5, y6, y7, y8, rfl, s2, tas, ts, hl2, hT, ho⟩
      rw [List.length_map, List.take_length] at ho
      exact ⟨_, rfl, q H2 l tas ts s2 nl hl2 hT ho⟩
/-! ### _plan_tickets -/
theorem max_cast (a b : Nat) : (if ((b : Nat) : Int) > (a : Nat) then ((b : Nat) : Int) else (a : Nat)) = ((max a b : Nat) : Int) := by
  by_cases c : a < b
  · rw [if_pos (by omega), Nat.max_eq_right (by omega)]
  · rw [if_neg (by omega), Nat.max_eq_left (by omega)]
theorem sum_bound {days : List (List Nat)} (n : Nat) (h : ∀ zs, zs ∈ days → zs.length ≤ n) : ∀ k, ((days.take k).map fun zs => zs.length + 1).sum ≤ days.length * (n + 1) := by
  induction days with
  | nil => intro k; rw [List.take_nil]; exact Nat.zero_le _
  | cons zs days ih =>
    intro k
    cases k with
    | zero => exact Nat.zero_le _
    | succ k =>
      have a := ih (fun z m => h z (List.mem_cons_of_mem _ m)) k
      have b := h zs List.mem_cons_self
      rw [List.take_succ_cons, List.map_cons, List.sum_cons, List.length_cons, Nat.add_mul]
      omega
def spPlanTickets (K : PySem.W.Frag) (C : Addr) : L2.Sp := fun vs H Q _ => ∃ (t dl sl : Addr) (w : Nat) (S D W : List Int) (as : List Addr) (days : List (List Nat)) (ds : List Nat), vs = [.ref t, .ref dl, .int w, .ref sl] ∧ TarAt C H t S D W ∧
  H dl = some (.lst (as.map V.ref)) ∧ All2 (NatsAt H) as days ∧ NatsAt H sl ds ∧ FT.Good ⟨S, D, W⟩ days w ds ∧ FT.In5 days ∧ days.length * 1001 ≤ 1001000 ∧ (∀ zs, zs ∈ days → zs.length ≤ 1000) ∧
  ∀ (H' : Hp) (p : Addr) (tas : List Addr) (ts : List FT.Tk), Same H H' → H p = none → H' p = some (.lst (tas.map V.ref)) → All2 (TkAt ⟨S, D, W⟩ H') tas ts → FT.PlOk ⟨S, D, W⟩ days w days.length ts → ((w = 0 ∧ (∀ d, d ∈ ds → d = 0) ∧ ∀ zs, zs ∈ days → zs = []) → ts = []) → Q (.ref p) H'
theorem ok_planTickets {f fS fC : Addr} {fd fdS fdC : FuncData} (F : Fun K "_plan_tickets" "_plan_tickets" sPlanTickets f fd) (T : CTx K mg C CP CZ)
    (FS : Fun K "_single_tickets" "_single_tickets" sSingleTickets fS fdS) (bS : Binds K fdS ["tariff", "day", "rides", "served"] []) (gS : mg "_single_tickets" = some (.ref fS))
    (FC : Fun K "cheapest" "cheapest" sCheapest fC fdC) (bC : Binds K fdC ["prices", "zones"] []) (gC : mg "cheapest" = some (.ref fC)) : FnOk P w K mg base CX0 3 f fd ["tariff", "days", "week_size", "day_sizes"] (spPlanTickets K C) := by
  have GC : FnOk P w K mg base CX0 1 fC fdC ["prices", "zones"] (spCheapest K) := ok_cheapest FC T.P
  have GS : FnOk P w K mg base CX0 2 fS fdS ["tariff", "day", "rides", "served"] (spSingleTickets K C) := ok_singleTickets FS T FC bC gC
  refine F.ok scPlanTickets (fun vs H Q E h => ?_) (fun cdv A outer s H vs Q E hr h => ?_)
  · obtain ⟨t, dl, sl, w, S, D, W, as, days, ds, rfl, _⟩ := h
    rfl
  · obtain ⟨t, dl, sl, wz, S, D, W, as, days, ds, rfl, TA, hdl, hA, hsl, good, h5, hdn, hzl, q⟩ := h
    obtain ⟨⟨dx, fs, sa, da, wa, hp, e1, e2, e3, _, _, _, r1, r2, r3⟩, o1, o2, o3⟩ := id TA
    have hr1 := hr.mono (show 1 ≤ 2 by decide)
    refine ⟨_, pss_cons (ps_set (i := 4) scPlanTickets.nd rfl (.inl rfl) (pe_lst pa_nil))
      (C8.pss_cut (ps_if (pt_cmpR op_gt (pv 2) pe_int (nomark _))
          (pss_cons (ps_asg (pe_call GC hr1 (by rfl) gC FC.kp bC .nil pass0 (pa_cons (pe_fld (pv 0) rfl) (pa_cons (pv 2) pa_nil))) (pg_tup rfl (pgs_cons (pg_name (i := 5) scPlanTickets.nd rfl (.inl rfl)) (pgs_cons (pg_name (i := 6) scPlanTickets.nd rfl (.inl rfl)) pgs_nil))))
          (pss_one (ps_expr (pe_bm PySem.F.plainAttrs_list PySem.F.slot_list_append PySem.F.type_list_append mt_append (pv 4) (pa_cons (pe_tup (pa_cons pe_str (pa_cons (pv 6) (pa_cons (pv 5) pa_nil)))) pa_nil))))) pss_nil)
      (pss_cons (ps_for PassesOwn.never rfl (pi_enum (by rfl) T.enum (pa_cons (pv 1) pa_nil)) (pg_tup rfl (pgs_cons (pg_name (i := 7) scPlanTickets.nd rfl (.inl rfl)) (pgs_cons (pg_name (i := 8) scPlanTickets.nd rfl (.inl rfl)) pgs_nil)))
        (C8.pss_cut (ps_if (pt_cmpR op_gt (pe_ix ix_list (pv 3) (pv 7) (fun _ _ => rfl)) pe_int (nomark _))
          (pss_cons (ps_asg (pe_call GC hr1 (by rfl) gC FC.kp bC .nil pass0 (pa_cons (pe_fld (pv 0) rfl) (pa_cons (pe_ix ix_list (pv 3) (pv 7) (fun _ _ => rfl)) pa_nil))) (pg_tup rfl (pgs_cons (pg_name (i := 5) scPlanTickets.nd rfl (.inl rfl)) (pgs_cons (pg_name (i := 6) scPlanTickets.nd rfl (.inl rfl)) pgs_nil))))
          (pss_one (ps_expr (pe_bm PySem.F.plainAttrs_list PySem.F.slot_list_append PySem.F.type_list_append mt_append (pv 4) (pa_cons (pe_tup (pa_cons pe_str (pa_cons (pv 7) (pa_cons (pv 6) (pa_cons (pv 5) pa_nil))))) pa_nil))))) pss_nil)
        (pss_one (ps_expr (pe_bm PySem.F.plainAttrs_list PySem.F.slot_list_extend PySem.F.type_list_extend mt_extend (pv 4) (pa_cons (pe_call GS hr (by rfl) gS FS.kp bS .nil pass0 (pa_cons (pv 0) (pa_cons (pv 7) (pa_cons (pv 8) (pa_cons
          (pe_callB (call_max2 rfl) (by rfl) T.max (by decide +kernel) (pa_cons (pv 2) (pa_cons (pe_ix ix_list (pv 3) (pv 7) (fun _ _ => rfl)) pa_nil))) pa_nil))))) pa_nil))))))
      (pss_one (ps_ret (pv 4))))), ?_⟩
    refine ⟨Nat.zero_le _, fun l nl => ?_⟩
    have s1 := same_upd (o := .lst []) nl
    -- the week's ticket
    refine ⟨fun σ H2 => ∃ y5 y6 : Option V, σ = [some (.ref t), some (.ref dl), some (.int wz), some (.ref sl), some (.ref l), y5, y6, none, none] ∧ Same H H2 ∧
        ∃ (tas : List Addr) (ts : List FT.Tk), H2 l = some (.lst (tas.map V.ref)) ∧ All2 (TkAt ⟨S, D, W⟩ H2) tas ts ∧ FT.PlOk ⟨S, D, W⟩ days wz 0 ts ∧ ((wz = 0 ∧ (∀ d, d ∈ ds → d = 0) ∧ ∀ zs, zs ∈ days → zs = []) → ts = []), ?_, ?_⟩
    · refine ⟨_, rfl, _, _, rfl, rfl, _, rfl, ?_⟩
      refine ite2 (fun e => ?_) (fun e => ?_)
      · have hw : 0 < wz := by
          have := of_decide_eq_true e
          omega
        refine ⟨_, rfl, t, C, dx, _, _, rfl, s1 _ _ hp, T.P.cl, T.P.nW, e3, _, rfl, wa, W, wz, rfl, SqL.of (s1 _ _ r3), fun H' s' => SqL.of (s' _ _ (s1 _ _ r3)), o3.1, hw, good.w5, fun H4 p k s4 hp4 zk k5 ek => ?_⟩
        refine ⟨p, _, rfl, SqT.of hp4, rfl, _, _, rfl, _, _, rfl, rfl, ?_⟩
        have hl4 : H4 l = some (.lst []) := s4 _ _ upd_same
        refine ⟨_, rfl, .inl ⟨rfl, _, SqL.of hl4⟩, ?_⟩
        refine ⟨_, rfl, _, rfl, by show 3 ≤ sizeLine; decide, fun p2 np2 => ?_⟩
        have nlp : l ≠ p2 := ne_of_none hl4 np2
        refine ⟨l, _, _, rfl, rfl, by rw [upd_ne nlp]; exact hl4, by show 0 < sizeLine; decide, ?_⟩
        refine ⟨_, _, rfl, upd_out (s1.trans (s4.trans (same_upd np2))) nl, [p2], [.week k], by rw [upd_same]; rfl, All2.one ?_, .week hw zk k5 ek, fun z => by have := z.1; omega⟩
        show upd _ l _ p2 = _
        rw [upd_ne nlp.symm, upd_same]
        show some (HO.tup [_, V.int (k : Nat), V.int (FT.best W wz)]) = _
        rw [← ek]
      · have hw : wz = 0 := by
          have : ¬ (wz : Int) > 0 := fun c => e (decide_eq_true c)
          omega
        subst hw
        exact ⟨_, _, rfl, s1, [], [], upd_same, .nil, .none, fun _ => rfl⟩
    rintro σ H2 ⟨y5, y6, rfl, s2, tas0, ts0, hl2, hT2, ho2, he2⟩
    -- the days
    refine ⟨_, rfl, dl, _, rfl, SqL.of (s2 _ _ hdl), for_enum (K := K) (a := dl) (xs := as.map V.ref) (fun i σ H2 => ∃ y5 y6 y7 y8 : Option V, σ = [some (.ref t), some (.ref dl), some (.int wz), some (.ref sl), some (.ref l), y5, y6, y7, y8] ∧ Same H H2 ∧
        ∃ (tas : List Addr) (ts : List FT.Tk), H2 l = some (.lst (tas.map V.ref)) ∧ All2 (TkAt ⟨S, D, W⟩ H2) tas ts ∧ FT.PlOk ⟨S, D, W⟩ days wz i ts ∧ ((wz = 0 ∧ (∀ d, d ∈ ds → d = 0) ∧ ∀ zs, zs ∈ days → zs = []) → ts = []))
      ⟨_, _, none, none, rfl, s2, tas0, ts0, hl2, hT2, ho2, he2⟩ (fun i σ H2 _ ⟨_, _, _, _, _, s2, _⟩ => SqL.of (s2 _ _ hdl)) ?_ ?_⟩
    · clear hl2 hT2 ho2 s2 he2
      rintro i x T0 σ H2 hi ⟨y5, y6, y7, y8, rfl, s2, tas, ts, hl2, hT, ho, he⟩ nT
      obtain ⟨za, ea, rfl⟩ := map_item hi
      obtain ⟨zs, ez, hz⟩ := hA.getL ea
      have mz := List.mem_of_getElem? ez
      have hil : i < days.length := (List.getElem?_eq_some_iff.mp ez).1
      have hid : i < ds.length := by rw [good.len]; exact hil
      obtain ⟨d, ed⟩ : ∃ d, ds[i]? = some d := ⟨_, List.getElem?_eq_getElem hid⟩
      obtain ⟨d5, hday, _⟩ := good.at_ i d zs ed ez
      have gd : atI (ds.map fun (k : Nat) => V.int (k : Nat)) ((i : Nat) : Int) = some (.int (d : Nat)) := at_of rfl (by rw [List.getElem?_map, ed]; rfl)
      obtain ⟨H3, e3'⟩ : ∃ H3, H3 = upd H2 T0 (.tup [.int (i : Nat), V.ref za]) := ⟨_, rfl⟩
      have s3 : Same H2 H3 := e3' ▸ same_upd nT
      have hT0 : H3 T0 = some (.tup [.int (i : Nat), V.ref za]) := by rw [e3', upd_same]
      rw [← e3']
      clear e3'
      have hl3 := s3 _ _ hl2
      have hT3 : All2 (TkAt ⟨S, D, W⟩ H3) tas ts := hT.imp fun a b r => tkAt_same r s3
      have s23 := s2.trans s3
      have lenT : ts.length ≤ 1002000 := by
        have a := ho.len
        have b := sum_bound 1000 hzl i
        omega
      refine ⟨T0, _, rfl, SqT.of hT0, rfl, _, _, rfl, _, _, rfl, rfl, ?_⟩
      -- the day's ticket
      refine ⟨fun σ H4 => ∃ y5 y6 : Option V, σ = [some (.ref t), some (.ref dl), some (.int wz), some (.ref sl), some (.ref l), y5, y6, some (.int (i : Nat)), some (.ref za)] ∧ Same H H4 ∧
        ∃ (tas2 : List Addr) (us : List FT.Tk), H4 l = some (.lst (tas2.map V.ref)) ∧ All2 (TkAt ⟨S, D, W⟩ H4) tas2 (ts ++ us) ∧ ((d = 0 ∧ us = []) ∨ ∃ k, 0 < d ∧ d ≤ k ∧ k ≤ 5 ∧ FT.pr D k = FT.best D d ∧ us = [.day i k]), ?_, ?_⟩
      · refine ⟨_, rfl, _, rfl, sl, _, _, _, rfl, rfl, SqL.of (s23 _ _ hsl), gd, _, _, rfl, rfl, _, rfl, ?_⟩
        refine ite2 (fun e => ?_) (fun e => ?_)
        · have hd : 0 < d := by
            have := of_decide_eq_true e
            omega
          refine ⟨_, rfl, t, C, dx, _, _, rfl, s23 _ _ hp, T.P.cl, T.P.nD, e2, _, rfl, _, rfl, sl, _, _, _, rfl, rfl, SqL.of (s23 _ _ hsl), gd, da, D, d, rfl, SqL.of (s23 _ _ r2), fun H' s' => SqL.of (s' _ _ (s23 _ _ r2)), o2.1, hd, d5, fun H4 p k s4 hp4 zk k5 ek => ?_⟩
          refine ⟨p, _, rfl, SqT.of hp4, rfl, _, _, rfl, _, _, rfl, rfl, ?_⟩
          have hl4 := s4 _ _ hl3
          refine ⟨_, rfl, .inl ⟨rfl, _, SqL.of hl4⟩, ?_⟩
          refine ⟨_, rfl, _, rfl, _, rfl, by show 4 ≤ sizeLine; decide, fun p2 np2 => ?_⟩
          have nlp : l ≠ p2 := ne_of_none hl4 np2
          refine ⟨l, _, _, rfl, rfl, by rw [upd_ne nlp]; exact hl4, by rw [List.length_map, hT.len, sizeLine_eq]; omega, ?_⟩
          refine ⟨_, _, rfl, upd_out (s23.trans (s4.trans (same_upd np2))) nl, tas ++ [p2], [.day i k], by rw [upd_same, List.map_append]; rfl, ?_, .inr ⟨k, hd, zk, k5, ek, rfl⟩⟩
          refine All2.app (hT3.imp fun b x hb => tkAt_keep hb fun c xs hc => ?_) (All2.one ?_)
          · rw [upd_ne (ne_of hc hl3 (by intro z; cases z)), upd_ne (ne_of_none (s4 _ _ hc) np2)]
            exact s4 _ _ hc
          · show upd _ l _ p2 = _
            rw [upd_ne nlp.symm, upd_same]
            show some (HO.tup [_, _, V.int (k : Nat), V.int (FT.best D d)]) = _
            rw [← ek]
        · have hd : d = 0 := by
            have : ¬ (d : Int) > 0 := fun c => e (decide_eq_true c)
            omega
          exact ⟨_, _, rfl, s23, tas, [], hl3, by rw [List.append_nil]; exact hT3, .inl ⟨hd, rfl⟩⟩
      rintro σ H4 ⟨y5', y6', rfl, s4, tas2, us, hl4, hT4, hus⟩
      -- the singles
      have lus : us.length ≤ 1 := by
        rcases hus with ⟨_, rfl⟩ | ⟨k, _, _, _, _, rfl⟩
        · exact Nat.zero_le _
        · exact Nat.le_refl _
      refine ⟨_, rfl, .inl ⟨rfl, _, SqL.of hl4⟩, ?_⟩
      refine ⟨_, rfl, _, rfl, _, rfl, _, rfl, _, rfl, _, rfl, sl, _, _, _, rfl, rfl, SqL.of (s4 _ _ hsl), gd, _, _, rfl, t, za, i, max wz d, S, D, W, zs, ?_, TA.same s4, s4 _ _ hz, h5 zs mz, Nat.le_trans (hzl zs mz) (by decide), fun H5 p vas vs s5 np hp5 hV hS => ?_⟩
      · rw [max_cast]
        rfl
      have hl5 := s5 _ _ hl4
      have lv := hS.len
      have lz := hzl zs mz
      refine ⟨l, p, _, _, rfl, rfl, hl5, hp5, by rw [List.length_map, List.length_map, hT4.len, hV.len, List.length_append, sizeLine_eq]; omega, ?_⟩
      refine ⟨_, _, _, _, rfl, upd_out (s4.trans s5) nl, tas2 ++ vas, ts ++ us ++ vs, by rw [upd_same, List.map_append], ?_, ho.more ez (h5 zs mz) hday hus hS, fun z => ?_⟩
      rotate_left
      · rw [he z]
        have d0 : d = 0 := z.2.1 d (List.mem_of_getElem? ed)
        have u0 : us = [] := by
          rcases hus with ⟨_, e⟩ | ⟨k, a, _⟩
          · exact e
          · omega
        have z0 : zs = [] := z.2.2 zs mz
        have v0 : vs = [] := List.eq_nil_of_length_eq_zero (by have := hS.len; rw [z0] at this; exact Nat.le_zero.mp this)
        rw [u0, v0]
        rfl
      refine All2.app (hT4.imp fun b x hb => tkAt_keep hb fun c xs hc => ?_) (hV.imp fun b x hb => tkAt_keep hb fun c xs hc => ?_)
      · rw [upd_ne (ne_of hc hl4 (by intro z; cases z))]
        exact s5 _ _ hc
      · rw [upd_ne (ne_of hc hl5 (by intro z; cases z))]
        exact hc
    · rintro σ H3 ⟨y5, y6, y7, y8, rfl, s3, tas, ts, hl3, hT, ho, he⟩
      rw [List.length_map, hA.len] at ho
      exact ⟨_, rfl, q H3 l tas ts s3 nl hl3 hT ho he⟩
end
end FW

namespace FW
open PySem PySem.Spec PyProof.Rows L2
section
variable {P : Program} {w : World} {K : PySem.W.Frag} {mg : Str → Option Value} {base : Heap} {C CP CZ : Addr}
/-! ### least -/
theorem nats_ints (zs : List Nat) : (zs.map fun (z : Nat) => (z : Int)).map V.int = zs.map fun (k : Nat) => V.int (k : Nat) := by
  rw [List.map_map]
  rfl
theorem to_nats {dz : List (List Int)} (h : ∀ zs, zs ∈ dz → ∀ z, z ∈ zs → 1 ≤ z ∧ z ≤ 5) : ∃ days : List (List Nat), dz = days.map (fun zs => zs.map fun (z : Nat) => (z : Int)) ∧ FT.In5 days := by
  refine ⟨dz.map fun zs => zs.map Int.toNat, ?_, fun zs m z mz => ?_⟩
  · rw [List.map_map]
    refine (List.map_id dz).symm.trans (List.map_congr_left fun zs m => ?_)
    show zs = (zs.map Int.toNat).map _
    rw [List.map_map]
    refine (List.map_id zs).symm.trans (List.map_congr_left fun z mz => ?_)
    have := h zs m z mz
    show z = ((z.toNat : Nat) : Int)
    omega
  · obtain ⟨ys, my, rfl⟩ := List.mem_map.mp m
    obtain ⟨y, myy, rfl⟩ := List.mem_map.mp mz
    have := h ys my y myy
    omega
theorem ok_leastOf {f fZ fK fP fT fB fA fD fS fC : Addr} {fd fdZ fdK fdP fdT fdB fdA fdD fdS fdC : FuncData} (F : Fun K "least" "least" sLeastOf f fd) (T : CTx K mg C CP CZ)
    (FZ : Fun K "check_zones" "check_zones" sCheckZones fZ fdZ) (bZ : Binds K fdZ ["zones"] []) (gZ : mg "check_zones" = some (.ref fZ))
    (FK : Fun K "_count_rides" "_count_rides" sCountRides fK fdK) (bK : Binds K fdK ["rides"] []) (gK : mg "_count_rides" = some (.ref fK))
    (FP : Fun K "_cheapest_plan" "_cheapest_plan" sPlan fP fdP) (bP : Binds K fdP ["tariff", "counts"] []) (gP : mg "_cheapest_plan" = some (.ref fP))
    (FT' : Fun K "_plan_tickets" "_plan_tickets" sPlanTickets fT fdT) (bT : Binds K fdT ["tariff", "days", "week_size", "day_sizes"] []) (gT : mg "_plan_tickets" = some (.ref fT))
    (FB : Fun K "_prices_by_size" "_prices_by_size" sBySize fB fdB) (bB : Binds K fdB ["prices"] []) (gB : mg "_prices_by_size" = some (.ref fB))
    (FA : Fun K "_costs_above" "_costs_above" sAbove fA fdA) (bA : Binds K fdA ["single_prices", "counts"] []) (gA : mg "_costs_above" = some (.ref fA))
    (FD : Fun K "_cheapest_day_plan" "_cheapest_day_plan" sDayPlan fD fdD) (bD : Binds K fdD ["day_prices", "costs_above", "week_size"] []) (gD : mg "_cheapest_day_plan" = some (.ref fD))
    (FS : Fun K "_single_tickets" "_single_tickets" sSingleTickets fS fdS) (bS : Binds K fdS ["tariff", "day", "rides", "served"] []) (gS : mg "_single_tickets" = some (.ref fS))
    (FC : Fun K "cheapest" "cheapest" sCheapest fC fdC) (bC : Binds K fdC ["prices", "zones"] []) (gC : mg "cheapest" = some (.ref fC)) :
    FnOk P w K mg base (L2N.CX P w) 4 f fd ["tariff", "days"] (spCovers C CZ) := by
  have GZ : FnOk P w K mg base (L2N.CX P w) 1 fZ fdZ ["zones"] (spCheckZones CZ) := ok_checkZones FZ T.P
  have GK : FnOk P w K mg base CX0 1 fK fdK ["rides"] (spCountRides K) := ok_countRides FK T
  have GP : FnOk P w K mg base CX0 3 fP fdP ["tariff", "counts"] (spPlan K C) := ok_plan FP T FB bB gB FA bA gA FD bD gD FC bC gC
  have GT : FnOk P w K mg base CX0 3 fT fdT ["tariff", "days", "week_size", "day_sizes"] (spPlanTickets K C) := ok_planTickets FT' T FS bS gS FC bC gC
  refine okN F scLeastOf (fun vs H Q E h => ?_) (fun cdv A outer s H vs Q E hr h => ?_)
  · obtain ⟨t, dl, S, D, W, as, dz, rfl, _⟩ := h
    rfl
  · obtain ⟨t, dl, S, D, W, as, dz, rfl, TA, hdl, hA, hn, hzl, q1, q2⟩ := h
    have hr1 := hr.mono (show 1 ≤ 3 by decide)
    refine ⟨_, pss_cons (ps_for (passes_of rfl) rfl (pi_list (pv 1)) (pg_name (i := 2) scLeastOf.nd rfl (.inl rfl))
        (pss_one (ps_for (passes_of rfl) rfl (pi_list (pv 2)) (pg_name (i := 3) scLeastOf.nd rfl (.inl rfl))
          (pss_one (ps_expr (pe_call GZ hr1 (by rfl) gZ FZ.kp bZ .nil (L2N.passes_call (W := fun cls d _ H => E cls d H) (L2N.takes_of rfl rfl rfl rfl) (fun _ _ _ _ h => h)) (pa_cons (pv 3) pa_nil)))))))
      (pss_cons (ps_asg (pe_call GP hr (by rfl) gP FP.kp bP .nil pass0 (pa_cons (pv 0) (pa_cons
          (pe_lc (own := [("rides", 2)]) (g := gName 2) (by rfl) scLeastOf.nd (pi_list (pv 1)) (blkOk_by (own := [("rides", 2)]) (N := ["tariff", "days", "rides", "zones", "cost", "week_size", "day_sizes"]) (sc := defScope sLeastOf) (by decide +kernel))
            (fun _ _ _ _ _ => pg_name (i := 2) scLeastOf.nd rfl (Or.inl rfl)) (fun _ _ _ _ _ => pts_nil) (fun _ _ _ _ _ => pe_call GK hr1 (by rfl) gK FK.kp bK .nil pass0 (pa_cons (pv 2) pa_nil))) pa_nil)))
        (pg_tup rfl (pgs_cons (pg_name (i := 4) scLeastOf.nd rfl (.inl rfl)) (pgs_cons (pg_name (i := 5) scLeastOf.nd rfl (.inl rfl)) (pgs_cons (pg_name (i := 6) scLeastOf.nd rfl (.inl rfl)) pgs_nil)))))
      (pss_one (ps_ret (pe_tup (pa_cons (pv 4) (pa_cons (pe_call GT hr (by rfl) gT FT'.kp bT .nil pass0 (pa_cons (pv 0) (pa_cons (pv 1) (pa_cons (pv 5) (pa_cons (pv 6) pa_nil))))) pa_nil)))))), ?_⟩
    -- each ride's zones are from 1 to 5
    refine ⟨_, rfl, dl, rfl, ⟨_, SqL.of hdl⟩, for_list (K := K) (a := dl) (xs := as.map V.ref) (fun i σ H2 => H2 = H ∧ (∃ y2 y3 : Option V, σ = [some (.ref t), some (.ref dl), y2, y3, none, none, none]) ∧ ∀ zs, zs ∈ dz.take i → ∀ z, z ∈ zs → 1 ≤ z ∧ z ≤ 5)
      ⟨rfl, ⟨none, none, rfl⟩, by simp⟩ (fun i σ H2 _ ⟨e, _⟩ => by rw [e]; exact SqL.of hdl) ?_ ?_⟩
    · rintro i x σ H2 hi ⟨eH, ⟨y2, y3, rfl⟩, hz⟩
      have eH2 := eH.symm
      subst eH2
      obtain ⟨za, ea, rfl⟩ := map_item hi
      obtain ⟨zs, ez, hza⟩ := hA.getL ea
      refine ⟨_, rfl, za, rfl, ⟨_, SqL.of hza⟩, for_list (K := K) (a := za) (xs := zs.map V.int) (fun j σ H2 => H2 = H ∧ (∃ y3 : Option V, σ = [some (.ref t), some (.ref dl), some (.ref za), y3, none, none, none]) ∧ ∀ z, z ∈ zs.take j → 1 ≤ z ∧ z ≤ 5)
        ⟨rfl, ⟨y3, rfl⟩, by simp⟩ (fun i σ H2 _ ⟨e, _⟩ => by rw [e]; exact SqL.of hza) ?_ ?_⟩
      · rintro j x σ H2 hj ⟨eH, ⟨y3, rfl⟩, hz2⟩
        have eH2 := eH.symm
        subst eH2
        obtain ⟨z, ezz, rfl⟩ := map_item hj
        refine ⟨_, rfl, z, rfl, fun ok => ⟨rfl, ⟨_, rfl⟩, fun y m => ?_⟩, fun no => q2 ⟨zs, z, List.mem_of_getElem? ez, List.mem_of_getElem? ezz, no⟩ H fun _ _ e => e⟩
        rw [take_snoc ezz] at m
        rcases List.mem_append.mp m with m | m
        · exact hz2 y m
        · rw [List.mem_singleton.mp m]
          exact ok
      · rintro σ H2 ⟨eH, ⟨y3, rfl⟩, hz2⟩
        have eH2 := eH.symm
        subst eH2
        rw [List.length_map, List.take_length] at hz2
        refine ⟨rfl, ⟨_, _, rfl⟩, fun ys m => ?_⟩
        rw [take_snoc ez] at m
        rcases List.mem_append.mp m with m | m
        · exact hz ys m
        · rw [List.mem_singleton.mp m]
          exact hz2
    rintro σ H2 ⟨eH, ⟨y2, y3, rfl⟩, hz⟩
    have eH2 := eH.symm
    subst eH2
    rw [List.length_map, hA.len, List.take_length] at hz
    obtain ⟨days, rfl, h5⟩ := to_nats hz
    have hA' : All2 (NatsAt H) as days := All2.of_get (by rw [hA.len, List.length_map]) fun i a b e1 e2 => by
      have := hA.at (i := i) e1 (by rw [List.getElem?_map, e2]; rfl)
      unfold RowAt at this
      rw [nats_ints] at this
      exact this
    have hn' : days.length ≤ 50 := by rw [List.length_map] at hn; exact hn
    have hzl' : ∀ zs, zs ∈ days → zs.length ≤ 1000 := fun zs m => by
      have := hzl _ (List.mem_map.mpr ⟨zs, m, rfl⟩)
      rw [List.length_map] at this
      exact this
    -- the counts
    refine ⟨_, rfl, ?_⟩
    refine ⟨_, rfl, dl, rfl, ⟨_, SqL.of hdl⟩, fun E1 nE => lc_list (K := K) (a := dl) (xs := as.map V.ref) (fun i H' => Same H H' ∧ ∃ cs : List Addr, H' E1 = some (.lst (cs.map V.ref)) ∧ All2 (NatsAt H') cs ((days.take i).map FT.cnt) ∧ E1 ∉ cs)
      ⟨same_upd nE, [], upd_same, .nil, by simp⟩ (fun i H' _ ⟨s', _⟩ => SqL.of (s' _ _ hdl)) ?_ ?_⟩
    · rintro i y H' hi ⟨s', cs, hE, hC, nEc⟩
      obtain ⟨za, ea, rfl⟩ := map_item hi
      obtain ⟨zs, ez, hza⟩ := hA'.getL ea
      refine ⟨rfl, ?_⟩
      refine tYes_if ?_
      refine ⟨_, rfl, za, zs, rfl, s' _ _ hza, fun z m => (h5 zs (List.mem_of_getElem? ez) z m).2, fun H3 p s3 np hp => ?_⟩
      have hE3 := s3 _ _ hE
      have nEp : E1 ≠ p := ne_of_none hE np
      refine ⟨cs.map V.ref, hE3, small_line (by rw [List.length_map, hC.len, List.length_map, List.length_take]; omega), upd_out (s'.trans s3) nE, cs ++ [p], by rw [upd_same, List.map_append]; rfl, ?_, fun m => ?_⟩
      · rw [take_snoc ez, List.map_append]
        refine All2.app (hC.imp_mem fun b x mb hb => ?_) (All2.one ?_)
        · show upd H3 E1 _ b = _
          rw [upd_ne (show b ≠ E1 from fun z => nEc (by rw [← z]; exact mb))]
          exact s3 _ _ hb
        · show upd H3 E1 _ p = _
          rw [upd_ne nEp.symm]
          exact hp
      · rcases List.mem_append.mp m with m | m
        · exact nEc m
        · exact nEp (List.mem_singleton.mp m)
    rintro H3 ⟨s3, cs, hE, hC, _⟩
    rw [List.length_map, hA'.len, List.take_length] at hC
    refine ⟨t, E1, S, D, W, days, rfl, TA.same s3, ⟨cs, hE, hC⟩, h5, by omega, fun zs m => Nat.le_trans (hzl' zs m) (by decide), fun H4 p l wz ds s4 hp hl good => ?_⟩
    refine ⟨p, _, rfl, SqT.of hp, rfl, _, _, rfl, _, _, rfl, _, _, rfl, rfl, ?_⟩
    have s34 := s3.trans s4
    refine ⟨_, rfl, ?_⟩
    refine ⟨_, rfl, _, rfl, _, rfl, _, rfl, t, dl, l, wz, S, D, W, as, days, ds, rfl, TA.same s34, s34 _ _ hdl, hA'.imp fun a b r => s34 _ _ r, hl, good, h5, by omega, hzl', fun H5 tl tas ts s5 ntl htl hT ho he => ?_⟩
    refine ⟨by show 2 ≤ sizeLine; decide, fun r nr => ?_⟩
    have s35 := s34.trans s5
    have sr := same_upd (o := .tup [V.int (FT.leastF ⟨S, D, W⟩ days), .ref tl]) nr
    refine q1 days rfl h5 _ r tl tas ts (s35.trans sr) (s35.free nr) (s34.free ntl) upd_same (sr _ _ htl) (hT.imp fun a b h => tkAt_same h sr) ?_ (fun k m => ⟨(ho.mem k m).1, tkin (ho.mem k m).2⟩) ho.all ?_ fun z => he ?_
    · have a := ho.len
      have b := sum_bound 1000 hzl' days.length
      omega
    · have := ho.cost
      rw [List.take_length, good.least] at this
      exact this
    · have tok : FT.Tar.Ok ⟨S, D, W⟩ := five_ok TA.ok
      have day0 : ∀ w zs, zs ∈ days → FT.op D 0 + FT.restF ⟨S, D, W⟩ (max w 0) zs = FT.dayF ⟨S, D, W⟩ w zs := fun w zs m => by
        rw [z zs m, FT.dayF_nil tok]
        rfl
      refine ⟨good.w0 ?_, fun d md => ?_, z⟩
      · rw [FT.leastF_empty tok z]
        unfold FT.weekF
        have e : ∀ zs, zs ∈ days → FT.dayF ⟨S, D, W⟩ 0 zs = (fun _ => (0 : Int)) zs := fun zs m => by rw [z zs m, FT.dayF_nil tok]
        rw [List.map_congr_left e, FT.sum_zero]
        rfl
      · obtain ⟨i, ei⟩ := List.getElem?_of_mem md
        have hi : i < days.length := by rw [← good.len]; exact (List.getElem?_eq_some_iff.mp ei).1
        have ez : days[i]? = some days[i] := List.getElem?_eq_getElem hi
        exact (good.at_ i d _ ei ez).2.2 (day0 wz _ (List.getElem_mem hi))
end
end FW

namespace FW
open PySem PySem.Spec PyProof.Rows L2
abbrev sLeastCost : Stmt := top 19
abbrev sEmptyCounts : Stmt := top 20
theorem scLeastCost : FnScope ["tariff", "counts"] ["tariff", "counts"] (defScope sLeastCost) := ⟨rfl, rfl, rfl, by decide +kernel, rfl, by decide +kernel, by decide +kernel⟩
theorem scEmptyCounts : FnScope ["_"] [] (defScope sEmptyCounts) := ⟨rfl, rfl, rfl, by decide +kernel, rfl, by decide +kernel, by decide +kernel⟩
section
variable {P : Program} {w : World} {K : PySem.W.Frag} {mg : Str → Option Value} {base : Heap} {C CP CZ : Addr}
/-! ### empty_counts -/
def spEmptyCounts : L2.Sp := fun vs H Q _ => vs = [] ∧ ∀ (H' : Hp) (p : Addr) (as : List Addr), Same H H' → H p = none → H' p = some (.lst (as.map V.ref)) → All2 (NatsAt H') as ((List.replicate 7 ([] : List Nat)).map FT.cnt) → (p :: as).Nodup →
  (∀ a, a ∈ as → H a = none) → Q (.ref p) H'
theorem ok_emptyCounts {f fC : Addr} {fd fdC : FuncData} (F : Fun K "empty_counts" "empty_counts" sEmptyCounts f fd) (T : CTx K mg C CP CZ) (WD : ∃ t, mg "WEEK_DAYS" = some (.int 7 t))
    (FC : Fun K "_count_rides" "_count_rides" sCountRides fC fdC) (bC : Binds K fdC ["rides"] []) (gC : mg "_count_rides" = some (.ref fC)) : FnOk P w K mg base CX0 2 f fd [] spEmptyCounts := by
  have GC : FnOk P w K mg base CX0 1 fC fdC ["rides"] (spCountRides K) := ok_countRides FC T
  obtain ⟨wt, wd⟩ := WD
  refine F.ok scEmptyCounts (fun vs H Q E h => ?_) (fun cdv A outer s H vs Q E hr h => ?_)
  · obtain ⟨rfl, _⟩ := h
    rfl
  · obtain ⟨rfl, q⟩ := h
    refine ⟨_, pss_one (ps_ret (pe_lc (own := [("_", 0)]) (g := gName 0) (by rfl) scEmptyCounts.nd (pi_range1 (by rfl) T.P.range (pa_cons (pe_glob (v := .int 7) rfl wd ⟨wt, rfl⟩) pa_nil))
      (blkOk_by (own := [("_", 0)]) (N := ["_"]) (sc := defScope sEmptyCounts) (by decide +kernel)) (fun _ _ _ _ _ => pg_name (i := 0) scEmptyCounts.nd rfl (Or.inl rfl)) (fun _ _ _ _ _ => pts_nil)
      (fun _ _ _ _ _ => pe_call GC hr (by rfl) gC FC.kp bC .nil pass0 (pa_cons (pe_lst pa_nil) pa_nil)))), ?_⟩
    refine ⟨7, rfl, by decide, by decide, fun D hD => ?_⟩
    refine lc_range (lo := 0) (n := (7 : Int).toNat) (fun i H' => Same H H' ∧ ∃ as : List Addr, H' D = some (.lst (as.map V.ref)) ∧ All2 (NatsAt H') as ((List.replicate i ([] : List Nat)).map FT.cnt) ∧ (D :: as).Nodup ∧ ∀ a, a ∈ as → H a = none)
      ⟨same_upd hD, [], upd_same, .nil, by simp, by simp⟩ ?_ ?_
    · rintro i H1 hi ⟨sm, as, eD, hA, nd, hn⟩
      refine ⟨rfl, ?_⟩
      refine tYes_if ?_
      refine ⟨Nat.zero_le _, fun e ne => ?_⟩
      refine ⟨e, [], rfl, upd_same, by simp, fun H2 p s2 np hp => ?_⟩
      have s12 : Same H1 H2 := (same_upd ne).trans s2
      have np1 : H1 p = none := (same_upd ne).free np
      have eD2 : H2 D = some (.lst (as.map V.ref)) := s12 _ _ eD
      have nDp : D ≠ p := ne_of_none eD np1
      have li : as.length = i := by rw [hA.len, List.length_map, List.length_replicate]
      have nas : ∀ a, a ∈ as → a ≠ p := fun a m => by
        obtain ⟨j, hj⟩ := List.getElem?_of_mem m
        obtain ⟨b, _, r⟩ := hA.getL hj
        exact ne_of_none r np1
      have nDas : D ∉ as := (List.nodup_cons.mp nd).1
      have hi7 : i < 7 := hi
      refine ⟨as.map V.ref, eD2, small_line (by rw [List.length_map]; omega), upd_out (sm.trans s12) hD, as ++ [p], by rw [upd_same, List.map_append]; rfl, ?_, ?_, fun a m => ?_⟩
      · rw [List.replicate_succ', List.map_append]
        refine All2.app (hA.imp_mem fun a b m r => ?_) (All2.one ?_)
        · show upd H2 D _ a = _
          rw [upd_ne (show a ≠ D from fun z => nDas (by rw [← z]; exact m))]
          exact s12 _ _ r
        · show upd H2 D _ p = _
          rw [upd_ne nDp.symm]
          exact hp
      · refine List.nodup_cons.mpr ⟨fun m => ?_, List.nodup_append.mpr ⟨(List.nodup_cons.mp nd).2, by simp, fun a m b m2 => ?_⟩⟩
        · rcases List.mem_append.mp m with m | m
          · exact nDas m
          · exact nDp (List.mem_singleton.mp m)
        · rw [List.mem_singleton.mp m2]
          exact nas a m
      · rcases List.mem_append.mp m with m | m
        · exact hn a m
        · rw [List.mem_singleton.mp m]
          exact sm.free np1
    · rintro H1 ⟨sm, as, eD, hA, nd, hn⟩
      exact q H1 D as sm hD eD hA nd hn
end
end FW

namespace FW
open PySem PySem.Spec PyProof.Rows L2
/-! ### a card's account on the heap -/
def RideAt (H : Hp) (a : Addr) (r : FT.Ride) : Prop := H a = some (.tup [.int r.day, .int r.start, .int r.goal, .int (r.z : Nat), .int r.c])
def afn : List Str := ["rows", "last_day", "week_counts", "day_sums", "week_sums", "total"]
/-- the fields of an account -/
structure AF (fs : List (Str × V)) (rl : Addr) (last : Int) (wl dl sl : Addr) (tot : Int) : Prop where
  keys : fs.map (·.1) = afn
  rows : fs.lookup ("rows" : Str) = some (.ref rl)
  last : fs.lookup ("last_day" : Str) = some (.int last)
  cnts : fs.lookup ("week_counts" : Str) = some (.ref wl)
  days : fs.lookup ("day_sums" : Str) = some (.ref dl)
  weeks : fs.lookup ("week_sums" : Str) = some (.ref sl)
  total : fs.lookup ("total" : Str) = some (.int tot)
theorem AF.few {fs : List (Str × V)} {rl wl dl sl : Addr} {last tot : Int} (h : AF fs rl last wl dl sl tot) : fs.length < 1000 := by
  have := congrArg List.length h.keys
  rw [List.length_map] at this
  rw [this]
  decide
theorem lookup_none {fs : List (Str × V)} {m : Str} (h : m ∉ fs.map (·.1)) : fs.lookup m = none := by
  induction fs with
  | nil => rfl
  | cons x fs ih =>
    rw [List.map_cons, List.mem_cons, not_or] at h
    obtain ⟨k, v⟩ := x
    rw [List.lookup_cons]
    have : (m == k) = false := by simpa using h.1
    rw [this]
    exact ih h.2
theorem AF.no {fs : List (Str × V)} {rl wl dl sl : Addr} {last tot : Int} (h : AF fs rl last wl dl sl tot) {m : Str} (n : m ∉ afn) : fs.lookup m = none := lookup_none (by rw [h.keys]; exact n)
theorem keys_put {f : Str} {v : V} : ∀ {fs : List (Str × V)}, f ∈ fs.map (·.1) → (putF f v fs).map (·.1) = fs.map (·.1)
  | [], h => by simp at h
  | (g, x) :: r, h => by
    unfold putF
    by_cases c : g = f
    · rw [if_pos c]
      rfl
    · rw [if_neg c, List.map_cons, List.map_cons]
      rw [List.map_cons, List.mem_cons] at h
      rcases h with h | h
      · exact absurd h.symm c
      · rw [keys_put h]
theorem AF.putLast {fs : List (Str × V)} {rl wl dl sl : Addr} {last tot : Int} (h : AF fs rl last wl dl sl tot) (d : Int) : AF (putF "last_day" (.int d) fs) rl d wl dl sl tot := by
  refine ⟨(keys_put (by rw [h.keys]; decide +kernel)).trans h.keys, ?_, ?_, ?_, ?_, ?_, ?_⟩
  · rw [lookup_putF, if_neg (by decide +kernel)]; exact h.rows
  · rw [lookup_putF, if_pos rfl]
  · rw [lookup_putF, if_neg (by decide +kernel)]; exact h.cnts
  · rw [lookup_putF, if_neg (by decide +kernel)]; exact h.days
  · rw [lookup_putF, if_neg (by decide +kernel)]; exact h.weeks
  · rw [lookup_putF, if_neg (by decide +kernel)]; exact h.total
theorem AF.putCnts {fs : List (Str × V)} {rl wl dl sl : Addr} {last tot : Int} (h : AF fs rl last wl dl sl tot) (a : Addr) : AF (putF "week_counts" (.ref a) fs) rl last a dl sl tot := by
  refine ⟨(keys_put (by rw [h.keys]; decide +kernel)).trans h.keys, ?_, ?_, ?_, ?_, ?_, ?_⟩
  · rw [lookup_putF, if_neg (by decide +kernel)]; exact h.rows
  · rw [lookup_putF, if_neg (by decide +kernel)]; exact h.last
  · rw [lookup_putF, if_pos rfl]
  · rw [lookup_putF, if_neg (by decide +kernel)]; exact h.days
  · rw [lookup_putF, if_neg (by decide +kernel)]; exact h.weeks
  · rw [lookup_putF, if_neg (by decide +kernel)]; exact h.total
theorem AF.putTotal {fs : List (Str × V)} {rl wl dl sl : Addr} {last tot : Int} (h : AF fs rl last wl dl sl tot) (t : Int) : AF (putF "total" (.int t) fs) rl last wl dl sl t := by
  refine ⟨(keys_put (by rw [h.keys]; decide +kernel)).trans h.keys, ?_, ?_, ?_, ?_, ?_, ?_⟩
  · rw [lookup_putF, if_neg (by decide +kernel)]; exact h.rows
  · rw [lookup_putF, if_neg (by decide +kernel)]; exact h.last
  · rw [lookup_putF, if_neg (by decide +kernel)]; exact h.cnts
  · rw [lookup_putF, if_neg (by decide +kernel)]; exact h.days
  · rw [lookup_putF, if_neg (by decide +kernel)]; exact h.weeks
  · rw [lookup_putF, if_pos rfl]
/-- the objects of an account, whatever its sums -/
structure Raw (CA : Addr) (H : Hp) (q dx : Addr) (fs : List (Str × V)) (rl wl dl sl : Addr) (as cs : List Addr) (rs : List FT.Ride) (dd : List (List Nat)) (dk wk : List (Key × V)) : Prop where
  ob : H q = some (.ins CA dx fs)
  hRl : H rl = some (.lst (as.map V.ref))
  hRs : All2 (RideAt H) as rs
  hWl : H wl = some (.lst (cs.map V.ref))
  hCs : All2 (NatsAt H) cs (dd.map FT.cnt)
  hDl : H dl = some (.dK dk)
  hSl : H sl = some (.dK wk)
  nd : (q :: rl :: wl :: dl :: sl :: cs).Nodup
section
variable {CA : Addr} {H H' : Hp} {q dx rl wl dl sl : Addr} {fs : List (Str × V)} {as cs : List Addr} {rs : List FT.Ride} {dd : List (List Nat)} {dk wk : List (Key × V)}
theorem Raw.keep (h : Raw CA H q dx fs rl wl dl sl as cs rs dd dk wk) (k : ∀ b o, H b = some o → (b ∈ q :: rl :: wl :: dl :: sl :: cs ∨ ∃ xs, o = .tup xs) → H' b = some o) : Raw CA H' q dx fs rl wl dl sl as cs rs dd dk wk :=
  ⟨k _ _ h.ob (.inl (by simp)), k _ _ h.hRl (.inl (by simp)), h.hRs.imp fun a b r => k _ _ r (.inr ⟨_, rfl⟩), k _ _ h.hWl (.inl (by simp)), h.hCs.imp_mem fun a b m r => k _ _ r (.inl (by simp [m])), k _ _ h.hDl (.inl (by simp)), k _ _ h.hSl (.inl (by simp)), h.nd⟩
theorem Raw.same (h : Raw CA H q dx fs rl wl dl sl as cs rs dd dk wk) (s : Same H H') : Raw CA H' q dx fs rl wl dl sl as cs rs dd dk wk := h.keep fun b o e _ => s b o e
/-- the parts are apart -/
structure Apart (q rl wl dl sl : Addr) (cs : List Addr) : Prop where
  qr : q ≠ rl
  qw : q ≠ wl
  qd : q ≠ dl
  qs : q ≠ sl
  rw' : rl ≠ wl
  rd : rl ≠ dl
  rs : rl ≠ sl
  wd : wl ≠ dl
  ws : wl ≠ sl
  ds : dl ≠ sl
  cq : ∀ c, c ∈ cs → c ≠ q
  cr : ∀ c, c ∈ cs → c ≠ rl
  cw : ∀ c, c ∈ cs → c ≠ wl
  cd : ∀ c, c ∈ cs → c ≠ dl
  cS : ∀ c, c ∈ cs → c ≠ sl
  cn : cs.Nodup
theorem apart_of (nd : (q :: rl :: wl :: dl :: sl :: cs).Nodup) : Apart q rl wl dl sl cs := by
  simp only [List.nodup_cons, List.mem_cons, not_or] at nd
  obtain ⟨⟨a1, a2, a3, a4, a5⟩, ⟨b1, b2, b3, b4⟩, ⟨c1, c2, c3⟩, ⟨d1, d2⟩, e1, e2⟩ := nd
  exact ⟨a1, a2, a3, a4, b1, b2, b3, c1, c2, d1, fun c m z => a5 (z ▸ m), fun c m z => b4 (z ▸ m), fun c m z => c3 (z ▸ m), fun c m z => d2 (z ▸ m), fun c m z => e1 (z ▸ m), e2⟩
theorem Raw.setQ (h : Raw CA H q dx fs rl wl dl sl as cs rs dd dk wk) (fs' : List (Str × V)) : Raw CA (upd H q (.ins CA dx fs')) q dx fs' rl wl dl sl as cs rs dd dk wk := by
  have a := apart_of h.nd
  refine ⟨upd_same, by rw [upd_ne a.qr.symm]; exact h.hRl, h.hRs.imp fun b r hb => ?_, by rw [upd_ne a.qw.symm]; exact h.hWl, h.hCs.imp_mem fun b r m hb => ?_, by rw [upd_ne a.qd.symm]; exact h.hDl, by rw [upd_ne a.qs.symm]; exact h.hSl, h.nd⟩
  · show upd _ _ _ b = _
    rw [upd_ne (ne_of hb h.ob (by intro z; cases z))]
    exact hb
  · show upd _ _ _ b = _
    rw [upd_ne (a.cq b m)]
    exact hb
theorem Raw.setRows (h : Raw CA H q dx fs rl wl dl sl as cs rs dd dk wk) {t : Addr} {r : FT.Ride} (ht : RideAt H t r) : Raw CA (upd H rl (.lst (as.map V.ref ++ [.ref t]))) q dx fs rl wl dl sl (as ++ [t]) cs (rs ++ [r]) dd dk wk := by
  have a := apart_of h.nd
  have key : ∀ b x, RideAt H b x → RideAt (upd H rl (.lst (as.map V.ref ++ [.ref t]))) b x := fun b x hb => by
    show upd _ _ _ b = _
    rw [upd_ne (ne_of hb h.hRl (by intro z; cases z))]
    exact hb
  refine ⟨by rw [upd_ne a.qr]; exact h.ob, by rw [upd_same, List.map_append]; rfl, All2.app (h.hRs.imp fun b r hb => key b r hb) (All2.one (key t r ht)), by rw [upd_ne a.rw'.symm]; exact h.hWl, h.hCs.imp_mem fun b r m hb => ?_, by rw [upd_ne a.rd.symm]; exact h.hDl, by rw [upd_ne a.rs.symm]; exact h.hSl, h.nd⟩
  show upd _ _ _ b = _
  rw [upd_ne (a.cr b m)]
  exact hb
theorem Raw.setD (h : Raw CA H q dx fs rl wl dl sl as cs rs dd dk wk) (dk' : List (Key × V)) : Raw CA (upd H dl (.dK dk')) q dx fs rl wl dl sl as cs rs dd dk' wk := by
  have a := apart_of h.nd
  refine ⟨by rw [upd_ne a.qd]; exact h.ob, by rw [upd_ne a.rd]; exact h.hRl, h.hRs.imp fun b r hb => ?_, by rw [upd_ne a.wd]; exact h.hWl, h.hCs.imp_mem fun b r m hb => ?_, upd_same, by rw [upd_ne a.ds.symm]; exact h.hSl, h.nd⟩
  · show upd _ _ _ b = _
    rw [upd_ne (ne_of hb h.hDl (by intro z; cases z))]
    exact hb
  · show upd _ _ _ b = _
    rw [upd_ne (a.cd b m)]
    exact hb
theorem Raw.setS (h : Raw CA H q dx fs rl wl dl sl as cs rs dd dk wk) (wk' : List (Key × V)) : Raw CA (upd H sl (.dK wk')) q dx fs rl wl dl sl as cs rs dd dk wk' := by
  have a := apart_of h.nd
  refine ⟨by rw [upd_ne a.qs]; exact h.ob, by rw [upd_ne a.rs]; exact h.hRl, h.hRs.imp fun b r hb => ?_, by rw [upd_ne a.ws]; exact h.hWl, h.hCs.imp_mem fun b r m hb => ?_, by rw [upd_ne a.ds]; exact h.hDl, upd_same, h.nd⟩
  · show upd _ _ _ b = _
    rw [upd_ne (ne_of hb h.hSl (by intro z; cases z))]
    exact hb
  · show upd _ _ _ b = _
    rw [upd_ne (a.cS b m)]
    exact hb
theorem Raw.setC (h : Raw CA H q dx fs rl wl dl sl as cs rs dd dk wk) {j : Nat} {c : Addr} {zs : List Nat} (ec : cs[j]? = some c) (ez : dd[j]? = some zs) (z : Nat) :
    Raw CA (upd H c (.lst (((FT.cnt zs).map fun (k : Nat) => V.int (k : Nat)).set z (.int ((zs.count z : Nat) + 1 : Int))))) q dx fs rl wl dl sl as cs rs (dd.set j (zs ++ [z])) dk wk := by
  have a := apart_of h.nd
  have m := List.mem_of_getElem? ec
  refine ⟨by rw [upd_ne (a.cq c m).symm]; exact h.ob, by rw [upd_ne (a.cr c m).symm]; exact h.hRl, h.hRs.imp fun b r hb => ?_, by rw [upd_ne (a.cw c m).symm]; exact h.hWl, ?_, by rw [upd_ne (a.cd c m).symm]; exact h.hDl, by rw [upd_ne (a.cS c m).symm]; exact h.hSl, h.nd⟩
  · have hc : NatsAt H c (FT.cnt zs) := h.hCs.at ec (by rw [List.getElem?_map, ez]; rfl)
    show upd _ _ _ b = _
    rw [upd_ne (ne_of hb hc (by intro z; cases z))]
    exact hb
  · rw [List.map_set]
    refine All2.of_get (by rw [List.length_set]; exact h.hCs.len) fun i b l e1 e2 => ?_
    rw [List.getElem?_set] at e2
    by_cases ij : j = i
    · subst ij
      have hl : j < (dd.map FT.cnt).length := by rw [← h.hCs.len]; exact (List.getElem?_eq_some_iff.mp ec).1
      rw [if_pos rfl, if_pos hl] at e2
      cases e2
      have eb : b = c := Option.some.inj (e1.symm.trans ec)
      subst eb
      show upd _ _ _ b = _
      rw [upd_same, FT.cnt_snoc, List.map_set]
      rfl
    · rw [if_neg ij] at e2
      have nb : b ≠ c := fun z => ij (nd_ix a.cn ec (by rw [← z]; exact e1))
      show upd _ _ _ b = _
      rw [upd_ne nb]
      exact h.hCs.at e1 e2
/-- an account of these rides; F are the objects that it changes -/
structure Acc (CA : Addr) (H : Hp) (q : Addr) (rs : List FT.Ride) (F : List Addr) : Prop where
  ex : ∃ (dx rl wl dl sl : Addr) (fs : List (Str × V)) (as cs : List Addr) (dk wk : List (Key × V)), AF fs rl (FT.lastDay rs) wl dl sl (FT.tsum rs) ∧ Raw CA H q dx fs rl wl dl sl as cs rs (FT.wdays (FT.lastDay rs / 7) rs) dk wk ∧
    dk.length ≤ rs.length ∧ wk.length ≤ rs.length ∧ (∀ d : Int, (valV dk (.inl d)).getD (.int 0) = .int (FT.dsum d rs)) ∧ (∀ w : Int, (valV wk (.inl w)).getD (.int 0) = .int (FT.wsum w rs)) ∧ F = q :: rl :: wl :: dl :: sl :: cs
theorem Acc.keep {rs : List FT.Ride} {F : List Addr} (h : Acc CA H q rs F) (k : ∀ b o, H b = some o → (b ∈ F ∨ ∃ xs, o = .tup xs) → H' b = some o) : Acc CA H' q rs F := by
  obtain ⟨dx, rl, wl, dl, sl, fs, as, cs, dk, wk, af, raw, l1, l2, d, w, rfl⟩ := h.ex
  exact ⟨dx, rl, wl, dl, sl, fs, as, cs, dk, wk, af, raw.keep k, l1, l2, d, w, rfl⟩
theorem Acc.same {rs : List FT.Ride} {F : List Addr} (h : Acc CA H q rs F) (s : Same H H') : Acc CA H' q rs F := h.keep fun b o e _ => s b o e
/-- what an account owns stands, and is no tuple -/
theorem Acc.own {rs : List FT.Ride} {F : List Addr} (h : Acc CA H q rs F) {b : Addr} (m : b ∈ F) : ∃ o, H b = some o ∧ ∀ xs, o ≠ .tup xs := by
  obtain ⟨dx, rl, wl, dl, sl, fs, as, cs, dk, wk, af, raw, l1, l2, d, w, rfl⟩ := h.ex
  simp only [List.mem_cons] at m
  rcases m with rfl | rfl | rfl | rfl | rfl | m
  · exact ⟨_, raw.ob, fun xs z => by cases z⟩
  · exact ⟨_, raw.hRl, fun xs z => by cases z⟩
  · exact ⟨_, raw.hWl, fun xs z => by cases z⟩
  · exact ⟨_, raw.hDl, fun xs z => by cases z⟩
  · exact ⟨_, raw.hSl, fun xs z => by cases z⟩
  · obtain ⟨j, hj⟩ := List.getElem?_of_mem m
    obtain ⟨l, _, r⟩ := raw.hCs.getL hj
    exact ⟨_, r, fun xs z => by cases z⟩
theorem Acc.nodup {rs : List FT.Ride} {F : List Addr} (h : Acc CA H q rs F) : F.Nodup := by
  obtain ⟨dx, rl, wl, dl, sl, fs, as, cs, dk, wk, af, raw, l1, l2, d, w, rfl⟩ := h.ex
  exact raw.nd
theorem Acc.mem {rs : List FT.Ride} {F : List Addr} (h : Acc CA H q rs F) : q ∈ F := by
  obtain ⟨dx, rl, wl, dl, sl, fs, as, cs, dk, wk, af, raw, l1, l2, d, w, rfl⟩ := h.ex
  exact List.mem_cons_self
/-- what is out of F stays -/
def Frm (H H' : Hp) (F : List Addr) : Prop := ∀ b o, H b = some o → b ∉ F → H' b = some o
theorem Frm.of {F : List Addr} {H1 H2 : Hp} (a : Frm H H1 F) (s : Same H1 H2) : Frm H H2 F := fun b o e n => s _ _ (a b o e n)
theorem Frm.put {F : List Addr} {H1 : Hp} {x : Addr} {o : HO} (a : Frm H H1 F) (m : x ∈ F ∨ H x = none) : Frm H (upd H1 x o) F := fun b u e n => by
  have nb : b ≠ x := fun z => by
    subst z
    rcases m with m | m
    · exact n m
    · rw [m] at e
      cases e
  rw [upd_ne nb]
  exact a b u e n
theorem Frm.new {F : List Addr} {H1 : Hp} {b : Addr} (a : Frm H H1 F) (n : H1 b = none) : b ∈ F ∨ H b = none := by
  by_cases m : b ∈ F
  · exact .inl m
  · right
    cases e : H b with
    | none => rfl
    | some o =>
      rw [a b o e m] at n
      cases n
end
end FW

namespace FW
open PySem PySem.Spec PyProof.Rows L2
abbrev sAInit : Stmt := inClass (top 29) 0
abbrev sCharge : Stmt := inClass (top 29) 1
abbrev sWeekZones : Stmt := inClass (top 29) 2
theorem scAInit : FnScope ["self"] ["self"] (defScope sAInit) := ⟨rfl, rfl, rfl, by decide +kernel, rfl, by decide +kernel, by decide +kernel⟩
theorem scCharge : FnScope ["self", "tariff", "day", "start", "goal", "zones", "week", "week_sum", "charge"] ["self", "tariff", "day", "start", "goal", "zones"] (defScope sCharge) := ⟨rfl, rfl, rfl, by decide +kernel, rfl, by decide +kernel, by decide +kernel⟩
theorem scWeekZones : FnScope ["self", "week", "days", "row", "day", "zones", "_"] ["self", "week"] (defScope sWeekZones) := ⟨rfl, rfl, rfl, by decide +kernel, rfl, by decide +kernel, by decide +kernel⟩
structure ATx (K : PySem.W.Frag) (mg : Str → Option Value) (CA : Addr) : Prop where
  cl : Cls K CA
  nR : NoAttr K CA "rows"
  nL : NoAttr K CA "last_day"
  nC : NoAttr K CA "week_counts"
  nD : NoAttr K CA "day_sums"
  nW : NoAttr K CA "week_sums"
  nT : NoAttr K CA "total"
  wd : ∃ t, mg "WEEK_DAYS" = some (.int 7 t)
theorem putF_new {f : Str} {v : V} : ∀ {fs : List (Str × V)}, f ∉ fs.map (·.1) → putF f v fs = fs ++ [(f, v)]
  | [], _ => rfl
  | (g, x) :: r, h => by
    rw [List.map_cons, List.mem_cons, not_or] at h
    unfold putF
    rw [if_neg fun z => h.1 z.symm, putF_new h.2]
    rfl
section
variable {P : Program} {w : World} {K : PySem.W.Frag} {mg : Str → Option Value} {base : Heap} {C CP CZ CA : Addr}
/-! ### least_cost -/
def spLeastCost (C : Addr) : L2.Sp := fun vs H Q _ => ∃ (t cl : Addr) (S D W : List Int) (days : List (List Nat)), vs = [.ref t, .ref cl] ∧ TarAt C H t S D W ∧ CountsAt H cl days ∧ FT.In5 days ∧ days.length ≤ 1000 ∧ (∀ zs, zs ∈ days → zs.length ≤ 100000) ∧
  ∀ H' : Hp, Same H H' → Q (.int (FT.leastF ⟨S, D, W⟩ days)) H'
theorem ok_leastCost {f fP fB fA fD fC : Addr} {fd fdP fdB fdA fdD fdC : FuncData} (F : Fun K "least_cost" "least_cost" sLeastCost f fd) (T : CTx K mg C CP CZ)
    (FP : Fun K "_cheapest_plan" "_cheapest_plan" sPlan fP fdP) (bP : Binds K fdP ["tariff", "counts"] []) (gP : mg "_cheapest_plan" = some (.ref fP))
    (FB : Fun K "_prices_by_size" "_prices_by_size" sBySize fB fdB) (bB : Binds K fdB ["prices"] []) (gB : mg "_prices_by_size" = some (.ref fB))
    (FA : Fun K "_costs_above" "_costs_above" sAbove fA fdA) (bA : Binds K fdA ["single_prices", "counts"] []) (gA : mg "_costs_above" = some (.ref fA))
    (FD : Fun K "_cheapest_day_plan" "_cheapest_day_plan" sDayPlan fD fdD) (bD : Binds K fdD ["day_prices", "costs_above", "week_size"] []) (gD : mg "_cheapest_day_plan" = some (.ref fD))
    (FC : Fun K "cheapest" "cheapest" sCheapest fC fdC) (bC : Binds K fdC ["prices", "zones"] []) (gC : mg "cheapest" = some (.ref fC)) :
    FnOk P w K mg base CX0 4 f fd ["tariff", "counts"] (spLeastCost C) := by
  have GP : FnOk P w K mg base CX0 3 fP fdP ["tariff", "counts"] (spPlan K C) := ok_plan FP T FB bB gB FA bA gA FD bD gD FC bC gC
  refine F.ok scLeastCost (fun vs H Q E h => ?_) (fun cdv A outer s H vs Q E hr h => ?_)
  · obtain ⟨t, cl, S, D, W, days, rfl, _⟩ := h
    rfl
  · obtain ⟨t, cl, S, D, W, days, rfl, TA, hc, h5, hl, hz, q⟩ := h
    refine ⟨_, pss_one (ps_ret (pe_ix ix_tup (pe_call GP hr (by rfl) gP FP.kp bP .nil pass0 (pa_cons (pv 0) (pa_cons (pv 1) pa_nil))) pe_int (fun _ _ => rfl))), ?_⟩
    refine ⟨_, rfl, _, rfl, t, cl, S, D, W, days, rfl, TA, hc, h5, hl, hz, fun H' p l wz ds s' hp _ _ => ?_⟩
    exact ⟨p, _, _, _, rfl, rfl, SqT.of hp, rfl, q H' s'⟩
/-! ### Account.__init__ -/
def spAInit (CA : Addr) : L2.Sp := fun vs H Q _ => ∃ (q dx : Addr), vs = [.ref q] ∧ H q = some (.ins CA dx []) ∧
  ∀ (H' : Hp) (F : List Addr), Kept H H' q → Acc CA H' q [] F → (∀ b, b ∈ F → b = q ∨ H b = none) → Q .non H'
theorem ok_aInit {f fE fC : Addr} {fd fdE fdC : FuncData} (F : Fun K "__init__" "Account.__init__" sAInit f fd) (T : CTx K mg C CP CZ) (TA : ATx K mg CA)
    (FE : Fun K "empty_counts" "empty_counts" sEmptyCounts fE fdE) (bE : Binds K fdE [] []) (gE : mg "empty_counts" = some (.ref fE))
    (FC : Fun K "_count_rides" "_count_rides" sCountRides fC fdC) (bC : Binds K fdC ["rides"] []) (gC : mg "_count_rides" = some (.ref fC)) :
    FnOk P w K mg base CX0 3 f fd ["self"] (spAInit CA) := by
  have GE : FnOk P w K mg base CX0 2 fE fdE [] spEmptyCounts := ok_emptyCounts FE T TA.wd FC bC gC
  refine F.ok scAInit (fun vs H Q E h => ?_) (fun cdv A outer s H vs Q E hr h => ?_)
  · obtain ⟨q, dx, rfl, _⟩ := h
    rfl
  · obtain ⟨q, dx, rfl, hq, k⟩ := h
    refine ⟨_, pss_cons (ps_fld (pv 0) (pe_lst pa_nil) rfl)
      (pss_cons (ps_fld (pv 0) pe_int rfl)
      (pss_cons (ps_fld (pv 0) (pe_call0 GE hr (by rfl) gE FE.kp bE .nil pass0) rfl)
      (pss_cons (ps_fld (pv 0) pe_dnewK rfl)
      (pss_cons (ps_fld (pv 0) pe_dnewK rfl)
      (pss_one (ps_fld (pv 0) pe_int rfl)))))), ?_⟩
    -- self.rows = []
    refine ⟨Nat.zero_le _, fun rl nrl => ?_⟩
    have qr : q ≠ rl := ne_of_none hq nrl
    refine ⟨_, rfl, q, CA, dx, [], rfl, by rw [upd_ne qr]; exact hq, TA.cl, TA.nR, by show 0 < 1000; decide, ?_⟩
    have e1 : putF "rows" (.ref rl) [] = [(("rows" : Str), V.ref rl)] := rfl
    rw [e1]
    obtain ⟨H1, d1⟩ : ∃ H1, H1 = upd (upd H rl (.lst [])) q (.ins CA dx [(("rows" : Str), V.ref rl)]) := ⟨_, rfl⟩
    rw [← d1]
    have k1 : Kept H H1 q := d1 ▸ Kept.put fun b o e n => by rw [upd_ne (ne_of_none e nrl)]; exact e
    have hq1 : H1 q = some (.ins CA dx [(("rows" : Str), V.ref rl)]) := by rw [d1, upd_same]
    have hr1 : H1 rl = some (.lst []) := by rw [d1, upd_ne qr.symm, upd_same]
    clear d1
    -- self.last_day = 0
    refine ⟨_, rfl, q, CA, dx, _, rfl, hq1, TA.cl, TA.nL, by show 1 < 1000; decide, ?_⟩
    have e2 : putF "last_day" (.int 0) [(("rows" : Str), V.ref rl)] = [(("rows" : Str), V.ref rl), ("last_day", .int 0)] := putF_new (by show _ ∉ [("rows" : Str)]; decide +kernel)
    rw [e2]
    obtain ⟨H2, d2⟩ : ∃ H2, H2 = upd H1 q (.ins CA dx [(("rows" : Str), V.ref rl), ("last_day", .int 0)]) := ⟨_, rfl⟩
    rw [← d2]
    have k2 : Kept H H2 q := d2 ▸ k1.put
    have hq2 : H2 q = some (.ins CA dx [(("rows" : Str), V.ref rl), ("last_day", .int 0)]) := by rw [d2, upd_same]
    have hr2 : H2 rl = some (.lst []) := by rw [d2, upd_ne qr.symm]; exact hr1
    clear d2
    -- self.week_counts = empty_counts()
    refine ⟨rfl, fun H3 wl cs s3 nwl hwl hcs ndc hnc => ?_⟩
    have qw : q ≠ wl := ne_of_none hq2 nwl
    refine ⟨_, rfl, q, CA, dx, _, rfl, s3 _ _ hq2, TA.cl, TA.nC, by show 2 < 1000; decide, ?_⟩
    have e3 : putF "week_counts" (.ref wl) [(("rows" : Str), V.ref rl), ("last_day", .int 0)] = [(("rows" : Str), V.ref rl), ("last_day", .int 0), ("week_counts", .ref wl)] := putF_new (by show _ ∉ [("rows" : Str), "last_day"]; decide +kernel)
    rw [e3]
    obtain ⟨H4, d4⟩ : ∃ H4, H4 = upd H3 q (.ins CA dx [(("rows" : Str), V.ref rl), ("last_day", .int 0), ("week_counts", .ref wl)]) := ⟨_, rfl⟩
    rw [← d4]
    have k24 : Kept H2 H4 q := d4 ▸ Kept.put fun b o e _ => s3 b o e
    have k4 : Kept H H4 q := fun b o e n => k24 b o (k2 b o e n) n
    have hq4 : H4 q = some (.ins CA dx [(("rows" : Str), V.ref rl), ("last_day", .int 0), ("week_counts", .ref wl)]) := by rw [d4, upd_same]
    have hr4 := k24 _ _ hr2 qr.symm
    have hw4 : H4 wl = some (.lst (cs.map V.ref)) := by rw [d4, upd_ne qw.symm]; exact hwl
    have qc : ∀ c, c ∈ cs → c ≠ q := fun c m z => by
      have := hnc c m
      rw [z, hq2] at this
      cases this
    have hc4 : All2 (NatsAt H4) cs ((List.replicate 7 ([] : List Nat)).map FT.cnt) := hcs.imp_mem fun b x m hb => by
      show H4 b = _
      rw [d4, upd_ne (qc b m)]
      exact hb
    clear d4
    -- self.day_sums = {}
    refine fun dl ndl => ⟨_, rfl, q, CA, dx, _, rfl, by rw [upd_ne (ne_of_none hq4 ndl)]; exact hq4, TA.cl, TA.nD, by show 3 < 1000; decide, ?_⟩
    have qd : q ≠ dl := ne_of_none hq4 ndl
    have e5 : putF "day_sums" (.ref dl) [(("rows" : Str), V.ref rl), ("last_day", .int 0), ("week_counts", .ref wl)] = [(("rows" : Str), V.ref rl), ("last_day", .int 0), ("week_counts", .ref wl), ("day_sums", .ref dl)] :=
      putF_new (by show _ ∉ [("rows" : Str), "last_day", "week_counts"]; decide +kernel)
    rw [e5]
    obtain ⟨H5, d5⟩ : ∃ H5, H5 = upd (upd H4 dl (.dK [])) q (.ins CA dx [(("rows" : Str), V.ref rl), ("last_day", .int 0), ("week_counts", .ref wl), ("day_sums", .ref dl)]) := ⟨_, rfl⟩
    rw [← d5]
    have k45 : Kept H4 H5 q := d5 ▸ Kept.put fun b o e n => by rw [upd_ne (ne_of_none e ndl)]; exact e
    have k5 : Kept H H5 q := fun b o e n => k45 b o (k4 b o e n) n
    have hq5 : H5 q = some (.ins CA dx [(("rows" : Str), V.ref rl), ("last_day", .int 0), ("week_counts", .ref wl), ("day_sums", .ref dl)]) := by rw [d5, upd_same]
    have hd5 : H5 dl = some (.dK []) := by rw [d5, upd_ne qd.symm, upd_same]
    clear d5
    -- self.week_sums = {}
    refine fun sl nsl => ⟨_, rfl, q, CA, dx, _, rfl, by rw [upd_ne (ne_of_none hq5 nsl)]; exact hq5, TA.cl, TA.nW, by show 4 < 1000; decide, ?_⟩
    have qs : q ≠ sl := ne_of_none hq5 nsl
    have e6 : putF "week_sums" (.ref sl) [(("rows" : Str), V.ref rl), ("last_day", .int 0), ("week_counts", .ref wl), ("day_sums", .ref dl)] = [(("rows" : Str), V.ref rl), ("last_day", .int 0), ("week_counts", .ref wl), ("day_sums", .ref dl), ("week_sums", .ref sl)] :=
      putF_new (by show _ ∉ [("rows" : Str), "last_day", "week_counts", "day_sums"]; decide +kernel)
    rw [e6]
    obtain ⟨H6, d6⟩ : ∃ H6, H6 = upd (upd H5 sl (.dK [])) q (.ins CA dx [(("rows" : Str), V.ref rl), ("last_day", .int 0), ("week_counts", .ref wl), ("day_sums", .ref dl), ("week_sums", .ref sl)]) := ⟨_, rfl⟩
    rw [← d6]
    have k56 : Kept H5 H6 q := d6 ▸ Kept.put fun b o e n => by rw [upd_ne (ne_of_none e nsl)]; exact e
    have k6 : Kept H H6 q := fun b o e n => k56 b o (k5 b o e n) n
    have hq6 : H6 q = some (.ins CA dx [(("rows" : Str), V.ref rl), ("last_day", .int 0), ("week_counts", .ref wl), ("day_sums", .ref dl), ("week_sums", .ref sl)]) := by rw [d6, upd_same]
    have hs6 : H6 sl = some (.dK []) := by rw [d6, upd_ne qs.symm, upd_same]
    clear d6
    -- self.total = 0
    refine ⟨_, rfl, q, CA, dx, _, rfl, hq6, TA.cl, TA.nT, by show 5 < 1000; decide, ?_⟩
    have e7 : putF "total" (.int 0) [(("rows" : Str), V.ref rl), ("last_day", .int 0), ("week_counts", .ref wl), ("day_sums", .ref dl), ("week_sums", .ref sl)] = [(("rows" : Str), V.ref rl), ("last_day", .int 0), ("week_counts", .ref wl), ("day_sums", .ref dl), ("week_sums", .ref sl), ("total", .int 0)] :=
      putF_new (by show _ ∉ [("rows" : Str), "last_day", "week_counts", "day_sums", "week_sums"]; decide +kernel)
    have af : AF [(("rows" : Str), V.ref rl), ("last_day", .int 0), ("week_counts", .ref wl), ("day_sums", .ref dl), ("week_sums", .ref sl), ("total", .int 0)] rl 0 wl dl sl 0 := by
      refine ⟨rfl, ?_, ?_, ?_, ?_, ?_, ?_⟩
      · rw [← e7, lookup_putF, if_neg (by decide +kernel), ← e6, lookup_putF, if_neg (by decide +kernel), ← e5, lookup_putF, if_neg (by decide +kernel), ← e3, lookup_putF, if_neg (by decide +kernel), ← e2, lookup_putF, if_neg (by decide +kernel), ← e1, lookup_putF, if_pos rfl]
      · rw [← e7, lookup_putF, if_neg (by decide +kernel), ← e6, lookup_putF, if_neg (by decide +kernel), ← e5, lookup_putF, if_neg (by decide +kernel), ← e3, lookup_putF, if_neg (by decide +kernel), ← e2, lookup_putF, if_pos rfl]
      · rw [← e7, lookup_putF, if_neg (by decide +kernel), ← e6, lookup_putF, if_neg (by decide +kernel), ← e5, lookup_putF, if_neg (by decide +kernel), ← e3, lookup_putF, if_pos rfl]
      · rw [← e7, lookup_putF, if_neg (by decide +kernel), ← e6, lookup_putF, if_neg (by decide +kernel), ← e5, lookup_putF, if_pos rfl]
      · rw [← e7, lookup_putF, if_neg (by decide +kernel), ← e6, lookup_putF, if_pos rfl]
      · rw [← e7, lookup_putF, if_pos rfl]
    rw [e7]
    have hr6 := k56 _ _ (k45 _ _ hr4 qr.symm) qr.symm
    have hw6 := k56 _ _ (k45 _ _ hw4 qw.symm) qw.symm
    have hd6 := k56 _ _ hd5 qd.symm
    have hc6 : All2 (NatsAt H6) cs ((List.replicate 7 ([] : List Nat)).map FT.cnt) := hc4.imp_mem fun b x m hb => k56 _ _ (k45 _ _ hb (qc b m)) (qc b m)
    have cal : ∀ c, c ∈ cs → ∃ l, H4 c = some (.lst l) := fun c m => by
      obtain ⟨j, hj⟩ := List.getElem?_of_mem m
      obtain ⟨l, _, r⟩ := hc4.getL hj
      exact ⟨_, r⟩
    have cd : dl ∉ cs := fun m => by
      obtain ⟨l, e⟩ := cal dl m
      rw [ndl] at e
      cases e
    have cS : sl ∉ cs := fun m => by
      obtain ⟨l, e⟩ := cal sl m
      have := k45 _ _ e qs.symm
      rw [nsl] at this
      cases this
    have cr : rl ∉ cs := fun m => by
      have := hnc rl m
      rw [hr2] at this
      cases this
    have rw' : rl ≠ wl := ne_of_none hr2 nwl
    have rd : rl ≠ dl := ne_of_none hr4 ndl
    have rs : rl ≠ sl := ne_of_none (k45 _ _ hr4 qr.symm) nsl
    have wd : wl ≠ dl := ne_of_none hw4 ndl
    have ws : wl ≠ sl := ne_of_none (k45 _ _ hw4 qw.symm) nsl
    have ds : dl ≠ sl := ne_of_none hd5 nsl
    have qn : q ∉ cs := fun m => qc q m rfl
    have raw : Raw CA H6 q dx [(("rows" : Str), V.ref rl), ("last_day", .int 0), ("week_counts", .ref wl), ("day_sums", .ref dl), ("week_sums", .ref sl)] rl wl dl sl [] cs [] (FT.wdays (0 / 7) []) [] [] := by
      refine ⟨hq6, hr6, .nil, hw6, hc6, hd6, hs6, ?_⟩
      have a := List.nodup_cons.mp ndc
      simp only [List.nodup_cons, List.mem_cons, not_or]
      exact ⟨⟨qr, qw, qd, qs, qn⟩, ⟨rw', rd, rs, cr⟩, ⟨wd, ws, a.1⟩, ⟨ds, cd⟩, cS, a.2⟩
    refine k _ (q :: rl :: wl :: dl :: sl :: cs) k6.put ⟨dx, rl, wl, dl, sl, _, [], cs, [], [], af, raw.setQ _, Nat.le_refl _, Nat.le_refl _, fun d => rfl, fun w => rfl, rfl⟩ fun b m => ?_
    simp only [List.mem_cons] at m
    rcases m with rfl | rfl | rfl | rfl | rfl | m
    · exact .inl rfl
    · exact .inr nrl
    · exact .inr (k2.new nwl qw.symm)
    · exact .inr (k4.new ndl qd.symm)
    · exact .inr (k5.new nsl qs.symm)
    · exact .inr (k2.new (hnc b m) (qc b m))
end
end FW

namespace FW
open PySem PySem.Spec PyProof.Rows L2
section
variable {P : Program} {w : World} {K : PySem.W.Frag} {mg : Str → Option Value} {base : Heap} {C CP CZ CA : Addr}
/-! ### Account.charge_ride -/
def spCharge (C CA : Addr) : L2.Sp := fun vs H Q _ => ∃ (q ta : Addr) (day st go : Int) (z : Nat) (S D W : List Int) (rs : List FT.Ride) (F : List Addr) (Fx : Hp), vs = [.ref q, .ref ta, .int day, .int st, .int go, .int z] ∧ Acc CA H q rs F ∧ TarAt C Fx ta S D W ∧ Same Fx H ∧ (∀ b, b ∈ F → Fx b = none) ∧
  FT.Book ⟨S, D, W⟩ rs ∧ FT.lastDay rs ≤ day ∧ 1 ≤ z ∧ z ≤ 5 ∧ rs.length ≤ 50000 ∧
  ∀ (H' : Hp) (F' : List Addr), Frm H H' F → Acc CA H' q (rs ++ [⟨day, st, go, z, FT.charge ⟨S, D, W⟩ rs day z⟩]) F' → (∀ b, b ∈ F' → b ∈ F ∨ H b = none) → Q (.int (FT.charge ⟨S, D, W⟩ rs day z)) H'
theorem Frm.fx {H H' Fx : Hp} {F : List Addr} (f : Frm H H' F) (s : Same Fx H) (n : ∀ b, b ∈ F → Fx b = none) : Same Fx H' := fun b o e => f b o (s b o e) fun m => by
  rw [n b m] at e
  cases e
theorem wadd_lens {T : FT.Tar} {rs : List FT.Ride} (bk : FT.Book T rs) {d : Int} {z : Nat} (hz : 1 ≤ z ∧ z ≤ 5) : FT.In5 (FT.wadd d z rs) ∧ (FT.wadd d z rs).length = 7 ∧ ∀ zs, zs ∈ FT.wadd d z rs → zs.length ≤ rs.length + 1 := by
  have key : ∀ zs, zs ∈ FT.wadd d z rs → zs ∈ FT.wdays (d / 7) rs ∨ zs = FT.dz (d / 7) (FT.dw d) rs ++ [z] := fun zs m => by
    unfold FT.wadd at m
    exact List.mem_or_eq_of_mem_set m
  refine ⟨fun zs m x mx => ?_, ?_, fun zs m => ?_⟩
  · rcases key zs m with m | rfl
    · exact bk.in5 _ zs m x mx
    · rcases List.mem_append.mp mx with mx | mx
      · exact bk.in5 (d / 7) _ (List.mem_of_getElem? (FT.wadd_get d rs)) x mx
      · rw [List.mem_singleton.mp mx]
        exact hz
  · unfold FT.wadd
    rw [List.length_set, FT.wdays_len]
  · rcases key zs m with m | rfl
    · unfold FT.wdays at m
      obtain ⟨j, _, rfl⟩ := List.mem_map.mp m
      have := FT.dz_len (d / 7) j rs
      omega
    · have := FT.dz_len (d / 7) (FT.dw d) rs
      rw [List.length_append]
      show _ + 1 ≤ _
      omega
theorem ok_charge {f fE fC fL fP fB fA fD fCh : Addr} {fd fdE fdC fdL fdP fdB fdA fdD fdCh : FuncData} (F : Fun K "charge_ride" "Account.charge_ride" sCharge f fd) (T : CTx K mg C CP CZ) (TA : ATx K mg CA)
    (FE : Fun K "empty_counts" "empty_counts" sEmptyCounts fE fdE) (bE : Binds K fdE [] []) (gE : mg "empty_counts" = some (.ref fE))
    (FC : Fun K "_count_rides" "_count_rides" sCountRides fC fdC) (bC : Binds K fdC ["rides"] []) (gC : mg "_count_rides" = some (.ref fC))
    (FL : Fun K "least_cost" "least_cost" sLeastCost fL fdL) (bL : Binds K fdL ["tariff", "counts"] []) (gL : mg "least_cost" = some (.ref fL))
    (FP : Fun K "_cheapest_plan" "_cheapest_plan" sPlan fP fdP) (bP : Binds K fdP ["tariff", "counts"] []) (gP : mg "_cheapest_plan" = some (.ref fP))
    (FB : Fun K "_prices_by_size" "_prices_by_size" sBySize fB fdB) (bB : Binds K fdB ["prices"] []) (gB : mg "_prices_by_size" = some (.ref fB))
    (FA : Fun K "_costs_above" "_costs_above" sAbove fA fdA) (bA : Binds K fdA ["single_prices", "counts"] []) (gA : mg "_costs_above" = some (.ref fA))
    (FD : Fun K "_cheapest_day_plan" "_cheapest_day_plan" sDayPlan fD fdD) (bD : Binds K fdD ["day_prices", "costs_above", "week_size"] []) (gD : mg "_cheapest_day_plan" = some (.ref fD))
    (FCh : Fun K "cheapest" "cheapest" sCheapest fCh fdCh) (bCh : Binds K fdCh ["prices", "zones"] []) (gCh : mg "cheapest" = some (.ref fCh)) :
    FnOk P w K mg base CX0 5 f fd ["self", "tariff", "day", "start", "goal", "zones"] (spCharge C CA) := by
  have GE : FnOk P w K mg base CX0 2 fE fdE [] spEmptyCounts := ok_emptyCounts FE T TA.wd FC bC gC
  have GL : FnOk P w K mg base CX0 4 fL fdL ["tariff", "counts"] (spLeastCost C) := ok_leastCost FL T FP bP gP FB bB gB FA bA gA FD bD gD FCh bCh gCh
  obtain ⟨wt, wd⟩ := TA.wd
  refine F.ok scCharge (fun vs H Q E h => ?_) (fun cdv A outer s H vs Q E hr h => ?_)
  · obtain ⟨q, ta, day, st, go, z, S, D, W, rs, F, Fx, rfl, _⟩ := h
    rfl
  · obtain ⟨q, ta, day, st, go, z, S, D, W, rs, FF, Fx, rfl, acc, tar, sfx, nfx, bk, hday, hz1, hz5, hn, k⟩ := h
    have r2 := hr.mono (show 2 ≤ 4 by decide)
    have hu := hu_of hr
    refine ⟨_, pss_cons (ps_set (i := 6) scCharge.nd rfl (.inl rfl) (pe_op op_fdiv (pv 2) (pe_glob (v := .int 7) rfl wd ⟨wt, rfl⟩)))
      (C8.pss_cut (ps_if (pt_cmpR op_gt (pv 6) (pe_op op_fdiv (pe_fld (pv 0) rfl) (pe_glob (v := .int 7) rfl wd ⟨wt, rfl⟩)) (nomark _)) (pss_one (ps_fld (pv 0) (pe_call0 GE r2 (by rfl) gE FE.kp bE .nil pass0) rfl)) pss_nil)
      (pss_cons (ps_fld (pv 0) (pv 2) rfl)
      (pss_cons (ps_augS (pe_ix ix_list (pe_fld (pv 0) rfl) (pe_op op_mod (pv 2) (pe_glob (v := .int 7) rfl wd ⟨wt, rfl⟩)) (fun _ _ => rfl)) (pv 5) get_list pe_int ip_add set_list)
      (pss_cons (ps_set (i := 7) scCharge.nd rfl (.inl rfl) (pe_dget2 hu (pe_fld (pv 0) rfl) (pv 6) pe_int ⟨rfl, rfl, rfl, rfl⟩))
      (pss_cons (ps_set (i := 8) scCharge.nd rfl (.inl rfl) (pe_op op_sub (pe_call GL hr (by rfl) gL FL.kp bL .nil pass0 (pa_cons (pv 1) (pa_cons (pe_fld (pv 0) rfl) pa_nil))) (pv 7)))
      (pss_cons (ps_expr (pe_bm PySem.F.plainAttrs_list PySem.F.slot_list_append PySem.F.type_list_append mt_append (pe_fld (pv 0) rfl) (pa_cons (pe_tup (pa_cons (pv 2) (pa_cons (pv 3) (pa_cons (pv 4) (pa_cons (pv 5) (pa_cons (pv 8) pa_nil)))))) pa_nil)))
      (pss_cons (ps_dput hu (pe_fld (pv 0) rfl) (pv 2) (pe_op op_add (pe_dget2 hu (pe_fld (pv 0) rfl) (pv 2) pe_int ⟨rfl, rfl, rfl, rfl⟩) (pv 8)) rfl)
      (pss_cons (ps_dput hu (pe_fld (pv 0) rfl) (pv 6) (pe_op op_add (pv 7) (pv 8)) rfl)
      (pss_cons (ps_fldaug (pv 0) (pv 8) in_add)
      (pss_one (ps_ret (pv 8)))))))))))), ?_⟩
    have fmem : q ∈ FF := acc.mem
    obtain ⟨dx, rl, wl, dl, sl, fs, as, cs, dk, wk, af, raw, l1, l2, hd, hw, eF⟩ := acc.ex
    have las : as.length = rs.length := raw.hRs.len
    -- week = day // WEEK_DAYS
    refine ⟨_, rfl, _, _, rfl, rfl, ⟨by decide, by decide⟩, ?_⟩
    -- a new week has no counts yet
    refine ⟨fun σ H1 => ∃ (fs1 : List (Str × V)) (wl1 : Addr) (cs1 : List Addr), σ = [some (.ref q), some (.ref ta), some (.int day), some (.int st), some (.int go), some (.int z), some (.int (day / 7)), none, none] ∧
        AF fs1 rl (FT.lastDay rs) wl1 dl sl (FT.tsum rs) ∧ Raw CA H1 q dx fs1 rl wl1 dl sl as cs1 rs (FT.wdays (day / 7) rs) dk wk ∧ Frm H H1 FF ∧ ∀ b, b ∈ wl1 :: cs1 → b ∈ FF ∨ H b = none, ?_, ?_⟩
    · refine ⟨_, rfl, _, rfl, q, CA, dx, _, _, rfl, raw.ob, TA.cl, TA.nL, af.last, _, _, rfl, rfl, ⟨by decide, by decide⟩, _, _, rfl, rfl, _, rfl, ?_⟩
      refine ite2 (fun e => ?_) (fun e => ?_)
      · have hgt : FT.lastDay rs / 7 < day / 7 := of_decide_eq_true e
        refine ⟨rfl, fun H1 wl1 cs1 s1 nwl hwl hcs ndc hnc => ?_⟩
        refine ⟨_, rfl, q, CA, dx, _, rfl, s1 _ _ raw.ob, TA.cl, TA.nC, af.few, ?_⟩
        have r1 := raw.same s1
        have ne : ∀ {x y : Addr} {o : HO}, H x = some o → H y = none → x ≠ y := fun e n => ne_of_none e n
        have a := apart_of raw.nd
        have hnew : FT.wdays (day / 7) rs = List.replicate 7 [] := FT.wdays_new fun r m z => by
          have := bk.day r m
          omega
        have nd2 := List.nodup_cons.mp ndc
        have rawN : Raw CA H1 q dx fs rl wl1 dl sl as cs1 rs (FT.wdays (day / 7) rs) dk wk := by
          refine ⟨r1.ob, r1.hRl, r1.hRs, hwl, by rw [hnew]; exact hcs, r1.hDl, r1.hSl, ?_⟩
          simp only [List.nodup_cons, List.mem_cons, not_or]
          exact ⟨⟨a.qr, ne raw.ob nwl, a.qd, a.qs, fun m => ne raw.ob (hnc q m) rfl⟩, ⟨ne raw.hRl nwl, a.rd, a.rs, fun m => ne raw.hRl (hnc rl m) rfl⟩, ⟨(ne raw.hDl nwl).symm, (ne raw.hSl nwl).symm, nd2.1⟩, ⟨a.ds, fun m => ne raw.hDl (hnc dl m) rfl⟩, fun m => ne raw.hSl (hnc sl m) rfl, nd2.2⟩
        refine ⟨_, wl1, cs1, rfl, af.putCnts wl1, rawN.setQ _, Frm.put (fun b o e _ => s1 b o e) (.inl fmem), fun b m => ?_⟩
        rcases List.mem_cons.mp m with rfl | m
        · exact .inr nwl
        · exact .inr (hnc b m)
      · have hle : ¬ FT.lastDay rs / 7 < day / 7 := fun c => e (decide_eq_true c)
        have ew : FT.lastDay rs / 7 = day / 7 := by omega
        refine ⟨fs, wl, cs, rfl, af, by rw [← ew]; exact raw, fun b o e _ => e, fun b m => .inl ?_⟩
        rw [eF]
        rcases List.mem_cons.mp m with rfl | m
        · simp
        · simp [m]
    rintro σ H1 ⟨fs1, wl1, cs1, rfl, af1, raw1, f1, hF1⟩
    have hF1' : ∀ b, b ∈ q :: rl :: wl1 :: dl :: sl :: cs1 → b ∈ FF ∨ H b = none := fun b m => by
      simp only [List.mem_cons] at m
      rcases m with rfl | rfl | rfl | rfl | rfl | m
      · exact .inl fmem
      · exact .inl (by rw [eF]; simp)
      · exact hF1 _ List.mem_cons_self
      · exact .inl (by rw [eF]; simp)
      · exact .inl (by rw [eF]; simp)
      · exact hF1 b (List.mem_cons_of_mem _ m)
    clear hF1 raw af
    -- self.last_day = day
    refine ⟨_, rfl, _, rfl, q, CA, dx, _, rfl, raw1.ob, TA.cl, TA.nL, af1.few, ?_⟩
    obtain ⟨H2, e2⟩ : ∃ H2, H2 = upd H1 q (.ins CA dx (putF "last_day" (.int day) fs1)) := ⟨_, rfl⟩
    have raw2 : Raw CA H2 q dx _ rl wl1 dl sl as cs1 rs (FT.wdays (day / 7) rs) dk wk := e2 ▸ raw1.setQ _
    have f2 : Frm H H2 FF := e2 ▸ f1.put (.inl fmem)
    have af2 := af1.putLast day
    rw [← e2]
    clear e2 raw1 f1 af1
    -- self.week_counts[day % WEEK_DAYS][zones] += 1
    have lc : cs1.length = 7 := by rw [raw2.hCs.len, List.length_map, FT.wdays_len]
    have hj := FT.dw_lt day
    obtain ⟨c, ec⟩ : ∃ c, cs1[FT.dw day]? = some c := ⟨_, List.getElem?_eq_getElem (by omega)⟩
    have ez := FT.wadd_get day rs
    have hc : NatsAt H2 c (FT.cnt (FT.dz (day / 7) (FT.dw day) rs)) := raw2.hCs.at ec (by rw [List.getElem?_map, ez]; rfl)
    have gc : atI (cs1.map V.ref) (day % 7) = some (.ref c) := at_of (j := FT.dw day) (FT.dw_eq day).symm (by rw [List.getElem?_map, ec]; rfl)
    have gz : atI ((FT.cnt (FT.dz (day / 7) (FT.dw day) rs)).map fun (k : Nat) => V.int (k : Nat)) (z : Nat) = some (.int ((FT.dz (day / 7) (FT.dw day) rs).count z : Nat)) := at_of rfl (by rw [List.getElem?_map, FT.cnt_get (by omega)]; rfl)
    refine ⟨_, rfl, q, CA, dx, _, _, rfl, raw2.ob, TA.cl, TA.nC, af2.cnts, _, rfl, _, _, rfl, rfl, by show (0 : Int) < 7; decide, wl1, _, _, _, rfl, rfl, SqL.of raw2.hWl, gc, _, rfl, c, _, _, _, rfl, rfl, SqL.of hc, gz, _, _, rfl, rfl, c, _, _, z, rfl, rfl, hc, by rw [List.length_map, FT.cnt_len]; exact ixN_nat (by omega), ?_⟩
    obtain ⟨H3, e3⟩ : ∃ H3, H3 = upd H2 c (.lst (((FT.cnt (FT.dz (day / 7) (FT.dw day) rs)).map fun (k : Nat) => V.int (k : Nat)).set z (.int (((FT.dz (day / 7) (FT.dw day) rs).count z : Nat) + 1 : Int)))) := ⟨_, rfl⟩
    have raw3 : Raw CA H3 q dx _ rl wl1 dl sl as cs1 rs (FT.wadd day z rs) dk wk := e3 ▸ raw2.setC ec ez z
    have f3 : Frm H H3 FF := e3 ▸ f2.put (hF1' c (by simp [List.mem_of_getElem? ec]))
    rw [← e3]
    clear e3 raw2 f2 hc
    -- week_sum = self.week_sums.get(week, 0)
    refine ⟨_, rfl, q, CA, dx, _, _, rfl, raw3.ob, TA.cl, TA.nW, af2.weeks, sl, rfl, .inl ⟨_, .inl raw3.hSl⟩, _, rfl, _, DGet.k (k := .inl (day / 7)) raw3.hSl, ?_⟩
    rw [hw (day / 7)]
    -- charge
    obtain ⟨w5, w7, wl⟩ := wadd_lens bk (d := day) (z := z) ⟨hz1, hz5⟩
    refine ⟨_, rfl, _, rfl, q, CA, dx, _, _, rfl, raw3.ob, TA.cl, TA.nC, af2.cnts, ta, wl1, S, D, W, FT.wadd day z rs, rfl, tar.same (f3.fx sfx nfx), ⟨cs1, raw3.hWl, raw3.hCs⟩, w5, by omega, fun zs m => by have := wl zs m; omega, fun H4 s4 => ?_⟩
    refine ⟨_, rfl, _, _, rfl, rfl, ?_⟩
    have raw4 := raw3.same s4
    have f4 := f3.of s4
    clear raw3 f3
    -- self.rows.append(..)
    refine ⟨_, rfl, q, CA, dx, _, _, rfl, raw4.ob, TA.cl, TA.nR, af2.rows, .inl ⟨rfl, _, SqL.of raw4.hRl⟩, ?_⟩
    refine ⟨_, rfl, _, rfl, _, rfl, _, rfl, _, rfl, by show 5 ≤ sizeLine; decide, fun t nt => ?_⟩
    obtain ⟨H5, e5⟩ : ∃ H5, H5 = upd H4 t (.tup [V.int day, .int st, .int go, .int (z : Nat), .int (FT.leastF ⟨S, D, W⟩ (FT.wadd day z rs) - FT.wsum (day / 7) rs)]) := ⟨_, rfl⟩
    have s5 : Same H4 H5 := e5 ▸ same_upd nt
    have ht : RideAt H5 t ⟨day, st, go, z, FT.charge ⟨S, D, W⟩ rs day z⟩ := by
      show H5 t = _
      rw [e5, upd_same]
      rfl
    rw [← e5]
    clear e5
    have raw5 := raw4.same s5
    have f5 := f4.of s5
    clear raw4 f4
    refine ⟨rl, _, _, rfl, rfl, raw5.hRl, small_line (by rw [List.length_map, las]; omega), ?_⟩
    obtain ⟨H6, e6⟩ : ∃ H6, H6 = upd H5 rl (.lst (as.map V.ref ++ [.ref t])) := ⟨_, rfl⟩
    have raw6 := raw5.setRows ht
    have f6 : Frm H H6 FF := e6 ▸ f5.put (hF1' rl (by simp))
    rw [← e6] at raw6 ⊢
    clear e6 raw5 f5
    -- self.day_sums[day] = ..
    refine ⟨_, rfl, q, CA, dx, _, _, rfl, raw6.ob, TA.cl, TA.nD, af2.days, dl, rfl, .inl ⟨_, .inl raw6.hDl⟩, _, rfl, _, DGet.k (k := .inl day) raw6.hDl, _, rfl, _, _, hd day, rfl, ?_⟩
    refine ⟨_, rfl, q, CA, dx, _, _, rfl, raw6.ob, TA.cl, TA.nD, af2.days, _, rfl, dl, _, rfl, DPut.k (k := .inl day) raw6.hDl (small_line (by omega)), ?_⟩
    obtain ⟨H7, e7⟩ : ∃ H7, H7 = upd H6 dl (.dK (putK dk (.inl day) (.int (FT.dsum day rs + (FT.leastF ⟨S, D, W⟩ (FT.wadd day z rs) - FT.wsum (day / 7) rs))))) := ⟨_, rfl⟩
    have raw7 := raw6.setD (putK dk (.inl day) (.int (FT.dsum day rs + (FT.leastF ⟨S, D, W⟩ (FT.wadd day z rs) - FT.wsum (day / 7) rs))))
    have f7 : Frm H H7 FF := e7 ▸ f6.put (hF1' dl (by simp))
    rw [← e7] at raw7 ⊢
    clear e7 raw6 f6
    -- self.week_sums[week] = ..
    refine ⟨_, rfl, _, rfl, _, _, rfl, rfl, ?_⟩
    refine ⟨_, rfl, q, CA, dx, _, _, rfl, raw7.ob, TA.cl, TA.nW, af2.weeks, _, rfl, sl, _, rfl, DPut.k (k := .inl (day / 7)) raw7.hSl (small_line (by omega)), ?_⟩
    obtain ⟨H8, e8⟩ : ∃ H8, H8 = upd H7 sl (.dK (putK wk (.inl (day / 7)) (.int (FT.wsum (day / 7) rs + (FT.leastF ⟨S, D, W⟩ (FT.wadd day z rs) - FT.wsum (day / 7) rs))))) := ⟨_, rfl⟩
    have raw8 := raw7.setS (putK wk (.inl (day / 7)) (.int (FT.wsum (day / 7) rs + (FT.leastF ⟨S, D, W⟩ (FT.wadd day z rs) - FT.wsum (day / 7) rs))))
    have f8 : Frm H H8 FF := e8 ▸ f7.put (hF1' sl (by simp))
    rw [← e8] at raw8 ⊢
    clear e8 raw7 f7
    -- self.total += charge
    refine ⟨_, rfl, q, CA, dx, _, _, rfl, raw8.ob, TA.cl, TA.nT, af2.total, _, rfl, _, _, rfl, rfl, dx, _, raw8.ob, af2.few, ?_⟩
    refine ⟨_, rfl, ?_⟩
    refine k _ (q :: rl :: wl1 :: dl :: sl :: cs1) (f8.put (.inl fmem)) ⟨dx, rl, wl1, dl, sl, putF "total" (.int (FT.tsum rs + (FT.leastF ⟨S, D, W⟩ (FT.wadd day z rs) - FT.wsum (day / 7) rs))) (putF "last_day" (.int day) fs1), as ++ [t], cs1, putK dk (.inl day) (.int (FT.dsum day rs + (FT.leastF ⟨S, D, W⟩ (FT.wadd day z rs) - FT.wsum (day / 7) rs))), putK wk (.inl (day / 7)) (.int (FT.wsum (day / 7) rs + (FT.leastF ⟨S, D, W⟩ (FT.wadd day z rs) - FT.wsum (day / 7) rs))), ?_, ?_, ?_, ?_, fun d => ?_, fun w' => ?_, rfl⟩ hF1'
    · rw [FT.lastDay_snoc, FT.tsum_snoc]
      exact af2.putTotal _
    · rw [FT.lastDay_snoc, FT.wdays_add]
      exact raw8.setQ _
    · have := length_putK dk (.inl day) (.int (FT.dsum day rs + (FT.leastF ⟨S, D, W⟩ (FT.wadd day z rs) - FT.wsum (day / 7) rs)))
      rw [List.length_append]
      show _ ≤ _ + 1
      omega
    · have := length_putK wk (.inl (day / 7)) (.int (FT.wsum (day / 7) rs + (FT.leastF ⟨S, D, W⟩ (FT.wadd day z rs) - FT.wsum (day / 7) rs)))
      rw [List.length_append]
      show _ ≤ _ + 1
      omega
    · rw [valV_put, FT.dsum_snoc]
      by_cases e : d = day
      · subst e
        rw [if_pos rfl, if_pos rfl]
        rfl
      · rw [if_neg (fun z => e (Sum.inl.inj z)), if_neg (fun z => e z.symm), hd d, Int.add_zero]
    · rw [valV_put, FT.wsum_snoc]
      by_cases e : w' = day / 7
      · subst e
        rw [if_pos rfl, if_pos rfl]
        rfl
      · rw [if_neg (fun z => e (Sum.inl.inj z)), if_neg (fun z => e z.symm), hw w', Int.add_zero]
end
end FW

namespace FW
open PySem PySem.Spec PyProof.Rows L2
abbrev sLInit : Stmt := inClass (top 30) 0
abbrev sRide : Stmt := inClass (top 30) 1
abbrev sRides : Stmt := inClass (top 30) 2
abbrev sWeekSum : Stmt := inClass (top 30) 4
abbrev sTickets : Stmt := inClass (top 30) 6
abbrev sAccount : Stmt := inClass (top 30) 7
theorem scLInit : FnScope ["self", "web", "tariff"] ["self", "web", "tariff"] (defScope sLInit) := ⟨rfl, rfl, rfl, by decide +kernel, rfl, by decide +kernel, by decide +kernel⟩
theorem scRide : FnScope ["self", "card", "day", "start", "goal", "zones", "account"] ["self", "card", "day", "start", "goal"] (defScope sRide) := ⟨rfl, rfl, rfl, by decide +kernel, rfl, by decide +kernel, by decide +kernel⟩
theorem scRides : FnScope ["self", "card"] ["self", "card"] (defScope sRides) := ⟨rfl, rfl, rfl, by decide +kernel, rfl, by decide +kernel, by decide +kernel⟩
theorem scWeekSum : FnScope ["self", "card", "week"] ["self", "card", "week"] (defScope sWeekSum) := ⟨rfl, rfl, rfl, by decide +kernel, rfl, by decide +kernel, by decide +kernel⟩
theorem scTickets : FnScope ["self", "card", "week", "_", "tickets"] ["self", "card", "week"] (defScope sTickets) := ⟨rfl, rfl, rfl, by decide +kernel, rfl, by decide +kernel, by decide +kernel⟩
theorem scAccount : FnScope ["self", "card"] ["self", "card"] (defScope sAccount) := ⟨rfl, rfl, rfl, by decide +kernel, rfl, by decide +kernel, by decide +kernel⟩
/-- a def of the top, a method of a class: where it stands, whatever its address -/
structure FnX (K : PySem.W.Frag) (mg : Str → Option Value) (x : Str) (st : Stmt) (ps : List Str) : Prop where
  ex : ∃ f fd, Fun K x x st f fd ∧ Binds K fd ps [] ∧ mg x = some (.ref f)
structure MeX (K : PySem.W.Frag) (C : Addr) (x qual : Str) (st : Stmt) (ps : List Str) : Prop where
  ex : ∃ f fd, Fun K x qual st f fd ∧ Binds K fd ps [] ∧ Meth K C x f
structure MkX (K : PySem.W.Frag) (C : Addr) (qual : Str) (st : Stmt) (ps : List Str) : Prop where
  ex : ∃ f fd, Fun K "__init__" qual st f fd ∧ Binds K fd ps [] ∧ Mk K C f
structure LTx (K : PySem.W.Frag) (mg : Str → Option Value) (CL CA CD : Addr) : Prop where
  cl : Cls K CL
  nW : NoAttr K CL "_web"
  nT : NoAttr K CL "_tariff"
  nA : NoAttr K CL "_accounts"
  gA : mg "Account" = some (.ref CA)
  eD : ErrT K mg "PastDay" CD
/-- the whole program -/
structure Prg (K : PySem.W.Frag) (mg : Str → Option Value) (C CP CZ CW CB CS CN CA CL CD : Addr) : Prop where
  T : CTx K mg C CP CZ
  A : ATx K mg CA
  L : LTx K mg CL CA CD
  W : Txt K mg CW CB CS CN
  cheapest : FnX K mg "cheapest" sCheapest ["prices", "zones"]
  checkZones : FnX K mg "check_zones" sCheckZones ["zones"]
  leastPrice : FnX K mg "_least_price" sLeastPrice ["prices", "zones"]
  checkPrices : FnX K mg "_check_prices" sCheckPrices ["prices"]
  least : FnX K mg "least" sLeastOf ["tariff", "days"]
  leastCost : FnX K mg "least_cost" sLeastCost ["tariff", "counts"]
  emptyCounts : FnX K mg "empty_counts" sEmptyCounts []
  countRides : FnX K mg "_count_rides" sCountRides ["rides"]
  plan : FnX K mg "_cheapest_plan" sPlan ["tariff", "counts"]
  bySize : FnX K mg "_prices_by_size" sBySize ["prices"]
  above : FnX K mg "_costs_above" sAbove ["single_prices", "counts"]
  dayPlan : FnX K mg "_cheapest_day_plan" sDayPlan ["day_prices", "costs_above", "week_size"]
  planTickets : FnX K mg "_plan_tickets" sPlanTickets ["tariff", "days", "week_size", "day_sizes"]
  singleTickets : FnX K mg "_single_tickets" sSingleTickets ["tariff", "day", "rides", "served"]
  tInit : MkX K C "Tariff.__init__" sTInit ["self", "singles", "days", "weeks"]
  aInit : MkX K CA "Account.__init__" sAInit ["self"]
  charge : MeX K CA "charge_ride" "Account.charge_ride" sCharge ["self", "tariff", "day", "start", "goal", "zones"]
  weekZones : MeX K CA "week_zones" "Account.week_zones" sWeekZones ["self", "week"]
  lInit : MkX K CL "Ledger.__init__" sLInit ["self", "web", "tariff"]
  ride : MeX K CL "ride" "Ledger.ride" sRide ["self", "card", "day", "start", "goal"]
  rides : MeX K CL "rides" "Ledger.rides" sRides ["self", "card"]
  weekSum : MeX K CL "week_sum" "Ledger.week_sum" sWeekSum ["self", "card", "week"]
  tickets : MeX K CL "tickets" "Ledger.tickets" sTickets ["self", "card", "week"]
  account : MeX K CL "_account" "Ledger._account" sAccount ["self", "card"]
  wInit : MkX K CW "Web.__init__" sInit ["self", "zones", "links"]
  isStop : FnX K mg "_is_stop" sIsStop ["stop", "count"]
  neigh : FnX K mg "_neighbours" sNeigh ["count", "links"]
  checkLink : FnX K mg "_check_link" sCheckLink ["one", "other", "count"]
  checkStop : MeX K CW "_check_stop" "Web._check_stop" sCheckStop ["self", "stop"]
  search : MeX K CW "_search" "Web._search" sSearch ["self", "start"]
  fill : MeX K CW "_fill_level" "Web._fill_level" sFill ["self", "level", "entries", "levels", "origins"]
  searchGoal : MeX K CW "_search_goal" "Web._search_goal" sSearchGoal ["self", "start", "goal"]
  fewest : MeX K CW "fewest" "Web.fewest" sFewest ["self", "start", "goal"]
  way : MeX K CW "way" "Web.way" sWay ["self", "start", "goal"]
  levels : MeX K CW "levels" "Web.levels" sLevels ["self", "start"]
section
variable {P : Program} {w : World} {K : PySem.W.Frag} {mg : Str → Option Value} {base : Heap} {C CP CZ CW CB CS CN CA CL CD : Addr}
/-! ### Account.week_zones -/
theorem nats_upd {H : Hp} {as : List Addr} {ds : List (List Nat)} {j : Nat} {a : Addr} {zs : List Nat} (h : All2 (NatsAt H) as ds) (nd : as.Nodup) (ea : as[j]? = some a) (ez : ds[j]? = some zs) (z : Nat) :
    All2 (NatsAt (upd H a (.lst ((zs.map fun (k : Nat) => V.int (k : Nat)) ++ [.int (z : Nat)])))) as (ds.set j (zs ++ [z])) := by
  refine All2.of_get (by rw [List.length_set]; exact h.len) fun i b l e1 e2 => ?_
  rw [List.getElem?_set] at e2
  by_cases ij : j = i
  · subst ij
    have hl : j < ds.length := (List.getElem?_eq_some_iff.mp ez).1
    rw [if_pos rfl, if_pos hl] at e2
    cases e2
    have eb : b = a := Option.some.inj (e1.symm.trans ea)
    subst eb
    show upd _ _ _ b = _
    rw [upd_same, List.map_append]
    rfl
  · rw [if_neg ij] at e2
    have nb : b ≠ a := fun z => ij (nd_ix nd ea (by rw [← z]; exact e1))
    show upd _ _ _ b = _
    rw [upd_ne nb]
    exact h.at e1 e2
def spWeekZones (CA : Addr) : L2.Sp := fun vs H Q _ => ∃ (q : Addr) (wk : Int) (rs : List FT.Ride) (F : List Addr), vs = [.ref q, .int wk] ∧ Acc CA H q rs F ∧ rs.length ≤ 50000 ∧
  ∀ (H' : Hp) (p : Addr) (as : List Addr), Same H H' → H p = none → H' p = some (.lst (as.map V.ref)) → All2 (NatsAt H') as (FT.wdays wk rs) → Q (.ref p) H'
theorem ok_weekZones {f : Addr} {fd : FuncData} (F : Fun K "week_zones" "Account.week_zones" sWeekZones f fd) (T : CTx K mg C CP CZ) (TA : ATx K mg CA) : FnOk P w K mg base CX0 1 f fd ["self", "week"] (spWeekZones CA) := by
  obtain ⟨wt, wd⟩ := TA.wd
  refine F.ok scWeekZones (fun vs H Q E h => ?_) (fun cdv A outer s H vs Q E hr h => ?_)
  · obtain ⟨q, wk, rs, FF, rfl, _⟩ := h
    rfl
  · obtain ⟨q, wk, rs, FF, rfl, acc, hn, k⟩ := h
    refine ⟨_, pss_cons (ps_setLc (i := 2) (own := [("_", 6)]) (g := gName 6) (by rfl) scWeekZones.nd rfl rfl (sw_true rfl rfl rfl (by decide +kernel)) (pi_range1 (by rfl) T.P.range (pa_cons (pe_glob (v := .int 7) rfl wd ⟨wt, rfl⟩) pa_nil))
        (blkOk_by (own := [("_", 6)]) (N := ["self", "week", "days", "row", "day", "zones", "_"]) (sc := defScope sWeekZones) (by decide +kernel)) (fun _ _ _ _ _ => pg_name (i := 6) scWeekZones.nd rfl (Or.inl rfl)) (fun _ _ _ _ _ => pts_nil) (fun _ _ _ _ _ => pe_lst pa_nil))
      (pss_cons (ps_for PassesOwn.never rfl (pi_list (pe_fld (pv 0) rfl)) (pg_name (i := 3) scWeekZones.nd rfl (.inl rfl))
        (pss_cons (ps_par (i := 4) (j := 5) (by rfl) scWeekZones.nd rfl rfl (by decide) rfl rfl (pa_cons (pe_ix ix_tup (pv 3) pe_int (fun _ _ => rfl)) (pa_cons (pe_ix ix_tup (pv 3) pe_int (fun _ _ => rfl)) pa_nil)) (by rfl))
        (pss_one (ps_if (pt_cmpR op_eq (pe_op op_fdiv (pv 4) (pe_glob (v := .int 7) rfl wd ⟨wt, rfl⟩)) (pv 1) (nomark _))
          (pss_one (ps_expr (pe_bm PySem.F.plainAttrs_list PySem.F.slot_list_append PySem.F.type_list_append mt_append (pe_ix ix_list (pv 2) (pe_op op_mod (pv 4) (pe_glob (v := .int 7) rfl wd ⟨wt, rfl⟩)) (fun _ _ => rfl)) (pa_cons (pv 5) pa_nil)))) pss_nil))))
      (pss_one (ps_ret (pv 2)))), ?_⟩
    obtain ⟨dx, rl, wl, dl, sl, fs, as, cs, dk, wkk, af, raw, l1, l2, hd, hw, eF⟩ := acc.ex
    have las : as.length = rs.length := raw.hRs.len
    refine ⟨7, rfl, by decide, by decide, fun D hD => ?_⟩
    refine lc_range (lo := 0) (n := (7 : Int).toNat) (fun i H' => Same H H' ∧ ∃ bs : List Addr, H' D = some (.lst (bs.map V.ref)) ∧ All2 (NatsAt H') bs (List.replicate i ([] : List Nat)) ∧ (D :: bs).Nodup ∧ ∀ a, a ∈ bs → H a = none)
      ⟨same_upd hD, [], upd_same, .nil, by simp, by simp⟩ ?_ ?_
    · rintro i H1 hi ⟨sm, bs, eD, hA, nd, hn⟩
      refine ⟨rfl, ?_⟩
      refine tYes_if ?_
      have hi7 : i < 7 := hi
      refine ⟨Nat.zero_le _, fun p np => ?_⟩
      have nDp : D ≠ p := ne_of_none eD np
      have li : bs.length = i := by rw [hA.len, List.length_replicate]
      have nDas : D ∉ bs := (List.nodup_cons.mp nd).1
      have nas : ∀ a, a ∈ bs → a ≠ p := fun a m => by
        obtain ⟨j, hj⟩ := List.getElem?_of_mem m
        obtain ⟨b, _, r⟩ := hA.getL hj
        exact ne_of_none r np
      refine ⟨bs.map V.ref, by rw [upd_ne nDp]; exact eD, small_line (by rw [List.length_map]; omega), upd_out (sm.trans (same_upd np)) hD, bs ++ [p], by rw [upd_same, List.map_append]; rfl, ?_, ?_, fun a m => ?_⟩
      · rw [List.replicate_succ']
        refine All2.app (hA.imp_mem fun a b m r => ?_) (All2.one ?_)
        · show upd (upd H1 p _) D _ a = _
          rw [upd_ne (show a ≠ D from fun z => nDas (by rw [← z]; exact m)), upd_ne (nas a m)]
          exact r
        · show upd (upd H1 p _) D _ p = _
          rw [upd_ne nDp.symm, upd_same]
          rfl
      · refine List.nodup_cons.mpr ⟨fun m => ?_, List.nodup_append.mpr ⟨(List.nodup_cons.mp nd).2, by simp, fun a m b m2 => ?_⟩⟩
        · rcases List.mem_append.mp m with m | m
          · exact nDas m
          · exact nDp (List.mem_singleton.mp m)
        · rw [List.mem_singleton.mp m2]
          exact nas a m
      · rcases List.mem_append.mp m with m | m
        · exact hn a m
        · rw [List.mem_singleton.mp m]
          exact sm.free np
    rintro H1 ⟨s1, bs, eD, hA, nd, hnew⟩
    have nD2 := List.nodup_cons.mp nd
    refine ⟨_, rfl, q, CA, dx, _, _, rfl, s1 _ _ raw.ob, TA.cl, TA.nR, af.rows, rl, rfl, ⟨_, SqL.of (s1 _ _ raw.hRl)⟩, for_list (K := K) (a := rl) (xs := as.map V.ref) (fun i σ H2 => ∃ y3 y4 y5 : Option V, σ = [some (.ref q), some (.int wk), some (.ref D), y3, y4, y5, none] ∧ Same H H2 ∧
        H2 D = some (.lst (bs.map V.ref)) ∧ All2 (NatsAt H2) bs (FT.wdays wk (rs.take i)))
      ⟨none, none, none, rfl, s1, eD, hA⟩ (fun i σ H2 _ ⟨_, _, _, _, s2, _⟩ => SqL.of (s2 _ _ raw.hRl)) ?_ ?_⟩
    · rintro i x σ H2 hi ⟨y3, y4, y5, rfl, s2, eD2, hA2⟩
      obtain ⟨ra, ea, rfl⟩ := map_item hi
      obtain ⟨r, er, hra⟩ := raw.hRs.getL ea
      have hr2 := s2 _ _ hra
      have htk : rs.take (i + 1) = rs.take i ++ [r] := take_snoc er
      refine ⟨_, rfl, ra, _, _, _, rfl, rfl, SqT.of hr2, rfl, _, rfl, ra, _, _, _, rfl, rfl, SqT.of hr2, rfl, _, _, rfl, ?_⟩
      refine ⟨_, rfl, _, _, rfl, rfl, ⟨by decide, by decide⟩, _, rfl, rfl, _, rfl, ?_⟩
      refine ite2 (fun e => ?_) (fun e => ?_)
      · have ew : r.day / 7 = wk := V.int.inj (of_decide_eq_true e)
        have hj := FT.dw_lt r.day
        have lb : bs.length = 7 := by rw [hA2.len, FT.wdays_len]
        obtain ⟨b, eb⟩ : ∃ b, bs[FT.dw r.day]? = some b := ⟨_, List.getElem?_eq_getElem (by omega)⟩
        have mb := List.mem_of_getElem? eb
        have ez := FT.wdays_get (w := wk) (rs := rs.take i) hj
        have hb := hA2.at eb ez
        have gb : atI (bs.map V.ref) (r.day % 7) = some (.ref b) := at_of (j := FT.dw r.day) (FT.dw_eq r.day).symm (by rw [List.getElem?_map, eb]; rfl)
        have ld := FT.dz_len wk (FT.dw r.day) (rs.take i)
        have lt : (rs.take i).length ≤ rs.length := by rw [List.length_take]; omega
        refine ⟨_, rfl, _, rfl, _, _, rfl, rfl, by show (0 : Int) < 7; decide, D, _, _, _, rfl, rfl, SqL.of eD2, gb, .inl ⟨rfl, _, SqL.of hb⟩, _, rfl, b, _, _, rfl, rfl, hb, small_line (by rw [List.length_map]; omega), ?_⟩
        have nDb : D ≠ b := fun z => nD2.1 (by rw [z]; exact mb)
        refine ⟨_, _, _, rfl, upd_out s2 (hnew b mb), by rw [upd_ne nDb]; exact eD2, ?_⟩
        rw [htk, FT.wdays_snoc, if_pos ew]
        exact nats_upd hA2 nD2.2 eb ez r.z
      · have ew : r.day / 7 ≠ wk := fun z => e (decide_eq_true (congrArg V.int z))
        refine ⟨_, _, _, rfl, s2, eD2, ?_⟩
        rw [htk, FT.wdays_snoc, if_neg ew]
        exact hA2
    · rintro σ H2 ⟨y3, y4, y5, rfl, s2, eD2, hA2⟩
      rw [List.length_map, las, List.take_length] at hA2
      exact ⟨_, rfl, k H2 D bs s2 hD eD2 hA2⟩
/-! ### the ledger on the heap -/
def lf (wa ta aa : Addr) : List (Str × V) := [("_web", .ref wa), ("_tariff", .ref ta), ("_accounts", .ref aa)]
structure Led (CL CA : Addr) (T : FT.Tar) (Fx H : Hp) (p wa ta : Addr) (book : Str → List FT.Ride) (O : Addr → Prop) (n : Nat) : Prop where
  ex : ∃ (dx aa : Addr) (kvs : List (Key × V)) (foot : Str → List Addr), H p = some (.ins CL dx (lf wa ta aa)) ∧ H aa = some (.dK kvs) ∧ O p ∧ O aa ∧ kvs.length ≤ n ∧
    (∀ c, (valV kvs (.inr c) = none ∧ book c = [] ∧ foot c = []) ∨ ∃ q, valV kvs (.inr c) = some (.ref q) ∧ Acc CA H q (book c) (foot c)) ∧
    (∀ c b, b ∈ foot c → O b ∧ b ≠ p ∧ b ≠ aa) ∧ ∀ c c' b, c ≠ c' → b ∈ foot c → b ∉ foot c'
  bk : ∀ c, FT.Book T (book c) ∧ (book c).length ≤ n
  own : ∀ b, O b → ∃ o, H b = some o ∧ ∀ xs, o ≠ .tup xs
  fx : Same Fx H
  nfx : ∀ b, O b → Fx b = none
theorem Led.keep {T : FT.Tar} {Fx H H' : Hp} {p wa ta : Addr} {book : Str → List FT.Ride} {O : Addr → Prop} {n : Nat} (h : Led CL CA T Fx H p wa ta book O n) (k : ∀ b o, H b = some o → (O b ∨ ∃ xs, o = .tup xs) → H' b = some o) (fx : Same Fx H') : Led CL CA T Fx H' p wa ta book O n := by
  obtain ⟨dx, aa, kvs, foot, h1, h2, op, oa, hl, hc, hf, hd⟩ := h.ex
  refine ⟨⟨dx, aa, kvs, foot, k _ _ h1 (.inl op), k _ _ h2 (.inl oa), op, oa, hl, fun c => ?_, hf, hd⟩, h.bk, fun b ob => ?_, fx, h.nfx⟩
  · rcases hc c with z | ⟨q, e, a⟩
    · exact .inl z
    · exact .inr ⟨q, e, a.keep fun b o e m => k b o e (m.imp (fun m => (hf c b m).1) id)⟩
  · obtain ⟨o, e, no⟩ := h.own b ob
    exact ⟨o, k b o e (.inl ob), no⟩
theorem Led.same {T : FT.Tar} {Fx H H' : Hp} {p wa ta : Addr} {book : Str → List FT.Ride} {O : Addr → Prop} {n : Nat} (h : Led CL CA T Fx H p wa ta book O n) (s : Same H H') : Led CL CA T Fx H' p wa ta book O n :=
  h.keep (fun b o e _ => s b o e) (h.fx.trans s)
theorem Led.more {T : FT.Tar} {Fx H : Hp} {p wa ta : Addr} {book : Str → List FT.Ride} {O : Addr → Prop} {n m : Nat} (h : Led CL CA T Fx H p wa ta book O n) (l : n ≤ m) : Led CL CA T Fx H p wa ta book O m := by
  obtain ⟨dx, aa, kvs, foot, h1, h2, op, oa, hl, hc, hf, hd⟩ := h.ex
  exact ⟨⟨dx, aa, kvs, foot, h1, h2, op, oa, Nat.le_trans hl l, hc, hf, hd⟩, fun c => ⟨(h.bk c).1, Nat.le_trans (h.bk c).2 l⟩, h.own, h.fx, h.nfx⟩
/-! ### Ledger.__init__ -/
def spLInit (CL : Addr) : L2.Sp := fun vs H Q _ => ∃ (p dx wa ta : Addr), vs = [.ref p, .ref wa, .ref ta] ∧ H p = some (.ins CL dx []) ∧
  ∀ (H' : Hp) (aa : Addr), Kept H H' p → H' p = some (.ins CL dx (lf wa ta aa)) → H' aa = some (.dK []) → H aa = none → aa ≠ p → Q .non H'
theorem ok_lInit {f : Addr} {fd : FuncData} (F : Fun K "__init__" "Ledger.__init__" sLInit f fd) (T : LTx K mg CL CA CD) : FnOk P w K mg base CX0 1 f fd ["self", "web", "tariff"] (spLInit CL) := by
  refine F.ok scLInit (fun vs H Q E h => ?_) (fun cdv A outer s H vs Q E hr h => ?_)
  · obtain ⟨p, dx, wa, ta, rfl, _⟩ := h
    rfl
  · obtain ⟨p, dx, wa, ta, rfl, hp, k⟩ := h
    refine ⟨_, pss_cons (ps_fld (pv 0) (pv 1) rfl)
      (pss_cons (ps_fld (pv 0) (pv 2) rfl)
      (pss_one (ps_fld (pv 0) pe_dnewK rfl))), ?_⟩
    refine ⟨_, rfl, _, rfl, p, CL, dx, [], rfl, hp, T.cl, T.nW, by show 0 < 1000; decide, ?_⟩
    have e1 : putF "_web" (.ref wa) [] = [(("_web" : Str), V.ref wa)] := rfl
    rw [e1]
    refine ⟨_, rfl, _, rfl, p, CL, dx, _, rfl, upd_same, T.cl, T.nT, by show 1 < 1000; decide, ?_⟩
    have e2 : putF "_tariff" (.ref ta) [(("_web" : Str), V.ref wa)] = [(("_web" : Str), V.ref wa), ("_tariff", .ref ta)] := putF_new (by show _ ∉ [("_web" : Str)]; decide +kernel)
    rw [e2]
    obtain ⟨H1, d1⟩ : ∃ H1, H1 = upd (upd H p (.ins CL dx [(("_web" : Str), V.ref wa)])) p (.ins CL dx [(("_web" : Str), V.ref wa), ("_tariff", .ref ta)]) := ⟨_, rfl⟩
    rw [← d1]
    have k1 : Kept H H1 p := d1 ▸ Kept.put (Kept.put fun b o e _ => e)
    have hp1 : H1 p = some (.ins CL dx [(("_web" : Str), V.ref wa), ("_tariff", .ref ta)]) := by rw [d1, upd_same]
    clear d1
    intro aa naa
    have pa : p ≠ aa := ne_of_none hp1 naa
    refine ⟨_, rfl, p, CL, dx, _, rfl, by rw [upd_ne pa]; exact hp1, T.cl, T.nA, by show 2 < 1000; decide, ?_⟩
    have e3 : putF "_accounts" (.ref aa) [(("_web" : Str), V.ref wa), ("_tariff", .ref ta)] = lf wa ta aa := putF_new (by show _ ∉ [("_web" : Str), "_tariff"]; decide +kernel)
    rw [e3]
    exact k _ aa (Kept.put fun b o e n => by rw [upd_ne (ne_of_none (k1 b o e n) naa)]; exact k1 b o e n) upd_same (by rw [upd_ne pa.symm, upd_same]) (k1.new naa pa.symm) pa.symm
theorem lf_w (wa ta aa : Addr) : (lf wa ta aa).lookup ("_web" : Str) = some (.ref wa) := by
  unfold lf
  rw [List.lookup_cons, show (("_web" : Str) == "_web") = true by decide +kernel]
theorem lf_t (wa ta aa : Addr) : (lf wa ta aa).lookup ("_tariff" : Str) = some (.ref ta) := by
  unfold lf
  rw [List.lookup_cons, show (("_tariff" : Str) == "_web") = false by decide +kernel, List.lookup_cons, show (("_tariff" : Str) == "_tariff") = true by decide +kernel]
theorem lf_a (wa ta aa : Addr) : (lf wa ta aa).lookup ("_accounts" : Str) = some (.ref aa) := by
  unfold lf
  rw [List.lookup_cons, show (("_accounts" : Str) == "_web") = false by decide +kernel, List.lookup_cons, show (("_accounts" : Str) == "_tariff") = false by decide +kernel, List.lookup_cons, show (("_accounts" : Str) == "_accounts") = true by decide +kernel]
theorem lf_no {wa ta aa : Addr} {m : Str} (h : m ∉ [("_web" : Str), "_tariff", "_accounts"]) : (lf wa ta aa).lookup m = none := lookup_none h
/-- a new ledger, on a web and by a tariff that stand in Fx -/
theorem Led.new {T : FT.Tar} (ok : T.Ok) {Fx H : Hp} {p dx wa ta aa : Addr} (hp : H p = some (.ins CL dx (lf wa ta aa))) (ha : H aa = some (.dK [])) (pa : aa ≠ p) (fx : Same Fx H) (np : Fx p = none) (na : Fx aa = none) :
    Led CL CA T Fx H p wa ta (fun _ => []) (fun b => b = p ∨ b = aa) 0 := by
  refine ⟨⟨dx, aa, [], fun _ => [], hp, ha, .inl rfl, .inr rfl, Nat.le_refl _, fun c => .inl ⟨rfl, rfl, rfl⟩, fun c b m => by simp at m, fun c c' b _ m => by simp at m⟩, fun c => ⟨.nil ok, Nat.le_refl _⟩, fun b ob => ?_, fx, fun b ob => ?_⟩
  · rcases ob with rfl | rfl
    · exact ⟨_, hp, fun xs z => by cases z⟩
    · exact ⟨_, ha, fun xs z => by cases z⟩
  · rcases ob with rfl | rfl
    · exact np
    · exact na
end
end FW

namespace FW
open PySem PySem.Spec PyProof.Rows L2
section
variable {P : Program} {w : World} {K : PySem.W.Frag} {mg : Str → Option Value} {base : Heap} {C CP CZ CW CB CS CN CA CL CD : Addr}
theorem new_ins {C x dx : Addr} {H : Hp} (nx : H x = none) (ndx : H dx = none) (nex : dx ≠ x) : ∃ H1, H1 = upd (upd H dx (.own x)) x (.ins C dx []) ∧ Same H H1 ∧ H1 x = some (.ins C dx []) :=
  ⟨_, rfl, (same_upd ndx).trans (same_upd (by rw [upd_ne nex.symm]; exact nx)), upd_same⟩
/-! ### Ledger._account -/
def spAccount (CL CA : Addr) : L2.Sp := fun vs H Q _ => ∃ (p dx wa ta aa : Addr) (c : Str) (kvs : List (Key × V)), vs = [.ref p, .str c] ∧ H p = some (.ins CL dx (lf wa ta aa)) ∧ H aa = some (.dK kvs) ∧
  (∀ v, valV kvs (.inr c) = some v → ∀ H', Same H H' → Q v H') ∧ (valV kvs (.inr c) = none → ∀ (H' : Hp) (q : Addr) (F : List Addr), Same H H' → Acc CA H' q [] F → (∀ b, b ∈ F → H b = none) → Q (.ref q) H')
theorem ok_account (D : Prg K mg C CP CZ CW CB CS CN CA CL CD) {f : Addr} {fd : FuncData} (F : Fun K "_account" "Ledger._account" sAccount f fd) : FnOk P w K mg base CX0 5 f fd ["self", "card"] (spAccount CL CA) := by
  obtain ⟨fE, fdE, FE, bE, gE⟩ := D.emptyCounts.ex
  obtain ⟨fC, fdC, FC, bC, gC⟩ := D.countRides.ex
  obtain ⟨fI, fdI, FI, bI, mk⟩ := D.aInit.ex
  have GI : FnOk P w K mg base CX0 3 fI fdI ["self"] (spAInit CA) := ok_aInit FI D.T D.A FE bE gE FC bC gC
  refine F.ok scAccount (fun vs H Q E h => ?_) (fun cdv A outer s H vs Q E hr h => ?_)
  · obtain ⟨p, dx, wa, ta, aa, c, kvs, rfl, _⟩ := h
    rfl
  · obtain ⟨p, dx, wa, ta, aa, c, kvs, rfl, hp, haa, q1, q2⟩ := h
    have hu := hu_of hr
    refine ⟨_, pss_one (ps_ret (pe_dget2 hu (pe_fld (pv 0) rfl) (pv 1) (pe_make0 mk GI hr (by rfl) D.L.gA bI .nil pass0) ⟨rfl, rfl, rfl, rfl⟩)), ?_⟩
    refine ⟨_, rfl, p, CL, dx, _, _, rfl, hp, D.L.cl, D.L.nA, lf_a wa ta aa, aa, rfl, .inl ⟨_, .inl haa⟩, _, rfl, fun x dx2 nx ndx nex => ?_⟩
    obtain ⟨H1, e1, s1, hx1⟩ := new_ins (C := CA) nx ndx nex
    rw [← e1]
    refine ⟨x, dx2, rfl, hx1, fun H2 FF k2 acc hF => ?_⟩
    have s2 : Same H H2 := fun b o e => k2 b o (s1 b o e) (ne_of_none e nx)
    refine ⟨rfl, _, DGet.k (k := .inr c) (s2 _ _ haa), ?_⟩
    cases ev : valV kvs (.inr c) with
    | some v => exact q1 v ev H2 s2
    | none =>
      refine q2 ev H2 x FF s2 acc fun b m => ?_
      rcases hF b m with rfl | z
      · exact nx
      · exact s1.free z
theorem Led.acc {T : FT.Tar} {Fx H : Hp} {p wa ta : Addr} {book : Str → List FT.Ride} {O : Addr → Prop} {n : Nat} (h : Led CL CA T Fx H p wa ta book O n) (c : Str) {Q : VK} {E : XK} (k : ∀ (H' : Hp) (q : Addr) (F : List Addr), Same H H' → Acc CA H' q (book c) F → Q (.ref q) H') :
    spAccount CL CA [.ref p, .str c] H Q E := by
  obtain ⟨dx, aa, kvs, foot, h1, h2, op, oa, hl, hc, hf, hd⟩ := h.ex
  refine ⟨p, dx, wa, ta, aa, c, kvs, rfl, h1, h2, fun v e H' s => ?_, fun e H' q F s acc _ => ?_⟩
  · rcases hc c with ⟨z, _, _⟩ | ⟨q, z, a⟩
    · rw [z] at e
      cases e
    · rw [z] at e
      cases e
      exact k H' q _ s (a.same s)
  · rcases hc c with ⟨_, z, _⟩ | ⟨q', z, a⟩
    · rw [z] at k
      exact k H' q F s acc
    · rw [z] at e
      cases e
theorem Led.at_p {T : FT.Tar} {Fx H : Hp} {p wa ta : Addr} {book : Str → List FT.Ride} {O : Addr → Prop} {n : Nat} (h : Led CL CA T Fx H p wa ta book O n) : ∃ dx aa, H p = some (.ins CL dx (lf wa ta aa)) := by
  obtain ⟨dx, aa, kvs, foot, h1, _⟩ := h.ex
  exact ⟨dx, aa, h1⟩
/-! ### rides, day_sum, week_sum, paid -/
def spRides (CL CA : Addr) : L2.Sp := fun vs H Q _ => ∃ (T : FT.Tar) (Fx : Hp) (p wa ta : Addr) (book : Str → List FT.Ride) (O : Addr → Prop) (n : Nat) (c : Str), vs = [.ref p, .str c] ∧ Led CL CA T Fx H p wa ta book O n ∧
  ∀ (H' : Hp) (l : Addr) (as : List Addr), Same H H' → H l = none → H' l = some (.lst (as.map V.ref)) → All2 (RideAt H') as (book c) → Q (.ref l) H'
theorem ok_rides (D : Prg K mg C CP CZ CW CB CS CN CA CL CD) {f : Addr} {fd : FuncData} (F : Fun K "rides" "Ledger.rides" sRides f fd) : FnOk P w K mg base CX0 6 f fd ["self", "card"] (spRides CL CA) := by
  obtain ⟨fA, fdA, FA, bA, mA⟩ := D.account.ex
  have GA : FnOk P w K mg base CX0 5 fA fdA ["self", "card"] (spAccount CL CA) := ok_account D FA
  refine F.ok scRides (fun vs H Q E h => ?_) (fun cdv A outer s H vs Q E hr h => ?_)
  · obtain ⟨T, Fx, p, wa, ta, book, O, n, c, rfl, _⟩ := h
    rfl
  · obtain ⟨T, Fx, p, wa, ta, book, O, n, c, rfl, L, k⟩ := h
    obtain ⟨dx, aa, hp⟩ := L.at_p
    refine ⟨_, pss_one (ps_ret (pe_callTy call_list_of (by rfl) D.T.P.list (by decide +kernel) (pa_cons (pe_fld (pe_meth (pv 0) D.L.cl mA GA hr bA .nil pass0 (pa_cons (pv 1) pa_nil)) rfl) pa_nil))), ?_⟩
    refine ⟨_, rfl, p, dx, _, rfl, hp, lf_no (by decide +kernel), _, rfl, L.acc (E := E0) c fun H1 q FF s1 acc => ?_⟩
    obtain ⟨dxq, rl, wl, dl, sl, fs, as, cs, dk, wk, af, raw, _⟩ := acc.ex
    refine ⟨q, CA, dxq, _, _, rfl, raw.ob, D.A.cl, D.A.nR, af.rows, rl, _, rfl, .inl (SqL.of raw.hRl), fun l nl => ?_⟩
    have s2 := same_upd (o := .lst (as.map V.ref)) nl
    exact k _ l as (s1.trans s2) (s1.free nl) upd_same (raw.hRs.imp fun a b r => s2 _ _ r)
def spWeekSum (CL CA : Addr) : L2.Sp := fun vs H Q _ => ∃ (T : FT.Tar) (Fx : Hp) (p wa ta : Addr) (book : Str → List FT.Ride) (O : Addr → Prop) (n : Nat) (c : Str) (wk : Int), vs = [.ref p, .str c, .int wk] ∧ Led CL CA T Fx H p wa ta book O n ∧
  ∀ H' : Hp, Same H H' → Q (.int (FT.wsum wk (book c))) H'
theorem ok_weekSum (D : Prg K mg C CP CZ CW CB CS CN CA CL CD) {f : Addr} {fd : FuncData} (F : Fun K "week_sum" "Ledger.week_sum" sWeekSum f fd) : FnOk P w K mg base CX0 6 f fd ["self", "card", "week"] (spWeekSum CL CA) := by
  obtain ⟨fA, fdA, FA, bA, mA⟩ := D.account.ex
  have GA : FnOk P w K mg base CX0 5 fA fdA ["self", "card"] (spAccount CL CA) := ok_account D FA
  refine F.ok scWeekSum (fun vs H Q E h => ?_) (fun cdv A outer s H vs Q E hr h => ?_)
  · obtain ⟨T, Fx, p, wa, ta, book, O, n, c, d, rfl, _⟩ := h
    rfl
  · obtain ⟨T, Fx, p, wa, ta, book, O, n, c, d, rfl, L, k⟩ := h
    obtain ⟨dx, aa, hp⟩ := L.at_p
    have hu := hu_of hr
    refine ⟨_, pss_one (ps_ret (pe_dget2 hu (pe_fld (pe_meth (pv 0) D.L.cl mA GA hr bA .nil pass0 (pa_cons (pv 1) pa_nil)) rfl) (pv 2) pe_int ⟨rfl, rfl, rfl, rfl⟩)), ?_⟩
    refine ⟨_, rfl, p, dx, _, rfl, hp, lf_no (by decide +kernel), _, rfl, L.acc (E := E0) c fun H1 q FF s1 acc => ?_⟩
    obtain ⟨dxq, rl, wl, dl, sl, fs, as, cs, dk, wk, af, raw, l1, l2, hd, hw, _⟩ := acc.ex
    refine ⟨q, CA, dxq, _, _, rfl, raw.ob, D.A.cl, D.A.nW, af.weeks, sl, rfl, .inl ⟨_, .inl raw.hSl⟩, _, rfl, _, DGet.k (k := .inl d) raw.hSl, ?_⟩
    rw [hw d]
    exact k H1 s1
/-! ### tickets -/
def spTickets (C CL CA : Addr) : L2.Sp := fun vs H Q _ => ∃ (S D W : List Int) (Fx : Hp) (p wa ta : Addr) (book : Str → List FT.Ride) (O : Addr → Prop) (n : Nat) (c : Str) (wk : Int), vs = [.ref p, .str c, .int wk] ∧ Led CL CA ⟨S, D, W⟩ Fx H p wa ta book O n ∧ TarAt C Fx ta S D W ∧ n ≤ 900 ∧
  ∀ (H' : Hp) (tl : Addr) (tas : List Addr) (ts : List FT.Tk), Same H H' → H tl = none → H' tl = some (.lst (tas.map V.ref)) → All2 (TkAt ⟨S, D, W⟩ H') tas ts → ts.length ≤ 100000 → (∀ k, k ∈ ts → k.Ok ∧ TkIn (FT.wdays wk (book c)) k) → FT.AllServed ts (FT.wdays wk (book c)) →
    FT.cost ⟨S, D, W⟩ ts = FT.leastF ⟨S, D, W⟩ (FT.wdays wk (book c)) → ((∀ zs, zs ∈ FT.wdays wk (book c) → zs = []) → ts = []) → Q (.ref tl) H'
theorem wdays_lens {wk : Int} {rs : List FT.Ride} : ∀ zs, zs ∈ FT.wdays wk rs → zs.length ≤ rs.length := fun zs m => by
  unfold FT.wdays at m
  obtain ⟨j, _, rfl⟩ := List.mem_map.mp m
  exact FT.dz_len wk j rs
theorem ok_tickets (Dg : Prg K mg C CP CZ CW CB CS CN CA CL CD) {f : Addr} {fd : FuncData} (F : Fun K "tickets" "Ledger.tickets" sTickets f fd) : FnOk P w K mg base CX0 6 f fd ["self", "card", "week"] (spTickets C CL CA) := by
  obtain ⟨fA, fdA, FA, bA, mA⟩ := Dg.account.ex
  have GA : FnOk P w K mg base CX0 5 fA fdA ["self", "card"] (spAccount CL CA) := ok_account Dg FA
  obtain ⟨fW, fdW, FW, bW, mW⟩ := Dg.weekZones.ex
  have GW : FnOk P w K mg base CX0 1 fW fdW ["self", "week"] (spWeekZones CA) := ok_weekZones FW Dg.T Dg.A
  obtain ⟨fL, fdL, FL, bL, gL⟩ := Dg.least.ex
  obtain ⟨f1, d1, F1, b1, g1⟩ := Dg.checkZones.ex
  obtain ⟨f2, d2, F2, b2, g2⟩ := Dg.countRides.ex
  obtain ⟨f3, d3, F3, b3, g3⟩ := Dg.plan.ex
  obtain ⟨f4, d4, F4, b4, g4⟩ := Dg.planTickets.ex
  obtain ⟨f5, d5, F5, b5, g5⟩ := Dg.bySize.ex
  obtain ⟨f6, d6, F6, b6, g6⟩ := Dg.above.ex
  obtain ⟨f7, d7, F7, b7, g7⟩ := Dg.dayPlan.ex
  obtain ⟨f8, d8, F8, b8, g8⟩ := Dg.singleTickets.ex
  obtain ⟨f9, d9, F9, b9, g9⟩ := Dg.cheapest.ex
  have GL : FnOk P w K mg base (L2N.CX P w) 4 fL fdL ["tariff", "days"] (spCovers C CZ) := ok_leastOf FL Dg.T F1 b1 g1 F2 b2 g2 F3 b3 g3 F4 b4 g4 F5 b5 g5 F6 b6 g6 F7 b7 g7 F8 b8 g8 F9 b9 g9
  refine F.ok scTickets (fun vs H Q E h => ?_) (fun cdv A outer s H vs Q E hr h => ?_)
  · obtain ⟨S, D, W, Fx, p, wa, ta, book, O, n, c, wk, rfl, _⟩ := h
    rfl
  · obtain ⟨S, D, W, Fx, p, wa, ta, book, O, n, c, wk, rfl, L, TA, hn, k⟩ := h
    obtain ⟨dx, aa, hp⟩ := L.at_p
    have r4 := hr.mono (show 4 ≤ 5 by decide)
    have r1 := hr.mono (show 1 ≤ 5 by decide)
    refine ⟨_, pss_cons (ps_asg (pe_call GL r4 (by rfl) gL FL.kp bL .nil passN (pa_cons (pe_fld (pv 0) rfl) (pa_cons (pe_meth (pe_meth (pv 0) Dg.L.cl mA GA hr bA .nil pass0 (pa_cons (pv 1) pa_nil)) Dg.A.cl mW GW r1 bW .nil pass0 (pa_cons (pv 2) pa_nil)) pa_nil)))
        (pg_tup rfl (pgs_cons (pg_name (i := 3) scTickets.nd rfl (.inl rfl)) (pgs_cons (pg_name (i := 4) scTickets.nd rfl (.inl rfl)) pgs_nil))))
      (pss_one (ps_ret (pv 4))), ?_⟩
    refine ⟨_, rfl, p, CL, dx, _, _, rfl, hp, Dg.L.cl, Dg.L.nT, lf_t wa ta aa, ?_⟩
    refine ⟨_, rfl, p, dx, _, rfl, hp, lf_no (by decide +kernel), _, rfl, L.acc (E := E0) c fun H1 q FF s1 acc => ?_⟩
    obtain ⟨dxq, rl, wl, dl, sl, fs, as, cs, dk, wkk, af, raw, _⟩ := id acc.ex
    have bl := (L.bk c).2
    have b5 := (L.bk c).1.in5 wk
    refine ⟨q, dxq, _, rfl, raw.ob, af.no (by decide +kernel), _, rfl, q, wk, book c, FF, rfl, acc, by omega, fun H2 dl2 as2 s2 nd2 hd2 hA2 => ?_⟩
    have s12 := s1.trans s2
    have hA2' : All2 (RowAt H2) as2 ((FT.wdays wk (book c)).map fun zs => zs.map fun (z : Nat) => (z : Int)) := All2.of_get (by rw [hA2.len, List.length_map]) fun i a b e1 e2 => by
      rw [List.getElem?_map] at e2
      obtain ⟨zs, ez, rfl⟩ := Option.map_eq_some_iff.mp e2
      have := hA2.at e1 ez
      show H2 a = _
      rw [nats_ints]
      exact this
    refine ⟨ta, dl2, S, D, W, as2, _, rfl, (TA.same L.fx).same s12, hd2, hA2', by rw [List.length_map, FT.wdays_len]; decide, fun zs m => ?_, fun days ed h5 H3 p3 tl tas ts s3 np ntl hp3 htl hT hlen hk hs hc he => ?_, fun bad => ?_⟩
    · obtain ⟨ys, my, rfl⟩ := List.mem_map.mp m
      have := wdays_lens ys my
      rw [List.length_map]
      omega
    · have ed' : days = FT.wdays wk (book c) := by
        have inj : ∀ (xs ys : List (List Nat)), xs.map (fun zs => zs.map fun (z : Nat) => (z : Int)) = ys.map (fun zs => zs.map fun (z : Nat) => (z : Int)) → xs = ys := by
          intro xs ys e
          have e2 := congrArg (fun l => l.map fun zs => zs.map Int.toNat) e
          simp only [List.map_map] at e2
          have idf : ∀ l : List (List Nat), l.map ((fun zs => zs.map Int.toNat) ∘ fun zs => zs.map fun (z : Nat) => (z : Int)) = l := fun l => by
            refine (List.map_congr_left fun zs _ => ?_).trans (List.map_id l)
            show (zs.map _).map _ = zs
            rw [List.map_map]
            exact (List.map_congr_left fun z _ => Int.toNat_natCast z).trans (List.map_id zs)
          rw [idf, idf] at e2
          exact e2
        exact (inj _ _ ed).symm
      subst ed'
      refine ⟨p3, _, rfl, SqT.of hp3, rfl, _, _, rfl, _, _, rfl, rfl, _, rfl, ?_⟩
      exact k H3 tl tas ts (s12.trans s3) (s12.free ntl) htl hT hlen hk hs hc he
    · obtain ⟨zs, z, m, mz, no⟩ := bad
      obtain ⟨ys, my, rfl⟩ := List.mem_map.mp m
      obtain ⟨y, myy, rfl⟩ := List.mem_map.mp mz
      have := b5 ys my y myy
      exact absurd ⟨by omega, by omega⟩ no
end
end FW

namespace FW
open PySem PySem.Spec PyProof.Rows L2
def addTo (book : Str → List FT.Ride) (c : Str) (r : FT.Ride) : Str → List FT.Ride := fun c' => if c' = c then book c ++ [r] else book c'
theorem addTo_self (book : Str → List FT.Ride) (c : Str) (r : FT.Ride) : addTo book c r c = book c ++ [r] := if_pos rfl
theorem addTo_other {book : Str → List FT.Ride} {c c' : Str} (r : FT.Ride) (h : c' ≠ c) : addTo book c r c' = book c' := if_neg h
theorem min5 (k : Nat) : (if (5 : Int) < (k : Nat) then (5 : Int) else (k : Nat)) = ((min k 5 : Nat) : Int) := by
  by_cases c : 5 < k
  · rw [if_pos (by omega), Nat.min_eq_right (by omega)]
    rfl
  · rw [if_neg (by omega), Nat.min_eq_left (by omega)]
section
variable {P : Program} {w : World} {K : PySem.W.Frag} {mg : Str → Option Value} {base : Heap} {C CP CZ CW CB CS CN CA CL CD : Addr}
/-! ### Ledger.ride -/
def spRide (C CW CS CN CD CL CA : Addr) : L2.Sp := fun vs H Q E => ∃ (S D W : List Int) (Fx : Hp) (p wa ta : Addr) (book : Str → List FT.Ride) (O : Addr → Prop) (n : Nat) (c : Str) (day i j : Int) (zs : List Int) (lks : List Lk) (near : List (List Nat)), vs = [.ref p, .str c, .int day, .int i, .int j] ∧
  Led CL CA ⟨S, D, W⟩ Fx H p wa ta book O n ∧ WebAt CW Fx wa zs lks near ∧ TarAt C Fx ta S D W ∧ n ≤ 900 ∧
  (∀ s g : Nat, i = s → j = g → s < zs.length → g < zs.length → ∀ L : Lv, IsLevels near zs s L →
    (lk L g = none → ∀ H', Same H H' → E (.ref CN) none H') ∧
    ∀ k : Nat, lk L g = some k → (day < FT.lastDay (book c) → ∀ H', Same H H' → E (.ref CD) none H') ∧
      (FT.lastDay (book c) ≤ day → ∀ (H' : Hp) (O' : Addr → Prop), (∀ b o, H b = some o → ¬ O b → H' b = some o) → (∀ b, O' b → O b ∨ H b = none) →
        Led CL CA ⟨S, D, W⟩ Fx H' p wa ta (addTo book c ⟨day, i, j, min k 5, FT.charge ⟨S, D, W⟩ (book c) day (min k 5)⟩) O' (n + 1) → Q (.int (FT.charge ⟨S, D, W⟩ (book c) day (min k 5))) H')) ∧
  (¬ Both i j zs.length → ∀ H', Same H H' → E (.ref CS) none H')
theorem ok_ride (Dg : Prg K mg C CP CZ CW CB CS CN CA CL CD) {f : Addr} {fd : FuncData} (F : Fun K "ride" "Ledger.ride" sRide f fd) : FnOk P w K mg base (L2N.CX P w) 6 f fd ["self", "card", "day", "start", "goal"] (spRide C CW CS CN CD CL CA) := by
  obtain ⟨fA, fdA, FA, bA, mA⟩ := Dg.account.ex
  have GA : FnOk P w K mg base CX0 5 fA fdA ["self", "card"] (spAccount CL CA) := ok_account Dg FA
  obtain ⟨fC, fdC, FCh, bC, mC⟩ := Dg.charge.ex
  obtain ⟨f1, d1, F1, b1, g1⟩ := Dg.emptyCounts.ex
  obtain ⟨f2, d2, F2, b2, g2⟩ := Dg.countRides.ex
  obtain ⟨f3, d3, F3, b3, g3⟩ := Dg.leastCost.ex
  obtain ⟨f4, d4, F4, b4, g4⟩ := Dg.plan.ex
  obtain ⟨f5, d5, F5, b5, g5⟩ := Dg.bySize.ex
  obtain ⟨f6, d6, F6, b6, g6⟩ := Dg.above.ex
  obtain ⟨f7, d7, F7, b7, g7⟩ := Dg.dayPlan.ex
  obtain ⟨f9, d9, F9, b9, g9⟩ := Dg.cheapest.ex
  have GC : FnOk P w K mg base CX0 5 fC fdC ["self", "tariff", "day", "start", "goal", "zones"] (spCharge C CA) := ok_charge FCh Dg.T Dg.A F1 b1 g1 F2 b2 g2 F3 b3 g3 F4 b4 g4 F5 b5 g5 F6 b6 g6 F7 b7 g7 F9 b9 g9
  obtain ⟨fF, fdF, FF', bF, mF⟩ := Dg.fewest.ex
  obtain ⟨w1, e1, W1, c1, k1⟩ := Dg.isStop.ex
  obtain ⟨w2, e2, W2, c2, m2⟩ := Dg.checkStop.ex
  obtain ⟨w3, e3, W3, c3, m3⟩ := Dg.search.ex
  obtain ⟨w4, e4, W4, c4, m4⟩ := Dg.fill.ex
  obtain ⟨w5, e5, W5, c5, m5⟩ := Dg.searchGoal.ex
  have GF : FnOk P w K mg base (L2N.CX P w) 4 fF fdF ["self", "start", "goal"] (spFewest CW CS CN) := ok_fewest FF' Dg.W W1 c1 k1 W2 c2 m2 W3 c3 m3 W4 c4 m4 W5 c5 m5
  obtain ⟨mt, mz⟩ := Dg.T.P.mz
  refine okN F scRide (fun vs H Q E h => ?_) (fun cdv A outer s0 H vs Q E hr h => ?_)
  · obtain ⟨S, D, W, Fx, p, wa, ta, book, O, n, c, day, i, j, zs, lks, near, rfl, _⟩ := h
    rfl
  · obtain ⟨S, D, W, Fx, p, wa, ta, book, O, n, c, day, i, j, zs, lks, near, rfl, L, WA, TA, hn, q1, q2⟩ := h
    obtain ⟨dx, aa, kvs, foot, hp, haa, op, oa, hl, hc, hf, hd⟩ := id L.ex
    have r4 := hr.mono (show 4 ≤ 5 by decide)
    have hu := hu_of hr
    have hpa : p ≠ aa := ne_of hp haa (by intro z; cases z)
    have WH := WA.same L.fx
    obtain ⟨⟨dxw, zl, ll, nl, hw1, _⟩, _⟩ := id WH
    refine ⟨_, pss_cons (ps_set (i := 5) scRide.nd rfl (.inl rfl) (pe_callB (call_min2 rfl) (by rfl) Dg.T.P.min (by decide +kernel) (pa_cons
        (pe_meth (pe_fld (pv 0) rfl) Dg.W.cl mF GF r4 bF .nil (L2N.passes_call (W := fun cls d _ H => E cls d H) (L2N.takes_of rfl rfl rfl rfl) (fun _ _ _ _ h => h)) (pa_cons (pv 3) (pa_cons (pv 4) pa_nil)))
        (pa_cons (pe_glob (v := .int 5) rfl mz ⟨mt, rfl⟩) pa_nil))))
      (C8.pss_cut (ps_set (i := 6) scRide.nd rfl (.inl rfl) (pe_meth (pv 0) Dg.L.cl mA GA hr bA .nil pass0 (pa_cons (pv 1) pa_nil)))
      (pss_cons (ps_if (pt_cmpR op_lt (pv 2) (pe_fld (pv 6) rfl) (nomark _)) (pss_one (L2N.ps_raise rfl (L2N.takes_of rfl rfl rfl rfl) (pmk_msg Dg.L.eD rfl))) pss_nil)
      (pss_cons (ps_dput hu (pe_fld (pv 0) rfl) (pv 1) (pv 6) rfl)
      (pss_one (ps_ret (pe_meth (pv 6) Dg.A.cl mC GC hr bC .nil pass0 (pa_cons (pe_fld (pv 0) rfl) (pa_cons (pv 2) (pa_cons (pv 3) (pa_cons (pv 4) (pa_cons (pv 5) pa_nil))))))))))), ?_⟩
    -- zones = min(self._web.fewest(start, goal), MOST_ZONES)
    refine ⟨_, rfl, p, CL, dx, _, _, rfl, hp, Dg.L.cl, Dg.L.nW, lf_w wa ta aa, wa, dxw, _, rfl, hw1, wf_no zl ll nl (by decide +kernel) (by decide +kernel) (by decide +kernel), _, rfl, _, rfl, wa, i, j, zs, lks, near, rfl, WH, fun s g es eg hs hg Lv H1 IL s1 => ⟨fun e => (q1 s g es eg hs hg Lv IL).1 e H1 s1, fun k ek => ?_⟩, fun no => q2 no H fun _ _ e => e⟩
    obtain ⟨q3, q4⟩ := (q1 s g es eg hs hg Lv IL).2 k ek
    have k1 := (IL.sound g k ek).2
    refine ⟨_, _, rfl, ?_⟩
    rw [min5]
    -- account = self._account(card)
    refine ⟨fun σ H2 => ∃ (q : Addr) (F : List Addr), σ = [some (.ref p), some (.str c), some (.int day), some (.int i), some (.int j), some (.int ((min k 5 : Nat) : Int)), some (.ref q)] ∧ Same H H2 ∧ Acc CA H2 q (book c) F ∧
        ((valV kvs (.inr c) = some (.ref q) ∧ F = foot c) ∨ (valV kvs (.inr c) = none ∧ foot c = [] ∧ ∀ b, b ∈ F → H b = none)), ?_, ?_⟩
    · refine ⟨_, rfl, p, dx, _, rfl, s1 _ _ hp, lf_no (by decide +kernel), _, rfl, p, dx, wa, ta, aa, c, kvs, rfl, s1 _ _ hp, s1 _ _ haa, fun v e H' s' => ?_, fun e H' q F s' acc hF => ?_⟩
      · rcases hc c with ⟨z, _, _⟩ | ⟨q, z, a⟩
        · rw [z] at e
          cases e
        · rw [z] at e
          cases e
          exact ⟨q, foot c, rfl, s1.trans s', a.same (s1.trans s'), .inl ⟨z, rfl⟩⟩
      · rcases hc c with ⟨z, eb, ef⟩ | ⟨q', z, a⟩
        · refine ⟨q, F, rfl, s1.trans s', by rw [eb]; exact acc, .inr ⟨z, ef, fun b m => s1.free (hF b m)⟩⟩
        · rw [z] at e
          cases e
    rintro σ H2 ⟨q, FF, rfl, s2, acc, hcase⟩
    obtain ⟨dxq, rl, wl, dl, sl, fs, as, cs, dk, wkk, af, raw, _⟩ := id acc.ex
    -- what the account owns is the ledger's, or new
    have hFO : ∀ b, b ∈ FF → O b ∨ H b = none := fun b m => by
      rcases hcase with ⟨_, rfl⟩ | ⟨_, _, hN⟩
      · exact .inl (hf c b m).1
      · exact .inr (hN b m)
    have npF : p ∉ FF := fun m => by
      rcases hcase with ⟨_, rfl⟩ | ⟨_, _, hN⟩
      · exact (hf c p m).2.1 rfl
      · have := hN p m
        rw [hp] at this
        cases this
    have naF : aa ∉ FF := fun m => by
      rcases hcase with ⟨_, rfl⟩ | ⟨_, _, hN⟩
      · exact (hf c aa m).2.2 rfl
      · have := hN aa m
        rw [haa] at this
        cases this
    -- if day < account.last_day
    refine ⟨_, rfl, _, rfl, q, CA, dxq, _, _, rfl, raw.ob, Dg.A.cl, Dg.A.nL, af.last, _, _, rfl, rfl, _, rfl, ?_⟩
    refine ite2 (fun e => ?_) (fun e => ?_)
    · exact q3 (of_decide_eq_true e) H2 s2
    · have hday : FT.lastDay (book c) ≤ day := by
        have : ¬ day < FT.lastDay (book c) := fun z => e (decide_eq_true z)
        omega
      have hp2 := s2 _ _ hp
      have haa2 := s2 _ _ haa
      -- self._accounts[card] = account
      refine ⟨_, rfl, _, rfl, p, CL, dx, _, _, rfl, hp2, Dg.L.cl, Dg.L.nA, lf_a wa ta aa, _, rfl, aa, _, rfl, DPut.k (k := .inr c) haa2 (small_line (by omega)), ?_⟩
      obtain ⟨H3, e3⟩ : ∃ H3, H3 = upd H2 aa (.dK (putK kvs (.inr c) (.ref q))) := ⟨_, rfl⟩
      have k3 : ∀ b o, H2 b = some o → b ≠ aa → H3 b = some o := fun b o e n => by rw [e3, upd_ne n]; exact e
      have haa3 : H3 aa = some (.dK (putK kvs (.inr c) (.ref q))) := by rw [e3, upd_same]
      rw [← e3]
      have n3 : ∀ b, H3 b = none → H b = none := fun b e => s2.free (by
        cases z : H2 b with
        | none => rfl
        | some o =>
          by_cases c : b = aa
          · rw [c, haa3] at e
            cases e
          · rw [k3 b o z c] at e
            cases e)
      clear e3
      have hp3 := k3 _ _ hp2 hpa
      have acc3 : Acc CA H3 q (book c) FF := acc.keep fun b o e m => k3 b o e fun z => by
        subst z
        rcases m with m | ⟨xs, rfl⟩
        · exact naF m
        · rw [haa2] at e
          cases e
      have hq3 : H3 q = some (.ins CA dxq fs) := k3 _ _ raw.ob fun z => naF (z ▸ acc.mem)
      have sfx3 : Same Fx H3 := fun b o e => k3 b o (s2 _ _ (L.fx b o e)) fun z => by
        rw [z, L.nfx aa oa] at e
        cases e
      have nfx3 : ∀ b, b ∈ FF → Fx b = none := fun b m => by
        rcases hFO b m with z | z
        · exact L.nfx b z
        · exact L.fx.free z
      have hz1 : 1 ≤ min k 5 := by omega
      have hz5 : min k 5 ≤ 5 := by omega
      -- return account.charge_ride(..)
      refine ⟨_, rfl, q, dxq, _, rfl, hq3, af.no (by decide +kernel), _, rfl, p, CL, dx, _, _, rfl, hp3, Dg.L.cl, Dg.L.nT, lf_t wa ta aa, _, rfl, _, rfl, _, rfl, _, rfl, q, ta, day, i, j, min k 5, S, D, W, book c, FF, Fx, rfl, acc3, TA, sfx3, nfx3, (L.bk c).1, hday, hz1, hz5, by have := (L.bk c).2; omega, fun H4 F4 fr acc4 hF4 => ?_⟩
      have frame : ∀ b o, H b = some o → ¬ O b → H4 b = some o := fun b o e no => fr b o (k3 b o (s2 b o e) fun z => no (z ▸ oa)) fun m => by
        rcases hFO b m with z | z
        · exact no z
        · rw [z] at e
          cases e
      have hF4' : ∀ b, b ∈ F4 → (b ∈ FF ∨ H b = none) := fun b m => (hF4 b m).imp id (n3 b)
      have hF4O : ∀ b, b ∈ F4 → O b ∨ H b = none := fun b m => by
        rcases hF4' b m with z | z
        · exact hFO b z
        · exact .inr z
      refine q4 hday H4 (fun b => (O b ∧ b ∉ FF) ∨ b ∈ F4) frame (fun b ob => ?_) ?_
      · rcases ob with ⟨ob, _⟩ | m
        · exact .inl ob
        · exact hF4O b m
      · have npF4 : p ∉ F4 := fun m => by
          rcases hF4' p m with z | z
          · exact npF z
          · rw [hp] at z
            cases z
        have naF4 : aa ∉ F4 := fun m => by
          rcases hF4' aa m with z | z
          · exact naF z
          · rw [haa] at z
            cases z
        -- another card's objects are apart
        have apart : ∀ c' b, c' ≠ c → b ∈ foot c' → b ∉ FF := fun c' b nc m mF => by
          rcases hcase with ⟨_, rfl⟩ | ⟨_, _, hN⟩
          · exact hd c' c b nc m mF
          · obtain ⟨o, e, _⟩ := L.own b (hf c' b m).1
            rw [hN b mF] at e
            cases e
        have apart4 : ∀ c' b, c' ≠ c → b ∈ foot c' → b ∉ F4 := fun c' b nc m mF => by
          rcases hF4' b mF with z | z
          · exact apart c' b nc m z
          · obtain ⟨o, e, _⟩ := L.own b (hf c' b m).1
            rw [z] at e
            cases e
        have hp4 := fr _ _ hp3 npF
        have haa4 := fr _ _ haa3 naF
        obtain ⟨foot', ef1, ef2⟩ : ∃ foot' : Str → List Addr, foot' c = F4 ∧ ∀ c', c' ≠ c → foot' c' = foot c' := ⟨fun c' => if c' = c then F4 else foot c', if_pos rfl, fun c' h => if_neg h⟩
        refine ⟨⟨dx, aa, putK kvs (.inr c) (.ref q), foot', hp4, haa4, .inl ⟨op, npF⟩, .inl ⟨oa, naF⟩, by have := length_putK kvs (.inr c) (V.ref q); omega, fun c' => ?_, fun c' b m => ?_, fun c' c'' b nc m m2 => ?_⟩, fun c' => ?_, fun b ob => ?_, fun b o e => ?_, fun b ob => ?_⟩
        · by_cases ec : c' = c
          · subst ec
            refine .inr ⟨q, by rw [valV_put, if_pos rfl], ?_⟩
            rw [addTo_self, ef1]
            exact acc4
          · rw [addTo_other _ ec, ef2 _ ec, valV_put, if_neg fun z => ec (Sum.inr.inj z)]
            rcases hc c' with z | ⟨q', z, a⟩
            · exact .inl z
            · refine .inr ⟨q', z, a.keep fun b o e m => ?_⟩
              have nb : b ∉ FF ∧ b ≠ aa := by
                rcases m with m | ⟨xs, rfl⟩
                · exact ⟨apart c' b ec m, (hf c' b m).2.2⟩
                · refine ⟨fun mF => ?_, fun z => by rw [z, haa] at e; cases e⟩
                  obtain ⟨o, e', no⟩ := acc.own mF
                  rw [s2 _ _ e] at e'
                  exact no xs (Option.some.inj e').symm
              exact fr b o (k3 b o (s2 b o e) nb.2) nb.1
        · by_cases ec : c' = c
          · rw [ec, ef1] at m
            exact ⟨.inr m, fun z => npF4 (z ▸ m), fun z => naF4 (z ▸ m)⟩
          · rw [ef2 _ ec] at m
            obtain ⟨x1, x2, x3⟩ := hf c' b m
            exact ⟨.inl ⟨x1, apart c' b ec m⟩, x2, x3⟩
        · by_cases e1 : c' = c
          · rw [e1, ef1] at m
            have e2 : c'' ≠ c := fun z => nc (e1.trans z.symm)
            rw [ef2 _ e2] at m2
            exact apart4 c'' b e2 m2 m
          · rw [ef2 _ e1] at m
            by_cases e2 : c'' = c
            · rw [e2, ef1] at m2
              exact apart4 c' b e1 m m2
            · rw [ef2 _ e2] at m2
              exact hd c' c'' b nc m m2
        · by_cases ec : c' = c
          · subst ec
            rw [addTo_self]
            refine ⟨(L.bk c').1.snoc i j hday ⟨hz1, hz5⟩, ?_⟩
            have := (L.bk c').2
            rw [List.length_append]
            show _ + 1 ≤ _
            omega
          · rw [addTo_other _ ec]
            exact ⟨(L.bk c').1, Nat.le_succ_of_le (L.bk c').2⟩
        · rcases ob with ⟨ob, nb⟩ | m
          · by_cases z : b = aa
            · rw [z]
              exact ⟨_, haa4, fun xs z => by cases z⟩
            · obtain ⟨o, e, no⟩ := L.own b ob
              exact ⟨o, fr b o (k3 b o (s2 b o e) z) nb, no⟩
          · exact acc4.own m
        · exact frame b o (L.fx b o e) fun ob => by
            rw [L.nfx b ob] at e
            cases e
        · rcases ob with ⟨ob, _⟩ | m
          · exact L.nfx b ob
          · rcases hF4O b m with z | z
            · exact L.nfx b z
            · exact L.fx.free z
end
end FW

namespace FW
open PySem PySem.Spec PyProof.Rows L2
/-! ### what the laws of ledgers have in common -/
def lksUp (n : Nat) : List Lk := (List.range (n - 1)).map fun (k : Nat) => ((k : Int), (k : Int) + 1)
def lksDown (n : Nat) : List Lk := (List.range (n - 1)).map fun (k : Nat) => ((k : Int) + 1, (k : Int))
theorem mem_up {n a b : Nat} : ((a : Int), (b : Int)) ∈ lksUp n ↔ (b = a + 1 ∧ b < n) := by
  unfold lksUp
  rw [List.mem_map]
  constructor
  · rintro ⟨k, hk, e⟩
    have := List.mem_range.mp hk
    have e1 := congrArg Prod.fst e
    have e2 := congrArg Prod.snd e
    simp only at e1 e2
    omega
  · rintro ⟨rfl, h⟩
    exact ⟨a, List.mem_range.mpr (by omega), by simp⟩
theorem mem_down {n a b : Nat} : ((a : Int), (b : Int)) ∈ lksDown n ↔ (a = b + 1 ∧ a < n) := by
  unfold lksDown
  rw [List.mem_map]
  constructor
  · rintro ⟨k, hk, e⟩
    have := List.mem_range.mp hk
    have e1 := congrArg Prod.fst e
    have e2 := congrArg Prod.snd e
    simp only at e1 e2
    omega
  · rintro ⟨rfl, h⟩
    exact ⟨b, List.mem_range.mpr (by omega), by simp⟩
theorem up_net {n : Nat} {near : List (List Nat)} {zs : List Int} (hn : n ≤ zs.length) (NO : NearOk zs.length (lksUp n) near) (un : ∀ u, u + 1 < n → zs[u]? ≠ zs[u + 1]?) : RowNet n near zs :=
  rowNet_of hn NO (fun a b => by rw [mem_up, mem_up]; omega) un
theorem down_net {n : Nat} {near : List (List Nat)} {zs : List Int} (hn : n ≤ zs.length) (NO : NearOk zs.length (lksDown n) near) (un : ∀ u, u + 1 < n → zs[u]? ≠ zs[u + 1]?) : RowNet n near zs :=
  rowNet_of hn NO (fun a b => by rw [mem_down, mem_down]; omega) un
theorem up_ok {n N : Nat} (h : n ≤ N) : ∀ q, q ∈ lksUp n → LinkOk N q := fun q m => by
  unfold lksUp at m
  obtain ⟨k, hk, rfl⟩ := List.mem_map.mp m
  have := List.mem_range.mp hk
  refine ⟨⟨?_, ?_⟩, ⟨?_, ?_⟩, ?_⟩ <;> show _ <;> simp only <;> omega
theorem down_ok {n N : Nat} (h : n ≤ N) : ∀ q, q ∈ lksDown n → LinkOk N q := fun q m => by
  unfold lksDown at m
  obtain ⟨k, hk, rfl⟩ := List.mem_map.mp m
  have := List.mem_range.mp hk
  refine ⟨⟨?_, ?_⟩, ⟨?_, ?_⟩, ?_⟩ <;> show _ <;> simp only <;> omega
/-- zones one step apart -/
theorem un_of {a b : Int} (hb : b ≠ 0) {n N : Nat} (h : n ≤ N) : ∀ u, u + 1 < n → ((List.range N).map fun (k : Nat) => a + b * (k : Nat))[u]? ≠ ((List.range N).map fun (k : Nat) => a + b * (k : Nat))[u + 1]? := fun u hu e => by
  rw [List.getElem?_map, List.getElem?_map, List.getElem?_range (by omega), List.getElem?_range (by omega)] at e
  have e2 : a + b * (u : Nat) = a + b * ((u + 1 : Nat) : Int) := Option.some.inj e
  have e3 : b * ((u + 1 : Nat) : Int) = b * (u : Nat) + b := by
    rw [Int.natCast_add, Int.mul_add]
    show _ + b * 1 = _
    rw [Int.mul_one]
  omega
section
variable {P : Program} {w : World} {K : PySem.W.Frag} {mg : Str → Option Value} {base : Heap} {C CP CZ CW CB CS CN CA CL CD : Addr}
theorem put_same {H : Hp} {x dx : Addr} {o : HO} (nx : H x = none) (ndx : H dx = none) (nex : dx ≠ x) : Same H (upd (upd H dx (.own x)) x o) := (same_upd ndx).trans (same_upd (by rw [upd_ne nex.symm]; exact nx))
theorem kept_same {H H5 H' : Hp} {x : Addr} (s : Same H H5) (nx : H x = none) (k : Kept H5 H' x) : Same H H' := fun b o e => k b o (s b o e) (ne_of_none e nx)
theorem mk_web {H : Hp} {za la x dx : Addr} {zs : List Int} {lks : List Lk} {Q : VK} {E : XK} (nx : H x = none) (ndx : H dx = none) (nex : dx ≠ x) (hz : H za = some (.lst (zs.map V.int))) (hl : LinksAt H la lks) (hb : 2 * lks.length + zs.length ≤ 100000)
    (ok : ∀ q, q ∈ lks → LinkOk zs.length q) (k : ∀ near H', Same H H' → WebAt CW H' x zs lks near → Q .non H') : spInit K CW CB [.ref x, .ref za, .ref la] (upd (upd H dx (.own x)) x (.ins CW dx [])) Q E := by
  have s5 := put_same (o := .ins CW dx []) nx ndx nex
  refine ⟨x, dx, za, la, zs, lks, rfl, upd_same, SqL.of (s5 _ _ hz), fun H' kk => SqL.of (kept_same s5 nx kk _ _ hz), hl.same s5, hb, fun _ near H' kk WA _ => k near H' (kept_same s5 nx kk) WA, fun bad => ?_⟩
  obtain ⟨q, m, no⟩ := bad
  exact absurd (ok q m) no
theorem mk_tariff {H : Hp} {sa da wa x dx : Addr} {S D W : List Int} {Q : VK} {E : XK} (nx : H x = none) (ndx : H dx = none) (nex : dx ≠ x) (h1 : RowAt H sa S) (h2 : RowAt H da D) (h3 : RowAt H wa W) (ok : Five S ∧ Five D ∧ Five W)
    (k : ∀ H', Same H H' → TarAt C H' x S D W → (∀ H'' : Hp, (∀ b o, H' b = some o → H b = none → H'' b = some o) → TarAt C H'' x S D W) → Q .non H') : spTInit K C CP [.ref x, .ref sa, .ref da, .ref wa] (upd (upd H dx (.own x)) x (.ins C dx [])) Q E := by
  have s5 := put_same (o := .ins C dx []) nx ndx nex
  refine ⟨x, dx, sa, da, wa, S, D, W, rfl, upd_same, fun H' kk => ⟨SqL.of (kept_same s5 nx kk _ _ h1), SqL.of (kept_same s5 nx kk _ _ h2), SqL.of (kept_same s5 nx kk _ _ h3)⟩, by rw [ok.1.1]; decide, by rw [ok.2.1.1]; decide, by rw [ok.2.2.1]; decide, fun _ H' kk TA TS => k H' (kept_same s5 nx kk) TA fun H'' h => TS H'' fun b o e c => h b o e ?_, fun no => absurd ok no⟩
  rcases c with c | rfl
  · exact s5.free c
  · exact nx
theorem mk_ledger {H Fx : Hp} {wa ta x dx : Addr} {T : FT.Tar} {Q : VK} {E : XK} (nx : H x = none) (ndx : H dx = none) (nex : dx ≠ x) (ok : T.Ok) (fx : Same Fx H)
    (k : ∀ (H' : Hp) (aa : Addr), Same H H' → H aa = none → Led CL CA T Fx H' x wa ta (fun _ => []) (fun b => b = x ∨ b = aa) 0 → Q .non H') : spLInit CL [.ref x, .ref wa, .ref ta] (upd (upd H dx (.own x)) x (.ins CL dx [])) Q E := by
  have s5 := put_same (o := .ins CL dx []) nx ndx nex
  refine ⟨x, dx, wa, ta, rfl, upd_same, fun H' aa kk hx haa naa nax => ?_⟩
  have s := kept_same s5 nx kk
  have na := s5.free naa
  exact k H' aa s na (Led.new ok hx haa nax (fx.trans s) (fx.free nx) (fx.free na))
/-- a ride between two stops of a row -/
theorem ride_row {S D W : List Int} {Fx H : Hp} {p wa ta : Addr} {book : Str → List FT.Ride} {O : Addr → Prop} {n m : Nat} {c : Str} {day : Int} {s g : Nat} {zs : List Int} {lks : List Lk} {near : List (List Nat)} {Q : VK} {E : XK}
    (L : Led CL CA ⟨S, D, W⟩ Fx H p wa ta book O n) (WA : WebAt CW Fx wa zs lks near) (TA : TarAt C Fx ta S D W) (hn : n ≤ 900) (RN : RowNet m near zs) (hs : s < m) (hg : g < m) (hday : FT.lastDay (book c) ≤ day)
    (k : ∀ (H' : Hp) (O' : Addr → Prop), (∀ b o, H b = some o → ¬ O b → H' b = some o) → (∀ b, O' b → O b ∨ H b = none) →
      Led CL CA ⟨S, D, W⟩ Fx H' p wa ta (addTo book c ⟨day, s, g, min (1 + dist s g) 5, FT.charge ⟨S, D, W⟩ (book c) day (min (1 + dist s g) 5)⟩) O' (n + 1) → Q (.int (FT.charge ⟨S, D, W⟩ (book c) day (min (1 + dist s g) 5))) H') :
    spRide C CW CS CN CD CL CA [.ref p, .str c, .int day, .int s, .int g] H Q E := by
  have hs' := Nat.lt_of_lt_of_le hs RN.le
  have hg' := Nat.lt_of_lt_of_le hg RN.le
  refine ⟨S, D, W, Fx, p, wa, ta, book, O, n, c, day, s, g, zs, lks, near, rfl, L, WA, TA, hn, fun s' g' es eg hs2 hg2 Lv IL => ?_, fun no => absurd ⟨⟨by omega, by omega⟩, by omega, by omega⟩ no⟩
  have e1 : s' = s := by omega
  have e2 : g' = g := by omega
  subst e1 e2
  have el := row_level RN hs hg IL
  refine ⟨fun e => ?_, fun k' ek => ⟨fun lt => ?_, fun _ H' O' fr nw L' => ?_⟩⟩
  · rw [el] at e
    cases e
  · omega
  · rw [el] at ek
    cases ek
    exact k H' O' fr nw L'
/-- a list of the law's own stays through a ride -/
theorem stay {H H' : Hp} {O : Addr → Prop} (fr : ∀ b o, H b = some o → ¬ O b → H' b = some o) {b : Addr} {o : HO} (e : H b = some o) (n : ¬ O b) : H' b = some o := fr b o e n
theorem not_own {H : Hp} {O O' : Addr → Prop} (nw : ∀ b, O' b → O b ∨ H b = none) {b : Addr} {o : HO} (e : H b = some o) (n : ¬ O b) : ¬ O' b := fun z => by
  rcases nw b z with z | z
  · exact n z
  · rw [e] at z
    cases z
/-- the law puts something into a list of its own -/
theorem Led.put {T : FT.Tar} {Fx H : Hp} {p wa ta l : Addr} {book : Str → List FT.Ride} {O : Addr → Prop} {n : Nat} {o : HO} (h : Led CL CA T Fx H p wa ta book O n) (no : ¬ O l) (nf : Fx l = none) (nt : ∀ xs, H l ≠ some (.tup xs)) : Led CL CA T Fx (upd H l o) p wa ta book O n := by
  refine h.keep (fun b u e m => ?_) fun b u e => ?_
  · have nb : b ≠ l := fun z => by
      subst z
      rcases m with m | ⟨xs, rfl⟩
      · exact no m
      · exact nt xs e
    rw [upd_ne nb]
    exact e
  · have nb : b ≠ l := fun z => by
      subst z
      rw [nf] at e
      cases e
    rw [upd_ne nb]
    exact h.fx b u e
theorem Led.free {T : FT.Tar} {Fx H : Hp} {p wa ta : Addr} {book : Str → List FT.Ride} {O : Addr → Prop} {n : Nat} (h : Led CL CA T Fx H p wa ta book O n) {b : Addr} (e : H b = none) : ¬ O b := fun z => by
  obtain ⟨o, e2, _⟩ := h.own b z
  rw [e] at e2
  cases e2
theorem abs_dist (s g : Nat) : (if ((s : Int) - g) < 0 then -((s : Int) - g) else (s : Int) - g) = (dist s g : Nat) := by
  unfold dist
  split <;> split <;> omega
theorem zones_cast (s g : Nat) : (if (1 + ((dist s g : Nat) : Int)) < 5 then 1 + ((dist s g : Nat) : Int) else 5) = ((min (1 + dist s g) 5 : Nat) : Int) := by
  by_cases c : 1 + dist s g < 5
  · rw [if_pos (by omega), Nat.min_eq_left (by omega)]
    omega
  · rw [if_neg (by omega), Nat.min_eq_right (by omega)]
    rfl
def spWhole : L2.Sp := fun vs H Q _ => ∃ i : Int, vs = [.int i] ∧ Q (.bl true) H
theorem nsZ : ∀ n : Nat, ((List.range n).map fun (k : Nat) => V.int (k : Nat)).length = n := fun n => by rw [List.length_map, List.length_range]
end
end FW

namespace FW
open PySem PySem.Spec PyProof.Rows L2
abbrev sWhole : Stmt := top 38
theorem scWhole : FnScope ["_law_found"] ["_law_found"] (defScope sWhole) := ⟨rfl, rfl, rfl, by decide +kernel, rfl, by decide +kernel, by decide +kernel⟩
section
variable {P : Program} {w : World} {K : PySem.W.Frag} {mg : Str → Option Value} {base : Heap}
theorem ok_whole {f : Addr} {fd : FuncData} (F : Fun K "_law_whole" "_law_whole" sWhole f fd) (isi : mg "isinstance" = none) (int : mg "int" = none) (bool : mg "bool" = none) : FnOk P w K mg base CX0 1 f fd ["_law_found"] spWhole := by
  refine F.ok scWhole (fun vs H Q E h => ?_) (fun cdv A outer s H vs Q E hr h => ?_)
  · obtain ⟨i, rfl, _⟩ := h
    rfl
  · obtain ⟨i, rfl, q⟩ := h
    refine ⟨_, pss_one (ps_ret (pe_and (pe_callB call_isi (by rfl) isi boot_isinstance (pa_cons (pv 0) (pa_cons (pe_bltn (v := .ty "int") (by rfl) int boot_int rfl) pa_nil)))
      (pe_one (pe_not (pe_callB call_isi (by rfl) isi boot_isinstance (pa_cons (pv 0) (pa_cons (pe_bltn (v := .ty "bool") (by rfl) bool (by decide +kernel) rfl) pa_nil))))))), ?_⟩
    refine ⟨_, rfl, .int i, .ty "int", .type "int", .type "int", true, rfl, .ty _, .base (.int i), kit_ty (by decide +kernel), true, rfl, ?_⟩
    refine iteT ?_
    exact ⟨_, rfl, .int i, .ty "bool", .type "int", .type "bool", false, rfl, .ty _, .base (.int i), kit_ty (by decide +kernel), false, rfl, q⟩
end
end FW

namespace FW
open PySem PySem.Spec PyProof.Rows L2
/-! ### refusals that are taken -/
/-- the program's own class CF takes refusals of the class C -/
structure CatchF (K : PySem.W.Frag) (CF C : Addr) : Prop where
  b : PySem.W.subIn K (.ref CF) (.type "BaseException") = some true
  hd : PySem.W.hasDictIn K CF = true
  t : PySem.W.typeIn K (.ref CF) = some (.type "type")
  sub : PySem.W.subIn K (.ref C) (.ref CF) = some true
section
variable {P : Program} {w : World} {K : PySem.W.Frag} {mg : Str → Option Value} {base : Heap} {C CF : Addr}
theorem takes0N {X : Cx} : L2N.Takes X (fun _ _ _ _ => False) := by
  rintro _ _ ⟨_, _, _, _, _, _, _, _, _, _, _, _, _, _, _, _, z⟩
  exact z.elim
theorem passTry {X : Cx} {W : WX} (n : Nat) (tk : L2N.Takes X W) (hn : X.N.length = n := by rfl) : Passes (L2N.CX X.prog X.w) X (fun cls d H => ∀ σ : L2.St, σ.length = n → W cls d σ H) :=
  fun _ σ _ _ e s' I c => tk e s' (L2N.XE.of_call I (fun _ _ _ h => h σ (I.len.trans hn)) c)
theorem caughtF (c : CatchF K CF C) : PySem.W.exmOne K (.ref C) (.ref CF) = some true := PySem.W.exm_ref c.b c.hd c.t c.sub
theorem roomH {k j : Nat} {A : Around} (r : Room k A) (h : j ≤ k) : L2H.RoomH j A := L2H.roomH_of (r.mono h)
theorem made_new {C x dx : Addr} {H : Hp} (nx : H x = none) (ndx : H dx = none) (nex : dx ≠ x) : ∃ H1, H1 = upd (upd H dx (.own x)) x (.ins C dx []) ∧ Same H H1 ∧ H1 x = some (.ins C dx []) := by
  refine ⟨_, rfl, (same_upd ndx).trans (same_upd ?_), upd_same⟩
  rw [upd_ne nex.symm]
  exact nx
end
end FW

namespace FW
open PySem PySem.Spec PyProof.Rows L2
/-! ### sorted(set(xs)), xs a list of whole numbers -/
section
variable {P : Program} {w : World} {A : Around} {E : Value → Shared → Prop} {s : Shared}
/-- what a fresh set is -/
abbrev freshSet (w : World) : Obj := { cls := .type "set", dict := none, data := .set #[] 0 (.fresh 0 0 (!w.params.followText "set-order")) }
set_option maxRecDepth 100000 in
set_option maxHeartbeats 3200000 in
theorem set_of_list {l : Addr} {items : Array Value} (ns : List Int) {Q : Value → Shared → Prop} (hh : A.handled = none) (hl : s.heap.IsList l items) (hit : IntsAre items.toList ns) (hb : ns.length + 1 < scanBound)
    (fin : ∀ (h' : Heap) (tk c : Nat), SetR w h' s.heap.objs.size (fun j => decide (j ∈ ns)) c → c ≤ ns.length → (∀ b o, s.heap.get? b = some o → h'.get? b = some o) → Q (.ref s.heap.objs.size) { s with heap := h', toks := tk }) :
    wpAny (model P w) A (call (.type "set") [.ref l]) Q E s := by
  have size_is : items.size = ns.length := by simpa using IntsAre.length hit
  obtain ⟨c, tl, hmro⟩ := F.called_set.mro
  have made := F.called_set.made
  have sub := F.called_set.sub
  refine wpAny_call (codeAny_of_tree ?_)
  show wpAny _ _ (callAny (.type "set") _) _ _ _
  refine wpAny_pure ⟨Code.quiet_builtin _ (by decide +kernel), codeAny_builtin F.entry_type_call ?_⟩
  rw [Around.under_plain (weight_type_call_type "set" [.ref l] []) rfl]
  have not_type := F.called_set.notType
  have can := F.called_set.canCreate
  have checked := F.typeCall_set_1 (.ref l)
  repeat (any_goals (first | assumption | wp_step))
  refine codeAny_mono (code_set_led1 (.ref l) (E := E) (Q₁ := fun obj s₁ => obj = .ref s.heap.objs.size ∧ s₁ = { s with heap := s.heap.push (freshSet w) }) ⟨rfl, rfl⟩) fun r s₁ told => ?_
  match r, told with
  | .error _, told => exact told
  | .ok .next, no => exact no.elim
  | .ok .brk, no => exact no.elim
  | .ok .cont, no => exact no.elim
  | .ok (.ret _), ⟨eo, es⟩ =>
    subst eo es
    have at_set : (s.heap.push (freshSet w)).get? s.heap.objs.size = some (freshSet w) := Heap.get?_push_size _ rfl
    have is_set : Shared.TypeIs { s with heap := s.heap.push (freshSet w) } (.ref s.heap.objs.size) "set" := ⟨_, at_set, rfl⟩
    have look := F.called_set.init.lookup
    have bind := F.called_set.init.bind (.ref s.heap.objs.size)
    repeat (any_goals (first | assumption | wp_step))
    refine codeAny_mono (codeAny_call_builtin (R := wants (fun r s₂ => r = .none ∧ ∃ h' tk c, s₂ = { s with heap := h', toks := tk } ∧ SetR w h' s.heap.objs.size (fun j => decide (j ∈ ns)) c ∧ c ≤ ns.length ∧
        (∀ b o, s.heap.get? b = some o → h'.get? b = some o)) E) F.called_set.init.plain F.entry_set_init (check_set_init_1 is_set ?_)) fun r₂ s₂ told₂ => ?_
    · obtain ⟨⟨ocls, odict, odata, oslots⟩, at_l, is_list, nl, is_data⟩ := hl
      simp only at is_list is_data
      subst is_list is_data
      have at_l1 : (s.heap.push (freshSet w)).get? l = some { cls := .type "list", dict := odict, data := .seq items nl, slots := oslots } := Heap.get?_push_of_some _ at_l
      have n1 := F.sub_list_set
      have n2 := F.sub_list_frozenset
      have n3 : (Value.type "list" == Value.type "dict") = false := by decide
      have list1 : (s.heap.push (freshSet w)).IsList l items := ⟨_, at_l1, rfl, nl, rfl⟩
      unfold Builtin.«set.__init__» noKeywords Builtin.Frozenset.updateFrom
      generalize hPI : pyIter = PI
      wp_walk
      subst hPI
      refine wpAny_pyIter_list list1 ?_
      refine wpAny_bind (wpAny_runValue ?_)
      have l_lt : l < s.heap.objs.size := Heap.lt_size at_l
      have hh3 : A.in1.in1.in1.handled = none := by simp [hh]
      have l_ne : l ≠ (s.heap.push (freshSet w)).objs.size := by
        rw [Heap.size_push]
        exact Nat.ne_of_lt (Nat.lt_succ_of_lt l_lt)
      have s_ne : s.heap.objs.size ∉ [(s.heap.push (freshSet w)).objs.size, l] := by
        rw [Heap.size_push]
        simp only [List.mem_cons, List.not_mem_nil, or_false, not_or]
        exact ⟨Nat.ne_of_lt (Nat.lt_succ_self _), Nat.ne_of_gt l_lt⟩
      refine set_update_ints ((Walks.list hh3 _ l l_ne items).toS) s.heap.objs.size s_ne ns size_is hb (fun i v hv => ?_) (items.size - 0) 0 _ (by omega) (Nat.zero_le _) ⟨⟨_, Heap.get?_push_size _ rfl, rfl, rfl⟩, (list1.push _)⟩ ⟨0, Nat.le_refl 0, setR_new_at (Heap.get?_push_of_some _ at_set)⟩ fun s' c' mv hc' hS' => ?_
      · have hi : i < ns.length := by rw [← size_is]; exact (Array.getElem?_eq_some_iff.mp hv).1
        obtain ⟨t, e⟩ := IntsAre.int_at hit i v (by rw [Array.getElem?_toList]; exact hv)
        refine ⟨ns[i], t, List.getElem?_eq_getElem hi, ?_⟩
        rw [e, List.getD_eq_getElem?_getD, List.getElem?_eq_getElem hi]
        rfl
      · obtain ⟨h', g2, d', tk', os'⟩ := s'
        have eg : g2 = s.gens := mv.gens
        have ed : d' = s.drawn := mv.drawn
        have eo : os' = s.os := mv.os
        subst eg ed eo
        show wpAny _ _ _ _ _ _
        refine wpAny_pure ?_
        show wpAny _ _ (ret Value.none) _ _ _
        rw [size_is] at hc'
        refine wpAny_pure ⟨rfl, h', tk', c', rfl, hS', hc', fun b o e => ?_⟩
        have b_lt : b < s.heap.objs.size := Heap.lt_size e
        refine mv.heap b o ?_ (Heap.get?_push_of_some _ (Heap.get?_push_of_some _ e))
        simp only [List.mem_cons, List.not_mem_nil, or_false, not_or]
        refine ⟨Nat.ne_of_lt b_lt, ?_⟩
        rw [Heap.size_push]
        exact Nat.ne_of_lt (Nat.lt_succ_of_lt b_lt)
    · match r₂, told₂ with
      | .error _, told => exact told
      | .ok .next, no => exact no.elim
      | .ok .brk, no => exact no.elim
      | .ok .cont, no => exact no.elim
      | .ok (.ret _), ⟨e1, h', tk, c', e2, hS', hc', keep⟩ =>
        subst e1 e2
        repeat (any_goals (first | assumption | wp_step))
        exact fin _ _ _ hS' hc' keep
end
section
variable {X : Cx}
def rSetL (K : PySem.W.Frag) (w : World) : List V → Hp → VK → Prop := fun xs H Q => ∃ (l : Addr) (ns : List Int), xs = [.ref l] ∧ SqL K H l (ns.map V.int) ∧ ns.length ≤ 1000 ∧ ∀ (p : Addr) (c : Nat), H p = none → c ≤ ns.length → Q (.ref p) (upd H p (SetO w p (fun k => decide (k ∈ ns)) c))
theorem cr_setL (hc : X.calm = true) : CallR X (.type "set") (rSetL X.K X.w) := by
  intro pins s σ H xs us Q I r h
  obtain ⟨l, ns, rfl, hq, h1, q⟩ := h
  rw [Vals.ref1 r]
  obtain ⟨its, rv, pl, hz⟩ := I.list hq
  have hi := ints_of_vals rv
  refine set_of_list ns (I.ok.hd hc) pl.isList (by simpa using hi) (by unfold scanBound; omega) fun h' tk c R hcl keep => ?_
  exact ⟨.ref _, upd H s.heap.objs.size (SetO X.w s.heap.objs.size (fun k => decide (k ∈ ns)) c), I.laid (t' := tk) (fun b u e => keep b u e) (Nat.le_refl _) (setO_new R), rfl, q _ c (I.hok.fresh (Nat.le_refl _)) hcl⟩
end
end FW

namespace FW
open PySem PySem.Spec PyProof.Rows L2
abbrev sKept : Stmt := top 42
abbrev sZonesOf : Stmt := top 41
theorem scKept : FnScope ["_law_found", "_law_zones", "_law_links", "_law_start", "_law_one", "_law_other"] ["_law_found", "_law_zones", "_law_links", "_law_start"] (defScope sKept) := ⟨rfl, rfl, rfl, by decide +kernel, rfl, by decide +kernel, by decide +kernel⟩
theorem scZonesOf : FnScope ["_law_row", "_law_zones", "_law_links", "_law_start", "_law_goal", "_law_count", "_law_k"] ["_law_row", "_law_zones", "_law_links", "_law_start", "_law_goal"] (defScope sZonesOf) := ⟨rfl, rfl, rfl, by decide +kernel, rfl, by decide +kernel, by decide +kernel⟩
structure LT (mg : Str → Option Value) : Prop where
  len : mg "len" = none
  list : mg "list" = none
  range : mg "range" = none
  min : mg "min" = none
  int : mg "int" = none
  isi : mg "isinstance" = none
  bool : mg "bool" = none
  abs : mg "abs" = none
theorem optV_inj {a b : Option Nat} (h : optV a = optV b) : a = b := by
  cases a with
  | none =>
    cases b with
    | none => rfl
    | some k => exact nomatch h
  | some j =>
    cases b with
    | none => exact nomatch h
    | some k =>
      have : (j : Int) = k := V.int.inj h
      rw [show j = k by omega]
theorem scal_opt (a b : Option Nat) : scal (optV a) (optV b) = true := by
  cases a <;> cases b <;> rfl
section
variable {P : Program} {w : World} {K : PySem.W.Frag} {mg : Str → Option Value} {base : Heap} {C CP CZ CW CB CS CN CA CL CD : Addr}
theorem opt_some {o : Option Nat} (e : ¬ decide (optV o = V.non) = true) : ∃ k, o = some k := by
  cases o with
  | none => exact absurd rfl e
  | some k => exact ⟨k, rfl⟩
theorem opt_none {o : Option Nat} (e : decide (optV o = V.non) = true) : o = none := by
  cases o with
  | none => rfl
  | some k => exact nomatch (of_decide_eq_true e)
/-! ### the levels are kept by all links -/
def spKept (K : PySem.W.Frag) : L2.Sp := fun vs H Q _ => ∃ (fa za la : Addr) (st : Int) (s : Nat) (L : Lv) (zs : List Int) (lks : List Lk) (near : List (List Nat)), vs = [.ref fa, .ref za, .ref la, .int st] ∧ st = s ∧ H fa = some (.lst (L.map optV)) ∧ SqL K H za (zs.map V.int) ∧ LinksAt H la lks ∧
  IsLevels near zs s L ∧ NearOk zs.length lks near ∧ (∀ q, q ∈ lks → LinkOk zs.length q) ∧ s < zs.length ∧ Q (.bl true) H
theorem ok_kept {f : Addr} {fd : FuncData} (F : Fun K "_law_kept" "_law_kept" sKept f fd) (T : LT mg) : FnOk P w K mg base CX0 1 f fd ["_law_found", "_law_zones", "_law_links", "_law_start"] (spKept K) := by
  refine F.ok scKept (fun vs H Q E h => ?_) (fun cdv A outer s0 H vs Q E hr h => ?_)
  · obtain ⟨fa, za, la, st, s, L, zs, lks, near, rfl, _⟩ := h
    rfl
  · obtain ⟨fa, za, la, st, s, L, zs, lks, near, rfl, est, hF, hZ, ⟨asL, hla, hLA⟩, IL, NO, lok, hs, q⟩ := h
    refine ⟨_, pss_cons (ps_if (PW.pt (pw_or (pt_not (pt_val (pe_callB call_isi (by rfl) T.isi boot_isinstance (pa_cons (pv 0) (pa_cons (pe_bltn (v := .ty "list") (by rfl) T.list (by decide +kernel) rfl) pa_nil)))))
        (pw_or (pt_cmpR op_ne (pe_callB call_len_seq (by rfl) T.len PySem.boot_len (pa_cons (pv 0) pa_nil)) (pe_callB call_len_seq (by rfl) T.len PySem.boot_len (pa_cons (pv 1) pa_nil)) (nomark _))
        (pw_or1 (pt_cmpR op_ne (pe_ix ix_list (pv 0) (pv 3) (fun _ _ => rfl)) pe_int (nomark _)))))) (pss_one (ps_ret pe_bl)) pss_nil)
      (pss_cons (ps_for PassesOwn.never rfl (pi_list (pv 2)) (pg_tup rfl (pgs_cons (pg_name (i := 4) scKept.nd rfl (.inl rfl)) (pgs_cons (pg_name (i := 5) scKept.nd rfl (.inl rfl)) pgs_nil)))
        (pss_one (ps_if (PW.pt (pw_or (pt_cmpR op_isN (pe_ix ix_list (pv 0) (pv 4) (fun _ _ => rfl)) pe_non (nomark _)) (pw_or1 (pt_cmpR op_isN (pe_ix ix_list (pv 0) (pv 5) (fun _ _ => rfl)) pe_non (nomark _)))))
          (pss_one (ps_if (PW.pt (pw_or (pt_cmpR op_notN (pe_ix ix_list (pv 0) (pv 4) (fun _ _ => rfl)) pe_non (nomark _)) (pw_or1 (pt_cmpR op_notN (pe_ix ix_list (pv 0) (pv 5) (fun _ _ => rfl)) pe_non (nomark _))))) (pss_one (ps_ret pe_bl)) pss_nil))
          (pss_one (ps_if (pt_cmpR op_gt (pe_callB call_abs (by rfl) T.abs boot_abs (pa_cons (pe_op op_sub (pe_ix ix_list (pv 0) (pv 4) (fun _ _ => rfl)) (pe_ix ix_list (pv 0) (pv 5) (fun _ _ => rfl))) pa_nil))
            (pe_callTy call_int1 (by rfl) T.int boot_int (pa_cons (pe_cmpR op_ne (pe_ix ix_list (pv 1) (pv 4) (fun _ _ => rfl)) (pe_ix ix_list (pv 1) (pv 5) (fun _ _ => rfl)) (nomark _)) pa_nil)) (nomark _)) (pss_one (ps_ret pe_bl)) pss_nil)))))
      (pss_one (ps_ret pe_bl))), ?_⟩
    have gL : ∀ v, v < zs.length → atI (L.map optV) (v : Nat) = some (optV (lk L v)) := fun v hv => at_of rfl (by rw [List.getElem?_map, lk_get (by rw [IL.len]; exact hv)]; rfl)
    have gZ : ∀ v (hv : v < zs.length), atI (zs.map V.int) (v : Nat) = some (.int zs[v]) := fun v hv => at_of rfl (by rw [List.getElem?_map, List.getElem?_eq_getElem hv]; rfl)
    have gS : atI (L.map optV) st = some (.int 1) := by
      rw [est, gL s hs, IL.one]
      rfl
    refine ⟨_, rfl, .ref fa, .ty "list", .type "list", .type "list", true, rfl, .ty _, .base (.lst hF), kit_ty (by decide +kernel), true, rfl, ?_⟩
    refine iteF ?_
    refine ⟨_, rfl, fa, _, rfl, .inl (SqL.of hF), _, rfl, za, _, rfl, .inl hZ, rfl, _, rfl, ?_⟩
    rw [List.length_map, List.length_map, IL.len]
    refine iteNS rfl ?_
    refine ⟨_, rfl, _, rfl, fa, _, _, _, rfl, rfl, SqL.of hF, gS, rfl, _, rfl, ?_⟩
    refine iteNS rfl ?_
    refine ⟨_, rfl, la, rfl, ⟨_, SqL.of hla⟩, for_list (K := K) (a := la) (xs := asL.map V.ref) (fun i σ H8 => ∃ y4 y5 : Option V, σ = [some (.ref fa), some (.ref za), some (.ref la), some (.int st), y4, y5] ∧ H8 = H)
      ⟨none, none, rfl, rfl⟩ (fun i σ H8 _ ⟨_, _, _, e⟩ => by rw [e]; exact SqL.of hla) ?_ ?_⟩
    · rintro i y σ H8 hi ⟨y4, y5, rfl, rfl⟩
      obtain ⟨a0, ha0, rfl⟩ : ∃ a0, asL[i]? = some a0 ∧ y = V.ref a0 := by
        rw [List.getElem?_map] at hi
        cases e : asL[i]? with
        | none =>
          rw [e] at hi
          cases hi
        | some a0 =>
          rw [e] at hi
          exact ⟨a0, rfl, (Option.some.inj hi).symm⟩
      obtain ⟨⟨u, v⟩, hq, hqa⟩ := hLA.getL ha0
      have hm : (u, v) ∈ lks := List.mem_of_getElem? hq
      obtain ⟨⟨u0, un⟩, ⟨v0, vn⟩, uv⟩ := lok _ hm
      obtain ⟨b1, rfl⟩ : ∃ b1 : Nat, u = (b1 : Int) := ⟨u.toNat, by have : 0 ≤ u := u0; omega⟩
      obtain ⟨b2, rfl⟩ : ∃ b2 : Nat, v = (b2 : Int) := ⟨v.toNat, by have : 0 ≤ v := v0; omega⟩
      have hb1 : b1 < zs.length := Int.ofNat_lt.mp un
      have hb2 : b2 < zs.length := Int.ofNat_lt.mp vn
      have ad1 : Adj near b1 b2 := (NO.adj b1 b2).mpr (.inl hm)
      have ad2 : Adj near b2 b1 := NO.sym _ _ ad1
      have k1 := fun k e => IL.kept b1 b2 k e ad1
      have k2 := fun k e => IL.kept b2 b1 k e ad2
      have hnn : lk L b1 = none ↔ lk L b2 = none := by
        constructor
        · intro z
          cases e : lk L b2 with
          | none => rfl
          | some k =>
            obtain ⟨k', e', _⟩ := k2 k e
            rw [z] at e'
            cases e'
        · intro z
          cases e : lk L b1 with
          | none => rfl
          | some k =>
            obtain ⟨k', e', _⟩ := k1 k e
            rw [z] at e'
            cases e'
      refine ⟨a0, _, rfl, SqT.of hqa, rfl, _, _, rfl, _, _, rfl, rfl, ?_⟩
      refine ⟨_, rfl, _, rfl, fa, _, _, _, rfl, rfl, SqL.of hF, gL b1 hb1, rfl, _, rfl, ?_⟩
      refine ite2 (fun e => ?_) (fun e => ?_)
      · have ea := opt_none e
        have eb := hnn.mp ea
        refine iteT ?_
        refine ⟨_, rfl, _, rfl, fa, _, _, _, rfl, rfl, SqL.of hF, gL b1 hb1, rfl, _, rfl, ?_⟩
        rw [ea]
        refine iteF ?_
        refine ⟨_, rfl, _, rfl, fa, _, _, _, rfl, rfl, SqL.of hF, gL b2 hb2, rfl, _, rfl, ?_⟩
        rw [eb]
        refine iteF ?_
        exact ⟨_, _, rfl, rfl⟩
      · obtain ⟨k, ea⟩ := opt_some e
        obtain ⟨k', eb, hk1⟩ := k1 k ea
        obtain ⟨k'', ea', hk2⟩ := k2 k' eb
        rw [ea] at ea'
        cases ea'
        refine ⟨_, rfl, _, rfl, fa, _, _, _, rfl, rfl, SqL.of hF, gL b2 hb2, rfl, _, rfl, ?_⟩
        rw [eb]
        refine iteF ?_
        refine ⟨_, rfl, _, rfl, fa, _, _, _, rfl, rfl, SqL.of hF, gL b1 hb1, _, rfl, _, rfl, fa, _, _, _, rfl, rfl, SqL.of hF, gL b2 hb2, k, k', by rw [ea]; rfl, by rw [eb]; rfl, _, rfl, ?_⟩
        refine ⟨_, rfl, _, rfl, za, _, _, _, rfl, rfl, hZ, gZ b1 hb1, _, rfl, _, rfl, za, _, _, _, rfl, rfl, hZ, gZ b2 hb2, rfl, .inr ⟨_, rfl, _, _, rfl, rfl, _, rfl, ?_⟩⟩
        have ew : (wt zs b1 b2 : Int) = if (!decide (V.int zs[b1] = V.int zs[b2])) = true then 1 else 0 := by
          unfold wt
          rw [List.getElem?_eq_getElem hb1, List.getElem?_eq_getElem hb2]
          by_cases z : zs[b1] = zs[b2]
          · rw [if_pos (by rw [z]), decide_eq_true (by rw [z])]
            rfl
          · rw [if_neg (fun y => z (Option.some.inj y)), decide_eq_false (fun y => z (V.int.inj y))]
            rfl
        rw [wt_comm zs b2 b1] at hk2
        rw [← ew]
        refine ite2 (fun e => ?_) (fun e => ?_)
        · have z : (wt zs b1 b2 : Int) < if (k : Int) - k' < 0 then -((k : Int) - k') else (k : Int) - k' := of_decide_eq_true e
          exfalso
          split at z <;> omega
        · exact ⟨_, _, rfl, rfl⟩
    · rintro σ H8 ⟨y4, y5, rfl, rfl⟩
      exact q
/-! ### the zones of a row -/
def datL (p : Lk) : PyData := .tuple [.int p.1, .int p.2]
theorem dps_lks {K : PySem.W.Frag} {H : Hp} {as : List Addr} {lks : List Lk} (h : All2 (LinkAt H) as lks) : DpAll K H (as.map V.ref) (lks.map datL) := by
  induction h with
  | nil => exact .nil
  | cons r _ ih => exact .cons (.tup (SqT.of r) (.cons (.int _) (.cons (.int _) .nil))) ih
theorem lay_lks : ∀ l : List Lk, PyData.canLayAll0 (l.map datL) = true
  | [] => by simp [PyData.canLayAll0]
  | p :: l => by
    have ih := lay_lks l
    simpa [PyData.canLayAll0, PyData.canLay0, datL] using ih
theorem dep_lks : ∀ l : List Lk, PyData.depthAll (l.map datL) ≤ 1
  | [] => by simp [PyData.depthAll]
  | p :: l => by
    have ih := dep_lks l
    have e : PyData.depthAll ((p :: l).map datL) = max 1 (PyData.depthAll (l.map datL)) := by simp [PyData.depthAll, PyData.depth, datL]
    rw [e]
    omega
theorem shaped_lks (l : List Lk) : SeqAt.shaped (.list (l.map datL)) = true := by
  unfold SeqAt.shaped
  rw [Bool.and_eq_true_iff]
  refine ⟨by simpa [PyData.canLay0] using lay_lks l, decide_eq_true ?_⟩
  have e : PyData.depth (.list (l.map datL)) = PyData.depthAll (l.map datL) + 1 := by simp [PyData.depth]
  have := dep_lks l
  rw [e]
  omega
theorem shaped_lk (p : Lk) : SeqAt.shaped (datL p) = true := by
  unfold SeqAt.shaped
  rw [Bool.and_eq_true_iff]
  refine ⟨by simp [PyData.canLay0, PyData.canLayAll0, datL], decide_eq_true ?_⟩
  have e : PyData.depth (datL p) = 1 := by simp [PyData.depth, PyData.depthAll, datL]
  rw [e]
  decide
theorem eqv_lk (p q : Lk) : PyData.eqv (datL p) (datL q) = decide (p = q) := by
  obtain ⟨a, b⟩ := p
  obtain ⟨c, d⟩ := q
  have e : PyData.eqv (datL (a, b)) (datL (c, d)) = (a == c && (b == d && true)) := by simp [PyData.eqv, PyData.eqvAll, datL]
  rw [e]
  by_cases h1 : a = c <;> by_cases h2 : b = d <;> simp [h1, h2]
theorem any_lk (l : List Lk) (p : Lk) : ((l.map datL).any fun z => PyData.eqv z (datL p)) = decide (p ∈ l) := by
  induction l with
  | nil => simp
  | cons q l ih =>
    rw [List.map_cons, List.any_cons, ih, eqv_lk]
    by_cases h : p = q
    · subst h
      simp
    · have h' : ¬ q = p := fun z => h z.symm
      simp [h, h']
theorem at_last {xs : List V} {v : V} (h : xs[xs.length - 1]? = some v) : atI xs (-1) = some v := by
  have hl := (List.getElem?_eq_some_iff.mp h).1
  unfold atI ixN
  rw [if_neg (by decide), if_pos (by omega)]
  show xs[(-1 + (xs.length : Int)).toNat]? = some v
  rw [show (-1 + (xs.length : Int)).toNat = xs.length - 1 by omega]
  exact h
theorem wt_int {zs : List Int} {u v : Nat} (hu : u < zs.length) (hv : v < zs.length) : (if (!decide (V.int zs[u] = V.int zs[v])) = true then 1 else 0) = (wt zs u v : Int) := by
  unfold wt
  rw [List.getElem?_eq_getElem hu, List.getElem?_eq_getElem hv]
  by_cases z : zs[u] = zs[v]
  · have e : decide (V.int zs[u] = V.int zs[v]) = true := decide_eq_true (by rw [z])
    have e2 : (if some zs[u] = some zs[v] then 0 else 1) = 0 := if_pos (by rw [z])
    rw [e, e2]
    rfl
  · have e : decide (V.int zs[u] = V.int zs[v]) = false := decide_eq_false (fun y => z (V.int.inj y))
    have e2 : (if some zs[u] = some zs[v] then 0 else 1) = 1 := if_neg (fun y => z (Option.some.inj y))
    rw [e, e2]
    rfl
def spZonesOf (K : PySem.W.Frag) : L2.Sp := fun vs H Q _ => ∃ (ra za la : Addr) (st : Int) (s g k : Nat) (row : List Nat) (zs : List Int) (lks : List Lk) (near : List (List Nat)), vs = [.ref ra, .ref za, .ref la, .int st, .int g] ∧ st = s ∧ H ra = some (.lst (row.map fun (x : Nat) => V.int (x : Nat))) ∧
  SqL K H za (zs.map V.int) ∧ LinksAt H la lks ∧ NearOk zs.length lks near ∧ RowOk near zs s row g k ∧ (∀ x, x ∈ row → x < zs.length) ∧ row.length ≤ 150001 ∧ ∀ H', Same H H' → Q (.int k) H'
theorem ok_zonesOf {f : Addr} {fd : FuncData} (F : Fun K "_law_zones_of" "_law_zones_of" sZonesOf f fd) (T : LT mg) :
    FnOk P w K mg base CX0 1 f fd ["_law_row", "_law_zones", "_law_links", "_law_start", "_law_goal"] (spZonesOf K) := by
  refine F.ok scZonesOf (fun vs H Q E h => ?_) (fun cdv A outer s0 H vs Q E hr h => ?_)
  · obtain ⟨ra, za, la, st, s, g, k, row, zs, lks, near, rfl, _⟩ := h
    rfl
  · obtain ⟨ra, za, la, st, s, g, k, row, zs, lks, near, rfl, est, hR, hZ, hL, NO, RO, hx, hlen, q⟩ := h
    have hu : ∀ {N : List Str} {E : XK}, (cxOf CX0 P w K mg base N "_law_zones_of" (defScope sZonesOf) f cdv A outer s0 H E).nox.A.units + 65 < cLine := by
      have := hr.un
      intro N E
      show (A.deeper _).units + 65 < cLine
      omega
    refine ⟨_, pss_cons (ps_if (PW.pt (pw_or (pt_not (pt_val (pe_callB call_isi (by rfl) T.isi boot_isinstance (pa_cons (pv 0) (pa_cons (pe_bltn (v := .ty "list") (by rfl) T.list (by decide +kernel) rfl) pa_nil)))))
        (pw_or (pt_cmpR op_eq (pe_callB call_len_seq (by rfl) T.len PySem.boot_len (pa_cons (pv 0) pa_nil)) pe_int (nomark _))
        (pw_or (pt_cmpR op_ne (pe_ix ix_list (pv 0) pe_int (fun _ _ => rfl)) (pv 3) (nomark _)) (pw_or1 (pt_cmpR op_ne (pe_ix ix_list (pv 0) (pe_un un_neg pe_int) (fun _ _ => rfl)) (pv 4) (nomark _))))))) (pss_one (ps_ret (pe_un un_neg pe_int))) pss_nil)
      (pss_cons (ps_set (i := 5) scZonesOf.nd rfl (.inl rfl) pe_int)
      (pss_cons (ps_for PassesOwn.never rfl (pi_range2 (by rfl) T.range (pa_cons pe_int (pa_cons (pe_callB call_len_seq (by rfl) T.len PySem.boot_len (pa_cons (pv 0) pa_nil)) pa_nil))) (pg_name (i := 6) scZonesOf.nd rfl (.inl rfl))
        (pss_cons (ps_if (PW.pt (pw_and (pt_cmpR (op_notInD hu) (pe_tup (pa_cons (pe_ix ix_list (pv 0) (pe_op op_sub (pv 6) pe_int) (fun _ _ => rfl)) (pa_cons (pe_ix ix_list (pv 0) (pv 6) (fun _ _ => rfl)) pa_nil))) (pv 2) (by rfl))
          (pw_and1 (pt_cmpR (op_notInD hu) (pe_tup (pa_cons (pe_ix ix_list (pv 0) (pv 6) (fun _ _ => rfl)) (pa_cons (pe_ix ix_list (pv 0) (pe_op op_sub (pv 6) pe_int) (fun _ _ => rfl)) pa_nil))) (pv 2) (by rfl))))) (pss_one (ps_ret (pe_un un_neg pe_int))) pss_nil)
        (pss_one (ps_set (i := 5) scZonesOf.nd rfl (.inl rfl) (pe_op op_add (pv 5) (pe_callTy call_int1 (by rfl) T.int boot_int (pa_cons (pe_cmpR op_ne (pe_ix ix_list (pv 1) (pe_ix ix_list (pv 0) (pe_op op_sub (pv 6) pe_int) (fun _ _ => rfl)) (fun _ _ => rfl)) (pe_ix ix_list (pv 1) (pe_ix ix_list (pv 0) (pv 6) (fun _ _ => rfl)) (fun _ _ => rfl)) (nomark _)) pa_nil)))))))
      (pss_one (ps_ret (pv 5))))), ?_⟩
    have gR : ∀ i x, row[i]? = some x → atI (row.map fun (x : Nat) => V.int (x : Nat)) (i : Nat) = some (.int (x : Nat)) := fun i x e => at_of rfl (by rw [List.getElem?_map, e]; rfl)
    have gZ : ∀ v (hv : v < zs.length), atI (zs.map V.int) (v : Nat) = some (.int zs[v]) := fun v hv => at_of rfl (by rw [List.getElem?_map, List.getElem?_eq_getElem hv]; rfl)
    refine ⟨_, rfl, .ref ra, .ty "list", .type "list", .type "list", true, rfl, .ty _, .base (.lst hR), kit_ty (by decide +kernel), true, rfl, ?_⟩
    refine iteF ?_
    refine ⟨_, rfl, ra, _, rfl, .inl (SqL.of hR), rfl, _, rfl, ?_⟩
    have hpos := RO.pos
    refine ite2 (fun e => ?_) (fun _ => ?_)
    · have z : (((row.map fun (x : Nat) => V.int (x : Nat)).length : Nat) : Int) = 0 := V.int.inj (of_decide_eq_true e)
      rw [List.length_map] at z
      omega
    -- row[0] != start or row[-1] != goal
    have g0 : atI (row.map fun (x : Nat) => V.int (x : Nat)) 0 = some (.int (s : Nat)) := gR 0 s RO.first
    have gl : atI (row.map fun (x : Nat) => V.int (x : Nat)) (-1) = some (.int (g : Nat)) := at_last (by rw [List.length_map, List.getElem?_map, RO.last]; rfl)
    refine ⟨_, rfl, ra, _, _, _, rfl, rfl, SqL.of hR, g0, _, rfl, rfl, _, rfl, ?_⟩
    rw [est]
    refine iteNS rfl ?_
    refine ⟨_, rfl, 1, rfl, ra, _, _, _, rfl, rfl, SqL.of hR, gl, _, rfl, rfl, _, rfl, ?_⟩
    refine iteNS rfl ?_
    -- count = 1; for k in range(1, len(row))
    refine ⟨_, rfl, ra, _, rfl, .inl (SqL.of hR), 1, _, rfl, ⟨by decide, by decide, by omega, by rw [List.length_map]; omega⟩, ?_⟩
    rw [List.length_map]
    refine for_range (lo := 1) (n := ((row.length : Int) - 1).toNat) (fun i σ H2 => ∃ y7 : Option V, σ = [some (.ref ra), some (.ref za), some (.ref la), some (.int s), some (.int g), some (.int (zsum zs row i)), y7] ∧ Same H H2)
      ⟨none, rfl, Same.refl _⟩ ?_ ?_
    · rintro i σ H2 hi ⟨y7, rfl, s2⟩
      have hi1 : i < row.length := by omega
      have hi2 : i + 1 < row.length := by omega
      obtain ⟨u, eu⟩ : ∃ u, row[i]? = some u := ⟨_, List.getElem?_eq_getElem hi1⟩
      obtain ⟨v, ev⟩ : ∃ v, row[i + 1]? = some v := ⟨_, List.getElem?_eq_getElem hi2⟩
      have hun := hx u (List.mem_of_getElem? eu)
      have hvn := hx v (List.mem_of_getElem? ev)
      have gu : atI (row.map fun (x : Nat) => V.int (x : Nat)) (1 + (i : Nat) - 1) = some (.int (u : Nat)) := by
        rw [show (1 + ((i : Nat) : Int) - 1) = ((i : Nat) : Int) by omega]
        exact gR i u eu
      have gv : atI (row.map fun (x : Nat) => V.int (x : Nat)) (1 + (i : Nat)) = some (.int (v : Nat)) := by
        rw [show (1 + ((i : Nat) : Int)) = ((i + 1 : Nat) : Int) by omega]
        exact gR (i + 1) v ev
      have ad := (NO.adj u v).mp (RO.adj i u v eu ev)
      have hR2 := s2 _ _ hR
      -- the step behind the test
      have nxt : ∀ H3, Same H H3 → ∀ y7 : Option V, y7 = some (.int (1 + (i : Nat))) → ∃ y, ([some (.ref ra), some (.ref za), some (.ref la), some (.int s), some (.int g), some (.int (zsum zs row i)), y7] : L2.St)[1]? = some (some y) ∧ y = .ref za ∧ SqL K H3 za (zs.map V.int) := fun H3 s3 y7 _ => ⟨_, rfl, rfl, s3.seq hZ⟩
      have fin : ∀ H3, Same H H3 → ∀ D : Ends, (D.nx = fun σ H2 => ∃ y7 : Option V, σ = [some (.ref ra), some (.ref za), some (.ref la), some (.int s), some (.int g), some (.int (zsum zs row (i + 1))), y7] ∧ Same H H2) →
          tAsg (tOp (rI0 fun i j => .int (i + j)) (tVar 5) (tCB (fun xs H Q => (∃ i, xs = [.int i] ∧ Q (.int i) H) ∨ ∃ k, xs = [.bl k] ∧ Q (.int (if k then 1 else 0)) H) (tCons (tOp rNe (tOp (rIxL K) (tVar 1) (tOp (rIxL K) (tVar 0) (tOp (rI0 fun i j => .int (i - j)) (tVar 6) (tC (.int 1))))) (tOp (rIxL K) (tVar 1) (tOp (rIxL K) (tVar 0) (tVar 6)))) tNil))) (gName 5)
            D [some (.ref ra), some (.ref za), some (.ref la), some (.int s), some (.int g), some (.int (zsum zs row i)), some (.int (1 + (i : Nat)))] H3 := by
        intro H3 s3 D hD
        refine ⟨_, rfl, _, rfl, _, rfl, _, rfl, _, _, rfl, rfl, ra, _, _, _, rfl, rfl, SqL.of (s3 _ _ hR), gu, za, _, _, _, rfl, rfl, s3.seq hZ, gZ u hun, _, rfl, _, rfl, _, rfl, ra, _, _, _, rfl, rfl, SqL.of (s3 _ _ hR), gv, za, _, _, _, rfl, rfl, s3.seq hZ, gZ v hvn, rfl, .inr ⟨_, rfl, _, _, rfl, rfl, ?_⟩⟩
        rw [hD]
        refine ⟨some (.int (1 + (i : Nat))), ?_, s3⟩
        have e1 : ((zsum zs row (i + 1) : Nat) : Int) = (zsum zs row i : Nat) + (if (!decide (V.int zs[u] = V.int zs[v])) = true then 1 else 0) := by
          rw [wt_int hun hvn]
          show ((zsum zs row i + wt zs (row.getD i 0) (row.getD (i + 1) 0) : Nat) : Int) = _
          rw [List.getD_eq_getElem?_getD, List.getD_eq_getElem?_getD, eu, ev]
          show ((zsum zs row i + wt zs u v : Nat) : Int) = _
          omega
        rw [e1]
        rfl
      refine ⟨_, rfl, _, rfl, _, _, rfl, rfl, ra, _, _, _, rfl, rfl, SqL.of hR2, gu, _, rfl, _, rfl, ra, _, _, _, rfl, rfl, SqL.of hR2, gv, by show 2 ≤ sizeLine; decide, fun t nt => ?_⟩
      have s3 : Same H _ := s2.trans (same_upd (o := .tup [V.int (u : Nat), V.int (v : Nat)]) nt)
      obtain ⟨asL, hla, hLA⟩ := hL.same s3
      refine ⟨_, rfl, datL (u, v), lks.map datL, .tup (SqT.of upd_same) (.cons (.int _) (.cons (.int _) .nil)), .lst (SqL.of hla) (dps_lks hLA), shaped_lk _, shaped_lks _, _, rfl, ?_⟩
      rw [any_lk]
      refine ite2 (fun e => ?_) (fun e => ?_)
      · have nm : ¬ ((u : Int), (v : Int)) ∈ lks := nd_of e
        have m2 : ((v : Int), (u : Int)) ∈ lks := ad.resolve_left nm
        have hR3 := s3 _ _ hR
        refine ⟨_, rfl, _, rfl, ra, _, _, _, rfl, rfl, SqL.of hR3, gv, _, rfl, _, rfl, _, _, rfl, rfl, ra, _, _, _, rfl, rfl, SqL.of hR3, gu, by show 2 ≤ sizeLine; decide, fun t2 nt2 => ?_⟩
        have s4 : Same H _ := s3.trans (same_upd (o := .tup [V.int (v : Nat), V.int (u : Nat)]) nt2)
        obtain ⟨asL4, hla4, hLA4⟩ := hL.same s4
        refine ⟨_, rfl, datL (v, u), lks.map datL, .tup (SqT.of upd_same) (.cons (.int _) (.cons (.int _) .nil)), .lst (SqL.of hla4) (dps_lks hLA4), shaped_lk _, shaped_lks _, _, rfl, ?_⟩
        rw [any_lk, decide_eq_true m2]
        refine iteF ?_
        exact fin _ s4 _ rfl
      · refine iteF ?_
        exact fin _ s3 _ rfl
    · rintro σ H2 ⟨y7, rfl, s2⟩
      have e1 : ((row.length : Int) - 1).toNat = row.length - 1 := by omega
      rw [e1, RO.sum]
      exact ⟨_, rfl, q H2 s2⟩
end
end FW

namespace FW
open PySem PySem.Spec PyProof.Rows L2
abbrev sLinks10 : Stmt := top 40
abbrev sRidden10 : Stmt := top 43
theorem scLinks10 : FnScope ["_law_script", "_law_many", "_law_size", "_law_links", "_law_k", "_law_one", "_law_other"] ["_law_script", "_law_many", "_law_size"] (defScope sLinks10) := ⟨rfl, rfl, rfl, by decide +kernel, rfl, by decide +kernel, by decide +kernel⟩
theorem scRidden10 : FnScope ["_law_ledger", "_law_card", "_law_day", "_law_start", "_law_goal"] ["_law_ledger", "_law_card", "_law_day", "_law_start", "_law_goal"] (defScope sRidden10) := ⟨rfl, rfl, rfl, by decide +kernel, rfl, by decide +kernel, by decide +kernel⟩
theorem rg18 : ∀ k : Fin 10, RgC 18 (18 + 2 * ((k.val : Nat) : Int)) 2 k.val := by
  unfold RgC
  decide +kernel
section
variable {P : Program} {w : World} {K : PySem.W.Frag} {mg : Str → Option Value} {base : Heap} {C CP CZ CW CB CS CN CA CL CD : Addr}
theorem link_push {H : Hp} {l t : Addr} {x y : Int} {as : List Addr} {ps : List Lk} (hl : H l = some (.lst (as.map V.ref))) (ha : All2 (LinkAt H) as ps) (nt : H t = none) :
    LinksAt (upd (upd H t (.tup [.int x, .int y])) l (.lst (as.map V.ref ++ [.ref t]))) l (ps ++ [(x, y)]) := by
  have k : ∀ b o, H b = some o → b ≠ l → upd (upd H t (.tup [.int x, .int y])) l (.lst (as.map V.ref ++ [.ref t])) b = some o := fun b o e n => by
    rw [upd_ne n, upd_ne (ne_of_none e nt)]
    exact e
  refine ⟨as ++ [t], by rw [upd_same, List.map_append]; rfl, All2.app (ha.imp fun a b r => k _ _ r (ne_of r hl (by intro z; cases z))) (All2.one ?_)⟩
  show upd (upd H t _) l _ t = _
  rw [upd_ne (ne_of_none hl nt).symm, upd_same]
/-! ### _law_links_by -/
def spLinks10 (K : PySem.W.Frag) : L2.Sp := fun vs H Q _ => ∃ (a : Addr) (ns : List Int) (n sz : Nat), vs = [.ref a, .int (n : Nat), .int (sz : Nat)] ∧ SqL K H a (ns.map V.int) ∧ 1 ≤ n ∧ n ≤ 60 ∧ sz ≤ 9 ∧
  ∀ (lks : List Lk) (H' : Hp) (p : Addr), (∀ q, q ∈ lks → LinkOk n q) → lks.length ≤ 100 → Same H H' → H p = none → LinksAt H' p lks → Q (.ref p) H'
theorem ok_links10 {f fC : Addr} {fd fdC : FuncData} (F : Fun K "_law_links_by" "_law_links_by" sLinks10 f fd) (gR : mg "range" = none) (gLen : mg "len" = none) (FC : Fun K "_law_cell_at" "_law_cell_at" sCell fC fdC) (bC : Binds K fdC ["_law_script", "_law_k"] []) (gC : mg "_law_cell_at" = some (.ref fC)) :
    FnOk P w K mg base CX0 2 f fd ["_law_script", "_law_many", "_law_size"] (spLinks10 K) := by
  have GC : FnOk P w K mg base CX0 1 fC fdC ["_law_script", "_law_k"] (spCell K) := ok_cell FC gLen
  refine F.ok scLinks10 (fun vs H Q E h => ?_) (fun cdv A outer s H vs Q E hr h => ?_)
  · obtain ⟨a, ns, n, sz, rfl, _⟩ := h
    rfl
  · obtain ⟨a, ns, n, sz, rfl, hS, hn1, hn60, hsz, q⟩ := h
    have np : (0 : Int) < n := by omega
    refine ⟨_, pss_cons (ps_set (i := 3) scLinks10.nd rfl (.inl rfl) (pe_lst pa_nil))
      (C8.pss_cut (ps_for PassesOwn.never rfl (pi_range3 (by rfl) gR (pa_cons pe_int (pa_cons (pe_op op_add pe_int (pe_op op_mul pe_int (pv 2))) (pa_cons pe_int pa_nil)))) (pg_name (i := 4) scLinks10.nd rfl (.inl rfl))
        (pss_cons (ps_set (i := 5) scLinks10.nd rfl (.inl rfl) (pe_op op_mod (pe_call GC hr (by rfl) gC FC.kp bC .nil pass0 (pa_cons (pv 0) (pa_cons (pv 4) pa_nil))) (pv 1)))
        (pss_cons (ps_set (i := 6) scLinks10.nd rfl (.inl rfl) (pe_op op_mod (pe_call GC hr (by rfl) gC FC.kp bC .nil pass0 (pa_cons (pv 0) (pa_cons (pe_op op_add (pv 4) pe_int) pa_nil))) (pv 1)))
        (pss_one (ps_if (pt_cmpR op_ne (pv 5) (pv 6) (nomark _)) (pss_one (ps_expr (pe_bm PySem.F.plainAttrs_list PySem.F.slot_list_append PySem.F.type_list_append mt_append (pv 3) (pa_cons (pe_tup (pa_cons (pv 5) (pa_cons (pv 6) pa_nil))) pa_nil)))) pss_nil)))))
      (C8.pss_cut (ps_if (pt_cmpR op_eq (pe_op op_mod (pe_op op_fdiv (pe_call GC hr (by rfl) gC FC.kp bC .nil pass0 (pa_cons (pv 0) (pa_cons pe_int pa_nil))) pe_int) pe_int) pe_int (nomark _))
          (pss_one (ps_for PassesOwn.never rfl (pi_range1 (by rfl) gR (pa_cons (pe_op op_sub (pv 1) pe_int) pa_nil)) (pg_name (i := 4) scLinks10.nd rfl (.inl rfl))
            (pss_one (ps_expr (pe_bm PySem.F.plainAttrs_list PySem.F.slot_list_append PySem.F.type_list_append mt_append (pv 3) (pa_cons (pe_tup (pa_cons (pv 4) (pa_cons (pe_op op_add (pv 4) pe_int) pa_nil))) pa_nil)))))) pss_nil)
      (pss_one (ps_ret (pv 3))))), ?_⟩
    refine ⟨Nat.zero_le _, fun l nl => ?_⟩
    have s1 : Same H (upd H l (.lst [])) := same_upd nl
    refine ⟨fun σ H2 => ∃ (y4 y5 y6 : Option V) (lks : List Lk), σ = [some (.ref a), some (.int (n : Nat)), some (.int (sz : Nat)), some (.ref l), y4, y5, y6] ∧ Same H H2 ∧ LinksAt H2 l lks ∧ (∀ q, q ∈ lks → LinkOk n q) ∧ lks.length ≤ sz, ?_, ?_⟩
    · refine ⟨_, rfl, _, _, rfl, rfl, .inl ⟨by decide, by decide⟩, _, _, rfl, rfl, _, _, _, sz, rfl, rg18 ⟨sz, by omega⟩, ?_⟩
      refine for_rangeC (lo := 18) (c := 2) (n := sz) (fun i σ H2 => ∃ (y4 y5 y6 : Option V) (lks : List Lk), σ = [some (.ref a), some (.int (n : Nat)), some (.int (sz : Nat)), some (.ref l), y4, y5, y6] ∧ Same H H2 ∧ LinksAt H2 l lks ∧ (∀ q, q ∈ lks → LinkOk n q) ∧ lks.length ≤ i)
        ⟨none, none, none, [], rfl, s1, ⟨[], upd_same, .nil⟩, by simp, Nat.le_refl _⟩ ?_ (fun σ H2 h => h)
      rintro i σ H2 hi ⟨y4, y5, y6, lks, rfl, s2, ⟨as, hl, hA⟩, hok, hlen⟩
      have e1 : (18 : Int) + (i : Nat) * 2 = ((18 + 2 * i : Nat) : Int) := by omega
      have e2 : ((18 + 2 * i : Nat) : Int) + 1 = ((18 + 2 * i + 1 : Nat) : Int) := by omega
      rw [e1]
      refine ⟨_, rfl, _, rfl, a, ns, 18 + 2 * i, rfl, s2.seq hS, _, rfl, _, _, rfl, rfl, np, ?_⟩
      refine ⟨_, rfl, _, rfl, _, _, rfl, rfl, a, ns, 18 + 2 * i + 1, ?_, s2.seq hS, _, rfl, _, _, rfl, rfl, np, ?_⟩
      · show [V.ref a, V.int (((18 + 2 * i : Nat) : Int) + 1)] = _
        rw [e2]
      obtain ⟨x, ex⟩ : ∃ x, x = cell ns (18 + 2 * i) % (n : Int) := ⟨_, rfl⟩
      obtain ⟨y, ey⟩ : ∃ y, y = cell ns (18 + 2 * i + 1) % (n : Int) := ⟨_, rfl⟩
      have hx : 0 ≤ x ∧ x < n := by rw [ex]; exact ⟨Int.emod_nonneg _ (by omega), Int.emod_lt_of_pos _ np⟩
      have hy : 0 ≤ y ∧ y < n := by rw [ey]; exact ⟨Int.emod_nonneg _ (by omega), Int.emod_lt_of_pos _ np⟩
      refine ⟨_, rfl, _, rfl, rfl, _, rfl, ?_⟩
      refine ite2 (fun e => ?_) (fun e => ?_)
      · have hne : x ≠ y := fun z => nd_of e (congrArg V.int (by rw [← ex, ← ey]; exact z))
        refine ⟨_, rfl, .inl ⟨rfl, _, SqL.of hl⟩, _, rfl, _, rfl, by show 2 ≤ sizeLine; decide, fun t nt => ?_⟩
        refine ⟨l, _, _, rfl, rfl, by rw [upd_ne (ne_of_none hl nt)]; exact hl, small_line (by rw [List.length_map, hA.len]; omega), ?_⟩
        refine ⟨_, _, _, lks ++ [(x, y)], rfl, upd_out (s2.trans (same_upd nt)) nl, by rw [ex, ey]; exact link_push hl hA nt, ?_, by rw [List.length_append]; show lks.length + 1 ≤ i + 1; omega⟩
        intro q m
        rcases List.mem_append.mp m with m | m
        · exact hok q m
        · rw [List.mem_singleton.mp m]
          exact ⟨hx, hy, hne⟩
      · exact ⟨_, _, _, lks, rfl, s2, ⟨as, hl, hA⟩, hok, by omega⟩
    rintro σ H2 ⟨y4, y5, y6, lks, rfl, s2, hL2, hok, hlen⟩
    refine ⟨fun σ H3 => ∃ (y4 : Option V) (lks : List Lk), σ = [some (.ref a), some (.int (n : Nat)), some (.int (sz : Nat)), some (.ref l), y4, y5, y6] ∧ Same H H3 ∧ LinksAt H3 l lks ∧ (∀ q, q ∈ lks → LinkOk n q) ∧ lks.length ≤ 100, ?_, ?_⟩
    · refine ⟨_, rfl, a, ns, 0, rfl, s2.seq hS, _, _, rfl, rfl, ⟨by decide, by decide⟩, _, _, rfl, rfl, by show (0 : Int) < 2; decide, rfl, _, rfl, ?_⟩
      refine ite2 (fun e => ?_) (fun e => ?_)
      · refine ⟨_, rfl, _, _, rfl, rfl, _, rfl, by omega, by omega, for_range (lo := 0) (n := ((n : Int) - 1).toNat) (fun i σ H3 => ∃ (y4 : Option V) (lks3 : List Lk), σ = [some (.ref a), some (.int (n : Nat)), some (.int (sz : Nat)), some (.ref l), y4, y5, y6] ∧ Same H H3 ∧ LinksAt H3 l lks3 ∧ (∀ q, q ∈ lks3 → LinkOk n q) ∧ lks3.length ≤ 9 + i)
          ⟨y4, lks, rfl, s2, hL2, hok, by omega⟩ ?_ ?_⟩
        · rintro i σ H3 hi ⟨y4, lks3, rfl, s3, ⟨as, hl, hA⟩, hok3, hlen3⟩
          refine ⟨_, rfl, .inl ⟨rfl, _, SqL.of hl⟩, _, rfl, _, rfl, _, _, rfl, rfl, by show 2 ≤ sizeLine; decide, fun t nt => ?_⟩
          refine ⟨l, _, _, rfl, rfl, by rw [upd_ne (ne_of_none hl nt)]; exact hl, small_line (by rw [List.length_map, hA.len]; omega), ?_⟩
          refine ⟨_, lks3 ++ [((0 + (i : Nat) : Int), (0 + (i : Nat) + 1 : Int))], rfl, upd_out (s3.trans (same_upd nt)) nl, link_push hl hA nt, ?_, by rw [List.length_append]; show lks3.length + 1 ≤ 9 + (i + 1); omega⟩
          intro q m
          rcases List.mem_append.mp m with m | m
          · exact hok3 q m
          · rw [List.mem_singleton.mp m]
            exact ⟨⟨by show (0 : Int) ≤ 0 + (i : Nat); omega, by show (0 + (i : Nat) : Int) < n; omega⟩, ⟨by show (0 : Int) ≤ 0 + (i : Nat) + 1; omega, by show (0 + (i : Nat) + 1 : Int) < n; omega⟩, by show (0 + (i : Nat) : Int) ≠ 0 + (i : Nat) + 1; omega⟩
        · rintro σ H3 ⟨y4, lks3, rfl, s3, hL3, hok3, hlen3⟩
          exact ⟨y4, lks3, rfl, s3, hL3, hok3, by omega⟩
      · exact ⟨y4, lks, rfl, s2, hL2, hok, by omega⟩
    rintro σ H3 ⟨y4, lks3, rfl, s3, hL3, hok3, hlen3⟩
    exact ⟨_, rfl, q lks3 H3 l hok3 hlen3 s3 nl hL3⟩
/-! ### _law_ridden -/
def spRidden10 (C CW CL CA : Addr) : L2.Sp := fun vs H Q _ => ∃ (S D W : List Int) (Fx : Hp) (p wa ta : Addr) (book : Str → List FT.Ride) (O : Addr → Prop) (n : Nat) (c : Str) (day i j : Int) (s g : Nat) (zs : List Int) (lks : List Lk) (near : List (List Nat)) (L : Lv), vs = [.ref p, .str c, .int day, .int i, .int j] ∧ i = (s : Nat) ∧ j = (g : Nat) ∧
  Led CL CA ⟨S, D, W⟩ Fx H p wa ta book O n ∧ WebAt CW Fx wa zs lks near ∧ TarAt C Fx ta S D W ∧ n ≤ 900 ∧ s < zs.length ∧ g < zs.length ∧ IsLevels near zs s L ∧ FT.lastDay (book c) ≤ day ∧
  (lk L g = none → ∀ H' : Hp, Same H H' → Q .non H') ∧
  ∀ k : Nat, lk L g = some k → ∀ (H' : Hp) (O' : Addr → Prop), (∀ b o, H b = some o → ¬ O b → H' b = some o) → (∀ b, O' b → O b ∨ H b = none) →
    Led CL CA ⟨S, D, W⟩ Fx H' p wa ta (addTo book c ⟨day, i, j, min k 5, FT.charge ⟨S, D, W⟩ (book c) day (min k 5)⟩) O' (n + 1) → Q (.int (FT.charge ⟨S, D, W⟩ (book c) day (min k 5))) H'
theorem ok_ridden10 {f : Addr} {fd : FuncData} (F : Fun K "_law_ridden" "_law_ridden" sRidden10 f fd) (Dg : Prg K mg C CP CZ CW CB CS CN CA CL CD) (gN : mg "NoWay" = some (.ref CN)) (cN : CatchF K CN CN) :
    FnOk P w K mg base CX0 7 f fd ["_law_ledger", "_law_card", "_law_day", "_law_start", "_law_goal"] (spRidden10 C CW CL CA) := by
  obtain ⟨r1, t1, R1, i1, m1⟩ := Dg.ride.ex
  have G1 : FnOk P w K mg base (L2N.CX P w) 6 r1 t1 ["self", "card", "day", "start", "goal"] (spRide C CW CS CN CD CL CA) := ok_ride Dg R1
  refine F.ok scRidden10 (fun vs H Q E h => ?_) (fun cdv A outer s0 H vs Q E hr h => ?_)
  · obtain ⟨S, D, W, Fx, p, wa, ta, book, O, n, c, day, i, j, s, g, zs, lks, near, L, rfl, _⟩ := h
    rfl
  · obtain ⟨S, D, W, Fx, p, wa, ta, book, O, n, c, day, i, j, s, g, zs, lks, near, L, rfl, ei, ej, LD, WA, TA, hn, hs, hg, IL, hday, q1, q2⟩ := h
    refine ⟨_, pss_one (L2N.ps_try_many rfl rfl takes0N (fun W pn xe tk _ => pss_one (ps_ret (pe_meth (pv 0) Dg.L.cl m1 G1 hr i1 .nil (passTry 5 tk) (pa_cons (pv 1) (pa_cons (pv 2) (pa_cons (pv 3) (pa_cons (pv 4) pa_nil)))))))
        (L2N.HdsOk.cons ⟨rfl, by decide, .inl gN⟩ (fun a oe cls d pn _ _ => pss_one (ps_ret pe_non)) L2N.HdsOk.nil)), ?_⟩
    obtain ⟨dx, aa, hp⟩ := LD.at_p
    refine ⟨_, rfl, p, dx, _, rfl, hp, lf_no (by decide +kernel), _, rfl, _, rfl, _, rfl, _, rfl, ?_⟩
    refine ⟨S, D, W, Fx, p, wa, ta, book, O, n, c, day, i, j, zs, lks, near, rfl, LD, WA, TA, hn, fun s' g' es eg hs' hg' Lv IL' => ?_, fun no => absurd ⟨⟨by omega, by omega⟩, by omega, by omega⟩ no⟩
    have e1 : s' = s := by omega
    have e2 : g' = g := by omega
    subst e1 e2
    have eL : Lv = L := IL'.unique IL
    subst eL
    exact ⟨fun no H' s' σ len => ⟨true, caughtF cN, fun _ a na => q1 no H' s', fun z => Bool.noConfusion z⟩, fun k ek => ⟨fun lt => by omega, fun _ H' O' fr nw L' => q2 k ek H' O' fr nw L'⟩⟩
end
end FW

namespace FW
open PySem PySem.Spec PyProof.Rows L2
abbrev sRows : Stmt := top 39
theorem scRows : FnScope ["_law_script", "_law_most", "_law_rows_here", "_law_sort", "_law_k"] ["_law_script"] (defScope sRows) := ⟨rfl, rfl, rfl, by decide +kernel, rfl, by decide +kernel, by decide +kernel⟩
def RowsAt (H : Hp) (l : Addr) (as : List Addr) (rs : List (List Int)) : Prop := H l = some (.lst (as.map V.ref)) ∧ All2 (RowAt H) as rs
section
variable {P : Program} {w : World} {K : PySem.W.Frag} {mg : Str → Option Value} {base : Heap}
/-! ### _law_rows -/
def spRows (K : PySem.W.Frag) : L2.Sp := fun vs H Q _ => ∃ (a : Addr) (ns : List Int), vs = [.ref a] ∧ SqL K H a (ns.map V.int) ∧
  ∀ (H' : Hp) (ra : Addr) (as : List Addr) (rs : List (List Int)), Same H H' → H ra = none → RowsAt H' ra as rs → rs.length = 3 → (∀ r, r ∈ rs → Five r) → as.Nodup → (∀ b, b ∈ as → b ≠ ra ∧ H b = none) → Q (.ref ra) H'
theorem pick3 (i : Int) (h0 : 0 ≤ i) (h : i < 3) (a b c : Int) : ∃ y : Int, atI [V.int a, .int b, .int c] i = some (.int y) ∧ (y = a ∨ y = b ∨ y = c) := by
  rcases (show i = 0 ∨ i = 1 ∨ i = 2 by omega) with rfl | rfl | rfl
  · exact ⟨a, rfl, .inl rfl⟩
  · exact ⟨b, rfl, .inr (.inl rfl)⟩
  · exact ⟨c, rfl, .inr (.inr rfl)⟩
theorem ok_rows {f fC : Addr} {fd fdC : FuncData} (F : Fun K "_law_rows" "_law_rows" sRows f fd) (gR : mg "range" = none) (gL : mg "len" = none) (FC : Fun K "_law_cell_at" "_law_cell_at" sCell fC fdC) (bC : Binds K fdC ["_law_script", "_law_k"] []) (gC : mg "_law_cell_at" = some (.ref fC)) :
    FnOk P w K mg base CX0 2 f fd ["_law_script"] (spRows K) := by
  have GC : FnOk P w K mg base CX0 1 fC fdC ["_law_script", "_law_k"] (spCell K) := ok_cell FC gL
  refine F.ok scRows (fun vs H Q E h => ?_) (fun cdv A outer s H vs Q E hr h => ?_)
  · obtain ⟨a, ns, rfl, _⟩ := h
    rfl
  · obtain ⟨a, ns, rfl, hS, q⟩ := h
    refine ⟨_, C8.pss_cut (ps_set (i := 1) scRows.nd rfl (.inr rfl) (pe_ix ix_list (pe_lst (pa_cons pe_int (pa_cons pe_int (pa_cons pe_int pa_nil)))) (pe_op op_mod (pe_op op_fdiv (pe_call GC hr (by rfl) gC FC.kp bC .nil pass0 (pa_cons (pv 0) (pa_cons pe_int pa_nil))) pe_int) pe_int) (fun _ _ => rfl)))
      (pss_cons (ps_set (i := 2) scRows.nd rfl (.inl rfl) (pe_lst pa_nil))
      (C8.pss_cut (ps_for PassesOwn.never rfl (pi_range1 (by rfl) gR (pa_cons pe_int pa_nil)) (pg_name (i := 3) scRows.nd rfl (.inr rfl))
        (pss_one (ps_expr (pe_bm PySem.F.plainAttrs_list PySem.F.slot_list_append PySem.F.type_list_append mt_append (pv 2) (pa_cons
          (pe_lc (own := [("_law_k", 4)]) (g := gName 4) (by rfl) scRows.nd (pi_range1 (by rfl) gR (pa_cons pe_int pa_nil)) (blkOk_by (own := [("_law_k", 4)]) (N := ["_law_script", "_law_most", "_law_rows_here", "_law_sort", "_law_k"]) (sc := defScope sRows) (by decide +kernel)) (fun _ _ _ _ _ => pg_name (i := 4) scRows.nd rfl (Or.inl rfl)) (fun _ _ _ _ _ => pts_nil)
            (fun _ _ _ _ _ => pe_op op_mod (pe_call GC hr (by rfl) gC FC.kp bC .nil pass0 (pa_cons (pv 0) (pa_cons (pe_op op_add (pe_op op_add pe_int (pe_op op_mul pe_int (pv 3))) (pv 4)) pa_nil))) (pv 1))) pa_nil)))))
      (pss_one (ps_ret (pv 2))))), ?_⟩
    -- _law_most
    refine ⟨fun σ H1 => Same H H1 ∧ ∃ m : Int, 0 < m ∧ σ = [some (.ref a), some (.int m), none, none, none], ?_, ?_⟩
    · refine ⟨by show 3 ≤ sizeLine; decide, fun p np => ?_⟩
      have sp := same_upd (o := .lst [V.int 1000, .int 7, .int 1000]) np
      obtain ⟨y, ey, hy⟩ := pick3 (cell ns 0 / 180 % 3) (by omega) (by omega) 1000 7 1000
      refine ⟨_, rfl, a, ns, 0, rfl, sp.seq hS, _, _, rfl, rfl, ⟨by decide, by decide⟩, _, _, rfl, rfl, by show (0 : Int) < 3; decide, p, _, _, _, rfl, rfl, SqL.of upd_same, ey, sp, y, ?_, rfl⟩
      rcases hy with rfl | rfl | rfl
      · decide
      · decide
      · decide
    rintro σ H1 ⟨s1, m, hm, rfl⟩
    refine ⟨Nat.zero_le _, fun ra nra => ?_⟩
    refine ⟨fun σ H3 => ∃ (y4 : Option V) (as : List Addr) (rs : List (List Int)), σ = [some (.ref a), some (.int m), some (.ref ra), y4, none] ∧ Same H1 H3 ∧ RowsAt H3 ra as rs ∧ rs.length = 3 ∧ (∀ r, r ∈ rs → Five r) ∧ as.Nodup ∧ ∀ b, b ∈ as → b ≠ ra ∧ H1 b = none, ?_, ?_⟩
    · refine ⟨3, rfl, by decide, by decide, for_range (lo := 0) (n := 3) (fun i σ H3 => ∃ (y4 : Option V) (as : List Addr) (rs : List (List Int)), σ = [some (.ref a), some (.int m), some (.ref ra), y4, none] ∧ Same H1 H3 ∧ RowsAt H3 ra as rs ∧ rs.length = i ∧ (∀ r, r ∈ rs → Five r) ∧ as.Nodup ∧ ∀ b, b ∈ as → b ≠ ra ∧ H1 b = none)
        ⟨none, [], [], rfl, same_upd nra, ⟨upd_same, .nil⟩, rfl, by simp, List.nodup_nil, by simp⟩ ?_ (fun σ H3 h => h)⟩
      rintro i σ H3 hi ⟨y4, as, rs, rfl, s3, ⟨hra, hA⟩, hl, hf, nd, hnew⟩
      refine ⟨_, rfl, .inl ⟨rfl, _, SqL.of hra⟩, 5, rfl, by decide, by decide, fun d hd => ?_⟩
      have nrd : ra ≠ d := ne_of_none hra hd
      refine lc_range (lo := 0) (n := 5) (fun j H' => (∀ b o, H3 b = some o → H' b = some o) ∧ ∃ r : List Int, H' d = some (.lst (r.map V.int)) ∧ r.length = j ∧ ∀ x, x ∈ r → 0 ≤ x) ⟨same_upd hd, [], upd_same, rfl, by simp⟩ ?_ ?_
      · rintro j H' hj ⟨s', r, hr', hlr, hpos⟩
        refine ⟨rfl, ?_⟩
        refine tYes_if ?_
        refine ⟨_, rfl, _, rfl, _, _, rfl, rfl, .inl ⟨by omega, by omega⟩, _, _, rfl, rfl, _, rfl, _, _, rfl, rfl, a, ns, 3 + 5 * i + j, ?_, (s1.trans (s3.trans s')).seq hS, _, rfl, _, _, rfl, rfl, hm, r.map V.int, hr', small_line (by rw [List.length_map]; omega), upd_out s' hd, r ++ [cell ns (3 + 5 * i + j) % m], by rw [upd_same, List.map_append]; rfl, by rw [List.length_append, hlr]; rfl, fun x mx => ?_⟩
        · show [V.ref a, V.int (3 + 5 * (0 + (i : Nat)) + (0 + (j : Nat)))] = [V.ref a, V.int ((3 + 5 * i + j : Nat) : Int)]
          rw [show ((3 + 5 * i + j : Nat) : Int) = 3 + 5 * (0 + (i : Nat)) + (0 + (j : Nat)) by omega]
        · rcases List.mem_append.mp mx with mx | mx
          · exact hpos x mx
          · rw [List.mem_singleton.mp mx]
            exact Int.emod_nonneg _ (by omega)
      · rintro H' ⟨s', r, hr', hlr, hpos⟩
        have hra' := s' _ _ hra
        refine ⟨ra, _, _, rfl, rfl, hra', small_line (by rw [List.length_map, hA.len]; omega), ?_⟩
        refine ⟨_, as ++ [d], rs ++ [r], rfl, upd_out (s3.trans s') nra, ⟨by rw [upd_same, List.map_append]; rfl, ?_⟩, by rw [List.length_append, hl]; rfl, fun x mx => ?_, ?_, fun b mb => ?_⟩
        · refine All2.app (hA.imp_mem fun b x mb rb => ?_) (All2.one ?_)
          · show upd H' ra _ b = _
            rw [upd_ne (hnew b mb).1]
            exact s' _ _ rb
          · show upd H' ra _ d = _
            rw [upd_ne nrd.symm]
            exact hr'
        · rcases List.mem_append.mp mx with mx | mx
          · exact hf x mx
          · rw [List.mem_singleton.mp mx]
            exact ⟨hlr, hpos⟩
        · refine List.nodup_append.mpr ⟨nd, by simp, fun b mb c mc => ?_⟩
          rw [List.mem_singleton.mp mc]
          obtain ⟨j, hj⟩ := List.getElem?_of_mem mb
          obtain ⟨b', _, rb⟩ := hA.getL hj
          exact ne_of_none rb hd
        · rcases List.mem_append.mp mb with mb | mb
          · exact hnew b mb
          · rw [List.mem_singleton.mp mb]
            exact ⟨nrd.symm, s3.free hd⟩
    rintro σ H3 ⟨y4, as, rs, rfl, s3, hR, hl3, hf, nd, hnew⟩
    exact ⟨_, rfl, q H3 ra as rs (s1.trans s3) (s1.free nra) hR hl3 hf nd fun b mb => ⟨(hnew b mb).1, s1.free (hnew b mb).2⟩⟩
end
end FW

namespace FW
open PySem PySem.Spec PyProof.Rows L2
abbrev sServes : Stmt := top 44
abbrev sCost10 : Stmt := top 45
theorem scServes : FnScope ["_law_ticket", "_law_day", "_law_ride", "_law_zones"] ["_law_ticket", "_law_day", "_law_ride", "_law_zones"] (defScope sServes) := ⟨rfl, rfl, rfl, by decide +kernel, rfl, by decide +kernel, by decide +kernel⟩
theorem scCost10 : FnScope ["_law_tickets", "_law_days", "_law_rows_here", "_law_cost_here", "_law_ticket", "_law_sort", "_law_day", "_law_ride"] ["_law_tickets", "_law_days", "_law_rows_here"] (defScope sCost10) := ⟨rfl, rfl, rfl, by decide +kernel, rfl, by decide +kernel, by decide +kernel⟩
def cost10N : List Str := ["_law_tickets", "_law_days", "_law_rows_here", "_law_cost_here", "_law_ticket", "_law_sort", "_law_day", "_law_ride"]
theorem row_at {r : List Int} (f : Five r) {o : Nat} (h1 : 1 ≤ o) (h5 : o ≤ 5) : atI (r.map V.int) ((o : Int) - 1) = some (.int (FT.pr r o)) := by
  have hl : o - 1 < r.length := by rw [f.1]; omega
  refine at_of (j := o - 1) (by omega) ?_
  rw [List.getElem?_map]
  unfold FT.pr
  rw [List.getD_eq_getElem?_getD, List.getElem?_eq_getElem hl]
  rfl
/-- what a ticket as it is told shows -/
theorem tk_facts {T : FT.Tar} (tok : T.Ok) {H : Hp} {t : Addr} {k : FT.Tk} (h : TkAt T H t k) (ok : k.Ok) {days : List (List Nat)} (hin : TkIn days k) :
    ∃ (nm : Str) (xs : List V) (ns : List Int) (so z : Nat), H t = some (.tup xs) ∧ xs = .str nm :: ns.map V.int ∧ xs.length = 5 - so ∧ so ≤ 2 ∧ (∀ n, n ∈ ns → 0 ≤ n) ∧ 1 ≤ z ∧ z ≤ 5 ∧ atI xs 0 = some (.str nm) ∧ atI xs (-2) = some (.int (z : Nat)) ∧
      atI xs (-1) = some (.int (FT.pr (rowOf so T.s T.d T.w) z)) ∧ atI [V.str "single", V.str "day", V.str "week"] (so : Nat) = some (.str nm) ∧
      (so < 2 → ∃ d : Nat, atI xs 1 = some (.int (d : Nat)) ∧ d < days.length ∧ (so = 0 → ∃ (i : Nat) (zs : List Nat), atI xs 2 = some (.int (i : Nat)) ∧ days[d]? = some zs ∧ i < zs.length)) := by
  cases k with
  | week z =>
    have hp := tok.w z ok.1 ok.2
    refine ⟨"week", _, [(z : Nat), FT.pr T.w z], 2, z, h, rfl, rfl, by decide, ?_, ok.1, ok.2, rfl, rfl, rfl, rfl, fun z => by omega⟩
    intro n m
    simp only [List.mem_cons, List.not_mem_nil, or_false] at m
    rcases m with rfl | rfl
    · omega
    · exact hp
  | day d z =>
    have hp := tok.d z ok.1 ok.2
    refine ⟨"day", _, [(d : Nat), (z : Nat), FT.pr T.d z], 1, z, h, rfl, rfl, by decide, ?_, ok.1, ok.2, rfl, rfl, rfl, rfl, fun _ => ⟨d, rfl, hin, fun z => by omega⟩⟩
    intro n m
    simp only [List.mem_cons, List.not_mem_nil, or_false] at m
    rcases m with rfl | rfl | rfl
    · omega
    · omega
    · exact hp
  | single d i z =>
    have hp := tok.s z ok.1 ok.2
    obtain ⟨zs, ez, hi⟩ := hin
    refine ⟨"single", _, [(d : Nat), (i : Nat), (z : Nat), FT.pr T.s z], 0, z, h, rfl, rfl, by decide, ?_, ok.1, ok.2, rfl, rfl, rfl, rfl, fun _ => ⟨d, rfl, (List.getElem?_eq_some_iff.mp ez).1, fun _ => ⟨i, zs, rfl, ez, hi⟩⟩⟩
    intro n m
    simp only [List.mem_cons, List.not_mem_nil, or_false] at m
    rcases m with rfl | rfl | rfl | rfl
    · omega
    · omega
    · omega
    · exact hp
theorem tk_price10 {T : FT.Tar} {H : Hp} {t : Addr} {k : FT.Tk} (h : TkAt T H t k) : ∃ xs : List V, H t = some (.tup xs) ∧ atI xs (-1) = some (.int (k.price T)) := by
  cases k with
  | week z => exact ⟨_, h, rfl⟩
  | day d z => exact ⟨_, h, rfl⟩
  | single d i z => exact ⟨_, h, rfl⟩
theorem tk_same10 {T : FT.Tar} {H H' : Hp} {t : Addr} {k : FT.Tk} (h : TkAt T H t k) (s : Same H H') : TkAt T H' t k := by
  cases k with
  | week z => exact s _ _ h
  | day d z => exact s _ _ h
  | single d i z => exact s _ _ h
section
variable {P : Program} {w : World} {K : PySem.W.Frag} {mg : Str → Option Value} {base : Heap} {C CP CZ CW CB CS CN CA CL CD : Addr}
/-! ### _law_serves, _law_served -/
def spServes : L2.Sp := fun vs H Q _ => ∃ (t : Addr) (d i z : Nat) (T : FT.Tar) (k : FT.Tk), vs = [.ref t, .int (d : Nat), .int (i : Nat), .int (z : Nat)] ∧ TkAt T H t k ∧ ∀ b : Bool, (b = true ↔ k.Serves d i z) → Q (.bl b) H
theorem ok_serves {f : Addr} {fd : FuncData} (F : Fun K "_law_serves" "_law_serves" sServes f fd) : FnOk P w K mg base CX0 1 f fd ["_law_ticket", "_law_day", "_law_ride", "_law_zones"] spServes := by
  refine F.ok scServes (fun vs H Q E h => ?_) (fun cdv A outer s H vs Q E hr h => ?_)
  · obtain ⟨t, d, i, z, T, k, rfl, _⟩ := h
    rfl
  · obtain ⟨t, d, i, z, T, k, rfl, hk, q⟩ := h
    refine ⟨_, pss_cons (ps_if (pt_cmpR op_lt (pe_ix ix_tup (pv 0) (pe_un un_neg pe_int) (fun _ _ => rfl)) (pv 3) (nomark _)) (pss_one (ps_ret pe_bl)) pss_nil)
      (pss_cons (ps_if (pt_cmpR op_eq (pe_ix ix_tup (pv 0) pe_int (fun _ _ => rfl)) pe_str (nomark _)) (pss_one (ps_ret pe_bl)) pss_nil)
      (pss_one (ps_ret (pe_and (pe_cmpR op_eq (pe_ix ix_tup (pv 0) pe_int (fun _ _ => rfl)) (pv 1) (nomark _)) (pe_one (pe_or (pe_cmpR op_eq (pe_ix ix_tup (pv 0) pe_int (fun _ _ => rfl)) pe_str (nomark _)) (pe_one (pe_cmpR op_eq (pe_ix ix_tup (pv 0) pe_int (fun _ _ => rfl)) (pv 2) (nomark _))))))))), ?_⟩
    cases k with
    | week z' =>
      have hk' : H t = some (.tup [.str "week", .int (z' : Nat), .int (FT.pr T.w z')]) := hk
      have g0 : atI [V.str "week", .int (z' : Nat), .int (FT.pr T.w z')] 0 = some (.str "week") := rfl
      have gz : atI [V.str "week", .int (z' : Nat), .int (FT.pr T.w z')] (-2) = some (.int (z' : Nat)) := rfl
      refine ⟨_, rfl, _, rfl, t, _, _, _, rfl, rfl, SqT.of hk', gz, _, rfl, _, _, rfl, rfl, _, rfl, ?_⟩
      refine ite2 (fun e => ?_) (fun e => ?_)
      · have : (z' : Int) < z := of_decide_eq_true e
        exact q false ⟨fun y => Bool.noConfusion y, fun y => by have y' : z ≤ z' := y; omega⟩
      · have : ¬ (z' : Int) < z := fun y => e (decide_eq_true y)
        refine ⟨_, rfl, t, _, _, _, rfl, rfl, SqT.of hk', g0, rfl, _, rfl, ?_⟩
        refine ite2 (fun _ => ?_) (fun e => absurd (decide_eq_true rfl) e)
        exact q true ⟨fun _ => (by omega : z ≤ z'), fun _ => rfl⟩
    | day d' z' =>
      have hk' : H t = some (.tup [.str "day", .int (d' : Nat), .int (z' : Nat), .int (FT.pr T.d z')]) := hk
      have g0 : atI [V.str "day", .int (d' : Nat), .int (z' : Nat), .int (FT.pr T.d z')] 0 = some (.str "day") := rfl
      have g1 : atI [V.str "day", .int (d' : Nat), .int (z' : Nat), .int (FT.pr T.d z')] 1 = some (.int (d' : Nat)) := rfl
      have gz : atI [V.str "day", .int (d' : Nat), .int (z' : Nat), .int (FT.pr T.d z')] (-2) = some (.int (z' : Nat)) := rfl
      refine ⟨_, rfl, _, rfl, t, _, _, _, rfl, rfl, SqT.of hk', gz, _, rfl, _, _, rfl, rfl, _, rfl, ?_⟩
      refine ite2 (fun e => ?_) (fun e => ?_)
      · have : (z' : Int) < z := of_decide_eq_true e
        exact q false ⟨fun y => Bool.noConfusion y, fun y => by have y' : d = d' ∧ z ≤ z' := y; omega⟩
      · have hz : ¬ (z' : Int) < z := fun y => e (decide_eq_true y)
        refine ⟨_, rfl, t, _, _, _, rfl, rfl, SqT.of hk', g0, rfl, _, rfl, ?_⟩
        refine ite2 (fun e => ?_) (fun _ => ?_)
        · exact absurd (of_decide_eq_true e) (by decide +kernel)
        refine ⟨_, rfl, t, _, _, _, rfl, rfl, SqT.of hk', g1, _, rfl, rfl, _, rfl, ?_⟩
        refine ite2 (fun e => ?_) (fun e => ?_)
        · have hd : d = d' := by have := V.int.inj (of_decide_eq_true e); omega
          refine ⟨_, rfl, t, _, _, _, rfl, rfl, SqT.of hk', g0, rfl, _, rfl, ?_⟩
          refine ite2 (fun _ => ?_) (fun e => absurd (decide_eq_true rfl) e)
          exact q true ⟨fun _ => (⟨hd, by omega⟩ : d = d' ∧ z ≤ z'), fun _ => rfl⟩
        · exact q false ⟨fun y => Bool.noConfusion y, fun y => by
            have y' : d = d' ∧ z ≤ z' := y
            exact absurd (decide_eq_true (by rw [y'.1])) e⟩
    | single d' i' z' =>
      have hk' : H t = some (.tup [.str "single", .int (d' : Nat), .int (i' : Nat), .int (z' : Nat), .int (FT.pr T.s z')]) := hk
      have g0 : atI [V.str "single", .int (d' : Nat), .int (i' : Nat), .int (z' : Nat), .int (FT.pr T.s z')] 0 = some (.str "single") := rfl
      have g1 : atI [V.str "single", .int (d' : Nat), .int (i' : Nat), .int (z' : Nat), .int (FT.pr T.s z')] 1 = some (.int (d' : Nat)) := rfl
      have g2 : atI [V.str "single", .int (d' : Nat), .int (i' : Nat), .int (z' : Nat), .int (FT.pr T.s z')] 2 = some (.int (i' : Nat)) := rfl
      have gz : atI [V.str "single", .int (d' : Nat), .int (i' : Nat), .int (z' : Nat), .int (FT.pr T.s z')] (-2) = some (.int (z' : Nat)) := rfl
      refine ⟨_, rfl, _, rfl, t, _, _, _, rfl, rfl, SqT.of hk', gz, _, rfl, _, _, rfl, rfl, _, rfl, ?_⟩
      refine ite2 (fun e => ?_) (fun e => ?_)
      · have : (z' : Int) < z := of_decide_eq_true e
        exact q false ⟨fun y => Bool.noConfusion y, fun y => by have y' : d = d' ∧ i = i' ∧ z ≤ z' := y; omega⟩
      · have hz : ¬ (z' : Int) < z := fun y => e (decide_eq_true y)
        refine ⟨_, rfl, t, _, _, _, rfl, rfl, SqT.of hk', g0, rfl, _, rfl, ?_⟩
        refine ite2 (fun e => ?_) (fun _ => ?_)
        · exact absurd (of_decide_eq_true e) (by decide +kernel)
        refine ⟨_, rfl, t, _, _, _, rfl, rfl, SqT.of hk', g1, _, rfl, rfl, _, rfl, ?_⟩
        refine ite2 (fun e => ?_) (fun e => ?_)
        · have hd : d = d' := by have := V.int.inj (of_decide_eq_true e); omega
          refine ⟨_, rfl, t, _, _, _, rfl, rfl, SqT.of hk', g0, rfl, _, rfl, ?_⟩
          refine ite2 (fun e => ?_) (fun _ => ?_)
          · exact absurd (of_decide_eq_true e) (by decide +kernel)
          refine ⟨_, rfl, t, _, _, _, rfl, rfl, SqT.of hk', g2, _, rfl, rfl, q _ ?_⟩
          rw [decide_eq_true_iff]
          exact ⟨fun y => (⟨hd, by have := V.int.inj y; omega, by omega⟩ : d = d' ∧ i = i' ∧ z ≤ z'), fun y => by
            have y' : d = d' ∧ i = i' ∧ z ≤ z' := y
            rw [y'.2.1]⟩
        · exact q false ⟨fun y => Bool.noConfusion y, fun y => by
            have y' : d = d' ∧ i = i' ∧ z ≤ z' := y
            exact absurd (decide_eq_true (by rw [y'.1])) e⟩
/-! ### _law_cost -/
def spCost10 : L2.Sp := fun vs H Q _ => ∃ (tl dl ra : Addr) (tas bs as : List Addr) (S D W : List Int) (ts : List FT.Tk) (days : List (List Nat)), vs = [.ref tl, .ref dl, .ref ra] ∧ H tl = some (.lst (tas.map V.ref)) ∧ All2 (TkAt ⟨S, D, W⟩ H) tas ts ∧ ts.length ≤ 100000 ∧ (∀ k, k ∈ ts → k.Ok ∧ TkIn days k) ∧ FT.AllServed ts days ∧
  H dl = some (.lst (bs.map V.ref)) ∧ All2 (NatsAt H) bs days ∧ days.length = 7 ∧ (∀ zs, zs ∈ days → zs.length ≤ 1000) ∧ RowsAt H ra as [S, D, W] ∧ (Five S ∧ Five D ∧ Five W) ∧ ∀ H', Same H H' → Q (.int (FT.cost ⟨S, D, W⟩ ts)) H'
theorem ok_cost10 {f fW fS : Addr} {fd dW dS : FuncData} (F : Fun K "_law_cost" "_law_cost" sCost10 f fd) (T : LT mg) (gtuple : mg "tuple" = none) (FW : Fun K "_law_whole" "_law_whole" sWhole fW dW) (bW : Binds K dW ["_law_found"] []) (gW : mg "_law_whole" = some (.ref fW))
    (FS : Fun K "_law_serves" "_law_serves" sServes fS dS) (bS : Binds K dS ["_law_ticket", "_law_day", "_law_ride", "_law_zones"] []) (gS : mg "_law_serves" = some (.ref fS)) :
    FnOk P w K mg base CX0 2 f fd ["_law_tickets", "_law_days", "_law_rows_here"] spCost10 := by
  have GW : FnOk P w K mg base CX0 1 fW dW ["_law_found"] spWhole := ok_whole FW T.isi T.int T.bool
  have GS : FnOk P w K mg base CX0 1 fS dS ["_law_ticket", "_law_day", "_law_ride", "_law_zones"] spServes := ok_serves FS
  refine F.ok scCost10 (fun vs H Q E h => ?_) (fun cdv A outer s H vs Q E hr h => ?_)
  · obtain ⟨tl, dl, ra, tas, bs, as, S, D, W, ts, days, rfl, _⟩ := h
    rfl
  · obtain ⟨tl, dl, ra, tas, bs, as, S, D, W, ts, days, rfl, htl, hT, lts, hok, hsv, hdl, hB, l7, hsh, ⟨hra, hA⟩, f3, q⟩ := h
    have h1 := hr
    refine ⟨_, pss_cons (ps_set (i := 3) scCost10.nd rfl (.inl rfl) pe_int)
      (C8.pss_cut (ps_for PassesOwn.never rfl (pi_list (pv 0)) (pg_name (i := 4) scCost10.nd rfl (.inl rfl))
        (pss_cons (ps_if (PW.pt (pw_or (pt_not (pt_val (pe_callB call_isi (by rfl) T.isi boot_isinstance (pa_cons (pv 4) (pa_cons (pe_bltn (v := .ty "tuple") (by rfl) gtuple (by decide +kernel) rfl) pa_nil))))) (pw_or1 (pt_not (pt_chain op_le op_le pe_int (pe_callB call_len_seq (by rfl) T.len PySem.boot_len (pa_cons (pv 4) pa_nil)) pe_int))))) (pss_one (ps_ret (pe_un un_neg pe_int))) pss_nil)
        (C8.pss_cut (ps_set (i := 5) scCost10.nd rfl (.inl rfl) (pe_op op_sub pe_int (pe_callB call_len_seq (by rfl) T.len PySem.boot_len (pa_cons (pv 4) pa_nil))))
        (pss_cons (ps_if (PW.pt (pw_or (pt_cmpR op_ne (pe_ix ix_tup (pv 4) pe_int (fun _ _ => rfl)) (pe_ix ix_list (pe_lst (pa_cons pe_str (pa_cons pe_str (pa_cons pe_str pa_nil)))) (pv 5) (fun _ _ => rfl)) (nomark _)) (pw_or1 (pt_not (pt_chain op_le op_le pe_int (pe_ix ix_tup (pv 4) (pe_un un_neg pe_int) (fun _ _ => rfl)) pe_int))))) (pss_one (ps_ret (pe_un un_neg pe_int))) pss_nil)
        (pss_cons (ps_if (PW.pt (pw_or (pt_not (pt_val (pe_call GW h1 (by rfl) gW FW.kp bW .nil pass0 (pa_cons (pe_ix ix_tup (pv 4) (pe_un un_neg pe_int) (fun _ _ => rfl)) pa_nil)))) (pw_or1 (pt_cmpR op_ne (pe_ix ix_tup (pv 4) (pe_un un_neg pe_int) (fun _ _ => rfl)) (pe_ix ix_list (pe_ix ix_list (pv 2) (pv 5) (fun _ _ => rfl)) (pe_op op_sub (pe_ix ix_tup (pv 4) (pe_un un_neg pe_int) (fun _ _ => rfl)) pe_int) (fun _ _ => rfl)) (nomark _))))) (pss_one (ps_ret (pe_un un_neg pe_int))) pss_nil)
        (pss_one (ps_set (i := 3) scCost10.nd rfl (.inl rfl) (pe_op op_add (pv 3) (pe_ix ix_tup (pv 4) (pe_un un_neg pe_int) (fun _ _ => rfl))))))))))
      (C8.pss_cut (ps_for PassesOwn.never rfl (pi_range1 (by rfl) T.range (pa_cons pe_int pa_nil)) (pg_name (i := 6) scCost10.nd rfl (.inr rfl))
        (pss_one (ps_for PassesOwn.never rfl (pi_range1 (by rfl) T.range (pa_cons (pe_callB call_len_seq (by rfl) T.len PySem.boot_len (pa_cons (pe_ix ix_list (pv 1) (pv 6) (fun _ _ => rfl)) pa_nil)) pa_nil)) (pg_name (i := 7) scCost10.nd rfl (.inr rfl))
          (pss_one (ps_if (pt_cmpR (op_notIn_seq) pe_bl (pe_lc (own := [("_law_ticket", 4)]) (g := gName 4) (by rfl) scCost10.nd (pi_list (pv 0)) (blkOk_by (own := [("_law_ticket", 4)]) (N := cost10N) (sc := defScope sCost10) (by decide +kernel)) (fun _ _ _ _ _ => pg_name (i := 4) scCost10.nd rfl (Or.inl rfl)) (fun _ _ _ _ _ => pts_nil)
            (fun _ _ _ _ _ => pe_call GS h1 (by rfl) gS FS.kp bS .nil pass0 (pa_cons (pv 4) (pa_cons (pv 6) (pa_cons (pv 7) (pa_cons (pe_ix (r := rIxL K) ix_list (pe_ix (r := rIxL K) ix_list (pv 1) (pv 6) (fun _ _ => rfl)) (pv 7) (fun _ _ => rfl)) pa_nil)))))) (by rfl)) (pss_one (ps_ret (pe_un un_neg pe_int))) pss_nil)))))
      (pss_one (ps_ret (pv 3))))), ?_⟩
    obtain ⟨a0, a1, a2, rfl⟩ : ∃ x y z, as = [x, y, z] := by
      have := hA.len
      match as, this with
      | [x, y, z], _ => exact ⟨x, y, z, rfl⟩
    have e0 : FT.cost ⟨S, D, W⟩ (ts.take 0) = 0 := rfl
    refine ⟨fun σ H' => Same H H' ∧ ∃ y4 y5 : Option V, σ = [some (.ref tl), some (.ref dl), some (.ref ra), some (.int (FT.cost ⟨S, D, W⟩ ts)), y4, y5, none, none], ?_, ?_⟩
    · refine ⟨_, rfl, tl, rfl, ⟨_, SqL.of htl⟩, for_list (K := K) (a := tl) (xs := tas.map V.ref) (fun i σ H' => Same H H' ∧ ∃ y4 y5 : Option V, σ = [some (.ref tl), some (.ref dl), some (.ref ra), some (.int (FT.cost ⟨S, D, W⟩ (ts.take i))), y4, y5, none, none])
        ⟨fun _ _ e => e, none, none, rfl⟩ (fun i σ H' _ ⟨s', _⟩ => SqL.of (s' _ _ htl)) ?_ ?_⟩
      · rintro i v σ H' hi ⟨s', y4, y5, rfl⟩
        obtain ⟨t, ht0, rfl⟩ : ∃ t, tas[i]? = some t ∧ v = V.ref t := by
          rw [List.getElem?_map] at hi
          cases e : tas[i]? with
          | none =>
            rw [e] at hi
            cases hi
          | some t0 =>
            rw [e] at hi
            exact ⟨t0, rfl, (Option.some.inj hi).symm⟩
        obtain ⟨k, hk0, at0⟩ := hT.getL ht0
        obtain ⟨kok, kin⟩ := hok k (List.mem_of_getElem? hk0)
        obtain ⟨nm, xs, ns, so, z, ht, exs, lxs, hso, hns, z1, z5, g0, gz, gp, gn, gd⟩ := tk_facts (five_ok f3) at0 kok kin
        clear gd
        have hlx : 3 ≤ xs.length ∧ xs.length ≤ 5 := by omega
        have ht' := s' _ _ ht
        have epr : k.price ⟨S, D, W⟩ = FT.pr (rowOf so S D W) z := by
          obtain ⟨ys, hy, gy⟩ := tk_price10 at0
          rw [ht] at hy
          have ex : xs = ys := by
            have := Option.some.inj hy
            exact HO.tup.inj this
          rw [← ex, gp] at gy
          exact (V.int.inj (Option.some.inj gy)).symm
        obtain ⟨aj, rj, eaj, hj, fj, ej⟩ : ∃ aj rj, atI [V.ref a0, .ref a1, .ref a2] (so : Nat) = some (.ref aj) ∧ RowAt H aj rj ∧ Five rj ∧ rj = rowOf so S D W := by
          rcases (show so = 0 ∨ so = 1 ∨ so = 2 by omega) with rfl | rfl | rfl
          · exact ⟨a0, S, rfl, hA.at (i := 0) rfl rfl, f3.1, rfl⟩
          · exact ⟨a1, D, rfl, hA.at (i := 1) rfl rfl, f3.2.1, rfl⟩
          · exact ⟨a2, W, rfl, hA.at (i := 2) rfl rfl, f3.2.2, rfl⟩
        refine ⟨_, rfl, .ref t, .ty "tuple", .type "tuple", .type "tuple", true, rfl, .ty _, .base (.tup ht'), kit_ty (by decide +kernel), true, rfl, ?_⟩
        refine iteF ?_
        refine ⟨_, rfl, t, _, rfl, .inr (SqT.of ht'), _, _, rfl, rfl, _, rfl, ?_⟩
        refine ite2 (fun _ => ?_) (fun e => absurd (decide_eq_true (by show (3 : Int) ≤ (xs.length : Nat); omega)) e)
        refine ⟨_, _, rfl, rfl, _, rfl, ?_⟩
        have e35 : decide (((xs.length : Nat) : Int) ≤ 5) = true := decide_eq_true (by omega)
        rw [e35]
        refine iteF ?_
        -- _law_sort
        have e5 : (5 : Int) - (xs.length : Nat) = (so : Nat) := by omega
        refine ⟨fun σ H2 => H2 = H' ∧ σ = [some (.ref tl), some (.ref dl), some (.ref ra), some (.int (FT.cost ⟨S, D, W⟩ (ts.take i))), some (.ref t), some (.int (so : Nat)), none, none], ⟨_, rfl, t, _, rfl, .inr (SqT.of ht'), _, _, rfl, rfl, rfl, by rw [← e5]; rfl⟩, ?_⟩
        rintro σ H2 ⟨eH, rfl⟩
        have eH2 := eH.symm
        subst eH2
        -- its name, its zones
        refine ⟨_, rfl, t, _, _, _, rfl, rfl, SqT.of ht', g0, by show 3 ≤ sizeLine; decide, fun c nc => ?_⟩
        have sc := same_upd (o := .lst [V.str "single", V.str "day", V.str "week"]) nc
        have s2 := s'.trans sc
        refine ⟨_, rfl, c, _, _, _, rfl, rfl, SqL.of upd_same, gn, rfl, _, rfl, ?_⟩
        refine iteNS rfl ?_
        have ht2 := sc _ _ ht'
        refine ⟨_, rfl, _, rfl, t, _, _, _, rfl, rfl, SqT.of ht2, gz, _, _, rfl, rfl, _, rfl, ?_⟩
        refine ite2 (fun _ => ?_) (fun e => absurd (decide_eq_true (by show (1 : Int) ≤ (z : Nat); omega)) e)
        refine ⟨_, _, rfl, rfl, _, rfl, ?_⟩
        have ez5 : decide (((z : Nat) : Int) ≤ 5) = true := decide_eq_true (by omega)
        rw [ez5]
        refine iteF ?_
        -- its price
        refine ⟨_, rfl, _, rfl, t, _, _, _, rfl, rfl, SqT.of ht2, gp, _, rfl, true, rfl, ?_⟩
        refine iteF ?_
        refine ⟨_, rfl, _, rfl, t, _, _, _, rfl, rfl, SqT.of ht2, gp, _, rfl, _, rfl, ra, _, _, _, rfl, rfl, SqL.of (s2 _ _ hra), eaj, _, rfl, _, rfl, t, _, _, _, rfl, rfl, SqT.of ht2, gz, _, _, rfl, rfl, aj, _, _, _, rfl, rfl, SqL.of (s2 _ _ hj), row_at fj z1 z5, rfl, _, rfl, ?_⟩
        rw [ej]
        refine iteNS rfl ?_
        refine ⟨_, rfl, _, rfl, _, rfl, t, _, _, _, rfl, rfl, SqT.of ht2, gp, _, _, rfl, rfl, s2, some (.ref t), some (.int (so : Nat)), ?_⟩
        have ec : FT.cost ⟨S, D, W⟩ (ts.take (i + 1)) = FT.cost ⟨S, D, W⟩ (ts.take i) + FT.pr (rowOf so S D W) z := by
          rw [← epr, List.take_add_one, hk0]
          unfold FT.cost
          rw [List.map_append, List.sum_append]
          show _ + (_ + 0) = _
          omega
        rw [ec]
        rfl
      · rintro σ H' ⟨s', y4, y5, rfl⟩
        rw [List.length_map, hT.len, List.take_of_length_le (Nat.le_refl _)]
        exact ⟨s', y4, y5, rfl⟩
    rintro σ H1 ⟨s1, y4, y5, rfl⟩
    have hT1 : All2 (TkAt ⟨S, D, W⟩ H1) tas ts := hT.imp fun b k e => tk_same10 e s1
    refine ⟨fun σ H' => Same H1 H' ∧ ∃ y6 y7 : Option V, σ = [some (.ref tl), some (.ref dl), some (.ref ra), some (.int (FT.cost ⟨S, D, W⟩ ts)), y4, y5, y6, y7], ?_, ?_⟩
    · refine ⟨7, rfl, by decide, by decide, for_range (lo := 0) (n := (7 : Int).toNat) (fun d σ H' => Same H1 H' ∧ ∃ y6 y7 : Option V, σ = [some (.ref tl), some (.ref dl), some (.ref ra), some (.int (FT.cost ⟨S, D, W⟩ ts)), y4, y5, y6, y7]) ⟨fun _ _ e => e, none, none, rfl⟩ ?_ (fun σ H' h => h)⟩
      rintro d σ H' hd ⟨s', y6, y7, rfl⟩
      have hd7 : d < 7 := hd
      have s2 := s1.trans s'
      have e0 : (0 : Int) + (d : Nat) = (d : Nat) := by omega
      rw [e0]
      obtain ⟨b, eb⟩ : ∃ b, bs[d]? = some b := ⟨bs[d]'(by rw [hB.len]; omega), List.getElem?_eq_getElem _⟩
      obtain ⟨zs, ezs, hb⟩ := hB.getL eb
      have gb : atI (bs.map V.ref) (d : Nat) = some (.ref b) := at_of (j := d) rfl (by rw [List.getElem?_map, eb]; rfl)
      have lz := hsh zs (List.mem_of_getElem? ezs)
      refine ⟨_, rfl, _, rfl, dl, _, _, _, rfl, rfl, SqL.of (s2 _ _ hdl), gb, b, _, rfl, .inl (SqL.of (s2 _ _ hb)), zs.length, by rw [List.length_map], by omega, by omega, for_range (lo := 0) (n := ((zs.length : Nat) : Int).toNat) (fun j σ H2 => Same H1 H2 ∧ ∃ y7 : Option V, σ = [some (.ref tl), some (.ref dl), some (.ref ra), some (.int (FT.cost ⟨S, D, W⟩ ts)), y4, y5, some (.int (d : Nat)), y7]) ⟨s', _, rfl⟩ ?_ (fun σ H2 ⟨a, b, c⟩ => ⟨a, _, b, c⟩)⟩
      rintro j σ H2 hj ⟨s'', y7, rfl⟩
      have hjz : j < zs.length := by omega
      have e0 : (0 : Int) + (j : Nat) = (j : Nat) := by omega
      rw [e0]
      have s3 := s1.trans s''
      obtain ⟨z, ez⟩ : ∃ z, zs[j]? = some z := ⟨zs[j], List.getElem?_eq_getElem _⟩
      have gz : atI (zs.map fun (z : Nat) => V.int (z : Nat)) (j : Nat) = some (.int (z : Nat)) := at_of (j := j) rfl (by rw [List.getElem?_map, ez]; rfl)
      have hT2 : All2 (TkAt ⟨S, D, W⟩ H2) tas ts := hT1.imp fun b k e => tk_same10 e s''
      refine ⟨_, rfl, tl, rfl, ⟨_, SqL.of (s3 _ _ htl)⟩, fun q1 nq1 => lc_list (K := K) (a := tl) (xs := tas.map V.ref) (fun i H' => Same H2 H' ∧ ∃ fs : List Bool, H' q1 = some (.lst (fs.map V.bl)) ∧ fs.length = i ∧ ∀ (m : Nat) (f : Bool) (k : FT.Tk), fs[m]? = some f → ts[m]? = some k → (f = true ↔ k.Serves d j z))
        ⟨same_upd nq1, [], upd_same, rfl, fun m f k e => by cases e⟩ (fun i H' _ ⟨s4, _⟩ => SqL.of (s4 _ _ (s3 _ _ htl))) ?_ ?_⟩
      · rintro i v H4 hi ⟨s4, fs, hq1, lfs, hfs⟩
        obtain ⟨t, ht0, rfl⟩ : ∃ t, tas[i]? = some t ∧ v = V.ref t := by
          rw [List.getElem?_map] at hi
          cases e : tas[i]? with
          | none =>
            rw [e] at hi
            cases hi
          | some t0 =>
            rw [e] at hi
            exact ⟨t0, rfl, (Option.some.inj hi).symm⟩
        obtain ⟨k, hk0, at0⟩ := hT2.getL ht0
        have s34 := s3.trans s4
        have il : i < ts.length := (List.getElem?_eq_some_iff.mp hk0).1
        refine ⟨rfl, ?_⟩
        refine tYes_if ?_
        refine ⟨_, rfl, _, rfl, _, rfl, _, rfl, _, rfl, dl, _, _, _, rfl, rfl, SqL.of (s34 _ _ hdl), gb, _, rfl, b, _, _, _, rfl, rfl, SqL.of (s34 _ _ hb), gz, t, d, j, z, ⟨S, D, W⟩, k, rfl, tk_same10 at0 s4, fun f hf => ⟨_, hq1, small_line (by rw [List.length_map]; omega), upd_out s4 nq1, fs ++ [f], by rw [upd_same, List.map_append]; rfl, by rw [List.length_append, lfs]; rfl, fun m f' k' e1 e2 => ?_⟩⟩
        by_cases c : m < fs.length
        · rw [List.getElem?_append_left c] at e1
          exact hfs m f' k' e1 e2
        · have c2 : m = i := by
            have := (List.getElem?_eq_some_iff.mp e1).1
            rw [List.length_append] at this
            have : m < fs.length + 1 := this
            omega
          subst c2
          rw [hk0] at e2
          cases e2
          rw [List.getElem?_append_right (by omega), lfs, Nat.sub_self] at e1
          cases e1
          exact hf
      · rintro H4 ⟨s4, fs, hq1, lfs, hfs⟩
        rw [List.length_map, hT.len] at lfs
        obtain ⟨k, mk, sk⟩ := hsv d j z zs ezs ez
        obtain ⟨m, hm⟩ := List.getElem?_of_mem mk
        have ml : m < fs.length := by
          have := (List.getElem?_eq_some_iff.mp hm).1
          omega
        have fm := (hfs m fs[m] k (List.getElem?_eq_getElem ml) hm).mpr sk
        have mem : V.bl true ∈ fs.map V.bl := List.mem_map.mpr ⟨fs[m], List.getElem_mem ml, by rw [fm]⟩
        refine ⟨q1, _, rfl, .inl (SqL.of hq1), rfl, by rw [List.all_map]; exact List.all_eq_true.mpr fun x _ => rfl, _, rfl, ?_⟩
        have ei : inV (V.bl true) (fs.map V.bl) = true := List.any_eq_true.mpr ⟨_, mem, rfl⟩
        rw [ei]
        refine iteF ?_
        exact ⟨s''.trans s4, _, rfl⟩
    rintro σ H2 ⟨s2, y6, y7, rfl⟩
    exact ⟨_, rfl, q H2 (s1.trans s2)⟩
end
end FW

namespace FW
open PySem PySem.Spec PyProof.Rows L2
abbrev sDrawn10 : Stmt := top 46
theorem scDrawn10 : FnScope ["_law_number", "_law_rows_here", "_law_days", "_law_held", "_law_paid", "_law_day", "_law_own", "_law_zones"] ["_law_number", "_law_rows_here", "_law_days"] (defScope sDrawn10) := ⟨rfl, rfl, rfl, by decide +kernel, rfl, by decide +kernel, by decide +kernel⟩
theorem op_le {row : List Int} {o : Nat} (h1 : 1 ≤ o) (h5 : o ≤ 5) : FT.op row o ≤ FT.pr row o := by
  unfold FT.op
  rw [if_neg (by omega)]
  exact FT.best_le row h1 (Nat.le_refl _) h5
section
variable {P : Program} {w : World} {K : PySem.W.Frag} {mg : Str → Option Value} {base : Heap} {C CP CZ CW CB CS CN CA CL CD : Addr}
def spDrawn10 : L2.Sp := fun vs H Q _ => ∃ (n : Int) (ra dl : Addr) (as bs : List Addr) (S D W : List Int) (days : List (List Nat)), vs = [.int n, .ref ra, .ref dl] ∧ RowsAt H ra as [S, D, W] ∧ Five S ∧ Five D ∧ Five W ∧ H dl = some (.lst (bs.map V.ref)) ∧ All2 (NatsAt H) bs days ∧ FT.In5 days ∧
  ∀ x : Int, FT.leastF ⟨S, D, W⟩ days ≤ x → Q (.int x) H
theorem ok_drawn10 {f : Addr} {fd : FuncData} (F : Fun K "_law_drawn" "_law_drawn" sDrawn10 f fd) (gMax : mg "max" = none) (gMin : mg "min" = none) : FnOk P w K mg base CX0 1 f fd ["_law_number", "_law_rows_here", "_law_days"] spDrawn10 := by
  refine F.ok scDrawn10 (fun vs H Q E h => ?_) (fun cdv A outer s H vs Q E hr h => ?_)
  · obtain ⟨n, ra, dl, as, bs, S, D, W, days, rfl, _⟩ := h
    rfl
  · obtain ⟨n, ra, dl, as, bs, S, D, W, days, rfl, ⟨hra, hA⟩, fS, fD, fW, hdl, hB, h5, q⟩ := h
    refine ⟨_, C8.pss_cut (ps_set (i := 3) scDrawn10.nd rfl (.inl rfl) (pe_op op_mod (pv 0) pe_int))
      (pss_cons (ps_set (i := 4) scDrawn10.nd rfl (.inl rfl) pe_int)
      (C8.pss_cut (ps_if (pt_cmpR op_gt (pv 3) pe_int (nomark _)) (pss_one (ps_set (i := 4) scDrawn10.nd rfl (.inl rfl) (pe_ix ix_list (pe_ix ix_list (pv 1) pe_int (fun _ _ => rfl)) (pe_op op_sub (pv 3) pe_int) (fun _ _ => rfl)))) pss_nil)
      (C8.pss_cut (ps_for PassesOwn.never rfl (pi_list (pv 2)) (pg_name (i := 5) scDrawn10.nd rfl (.inl rfl))
        (pss_cons (ps_set (i := 0) scDrawn10.nd rfl (.inl rfl) (pe_op op_fdiv (pv 0) pe_int))
        (C8.pss_cut (ps_set (i := 6) scDrawn10.nd rfl (.inl rfl) (pe_op op_mod (pv 0) pe_int))
        (C8.pss_cut (ps_if (PW.pt (pw_and (pt_cmpR op_gt (pv 6) pe_int (nomark _)) (pw_and1 (pt_truth (pv 5) (by intro _; rfl))))) (pss_one (ps_set (i := 4) scDrawn10.nd rfl (.inl rfl) (pe_op op_add (pv 4) (pe_ix ix_list (pe_ix ix_list (pv 1) pe_int (fun _ _ => rfl)) (pe_op op_sub (pv 6) pe_int) (fun _ _ => rfl))))) pss_nil)
        (pss_one (ps_for PassesOwn.never rfl (pi_list (pv 5)) (pg_name (i := 7) scDrawn10.nd rfl (.inl rfl))
          (pss_one (ps_if (pt_cmpR op_gt (pv 7) (pe_callB (call_max2 rfl) (by rfl) gMax (by decide +kernel) (pa_cons (pv 3) (pa_cons (pv 6) pa_nil))) (nomark _))
            (pss_one (ps_set (i := 4) scDrawn10.nd rfl (.inl rfl) (pe_op op_add (pv 4) (pe_ix ix_list (pe_ix ix_list (pv 1) pe_int (fun _ _ => rfl)) (pe_op op_sub (pe_callB (call_min2 rfl) (by rfl) gMin (by decide +kernel) (pa_cons pe_int (pa_cons (pe_op op_add (pv 7) (pe_op op_mod (pe_op op_fdiv (pv 0) pe_int) pe_int)) pa_nil))) pe_int) (fun _ _ => rfl))))) pss_nil))))))))
      (pss_one (ps_ret (pv 4)))))), ?_⟩
    have ok := five_ok ⟨fS, fD, fW⟩
    obtain ⟨a0, a1, a2, rfl⟩ : ∃ x y z, as = [x, y, z] := by
      have := hA.len
      match as, this with
      | [x, y, z], _ => exact ⟨x, y, z, rfl⟩
    have hS : RowAt H a0 S := hA.at (i := 0) rfl rfl
    have hD : RowAt H a1 D := hA.at (i := 1) rfl rfl
    have hW : RowAt H a2 W := hA.at (i := 2) rfl rfl
    have g0 : atI [V.ref a0, .ref a1, .ref a2] 0 = some (.ref a0) := rfl
    have g1 : atI [V.ref a0, .ref a1, .ref a2] 1 = some (.ref a1) := rfl
    have g2 : atI [V.ref a0, .ref a1, .ref a2] 2 = some (.ref a2) := rfl
    -- _law_held
    refine ⟨fun σ H1 => H1 = H ∧ ∃ h : Nat, h ≤ 5 ∧ σ = [some (.int n), some (.ref ra), some (.ref dl), some (.int h), none, none, none, none], ?_, ?_⟩
    · refine ⟨_, rfl, _, _, rfl, rfl, by show (0 : Int) < 6; decide, rfl, (n % 6).toNat, by omega, ?_⟩
      rw [show (((n % 6).toNat : Nat) : Int) = n % 6 by omega]
      rfl
    rintro σ H1 ⟨rfl, h, hh, rfl⟩
    refine ⟨fun σ H2 => H2 = H1 ∧ ∃ p : Int, FT.op W h ≤ p ∧ σ = [some (.int n), some (.ref ra), some (.ref dl), some (.int h), some (.int p), none, none, none], ?_, ?_⟩
    · refine ⟨_, rfl, _, _, rfl, rfl, _, rfl, ?_⟩
      refine ite2 (fun e => ?_) (fun e => ?_)
      · have h1 : (0 : Int) < h := of_decide_eq_true e
        refine ⟨_, rfl, ra, _, _, _, rfl, rfl, SqL.of hra, g2, _, rfl, _, _, rfl, rfl, a2, _, _, _, rfl, rfl, SqL.of hW, row_at fW (by omega) hh, rfl, _, op_le (by omega) hh, rfl⟩
      · have h1 : ¬ (0 : Int) < h := fun y => e (decide_eq_true y)
        have h0 : h = 0 := by omega
        exact ⟨rfl, 0, by rw [h0]; exact Int.le_refl _, rfl⟩
    rintro σ H2 ⟨rfl, p0, hp0, rfl⟩
    obtain ⟨T, eT⟩ : ∃ T : FT.Tar, T = ⟨S, D, W⟩ := ⟨_, rfl⟩
    have eS : T.s = S := by rw [eT]
    have eD : T.d = D := by rw [eT]
    have eW : T.w = W := by rw [eT]
    rw [← eT] at ok q
    -- the days
    refine ⟨fun σ H' => H' = H2 ∧ ∃ (n p : Int) (y5 y6 y7 : Option V), σ = [some (.int n), some (.ref ra), some (.ref dl), some (.int h), some (.int p), y5, y6, y7] ∧ FT.weekF T h days ≤ p, ?_, ?_⟩
    · refine ⟨_, rfl, dl, rfl, ⟨_, SqL.of hdl⟩, for_list (K := K) (a := dl) (xs := bs.map V.ref) (fun i σ H' => H' = H2 ∧ ∃ (n p : Int) (y5 y6 y7 : Option V), σ = [some (.int n), some (.ref ra), some (.ref dl), some (.int h), some (.int p), y5, y6, y7] ∧ FT.op T.w h + ((days.take i).map (FT.dayF T h)).sum ≤ p)
        ⟨rfl, n, p0, none, none, none, rfl, by rw [eW]; show _ + 0 ≤ _; omega⟩ (fun i σ H' _ ⟨e, _⟩ => by rw [e]; exact SqL.of hdl) ?_ ?_⟩
      · rintro i v σ H' hi ⟨rfl, n, p, y5, y6, y7, rfl, hp⟩
        obtain ⟨bi, ebi, rfl⟩ : ∃ bi, bs[i]? = some bi ∧ v = V.ref bi := by
          rw [List.getElem?_map] at hi
          cases e : bs[i]? with
          | none =>
            rw [e] at hi
            cases hi
          | some bi =>
            rw [e] at hi
            exact ⟨bi, rfl, (Option.some.inj hi).symm⟩
        obtain ⟨zs, ezs, hbi⟩ := hB.getL ebi
        have z5 : ∀ z, z ∈ zs → 1 ≤ z ∧ z ≤ 5 := h5 zs (List.mem_of_getElem? ezs)
        refine ⟨_, rfl, _, _, rfl, rfl, ⟨by decide, by decide⟩, ?_⟩
        refine ⟨fun σ H1 => H1 = H' ∧ ∃ w : Nat, w ≤ 5 ∧ σ = [some (.int (n / 6)), some (.ref ra), some (.ref dl), some (.int h), some (.int p), some (.ref bi), some (.int w), y7], ?_, ?_⟩
        · refine ⟨_, rfl, _, _, rfl, rfl, by show (0 : Int) < 6; decide, rfl, (n / 6 % 6).toNat, by omega, ?_⟩
          rw [show (((n / 6 % 6).toNat : Nat) : Int) = n / 6 % 6 by omega]
          rfl
        rintro σ H1 ⟨rfl, w, hw, rfl⟩
        refine ⟨fun σ H2 => H2 = H1 ∧ ∃ p' : Int, (p + FT.op T.d w ≤ p' ∨ (zs = [] ∧ p ≤ p')) ∧ σ = [some (.int (n / 6)), some (.ref ra), some (.ref dl), some (.int h), some (.int p'), some (.ref bi), some (.int w), y7], ?_, ?_⟩
        · refine ⟨_, rfl, _, _, rfl, rfl, _, rfl, ?_⟩
          by_cases w1 : (0 : Int) < w
          · have ew : decide ((0 : Int) < w) = true := decide_eq_true w1
            rw [show decide ((w : Int) > 0) = true from ew]
            refine iteT ?_
            refine ⟨_, rfl, _, .inl ⟨_, SqL.of hbi, rfl⟩, ?_⟩
            cases zs with
            | nil =>
              refine iteF ?_
              exact ⟨rfl, p, .inr ⟨rfl, Int.le_refl _⟩, rfl⟩
            | cons z0 zs0 =>
              refine iteT ?_
              refine ⟨_, rfl, _, rfl, ra, _, _, _, rfl, rfl, SqL.of hra, g1, _, rfl, _, _, rfl, rfl, a1, _, _, _, rfl, rfl, SqL.of hD, row_at fD (by omega) hw, _, _, rfl, rfl, rfl, _, .inl ?_, rfl⟩
              have := op_le (row := D) (o := w) (by omega) hw
              rw [eD]
              omega
          · have ew : decide ((w : Int) > 0) = false := decide_eq_false w1
            rw [ew]
            refine iteF ?_
            have w0 : w = 0 := by omega
            refine ⟨rfl, p, .inl ?_, rfl⟩
            rw [w0]
            show p + 0 ≤ p
            omega
        rintro σ H2 ⟨rfl, p', hp', rfl⟩
        -- its rides
        refine ⟨_, rfl, bi, rfl, ⟨_, SqL.of hbi⟩, for_list (K := K) (a := bi) (xs := zs.map fun (z : Nat) => V.int (z : Nat)) (fun j σ H3 => H3 = H2 ∧ ∃ (p2 : Int) (y7 : Option V), σ = [some (.int (n / 6)), some (.ref ra), some (.ref dl), some (.int h), some (.int p2), some (.ref bi), some (.int w), y7] ∧ p' + FT.restF T (max h w) (zs.take j) ≤ p2)
          ⟨rfl, p', y7, rfl, by show _ + 0 ≤ _; omega⟩ (fun j σ H3 _ ⟨e, _⟩ => by rw [e]; exact SqL.of hbi) ?_ ?_⟩
        · rintro j v σ H3 hj ⟨rfl, p2, y7, rfl, hp2⟩
          obtain ⟨z, ez, rfl⟩ : ∃ z : Nat, zs[j]? = some z ∧ v = V.int (z : Nat) := by
            rw [List.getElem?_map] at hj
            cases e : zs[j]? with
            | none =>
              rw [e] at hj
              cases hj
            | some z =>
              rw [e] at hj
              exact ⟨z, rfl, (Option.some.inj hj).symm⟩
          have hz := z5 z (List.mem_of_getElem? ez)
          have er : FT.restF T (max h w) (zs.take (j + 1)) = FT.restF T (max h w) (zs.take j) + FT.need T (max h w) z := by
            rw [List.take_add_one, ez]
            exact FT.rest_snoc _ _ _
          refine ⟨_, rfl, _, rfl, _, rfl, _, _, rfl, _, _, rfl, rfl, _, rfl, ?_⟩
          have em : (if (w : Int) > h then (w : Int) else h) = ((max h w : Nat) : Int) := by
            split <;> omega
          refine ite2 (fun e => ?_) (fun e => ?_)
          · have e1 : (if (w : Int) > h then (w : Int) else h) < z := of_decide_eq_true e
            rw [em] at e1
            obtain ⟨k, ek⟩ : ∃ k : Nat, (if (z : Int) + n / 6 / 6 % 2 < 5 then (z : Int) + n / 6 / 6 % 2 else 5) = k := ⟨(if (z : Int) + n / 6 / 6 % 2 < 5 then (z : Int) + n / 6 / 6 % 2 else 5).toNat, by split <;> omega⟩
            have k1 : z ≤ k ∧ k ≤ 5 := by
              split at ek <;> omega
            refine ⟨_, rfl, _, rfl, ra, _, _, _, rfl, rfl, SqL.of hra, g0, _, rfl, _, rfl, _, _, rfl, rfl, ⟨by decide, by decide⟩, _, _, rfl, rfl, by show (0 : Int) < 2; decide, _, _, rfl, rfl, _, _, rfl, _, _, rfl, rfl, a0, _, _, _, rfl, rfl, SqL.of hS, (by rw [ek]; exact row_at fS (by omega) k1.2), _, _, rfl, rfl, rfl, _, _, rfl, ?_⟩
            have en : FT.need T (max h w) z = FT.best T.s z := by
              unfold FT.need
              rw [if_neg (by omega)]
            have := FT.best_le S hz.1 k1.1 k1.2
            rw [er, en, eS]
            omega
          · have e1 : ¬ (if (w : Int) > h then (w : Int) else h) < z := fun y => e (decide_eq_true y)
            rw [em] at e1
            refine ⟨rfl, p2, _, rfl, ?_⟩
            rw [er, FT.need_zero (by omega)]
            omega
        · rintro σ H3 ⟨rfl, p2, y7, rfl, hp2⟩
          rw [List.length_map, List.take_of_length_le (Nat.le_refl _)] at hp2
          refine ⟨rfl, n / 6, p2, _, _, _, rfl, ?_⟩
          rw [List.take_add_one, ezs, List.map_append, List.sum_append]
          show _ + (_ + (FT.dayF T h zs + 0)) ≤ _
          rcases hp' with hp' | ⟨ze, hp'⟩
          · have ed : FT.dayF T h zs ≤ FT.op T.d w + FT.restF T (max h w) zs := FT.m6_le (fun o => FT.op T.d o + FT.restF T (max h o) zs) hw
            omega
          · subst ze
            rw [FT.dayF_nil ok]
            have hp3 : p' + 0 ≤ p2 := hp2
            omega
      · rintro σ H' ⟨rfl, n, p, y5, y6, y7, rfl, hp⟩
        rw [List.length_map, hB.len, List.take_of_length_le (Nat.le_refl _)] at hp
        exact ⟨rfl, n, p, y5, y6, y7, rfl, hp⟩
    rintro σ H' ⟨rfl, n, p, y5, y6, y7, rfl, hp⟩
    have hle : FT.leastF T days ≤ p := Int.le_trans (FT.m6_le (fun w => FT.weekF T w days) hh) hp
    exact ⟨_, rfl, q _ hle⟩
end
end FW

namespace FW
open PySem PySem.Spec PyProof.Rows L2
abbrev sRides10 : Stmt := top 48
theorem scRides10 : FnScope ["_law_script", "_law_many", "_law_size", "_law_rides_here", "_law_k", "_law_number", "_law_cell", "_law_start", "_law_goal", "_law_step"] ["_law_script", "_law_many", "_law_size"] (defScope sRides10) := ⟨rfl, rfl, rfl, by decide +kernel, rfl, by decide +kernel, by decide +kernel⟩
abbrev cO : Str := "one"
abbrev cT : Str := "two"
/-- a ride that the law draws -/
structure Rd where
  c : Str
  st : Int
  s : Nat
  g : Nat
def RdAt (H : Hp) (t : Addr) (r : Rd) : Prop := H t = some (.tup [.str r.c, .int r.st, .int (r.s : Nat), .int (r.g : Nat)])
def Rd.Ok (n : Nat) (r : Rd) : Prop := (r.c = cO ∨ r.c = cT) ∧ 0 ≤ r.st ∧ r.s < n ∧ r.g < n
theorem mod_nat {x : Int} {M : Nat} (h : 0 < M) : ∃ s : Nat, s < M ∧ x % (M : Int) = (s : Nat) := by
  have h1 := Int.emod_nonneg x (show (M : Int) ≠ 0 by omega)
  have h2 := Int.emod_lt_of_pos x (show (0 : Int) < M by omega)
  exact ⟨(x % (M : Int)).toNat, by omega, by omega⟩
theorem pick8 (i : Int) (h0 : 0 ≤ i) (h : i < 8) (x : Int) (hx : 0 ≤ x) : ∃ y : Int, atI [V.int 0, .int 0, .int 1, .int 0, .int 5, .int 0, .int x, .int 0] i = some (.int y) ∧ 0 ≤ y := by
  rcases (show i = 0 ∨ i = 1 ∨ i = 2 ∨ i = 3 ∨ i = 4 ∨ i = 5 ∨ i = 6 ∨ i = 7 by omega) with rfl | rfl | rfl | rfl | rfl | rfl | rfl | rfl
  · exact ⟨0, rfl, by decide⟩
  · exact ⟨0, rfl, by decide⟩
  · exact ⟨1, rfl, by decide⟩
  · exact ⟨0, rfl, by decide⟩
  · exact ⟨5, rfl, by decide⟩
  · exact ⟨0, rfl, by decide⟩
  · exact ⟨x, rfl, hx⟩
  · exact ⟨0, rfl, by decide⟩
theorem pickC (i : Int) (h0 : 0 ≤ i) (h : i < 2) : ∃ c : Str, atI [V.str "one", .str "two"] i = some (.str c) ∧ (c = cO ∨ c = cT) := by
  rcases (show i = 0 ∨ i = 1 by omega) with rfl | rfl
  · exact ⟨cO, rfl, .inl rfl⟩
  · exact ⟨cT, rfl, .inr rfl⟩
theorem cutK (xs : List Int) (a : Nat) : ∃ ys : List Int, cutV (xs.map V.int) (some (18 + 2 * (a : Nat))) (some (28 + 2 * (a : Nat))) = ys.map V.int ∧ ys.length ≤ 10 := by
  have e : ∀ (b : Int) (d : Nat), 0 ≤ b → HT.sIx xs.length d (some b) = min b.toNat xs.length := fun b d hb => by
    unfold HT.sIx
    simp only []
    rw [if_neg (by omega)]
  refine ⟨(xs.drop (min (18 + 2 * (a : Int)).toNat xs.length)).take (min (28 + 2 * (a : Int)).toNat xs.length - min (18 + 2 * (a : Int)).toNat xs.length), ?_, ?_⟩
  · unfold cutV
    rw [List.length_map, e _ _ (by omega), e _ _ (by omega), List.map_take, List.map_drop]
  · rw [List.length_take, List.length_drop]
    omega
theorem rd_push {H : Hp} {l t : Addr} {as : List Addr} {rs : List Rd} {r : Rd} (hl : H l = some (.lst (as.map V.ref))) (ha : All2 (RdAt H) as rs) (nt : H t = none) :
    All2 (RdAt (upd (upd H t (.tup [.str r.c, .int r.st, .int (r.s : Nat), .int (r.g : Nat)])) l (.lst (as.map V.ref ++ [.ref t])))) (as ++ [t]) (rs ++ [r]) := by
  refine All2.app (ha.imp fun b x hb => ?_) (All2.one ?_)
  · show upd (upd H t _) l _ b = _
    rw [upd_ne (ne_of hb hl (by intro z; cases z)), upd_ne (ne_of_none hb nt)]
    exact hb
  · show upd (upd H t _) l _ t = _
    rw [upd_ne (ne_of_none hl nt).symm, upd_same]
section
variable {P : Program} {w : World} {K : PySem.W.Frag} {mg : Str → Option Value} {base : Heap} {C CP CZ CW CB CS CN CA CL CD : Addr}
/-! ### _law_rides -/
def spRides10 (K : PySem.W.Frag) : L2.Sp := fun vs H Q _ => ∃ (a : Addr) (ns : List Int) (n sz : Nat), vs = [.ref a, .int (n : Nat), .int (sz : Nat)] ∧ SqL K H a (ns.map V.int) ∧ 1 ≤ n ∧ n ≤ 60 ∧ sz ≤ 9 ∧
  ∀ (H' : Hp) (l : Addr) (as : List Addr) (rs : List Rd), Same H H' → H l = none → H' l = some (.lst (as.map V.ref)) → All2 (RdAt H') as rs → rs.length ≤ 18 → (∀ r, r ∈ rs → r.Ok n) → Q (.ref l) H'
theorem ok_rides10 {f fC : Addr} {fd fdC : FuncData} (F : Fun K "_law_rides" "_law_rides" sRides10 f fd) (gR : mg "range" = none) (gLen : mg "len" = none) (gInt : mg "int" = none) (gEn : mg "enumerate" = none) (FC : Fun K "_law_cell_at" "_law_cell_at" sCell fC fdC) (bC : Binds K fdC ["_law_script", "_law_k"] []) (gC : mg "_law_cell_at" = some (.ref fC)) :
    FnOk P w K mg base CX0 2 f fd ["_law_script", "_law_many", "_law_size"] (spRides10 K) := by
  have GC : FnOk P w K mg base CX0 1 fC fdC ["_law_script", "_law_k"] (spCell K) := ok_cell FC gLen
  refine F.ok scRides10 (fun vs H Q E h => ?_) (fun cdv A outer s H vs Q E hr h => ?_)
  · obtain ⟨a, ns, n, sz, rfl, _⟩ := h
    rfl
  · obtain ⟨a, ns, n, sz, rfl, hS, hn1, hn60, hsz, q⟩ := h
    have np : (0 : Int) < (n : Nat) := by omega
    have ns30 : ((n : Nat) : Int) < 1073741824 := by omega
    refine ⟨_, pss_cons (ps_set (i := 3) scRides10.nd rfl (.inl rfl) (pe_lst pa_nil))
      (pss_cons (ps_if (pt_cmpR op_eq (pe_op op_mod (pe_op op_add (pe_call GC hr (by rfl) gC FC.kp bC .nil pass0 (pa_cons (pv 0) (pa_cons pe_int pa_nil))) (pe_call GC hr (by rfl) gC FC.kp bC .nil pass0 (pa_cons (pv 0) (pa_cons pe_int pa_nil)))) pe_int) pe_int (nomark _))
        (pss_cons (ps_for PassesOwn.never rfl (pi_range1 (by rfl) gR (pa_cons pe_int pa_nil)) (pg_name (i := 4) scRides10.nd rfl (.inl rfl))
          (C8.pss_cut (ps_set (i := 5) scRides10.nd rfl (.inl rfl) (pe_op op_mod (pe_op op_mul (pe_op op_add (pe_op op_add (pe_call GC hr (by rfl) gC FC.kp bC .nil pass0 (pa_cons (pv 0) (pa_cons pe_int pa_nil))) (pe_call GC hr (by rfl) gC FC.kp bC .nil pass0 (pa_cons (pv 0) (pa_cons pe_int pa_nil)))) (pe_op op_mul pe_int (pv 4))) pe_int) pe_int))
          (pss_one (ps_expr (pe_bm PySem.F.plainAttrs_list PySem.F.slot_list_append PySem.F.type_list_append mt_append (pv 3) (pa_cons (pe_tup (pa_cons pe_str (pa_cons (pe_callTy call_int1 (by rfl) gInt boot_int (pa_cons (pe_cmpR op_eq (pe_op op_mod (pv 4) pe_int) pe_int (nomark _)) pa_nil)) (pa_cons (pe_op op_mod (pv 5) (pv 1)) (pa_cons (pe_op op_mod (pe_op op_fdiv (pv 5) (pv 1)) (pv 1)) pa_nil))))) pa_nil))))))
        (pss_one (ps_ret (pv 3)))) pss_nil)
      (pss_cons (ps_for PassesOwn.never rfl (pi_enum (by rfl) gEn (pa_cons (pe_slice sl_list (pv 0) (po_some (pe_op op_add pe_int (pe_op op_mul pe_int (pv 2)))) (po_some (pe_op op_add pe_int (pe_op op_mul pe_int (pv 2))))) pa_nil)) (pg_tup rfl (pgs_cons (pg_name (i := 4) scRides10.nd rfl (.inl rfl)) (pgs_cons (pg_name (i := 6) scRides10.nd rfl (.inl rfl)) pgs_nil)))
        (C8.pss_cut (ps_set (i := 7) scRides10.nd rfl (.inl rfl) (pe_op op_mod (pe_op op_fdiv (pv 6) pe_int) (pv 1)))
        (C8.pss_cut (ps_set (i := 8) scRides10.nd rfl (.inl rfl) (pe_op op_mod (pe_op op_fdiv (pe_op op_fdiv (pv 6) pe_int) (pv 1)) (pv 1)))
        (C8.pss_cut (ps_set (i := 9) scRides10.nd rfl (.inl rfl) (pe_ix ix_list (pe_lst (pa_cons pe_int (pa_cons pe_int (pa_cons pe_int (pa_cons pe_int (pa_cons pe_int (pa_cons pe_int (pa_cons (pe_op op_mod (pe_op op_fdiv (pv 6) pe_int) (pe_op op_pow pe_int pe_int)) (pa_cons pe_int pa_nil))))))))) (pe_op op_mod (pe_op op_add (pe_op op_fdiv (pv 6) pe_int) (pv 4)) pe_int) (fun _ _ => rfl)))
        (pss_one (ps_expr (pe_bm PySem.F.plainAttrs_list PySem.F.slot_list_append PySem.F.type_list_append mt_append (pv 3) (pa_cons (pe_tup (pa_cons (pe_ix ix_list (pe_lst (pa_cons pe_str (pa_cons pe_str pa_nil))) (pe_op op_mod (pv 6) pe_int) (fun _ _ => rfl)) (pa_cons (pv 9) (pa_cons (pv 7) (pa_cons (pv 8) pa_nil))))) pa_nil))))))))
      (pss_one (ps_ret (pv 3))))), ?_⟩
    refine ⟨Nat.zero_le _, fun l nl => ?_⟩
    have s1 : Same H (upd H l (.lst [])) := same_upd nl
    obtain ⟨H1, e1⟩ : ∃ H1, H1 = upd H l (.lst []) := ⟨_, rfl⟩
    have hl1 : H1 l = some (.lst (([] : List Addr).map V.ref)) := by rw [e1, upd_same]; rfl
    rw [← e1] at s1 ⊢
    clear e1
    refine ⟨_, rfl, a, ns, 0, rfl, s1.seq hS, _, rfl, a, ns, 2, rfl, s1.seq hS, _, _, rfl, rfl, _, _, rfl, rfl, by show (0 : Int) < 8; decide, rfl, _, rfl, ?_⟩
    refine ite2 (fun _ => ?_) (fun _ => ?_)
    · refine ⟨18, rfl, by decide, by decide, for_range (lo := 0) (n := (18 : Int).toNat) (fun i σ H' => ∃ (y4 y5 : Option V), σ = [some (.ref a), some (.int (n : Nat)), some (.int (sz : Nat)), some (.ref l), y4, y5, none, none, none, none] ∧ ∃ (as : List Addr) (rs : List Rd), Same H H' ∧ H' l = some (.lst (as.map V.ref)) ∧ All2 (RdAt H') as rs ∧ rs.length ≤ i ∧ (∀ r, r ∈ rs → r.Ok n)) ⟨none, none, rfl, [], [], s1, hl1, .nil, Nat.le_refl _, (fun r m => nomatch m)⟩ ?_ ?_⟩
      · rintro i σ H' hi ⟨y4, y5, rfl, as, rs, s', hl, hA, lrs, hok⟩
        have hi18 : i < 18 := hi
        refine ⟨fun σ H2 => H2 = H' ∧ ∃ x : Int, σ = [some (.ref a), some (.int (n : Nat)), some (.int (sz : Nat)), some (.ref l), some (.int (0 + (i : Nat))), some (.int x), none, none, none, none], ?_, ?_⟩
        · exact ⟨_, rfl, a, ns, 1, rfl, s'.seq hS, _, rfl, a, ns, 2, rfl, s'.seq hS, _, _, rfl, rfl, _, rfl, _, _, rfl, rfl, .inl ⟨by decide, by decide⟩, _, _, rfl, rfl, _, _, rfl, rfl, .inr ⟨by decide, by decide⟩, _, _, rfl, rfl, by show (0 : Int) < 2147483647; decide, rfl, _, rfl⟩
        rintro σ H2 ⟨eH, x, rfl⟩
        have eH2 := eH.symm
        subst eH2
        obtain ⟨sn, hs, es⟩ := mod_nat (x := x) (M := n) (by omega)
        obtain ⟨gn, hg, eg⟩ := mod_nat (x := x / (n : Int)) (M := n) (by omega)
        refine ⟨_, rfl, .inl ⟨rfl, _, SqL.of hl⟩, _, rfl, _, _, rfl, rfl, by show (0 : Int) < 3; decide, rfl, .inr ⟨_, rfl, _, rfl, _, rfl, _, _, rfl, rfl, np, _, rfl, _, rfl, _, _, rfl, rfl, ⟨np, ns30⟩, _, rfl, _, _, rfl, rfl, np, by show 4 ≤ sizeLine; decide, fun t nt => ?_⟩⟩
        obtain ⟨st, est, hst⟩ : ∃ st : Int, st = (if decide (V.int ((0 + (i : Nat) : Int) % 3) = V.int 2) = true then 1 else 0) ∧ 0 ≤ st := ⟨_, rfl, by split <;> decide⟩
        refine ⟨l, _, _, rfl, rfl, by rw [upd_ne (ne_of_none hl nt)]; exact hl, small_line (by rw [List.length_map, hA.len]; omega), ?_⟩
        refine ⟨_, _, rfl, as ++ [t], rs ++ [⟨cO, st, sn, gn⟩], upd_out (s'.trans (same_upd nt)) nl, by rw [upd_same, List.map_append]; rfl, ?_, by rw [List.length_append]; show rs.length + 1 ≤ i + 1; omega, fun r m => ?_⟩
        · show All2 (RdAt (upd (upd H' t (.tup [.str cO, .int (if decide (V.int ((0 + (i : Nat) : Int) % 3) = V.int 2) = true then 1 else 0), .int (x % (n : Int)), .int (x / (n : Int) % (n : Int))])) l (.lst (as.map V.ref ++ [.ref t])))) (as ++ [t]) (rs ++ [⟨cO, st, sn, gn⟩])
          rw [es, eg, ← est]
          exact rd_push (r := ⟨cO, st, sn, gn⟩) hl hA nt
        · rcases List.mem_append.mp m with m | m
          · exact hok r m
          · rw [List.mem_singleton.mp m]
            exact ⟨.inl rfl, hst, hs, hg⟩
      · rintro σ H' ⟨y4, y5, rfl, as, rs, s', hl, hA, lrs, hok⟩
        exact ⟨_, rfl, q H' l as rs s' nl hl hA lrs hok⟩
    -- the cells
    obtain ⟨ys, ecut, lys⟩ := cutK ns sz
    refine ⟨_, rfl, _, rfl, _, _, rfl, rfl, .inl ⟨by decide, by decide⟩, _, _, rfl, rfl, _, rfl, _, rfl, _, _, rfl, rfl, .inl ⟨by decide, by decide⟩, _, _, rfl, rfl, _, rfl, a, _, rfl, s1.seq hS, fun cl ncl => ?_⟩
    rw [ecut]
    have sc := same_upd (o := .lst (ys.map V.int)) ncl
    refine ⟨cl, _, rfl, SqL.of upd_same, for_enum (K := K) (a := cl) (xs := ys.map V.int) (fun i σ H' => ∃ (y4 y6 y7 y8 y9 : Option V), σ = [some (.ref a), some (.int (n : Nat)), some (.int (sz : Nat)), some (.ref l), y4, none, y6, y7, y8, y9] ∧ H' cl = some (.lst (ys.map V.int)) ∧ ∃ (as : List Addr) (rs : List Rd), Same H H' ∧ H' l = some (.lst (as.map V.ref)) ∧ All2 (RdAt H') as rs ∧ rs.length ≤ i ∧ (∀ r, r ∈ rs → r.Ok n)) ⟨none, none, none, none, none, rfl, upd_same, [], [], s1.trans sc, sc _ _ hl1, .nil, Nat.le_refl _, (fun r m => nomatch m)⟩ (fun i σ H' _ ⟨_, _, _, _, _, _, e, _⟩ => SqL.of e) ?_ ?_⟩
    · rintro i v0 T σ H' hi ⟨y4, y6, y7, y8, y9, rfl, hcl, as, rs, s', hl, hA, lrs, hok⟩ nT
      obtain ⟨v, ev, rfl⟩ := map_item hi
      have hil : i < ys.length := (List.getElem?_eq_some_iff.mp ev).1
      have sT := same_upd (o := .tup [V.int (i : Nat), .int v]) nT
      obtain ⟨H3, e3⟩ : ∃ H3, H3 = upd H' T (.tup [V.int (i : Nat), .int v]) := ⟨_, rfl⟩
      have hT : H3 T = some (.tup [V.int (i : Nat), .int v]) := by rw [e3, upd_same]
      rw [← e3] at sT ⊢
      clear e3
      refine ⟨T, _, rfl, SqT.of hT, rfl, _, _, rfl, _, _, rfl, rfl, ?_⟩
      have s3 := s'.trans sT
      have hl3 := sT _ _ hl
      have hcl3 := sT _ _ hcl
      have hA3 : All2 (RdAt H3) as rs := hA.imp fun b r e => sT _ _ e
      refine ⟨fun σ H4 => H4 = H3 ∧ ∃ sn : Nat, sn < n ∧ σ = [some (.ref a), some (.int (n : Nat)), some (.int (sz : Nat)), some (.ref l), some (.int (i : Nat)), none, some (.int v), some (.int (sn : Nat)), y8, y9], ?_, ?_⟩
      · obtain ⟨sn, hs, es⟩ := mod_nat (x := v / 2) (M := n) (by omega)
        exact ⟨_, rfl, _, _, rfl, rfl, ⟨by decide, by decide⟩, _, rfl, _, _, rfl, rfl, np, rfl, sn, hs, by rw [← es]; rfl⟩
      rintro σ H4 ⟨eH, sn, hs, rfl⟩
      have eH2 := eH.symm
      subst eH2
      refine ⟨fun σ H4 => H4 = H3 ∧ ∃ gn : Nat, gn < n ∧ σ = [some (.ref a), some (.int (n : Nat)), some (.int (sz : Nat)), some (.ref l), some (.int (i : Nat)), none, some (.int v), some (.int (sn : Nat)), some (.int (gn : Nat)), y9], ?_, ?_⟩
      · obtain ⟨gn, hg, eg⟩ := mod_nat (x := v / 2 / (n : Int)) (M := n) (by omega)
        exact ⟨_, rfl, _, _, rfl, rfl, ⟨by decide, by decide⟩, _, rfl, _, _, rfl, rfl, ⟨np, ns30⟩, _, rfl, _, _, rfl, rfl, np, rfl, gn, hg, by rw [← eg]; rfl⟩
      rintro σ H4 ⟨eH, gn, hg, rfl⟩
      have eH2 := eH.symm
      subst eH2
      refine ⟨fun σ H4 => Same H3 H4 ∧ ∃ st : Int, 0 ≤ st ∧ σ = [some (.ref a), some (.int (n : Nat)), some (.int (sz : Nat)), some (.ref l), some (.int (i : Nat)), none, some (.int v), some (.int (sn : Nat)), some (.int (gn : Nat)), some (.int st)], ?_, ?_⟩
      · refine ⟨_, rfl, _, _, rfl, rfl, ⟨by decide, by decide⟩, _, _, rfl, rfl, ⟨by decide, by decide, by decide⟩, _, _, rfl, rfl, by show (0 : Int) < _; decide, by show 8 ≤ sizeLine; decide, fun q1 nq1 => ?_⟩
        obtain ⟨y, ey, hy⟩ := pick8 ((v / 3 + (i : Nat)) % 8) (by omega) (by omega) (v / 6 % (10 ^ (6 : Int).toNat)) (Int.emod_nonneg _ (by decide))
        exact ⟨_, rfl, _, _, rfl, rfl, ⟨by decide, by decide⟩, _, rfl, _, _, rfl, rfl, _, _, rfl, rfl, by show (0 : Int) < 8; decide, q1, _, _, _, rfl, rfl, SqL.of upd_same, ey, same_upd nq1, y, hy, rfl⟩
      rintro σ H4 ⟨s34, st, hst, rfl⟩
      have s4 := s3.trans s34
      have hl4 := s34 _ _ hl3
      have hA4 : All2 (RdAt H4) as rs := hA3.imp fun b r e => s34 _ _ e
      refine ⟨_, rfl, .inl ⟨rfl, _, SqL.of hl4⟩, by show 2 ≤ sizeLine; decide, fun q2 nq2 => ?_⟩
      have s45 := same_upd (o := .lst [V.str "one", V.str "two"]) nq2
      obtain ⟨c, ec, hc⟩ := pickC (v % 2) (by omega) (by omega)
      refine ⟨_, rfl, _, _, rfl, rfl, by show (0 : Int) < 2; decide, q2, _, _, _, rfl, rfl, SqL.of upd_same, ec, _, rfl, _, rfl, _, rfl, by show 4 ≤ sizeLine; decide, fun t nt => ?_⟩
      have hl5 := s45 _ _ hl4
      have hA5 := hA4.imp fun b r e => (show RdAt (upd H4 q2 (.lst [V.str "one", V.str "two"])) b r from s45 _ _ e)
      have st6 := same_upd (o := .tup [V.str c, .int st, .int (sn : Nat), .int (gn : Nat)]) nt
      have nlc : l ≠ cl := fun z => by
        have := sc.free (show upd H1 cl (.lst (ys.map V.int)) l = none from by rw [z] at hl1; rw [hl1] at ncl; cases ncl)
        rw [hl1] at this
        cases this
      refine ⟨l, _, _, rfl, rfl, by rw [upd_ne (ne_of_none hl5 nt)]; exact hl5, small_line (by rw [List.length_map, hA.len]; omega), ?_⟩
      refine ⟨_, _, _, _, _, rfl, ?_, as ++ [t], rs ++ [⟨c, st, sn, gn⟩], upd_out (s4.trans (s45.trans st6)) nl, by rw [upd_same, List.map_append]; rfl, rd_push (r := ⟨c, st, sn, gn⟩) hl5 hA5 nt, by rw [List.length_append]; show rs.length + 1 ≤ i + 1; omega, fun r m => ?_⟩
      · rw [upd_ne nlc.symm]
        exact st6 _ _ (s45 _ _ (s34 _ _ hcl3))
      · rcases List.mem_append.mp m with m | m
        · exact hok r m
        · rw [List.mem_singleton.mp m]
          exact ⟨hc, hst, hs, hg⟩
    · rintro σ H' ⟨y4, y6, y7, y8, y9, rfl, hcl, as, rs, s', hl, hA, lrs, hok⟩
      rw [List.length_map] at lrs
      exact ⟨_, rfl, q H' l as rs s' nl hl hA (by omega) hok⟩
end
end FW

namespace FW
open PySem PySem.Spec PyProof.Rows L2
abbrev sStays10 : Stmt := top 49
theorem scStays10 : FnScope ["_law_ledger", "_law_tickets", "_law_kept_here"] ["_law_ledger"] (defScope sStays10) := ⟨rfl, rfl, rfl, by decide +kernel, rfl, by decide +kernel, by decide +kernel⟩
/-! ### tickets as data -/
def datTk (T : FT.Tar) : FT.Tk → PyData
  | .week z => .tuple [.str "week", .int (z : Nat), .int (FT.pr T.w z)]
  | .day d z => .tuple [.str "day", .int (d : Nat), .int (z : Nat), .int (FT.pr T.d z)]
  | .single d i z => .tuple [.str "single", .int (d : Nat), .int (i : Nat), .int (z : Nat), .int (FT.pr T.s z)]
theorem lay_tks (T : FT.Tar) : ∀ l : List FT.Tk, PyData.canLayAll0 (l.map (datTk T)) = true
  | [] => by simp [PyData.canLayAll0]
  | k :: l => by
    have ih := lay_tks T l
    simp only [List.map_cons, PyData.canLayAll0, Bool.and_eq_true]
    exact ⟨by cases k <;> simp [datTk, PyData.canLay0, PyData.canLayAll0] <;> decide +kernel, ih⟩
theorem dep_tks (T : FT.Tar) : ∀ l : List FT.Tk, PyData.depthAll (l.map (datTk T)) ≤ 1
  | [] => by simp [PyData.depthAll]
  | k :: l => by
    have ih := dep_tks T l
    have e : PyData.depthAll ((k :: l).map (datTk T)) = max 1 (PyData.depthAll (l.map (datTk T))) := by cases k <;> simp [PyData.depthAll, PyData.depth, datTk]
    rw [e]
    omega
theorem shaped_tks (T : FT.Tar) (ts : List FT.Tk) : SeqAt.shaped (.list (ts.map (datTk T))) = true := by
  unfold SeqAt.shaped
  rw [Bool.and_eq_true_iff]
  refine ⟨by simpa [PyData.canLay0] using lay_tks T ts, decide_eq_true ?_⟩
  have h := dep_tks T ts
  have e : PyData.depth (.list (ts.map (datTk T))) = PyData.depthAll (ts.map (datTk T)) + 1 := by simp [PyData.depth]
  rw [e]
  omega
theorem eqv_tks (T : FT.Tar) (ts : List FT.Tk) : PyData.eqv (.list (ts.map (datTk T))) (.list (ts.map (datTk T))) = true := SeqAt.eqv_refl _ (by simpa [PyData.canLay0] using lay_tks T ts)
theorem dps_tks {K : PySem.W.Frag} {T : FT.Tar} {H : Hp} {as : List Addr} {ts : List FT.Tk} (h : All2 (TkAt T H) as ts) : DpAll K H (as.map V.ref) (ts.map (datTk T)) := by
  induction h with
  | nil => exact .nil
  | @cons a k as ts r _ ih =>
    refine .cons ?_ ih
    cases k with
    | week z => exact .tup (SqT.of r) (.cons (.str _) (.cons (.int _) (.cons (.int _) .nil)))
    | day d z => exact .tup (SqT.of r) (.cons (.str _) (.cons (.int _) (.cons (.int _) (.cons (.int _) .nil))))
    | single d i z => exact .tup (SqT.of r) (.cons (.str _) (.cons (.int _) (.cons (.int _) (.cons (.int _) (.cons (.int _) .nil)))))
section
variable {P : Program} {w : World} {K : PySem.W.Frag} {mg : Str → Option Value} {base : Heap} {C CP CZ CW CB CS CN CA CL CD : Addr}
/-! ### _law_stays -/
def spStays10 (C CL CA : Addr) : L2.Sp := fun vs H Q _ => ∃ (S D W : List Int) (Fx : Hp) (p wa ta : Addr) (book : Str → List FT.Ride) (O : Addr → Prop) (n : Nat), vs = [.ref p] ∧ Led CL CA ⟨S, D, W⟩ Fx H p wa ta book O n ∧ TarAt C Fx ta S D W ∧ n ≤ 900 ∧ ∀ H' : Hp, Same H H' → Q (.bl true) H'
theorem ok_stays10 {f : Addr} {fd : FuncData} (F : Fun K "_law_stays" "_law_stays" sStays10 f fd) (Dg : Prg K mg C CP CZ CW CB CS CN CA CL CD) : FnOk P w K mg base CX0 7 f fd ["_law_ledger"] (spStays10 C CL CA) := by
  obtain ⟨r6, t6, R6, i6, m6⟩ := Dg.tickets.ex
  have G6 : FnOk P w K mg base CX0 6 r6 t6 ["self", "card", "week"] (spTickets C CL CA) := ok_tickets Dg R6
  refine F.ok scStays10 (fun vs H Q E h => ?_) (fun cdv A outer s H vs Q E hr h => ?_)
  · obtain ⟨S, D, W, Fx, p, wa, ta, book, O, n, rfl, _⟩ := h
    rfl
  · obtain ⟨S, D, W, Fx, p, wa, ta, book, O, n, rfl, L, TA, hn, q⟩ := h
    have hu := hr.units
    refine ⟨_, pss_cons (ps_set (i := 1) scStays10.nd rfl (.inl rfl) (pe_meth (pv 0) Dg.L.cl m6 G6 hr i6 .nil pass0 (pa_cons pe_str (pa_cons pe_int pa_nil))))
      (pss_cons (ps_set (i := 2) scStays10.nd rfl (.inl rfl) (pe_callTy call_list_of (by rfl) Dg.T.P.list (by decide +kernel) (pa_cons (pv 1) pa_nil)))
      (pss_cons (ps_expr (pe_meth (pv 0) Dg.L.cl m6 G6 hr i6 .nil pass0 (pa_cons pe_str (pa_cons pe_int pa_nil))))
      (pss_cons (ps_expr (pe_meth (pv 0) Dg.L.cl m6 G6 hr i6 .nil pass0 (pa_cons pe_str (pa_cons pe_int pa_nil))))
      (pss_one (ps_ret (pe_cmpR (op_eqD hu) (pv 1) (pv 2) (nomark _))))))), ?_⟩
    obtain ⟨dx, aa, hp⟩ := L.at_p
    refine ⟨_, rfl, p, dx, _, rfl, hp, lf_no (by decide +kernel), ?_⟩
    try unfold tNil
    refine ⟨S, D, W, Fx, p, wa, ta, book, O, n, "one", 0, rfl, L, TA, hn, fun H1 tl tas ts s1 _ htl hT _ _ _ _ _ => ?_⟩
    refine ⟨_, rfl, tl, _, rfl, .inl (SqL.of htl), fun l nl => ?_⟩
    have s2 := same_upd (o := .lst (tas.map V.ref)) nl
    have s02 := s1.trans s2
    refine ⟨_, rfl, p, dx, _, rfl, s02 _ _ hp, lf_no (by decide +kernel), ?_⟩
    try unfold tNil
    refine ⟨S, D, W, Fx, p, wa, ta, book, O, n, "two", 0, rfl, L.same s02, TA, hn, fun H3 tl3 _ _ s3 _ _ _ _ _ _ _ _ => ?_⟩
    have s03 := s02.trans s3
    refine ⟨_, rfl, p, dx, _, rfl, s03 _ _ hp, lf_no (by decide +kernel), ?_⟩
    try unfold tNil
    refine ⟨S, D, W, Fx, p, wa, ta, book, O, n, "one", 1, rfl, L.same s03, TA, hn, fun H4 tl4 _ _ s4 _ _ _ _ _ _ _ _ => ?_⟩
    have s34 := s3.trans s4
    have s24 := s2.trans s34
    refine ⟨_, rfl, _, rfl, .list (ts.map (datTk ⟨S, D, W⟩)), .list (ts.map (datTk ⟨S, D, W⟩)), .lst (SqL.of (s24 _ _ htl)) (dps_tks (hT.imp fun b k e => tk_same10 e s24)), .lst (SqL.of (s34 _ _ upd_same)) (dps_tks (hT.imp fun b k e => tk_same10 e s24)), shaped_tks _ _, shaped_tks _ _, ?_⟩
    rw [eqv_tks]
    exact q H4 (s03.trans s4)
end
end FW

namespace FW
open PySem PySem.Spec PyProof.Rows L2
section
variable {P : Program} {w : World} {K : PySem.W.Frag} {mg : Str → Option Value} {base : Heap} {C CP CZ CW CB CS CN CA CL CD : Addr}
/-- a ledger, and objects of the law's own that change -/
structure OneD (CL CA : Addr) (T : FT.Tar) (Fx H : Hp) (p wa ta : Addr) (ms : List Addr) (book : Str → List FT.Ride) (n : Nat) : Prop where
  ex : ∃ O : Addr → Prop, Led CL CA T Fx H p wa ta book O n ∧ ∀ l, l ∈ ms → ¬ O l ∧ Fx l = none ∧ ∃ o, H l = some o ∧ ∀ xs, o ≠ .tup xs
variable {T : FT.Tar} {Fx H H1 : Hp} {p wa ta l : Addr} {ms : List Addr} {book : Str → List FT.Ride} {n : Nat}
theorem OneD.one (h : OneD CL CA T Fx H p wa ta ms book n) : ∃ O, Led CL CA T Fx H p wa ta book O n := by
  obtain ⟨O, l, _⟩ := h.ex
  exact ⟨O, l⟩
theorem OneD.fx (h : OneD CL CA T Fx H p wa ta ms book n) : Same Fx H := by
  obtain ⟨O, l, _⟩ := h.ex
  exact l.fx
theorem OneD.same (h : OneD CL CA T Fx H p wa ta ms book n) (s : Same H H1) : OneD CL CA T Fx H1 p wa ta ms book n := by
  obtain ⟨O, l, m⟩ := h.ex
  refine ⟨O, l.same s, fun x mx => ?_⟩
  obtain ⟨a, b, o, e, t⟩ := m x mx
  exact ⟨a, b, o, s _ _ e, t⟩
theorem OneD.start {O : Addr → Prop} (L : Led CL CA T Fx H p wa ta book O n) : OneD CL CA T Fx H p wa ta [] book n := ⟨O, L, fun _ m => nomatch m⟩
/-- one more object that changes -/
theorem OneD.add (h : OneD CL CA T Fx H p wa ta ms book n) {o : HO} (nl : H l = none) (nt : ∀ xs, o ≠ .tup xs) : OneD CL CA T Fx (upd H l o) p wa ta (l :: ms) book n := by
  have h' := h.same (same_upd (o := o) nl)
  obtain ⟨O, L, _⟩ := h.ex
  obtain ⟨O', L', m⟩ := h'.ex
  have n' : ¬ O l := L.free nl
  obtain ⟨O2, L2, m2⟩ := h.ex
  refine ⟨O2, L2.same (same_upd nl), fun x mx => ?_⟩
  rcases List.mem_cons.mp mx with rfl | mx
  · exact ⟨L2.free nl, L2.fx.free nl, o, upd_same, nt⟩
  · obtain ⟨a, b, o', e, t⟩ := m2 x mx
    exact ⟨a, b, o', same_upd nl _ _ e, t⟩
theorem OneD.put (h : OneD CL CA T Fx H p wa ta ms book n) {o : HO} (ml : l ∈ ms) (nt : ∀ xs, o ≠ .tup xs) : OneD CL CA T Fx (upd H l o) p wa ta ms book n := by
  obtain ⟨O, L, m⟩ := h.ex
  obtain ⟨a, b, o0, e0, t0⟩ := m l ml
  refine ⟨O, L.put a b (fun xs z => t0 xs (by rw [e0] at z; exact Option.some.inj z)), fun x mx => ?_⟩
  obtain ⟨a', b', o', e', t'⟩ := m x mx
  refine ⟨a', b', ?_⟩
  by_cases c : x = l
  · subst c
    exact ⟨o, upd_same, nt⟩
  · exact ⟨o', by rw [upd_ne c]; exact e', t'⟩
theorem OneD.more (h : OneD CL CA T Fx H p wa ta ms book n) {m : Nat} (x1 : n ≤ m) : OneD CL CA T Fx H p wa ta ms book m := by
  obtain ⟨O, L, r⟩ := h.ex
  exact ⟨O, L.more x1, r⟩
theorem OneD.grow (h : OneD CL CA T Fx H p wa ta ms book n) (s : Same H H1) : ∃ Fx', OneD CL CA T Fx' H1 p wa ta ms book n ∧ Same Fx Fx' ∧ (∀ b o, H1 b = some o → H b = none → Fx' b = some o) ∧ ∀ b xs, H1 b = some (.tup xs) → Fx' b = some (.tup xs) := by
  classical
  obtain ⟨O, L, m⟩ := h.ex
  have M := L.same s
  have sub : Same (fun x => if O x ∨ x ∈ ms then none else H1 x) H1 := fun x o e => by
    by_cases ob : O x ∨ x ∈ ms
    · simp only [if_pos ob] at e
      cases e
    · simp only [if_neg ob] at e
      exact e
  refine ⟨fun x => if O x ∨ x ∈ ms then none else H1 x, ⟨O, ⟨M.ex, M.bk, M.own, sub, fun x ob => if_pos (.inl ob)⟩, fun x mx => ?_⟩, fun x o ex => ?_, fun x o ex nn => ?_, fun x us ex => ?_⟩
  · obtain ⟨a, b, o, e, t⟩ := m x mx
    exact ⟨a, if_pos (.inr mx), o, s _ _ e, t⟩
  · have nb : ¬ (O x ∨ x ∈ ms) := fun ob => by
      rcases ob with ob | ob
      · rw [L.nfx x ob] at ex
        cases ex
      · rw [(m x ob).2.1] at ex
        cases ex
    show (if O x ∨ x ∈ ms then none else H1 x) = _
    rw [if_neg nb]
    exact M.fx x o ex
  · have nb : ¬ (O x ∨ x ∈ ms) := fun ob => by
      rcases ob with ob | ob
      · exact L.free nn ob
      · obtain ⟨_, _, o', e, _⟩ := m x ob
        rw [e] at nn
        cases nn
    show (if O x ∨ x ∈ ms then none else H1 x) = _
    rw [if_neg nb]
    exact ex
  · have nb : ¬ (O x ∨ x ∈ ms) := fun ob => by
      rcases ob with ob | ob
      · obtain ⟨o', e, no⟩ := M.own x ob
        rw [ex] at e
        exact no us (Option.some.inj e).symm
      · obtain ⟨_, _, o', e, t⟩ := m x ob
        have e2 := s _ _ e
        rw [ex] at e2
        exact t us (Option.some.inj e2).symm
    show (if O x ∨ x ∈ ms then none else H1 x) = _
    rw [if_neg nb]
    exact ex
theorem OneD.rideI {S D W : List Int} {c : Str} {day i j : Int} {s g m : Nat} {zs : List Int} {lks : List Lk} {near : List (List Nat)} {Q : VK} {E : XK} (h : OneD CL CA ⟨S, D, W⟩ Fx H p wa ta ms book n) (WA : WebAt CW Fx wa zs lks near) (TA : TarAt C Fx ta S D W) (hn : n ≤ 900) (RN : RowNet m near zs) (ei : i = (s : Nat)) (ej : j = (g : Nat)) (hs : s < m) (hg : g < m) (hday : FT.lastDay (book c) ≤ day)
    (k : ∀ H' : Hp, OneD CL CA ⟨S, D, W⟩ Fx H' p wa ta ms (addTo book c ⟨day, s, g, min (1 + dist s g) 5, FT.charge ⟨S, D, W⟩ (book c) day (min (1 + dist s g) 5)⟩) (n + 1) → (∀ l, l ∈ ms → H' l = H l) → Q (.int (FT.charge ⟨S, D, W⟩ (book c) day (min (1 + dist s g) 5))) H') :
    spRide C CW CS CN CD CL CA [.ref p, .str c, .int day, .int i, .int j] H Q E := by
  subst ei ej
  obtain ⟨O, L, mm⟩ := h.ex
  refine ride_row L WA TA hn RN hs hg hday fun H' O' fr nw l' => k H' ⟨O', l', fun x mx => ?_⟩ fun x mx => ?_
  · obtain ⟨a, b, o, e, t⟩ := mm x mx
    refine ⟨fun ob => ?_, b, o, fr x o e a, t⟩
    rcases nw x ob with z | z
    · exact a z
    · rw [e] at z
      cases z
  · obtain ⟨a, b, o, e, t⟩ := mm x mx
    rw [fr x o e a, e]
end
end FW

namespace FW
open PySem PySem.Spec PyProof.Rows L2
/-! ### told rides as data -/
def datRide (r : FT.Ride) : PyData := .tuple [.int r.day, .int r.start, .int r.goal, .int (r.z : Nat), .int r.c]
theorem lay_rides : ∀ l : List FT.Ride, PyData.canLayAll0 (l.map datRide) = true
  | [] => by simp [PyData.canLayAll0]
  | r :: l => by
    have ih := lay_rides l
    simp only [List.map_cons, PyData.canLayAll0, Bool.and_eq_true]
    exact ⟨by simp [datRide, PyData.canLay0, PyData.canLayAll0], ih⟩
theorem dep_rides : ∀ l : List FT.Ride, PyData.depthAll (l.map datRide) ≤ 1
  | [] => by simp [PyData.depthAll]
  | r :: l => by
    have ih := dep_rides l
    have e : PyData.depthAll ((r :: l).map datRide) = max 1 (PyData.depthAll (l.map datRide)) := by simp [PyData.depthAll, PyData.depth, datRide]
    rw [e]
    omega
theorem shaped_rides (rs : List FT.Ride) : SeqAt.shaped (.list (rs.map datRide)) = true := by
  unfold SeqAt.shaped
  rw [Bool.and_eq_true_iff]
  refine ⟨by simpa [PyData.canLay0] using lay_rides rs, decide_eq_true ?_⟩
  have h := dep_rides rs
  have e : PyData.depth (.list (rs.map datRide)) = PyData.depthAll (rs.map datRide) + 1 := by simp [PyData.depth]
  rw [e]
  omega
theorem eqv_rides (rs : List FT.Ride) : PyData.eqv (.list (rs.map datRide)) (.list (rs.map datRide)) = true := SeqAt.eqv_refl _ (by simpa [PyData.canLay0] using lay_rides rs)
theorem dps_rides {K : PySem.W.Frag} {H : Hp} {as : List Addr} {rs : List FT.Ride} (h : All2 (RideAt H) as rs) : DpAll K H (as.map V.ref) (rs.map datRide) := by
  induction h with
  | nil => exact .nil
  | cons r _ ih => exact .cons (.tup (SqT.of r) (.cons (.int _) (.cons (.int _) (.cons (.int _) (.cons (.int _) (.cons (.int _) .nil)))))) ih
end FW

namespace FW
open PySem PySem.Spec PyProof.Rows L2
/-! ### levels stand at every web -/
theorem least_nat {p : Nat → Prop} : ∀ n, p n → ∃ k, p k ∧ ∀ j, p j → k ≤ j := by
  intro n
  induction n using Nat.strongRecOn with
  | _ n ih =>
    intro h
    by_cases c : ∃ j, j < n ∧ p j
    · obtain ⟨j, lt, pj⟩ := c
      exact ih j lt pj
    · exact ⟨n, h, fun j pj => Nat.le_of_not_lt fun lt => c ⟨j, lt, pj⟩⟩
theorem way_pos {near : List (List Nat)} {zs : List Int} {s v k : Nat} (w : Way near zs s v k) : 1 ≤ k := by
  induction w with
  | nil => exact Nat.le_refl 1
  | step _ _ ih => exact Nat.le_trans ih (Nat.le_add_right _ _)
theorem levels_exist {near : List (List Nat)} {zs : List Int} {s : Nat} (hs : s < zs.length) (ad : ∀ u v, Adj near u v → v < zs.length) : ∃ L : Lv, IsLevels near zs s L := by
  have f : ∀ v, ∃ o : Option Nat, (∀ k, o = some k → Way near zs s v k ∧ ∀ j, Way near zs s v j → k ≤ j) ∧ (o = none → ∀ j, ¬ Way near zs s v j) := fun v => by
    by_cases c : ∃ k, Way near zs s v k
    · obtain ⟨k, w⟩ := c
      obtain ⟨m, wm, hm⟩ := least_nat k w
      exact ⟨some m, fun k e => by cases e; exact ⟨wm, hm⟩, fun e => by cases e⟩
    · exact ⟨none, (fun k e => by cases e), fun _ j w => c ⟨j, w⟩⟩
  obtain ⟨g, hg⟩ : ∃ g : Nat → Option Nat, ∀ v, (∀ k, g v = some k → Way near zs s v k ∧ ∀ j, Way near zs s v j → k ≤ j) ∧ (g v = none → ∀ j, ¬ Way near zs s v j) := ⟨fun v => Classical.choose (f v), fun v => Classical.choose_spec (f v)⟩
  have ll : ((List.range zs.length).map g).length = zs.length := by rw [List.length_map, List.length_range]
  have lkL : ∀ v, v < zs.length → lk ((List.range zs.length).map g) v = g v := fun v hv => by
    unfold lk
    rw [List.getD_eq_getElem?_getD, List.getElem?_map, List.getElem?_range hv]
    rfl
  refine ⟨(List.range zs.length).map g, ll, ?_, fun u v k e a => ?_, fun v k e => ?_⟩
  · rw [lkL s hs]
    cases e : g s with
    | none => exact absurd (Way.nil) ((hg s).2 e 1)
    | some k =>
      obtain ⟨w, m⟩ := (hg s).1 k e
      have h1 := m 1 .nil
      have h2 := way_pos w
      exact congrArg some (Nat.le_antisymm h1 h2)
  · have hu : u < zs.length := by
      have := lk_lt e
      rwa [ll] at this
    have hv := ad u v a
    rw [lkL u hu] at e
    rw [lkL v hv]
    have w := Way.step ((hg u).1 k e).1 a
    cases e2 : g v with
    | none => exact absurd w ((hg v).2 e2 _)
    | some k' => exact ⟨k', rfl, ((hg v).1 k' e2).2 _ w⟩
  · have hv : v < zs.length := by
      have := lk_lt e
      rwa [ll] at this
    rw [lkL v hv] at e
    have w := ((hg v).1 k e).1
    exact ⟨w, way_pos w⟩
section
variable {P : Program} {w : World} {K : PySem.W.Frag} {mg : Str → Option Value} {base : Heap} {C CP CZ CW CB CS CN CA CL CD : Addr}
variable {T : FT.Tar} {Fx H H1 : Hp} {p wa ta l : Addr} {ms : List Addr} {book : Str → List FT.Ride} {n : Nat}
theorem OneD.ridden {S D W : List Int} {c : Str} {day i j : Int} {s g : Nat} {zs : List Int} {lks : List Lk} {near : List (List Nat)} {L : Lv} {Q : VK} {E : XK} (h : OneD CL CA ⟨S, D, W⟩ Fx H p wa ta ms book n) (WA : WebAt CW Fx wa zs lks near) (TA : TarAt C Fx ta S D W) (hn : n ≤ 900) (ei : i = (s : Nat)) (ej : j = (g : Nat)) (hs : s < zs.length) (hg : g < zs.length) (IL : IsLevels near zs s L) (hday : FT.lastDay (book c) ≤ day)
    (k0 : lk L g = none → ∀ H' : Hp, Same H H' → Q .non H')
    (k1 : ∀ k : Nat, lk L g = some k → ∀ H' : Hp, OneD CL CA ⟨S, D, W⟩ Fx H' p wa ta ms (addTo book c ⟨day, i, j, min k 5, FT.charge ⟨S, D, W⟩ (book c) day (min k 5)⟩) (n + 1) → (∀ l, l ∈ ms → H' l = H l) → Q (.int (FT.charge ⟨S, D, W⟩ (book c) day (min k 5))) H') :
    spRidden10 C CW CL CA [.ref p, .str c, .int day, .int i, .int j] H Q E := by
  obtain ⟨O, L0, mm⟩ := h.ex
  refine ⟨S, D, W, Fx, p, wa, ta, book, O, n, c, day, i, j, s, g, zs, lks, near, L, rfl, ei, ej, L0, WA, TA, hn, hs, hg, IL, hday, k0, fun k ek H' O' fr nw l' => k1 k ek H' ⟨O', l', fun x mx => ?_⟩ fun x mx => ?_⟩
  · obtain ⟨a, b, o, e, t⟩ := mm x mx
    refine ⟨fun ob => ?_, b, o, fr x o e a, t⟩
    rcases nw x ob with z | z
    · exact a z
    · rw [e] at z
      cases z
  · obtain ⟨a, b, o, e, t⟩ := mm x mx
    rw [fr x o e a, e]
/-- what is on the list stays where everything stays -/
theorem OneD.stay (h : OneD CL CA T Fx H p wa ta ms book n) (s : Same H H1) (m : l ∈ ms) : H1 l = H l := by
  obtain ⟨O, _, mm⟩ := h.ex
  obtain ⟨_, _, o, e, _⟩ := mm l m
  rw [e]
  exact s _ _ e
end
/-! ### the last ride told -/
theorem last_ride {H : Hp} {gs : List Addr} {rs : List FT.Ride} {r : FT.Ride} (h : All2 (RideAt H) gs (rs ++ [r])) : ∃ g, atI (gs.map V.ref) (-1) = some (V.ref g) ∧ RideAt H g r := by
  have hl := h.len
  rw [List.length_append] at hl
  have hl : gs.length = rs.length + 1 := hl
  obtain ⟨g, eg⟩ : ∃ g, gs[rs.length]? = some g := ⟨_, List.getElem?_eq_getElem (by omega)⟩
  refine ⟨g, ?_, h.at eg (by simp)⟩
  have t := take_snoc eg
  rw [List.take_of_length_le (Nat.le_of_eq hl)] at t
  have e : gs.map V.ref = (gs.take rs.length).map V.ref ++ [V.ref g] := (congrArg (List.map V.ref) t).trans (by rw [List.map_append]; rfl)
  rw [e]
  exact atI_last _ _
theorem shaped_ride (r : FT.Ride) : SeqAt.shaped (datRide r) = true := by
  simp [datRide, SeqAt.shaped, PyData.canLay0, PyData.canLayAll0, PyData.depth, PyData.depthAll]
theorem eqv_ride (r : FT.Ride) : PyData.eqv (datRide r) (datRide r) = true := SeqAt.eqv_refl _ (by simp [datRide, PyData.canLay0, PyData.canLayAll0])
theorem dp_ride {K : PySem.W.Frag} {H : Hp} {t : Addr} {r : FT.Ride} (h : RideAt H t r) : Dp K H (.ref t) (datRide r) := .tup (SqT.of h) (.cons (.int _) (.cons (.int _) (.cons (.int _) (.cons (.int _) (.cons (.int _) .nil)))))
theorem min5' (k : Nat) : (if ((k : Nat) : Int) < 5 then ((k : Nat) : Int) else 5) = ((min k 5 : Nat) : Int) := by
  by_cases c : k < 5
  · rw [if_pos (by omega), Nat.min_eq_left (by omega)]
  · rw [if_neg (by omega), Nat.min_eq_right (by omega)]
    rfl
theorem rd_item {H H' : Hp} {as : List Addr} {rs : List Rd} {i : Nat} {x : V} (hA : All2 (RdAt H) as rs) (hi : (as.map V.ref)[i]? = some x) (s : Same H H') : ∃ t r, rs[i]? = some r ∧ RdAt H' t r ∧ x = V.ref t := by
  rw [List.getElem?_map] at hi
  cases e : as[i]? with
  | none =>
    rw [e] at hi
    cases hi
  | some t =>
    rw [e] at hi
    obtain ⟨r, er, ht⟩ := hA.getL e
    exact ⟨t, r, er, s _ _ ht, (Option.some.inj hi).symm⟩
theorem tk_item {T : FT.Tar} {H H' : Hp} {as : List Addr} {ts : List FT.Tk} {i : Nat} {x : V} (hA : All2 (TkAt T H) as ts) (hi : (as.map V.ref)[i]? = some x) (s : Same H H') : ∃ t k, ts[i]? = some k ∧ TkAt T H' t k ∧ x = V.ref t := by
  rw [List.getElem?_map] at hi
  cases e : as[i]? with
  | none =>
    rw [e] at hi
    cases hi
  | some t =>
    rw [e] at hi
    obtain ⟨r, er, ht⟩ := hA.getL e
    exact ⟨t, r, er, tk_same10 ht s, (Option.some.inj hi).symm⟩
end FW

namespace FW
open PySem PySem.Spec PyProof.Rows L2
abbrev sWeeks10 : Stmt := top 47
def weeksN : List Str := ["_law_ledger", "_law_card", "_law_told", "_law_rows_here", "_law_number", "_law_week", "_law_days", "_law_cost_here", "_law_tickets", "_law_ride", "_law_day"]
theorem scWeeks10 : FnScope ["_law_ledger", "_law_card", "_law_told", "_law_rows_here", "_law_number", "_law_week", "_law_days", "_law_cost_here", "_law_tickets", "_law_ride", "_law_day"] ["_law_ledger", "_law_card", "_law_told", "_law_rows_here", "_law_number"] (defScope sWeeks10) := ⟨rfl, rfl, rfl, by decide +kernel, rfl, by decide +kernel, by decide +kernel⟩
/-- the scope of the outer of two comprehensions, one within the other -/
def outScope : Scope := { kind := .function, names := [(".0", .local), ("_law_day", .cell), ("_law_told", .cell), ("_law_week", .cell)], isGenerator := false, isCoroutine := false }
def TdAt (H : Hp) (t : Addr) (r : FT.Ride) : Prop := H t = some (.tup [.int r.day, .int (r.z : Nat), .int r.c])
theorem td_item {H H' : Hp} {as : List Addr} {rs : List FT.Ride} {i : Nat} {x : V} (hA : All2 (TdAt H) as rs) (hi : (as.map V.ref)[i]? = some x) (s : Same H H') : ∃ t r, rs[i]? = some r ∧ TdAt H' t r ∧ x = V.ref t := by
  rw [List.getElem?_map] at hi
  cases e : as[i]? with
  | none =>
    rw [e] at hi
    cases hi
  | some t =>
    rw [e] at hi
    obtain ⟨r, er, ht⟩ := hA.getL e
    exact ⟨t, r, er, s _ _ ht, (Option.some.inj hi).symm⟩
theorem pi_listK {X : Cx} {K0 : PySem.W.Frag} {tg l : Expr} {tl : TE} (hK : X.K = K0) (h : PE X l tl) : PI X tg l (iList K0 tl) := by
  subst hK
  exact pi_list h
section
variable {P : Program} {w : World} {K : PySem.W.Frag} {mg : Str → Option Value} {base : Heap} {C CP CZ CW CB CS CN CA CL CD : Addr}
def spWeeks10 (C CL CA : Addr) : L2.Sp := fun vs H Q _ => ∃ (S D W : List Int) (Fx : Hp) (p wa ta : Addr) (book : Str → List FT.Ride) (O : Addr → Prop) (n : Nat) (c : Str) (l ra : Addr) (num : Int) (as rws : List Addr), vs = [.ref p, .str c, .ref l, .ref ra, .int num] ∧ Led CL CA ⟨S, D, W⟩ Fx H p wa ta book O n ∧ TarAt C Fx ta S D W ∧ n ≤ 900 ∧
  H l = some (.lst (as.map V.ref)) ∧ All2 (TdAt H) as (book c) ∧ (book c).length ≤ 40 ∧ RowsAt H ra rws [S, D, W] ∧ (Five S ∧ Five D ∧ Five W) ∧ ∀ H' : Hp, Same H H' → Q (.bl true) H'
theorem ok_weeks10 {f fW fS fCo fDr : Addr} {fd dW dS dCo dDr : FuncData} (F : Fun K "_law_weeks" "_law_weeks" sWeeks10 f fd) (Dg : Prg K mg C CP CZ CW CB CS CN CA CL CD) (T : LT mg) (gtuple : mg "tuple" = none) (gSorted : mg "sorted" = none) (gSet : mg "set" = none)
    (FW : Fun K "_law_whole" "_law_whole" sWhole fW dW) (bW : Binds K dW ["_law_found"] []) (gW : mg "_law_whole" = some (.ref fW)) (FS : Fun K "_law_serves" "_law_serves" sServes fS dS) (bS : Binds K dS ["_law_ticket", "_law_day", "_law_ride", "_law_zones"] []) (gS : mg "_law_serves" = some (.ref fS))
    (FCo : Fun K "_law_cost" "_law_cost" sCost10 fCo dCo) (bCo : Binds K dCo ["_law_tickets", "_law_days", "_law_rows_here"] []) (gCo : mg "_law_cost" = some (.ref fCo)) (FDr : Fun K "_law_drawn" "_law_drawn" sDrawn10 fDr dDr) (bDr : Binds K dDr ["_law_number", "_law_rows_here", "_law_days"] []) (gDr : mg "_law_drawn" = some (.ref fDr)) :
    FnOk P w K mg base CX0 7 f fd ["_law_ledger", "_law_card", "_law_told", "_law_rows_here", "_law_number"] (spWeeks10 C CL CA) := by
  have gSum := Dg.T.sum
  have gR := Dg.T.P.range
  have glist := Dg.T.P.list
  have gIsi := T.isi
  have GCo : FnOk P w K mg base CX0 2 fCo dCo ["_law_tickets", "_law_days", "_law_rows_here"] spCost10 := ok_cost10 FCo T gtuple FW bW gW FS bS gS
  have GDr : FnOk P w K mg base CX0 1 fDr dDr ["_law_number", "_law_rows_here", "_law_days"] spDrawn10 := ok_drawn10 FDr Dg.T.max Dg.T.P.min
  obtain ⟨r3, t3, R3, i3, m3⟩ := Dg.weekSum.ex
  have G3 : FnOk P w K mg base CX0 6 r3 t3 ["self", "card", "week"] (spWeekSum CL CA) := ok_weekSum Dg R3
  obtain ⟨r6, t6, R6, i6, m6⟩ := Dg.tickets.ex
  have G6 : FnOk P w K mg base CX0 6 r6 t6 ["self", "card", "week"] (spTickets C CL CA) := ok_tickets Dg R6
  refine F.ok scWeeks10 (fun vs H Q E h => ?_) (fun cdv A outer s H vs Q E hr h => ?_)
  · obtain ⟨S, D, W, Fx, p, wa, ta, book, O, n, c, l, ra, num, as, rws, rfl, _⟩ := h
    rfl
  · obtain ⟨S, D, W, Fx, p, wa, ta, book, O, n, c, l, ra, num, as, rws, rfl, L, TA, hn, hl, hA, h40, hR, f3, q⟩ := h
    have h1 := hr.mono (show 1 ≤ 6 by decide)
    have h2 := hr.mono (show 2 ≤ 6 by decide)
    refine ⟨_, C8.pss_cut (ps_for PassesOwn.never rfl (pi_list (pe_callB (cr_sortedSet rfl) (by rfl) gSorted (by decide +kernel) (pa_cons (pe_callTy (cr_setL rfl) (by rfl) gSet (by decide +kernel) (pa_cons (pe_op op_cat (pe_lc (own := [("_law_ride", 9)]) (g := gName 9) (by rfl) scWeeks10.nd (pi_list (pv 2)) (blkOk_by (own := [("_law_ride", 9)]) (N := weeksN) (sc := defScope sWeeks10) (by decide +kernel)) (fun _ _ _ _ _ => pg_name (i := 9) scWeeks10.nd rfl (Or.inl rfl)) (fun _ _ _ _ _ => pts_nil)
            (fun _ _ _ _ _ => (pe_op op_fdiv (pe_ix (r := rIxT K) ix_tup (pv 9) pe_int (fun _ _ => rfl)) pe_int))) (pe_lst (pa_cons pe_int pa_nil))) pa_nil)) pa_nil))) (pg_name (i := 5) scWeeks10.nd rfl (.inr rfl))
        (pss_cons (ps_setLc (i := 6) (own := [("_law_day", 10)]) (g := gName 10) (by rfl) scWeeks10.nd rfl rfl (sw_true rfl rfl rfl (by decide +kernel)) (pi_range1 (by rfl) gR (pa_cons pe_int pa_nil)) (blkOk_by (own := [("_law_day", 10)]) (N := weeksN) (sc := defScope sWeeks10) (by decide +kernel)) (fun _ _ _ _ _ => pg_name (i := 10) scWeeks10.nd rfl (Or.inr rfl)) (fun _ _ _ _ _ => pts_nil)
            (fun _ _ _ _ _ => pe_lc (own := [("_law_ride", 9)]) (g := gName 9) (by rfl) scWeeks10.nd (pi_listK (K0 := K) rfl (pv 2)) (blkOk_by (own := [("_law_ride", 9)]) (N := weeksN) (sc := outScope) (by decide +kernel)) (fun _ _ _ _ _ => pg_name (i := 9) scWeeks10.nd rfl (Or.inl rfl)) (fun _ _ _ _ _ => pts_one (pt_cmpR op_eq (pe_ix (r := rIxT K) ix_tup (pv 9) pe_int (fun _ _ => rfl)) (pe_op op_add (pe_op op_mul pe_int (pv 5)) (pv 10)) (nomark _))) (fun _ _ _ _ _ => (pe_ix (r := rIxT K) ix_tup (pv 9) pe_int (fun _ _ => rfl)))))
        (pss_cons (ps_set (i := 7) scWeeks10.nd rfl (.inl rfl) (pe_callB (cr_sum rfl) (by rfl) gSum (by decide +kernel) (pa_cons (pe_lc (own := [("_law_ride", 9)]) (g := gName 9) (by rfl) scWeeks10.nd (pi_list (pv 2)) (blkOk_by (own := [("_law_ride", 9)]) (N := weeksN) (sc := defScope sWeeks10) (by decide +kernel)) (fun _ _ _ _ _ => pg_name (i := 9) scWeeks10.nd rfl (Or.inl rfl)) (fun _ _ _ _ _ => pts_one (pt_cmpR op_eq (pe_op op_fdiv (pe_ix (r := rIxT K) ix_tup (pv 9) pe_int (fun _ _ => rfl)) pe_int) (pv 5) (nomark _)))
            (fun _ _ _ _ _ => (pe_ix (r := rIxT K) ix_tup (pv 9) pe_int (fun _ _ => rfl)))) pa_nil)))
        (pss_cons (ps_set (i := 8) scWeeks10.nd rfl (.inl rfl) (pe_meth (pv 0) Dg.L.cl m6 G6 hr i6 .nil pass0 (pa_cons (pv 1) (pa_cons (pv 5) pa_nil))))
        (pss_cons (ps_if (PW.pt (pw_or (pt_not (pt_val (pe_callB call_isi (by rfl) gIsi boot_isinstance (pa_cons (pv 8) (pa_cons (pe_bltn (v := .ty "list") (by rfl) glist (by decide +kernel) rfl) pa_nil))))) (pw_or1 (pt_cmpR op_ne (pe_meth (pv 0) Dg.L.cl m3 G3 hr i3 .nil pass0 (pa_cons (pv 1) (pa_cons (pv 5) pa_nil))) (pv 7) (nomark _))))) (pss_one (ps_ret pe_bl)) pss_nil)
        (pss_cons (ps_if (PW.pt (pw_or (pt_cmpR op_ne (pe_call GCo h2 (by rfl) gCo FCo.kp bCo .nil pass0 (pa_cons (pv 8) (pa_cons (pv 6) (pa_cons (pv 3) pa_nil)))) (pv 7) (nomark _)) (pw_or1 (pt_cmpR op_gt (pv 7) (pe_call GDr h1 (by rfl) gDr FDr.kp bDr .nil pass0 (pa_cons (pv 4) (pa_cons (pv 3) (pa_cons (pv 6) pa_nil)))) (nomark _))))) (pss_one (ps_ret pe_bl)) pss_nil)
        (pss_cons (ps_expr (pe_bm0 PySem.F.plainAttrs_list PySem.F.slot_list_clear PySem.F.type_list_clear mt_clear (pv 8)))
        (pss_one (ps_if (pt_cmpR op_ne (pe_call GCo h2 (by rfl) gCo FCo.kp bCo .nil pass0 (pa_cons (pe_meth (pv 0) Dg.L.cl m6 G6 hr i6 .nil pass0 (pa_cons (pv 1) (pa_cons (pv 5) pa_nil))) (pa_cons (pv 6) (pa_cons (pv 3) pa_nil)))) (pv 7) (nomark _)) (pss_one (ps_ret pe_bl)) pss_nil)))))))))
      (pss_one (ps_ret pe_bl)), ?_⟩
    obtain ⟨dx, aa, hp⟩ := L.at_p
    have bk := (L.bk c).1
    have hu := hr.units
    have sl : sizeLine = 16777216 := sizeLine_eq
    obtain ⟨hra, hRA⟩ := hR
    refine ⟨fun σ H' => Same H H' ∧ ∃ y5 y6 y7 y8 : Option V, σ = [some (.ref p), some (.str c), some (.ref l), some (.ref ra), some (.int num), y5, y6, y7, y8, none, none], ?_, ?_⟩
    · refine ⟨_, rfl, l, rfl, ⟨_, SqL.of hl⟩, fun d3 nd3 => lc_list (K := K) (a := l) (xs := as.map V.ref) (fun i H' => Same H H' ∧ ∃ ws : List Int, H' d3 = some (.lst (ws.map V.int)) ∧ ws.length = i) ⟨same_upd nd3, [], upd_same, rfl⟩ (fun i H' _ ⟨s', _⟩ => SqL.of (s' _ _ hl)) ?_ ?_⟩
      · rintro i x H' hi ⟨s', ws, hd, lws⟩
        obtain ⟨t, r, er, ht, rfl⟩ := td_item hA hi s'
        have il : i < (book c).length := (List.getElem?_eq_some_iff.mp er).1
        refine ⟨rfl, ?_⟩
        refine tYes_if ?_
        refine ⟨_, rfl, t, _, _, _, rfl, rfl, SqT.of ht, rfl, _, _, rfl, rfl, ⟨by decide, by decide⟩, _, hd, small_line (by rw [List.length_map]; omega), upd_out s' nd3, ws ++ [r.day / 7], by rw [upd_same, List.map_append]; rfl, by rw [List.length_append, lws]; rfl⟩
      rintro H3 ⟨s3, ws, h3, lws⟩
      rw [List.length_map, hA.len] at lws
      refine ⟨by show 1 ≤ sizeLine; decide, fun zl nzl => ?_⟩
      have szl := same_upd (o := .lst [V.int 3]) nzl
      refine ⟨d3, zl, _, _, rfl, rfl, szl _ _ h3, upd_same, by rw [List.length_map]; show ws.length + 1 ≤ sizeLine; omega, fun ul nul => ?_⟩
      have em : ws.map V.int ++ [V.int 3] = (ws ++ [3]).map V.int := by rw [List.map_append]; rfl
      rw [em]
      have sul := same_upd (o := .lst ((ws ++ [3]).map V.int)) nul
      have lw : (ws ++ [3]).length ≤ 41 := by rw [List.length_append]; show ws.length + 1 ≤ 41; omega
      refine ⟨ul, ws ++ [3], rfl, SqL.of upd_same, by omega, fun pS cS npS hcS => ?_⟩
      refine ⟨pS, _, cS, rfl, upd_same, by omega, fun ns sp _ _ _ nsp => ?_⟩
      have s0s := s3.trans (szl.trans (sul.trans ((same_upd npS).trans (same_upd (o := .lst (ns.map V.int)) nsp))))
      refine ⟨sp, rfl, ⟨_, SqL.of upd_same⟩, for_list (K := K) (a := sp) (xs := ns.map V.int) (fun i σ H' => Same H H' ∧ H' sp = some (.lst (ns.map V.int)) ∧ ∃ y5 y6 y7 y8 : Option V, σ = [some (.ref p), some (.str c), some (.ref l), some (.ref ra), some (.int num), y5, y6, y7, y8, none, none])
        ⟨s0s, upd_same, none, none, none, none, rfl⟩ (fun i σ H' _ ⟨_, e, _⟩ => SqL.of e) ?_ (fun σ H' ⟨a, _, b⟩ => ⟨a, b⟩)⟩
      rintro i x σ H4 hi ⟨s4, hsp, y5, y6, y7, y8, rfl⟩
      obtain ⟨wk, ewk, rfl⟩ := map_item hi
      -- the days
      refine ⟨7, rfl, by decide, by decide, fun dl ndl => lc_range (lo := 0) (n := (7 : Int).toNat) (fun j H' => Same H4 H' ∧ ∃ bs : List Addr, H' dl = some (.lst (bs.map V.ref)) ∧ All2 (NatsAt H') bs ((List.range j).map fun j => FT.dz wk j (book c)) ∧ ∀ b, b ∈ bs → b ≠ dl) ⟨same_upd ndl, [], upd_same, .nil, fun b m => nomatch m⟩ ?_ ?_⟩
      · rintro j H' hj ⟨s', bs, hdl, hB, nbs⟩
        have hj7 : j < 7 := hj
        have s4' := s4.trans s'
        refine ⟨rfl, ?_⟩
        refine tYes_if ?_
        refine ⟨_, rfl, l, rfl, ⟨_, SqL.of (s4' _ _ hl)⟩, fun b nb => lc_list (K := K) (a := l) (xs := as.map V.ref) (fun i H2 => Same H' H2 ∧ H2 b = some (.lst ((FT.dz wk j ((book c).take i)).map fun (k : Nat) => V.int (k : Nat)))) ⟨same_upd nb, upd_same⟩ (fun i H2 _ ⟨s2, _⟩ => SqL.of (s2 _ _ (s4' _ _ hl))) ?_ ?_⟩
        · rintro i x H2 hi ⟨s2, hb⟩
          obtain ⟨t, r, er, ht, rfl⟩ := td_item hA hi (s4'.trans s2)
          have il : i < (book c).length := (List.getElem?_eq_some_iff.mp er).1
          refine ⟨rfl, ?_⟩
          refine ⟨_, rfl, t, _, _, _, rfl, rfl, SqT.of ht, rfl, _, rfl, _, _, rfl, rfl, .inl ⟨by decide, by decide⟩, _, rfl, _, _, rfl, rfl, rfl, _, rfl, ?_⟩
          refine ite2 (fun e => ?_) (fun e => ?_)
          · have er' : r.day = 7 * wk + (0 + (j : Nat)) := V.int.inj (of_decide_eq_true e)
            have HP : FT.inWD wk j r = true := decide_eq_true (by omega)
            refine ⟨_, rfl, t, _, _, _, rfl, rfl, SqT.of ht, rfl, _, hb, small_line (by rw [List.length_map]; have := FT.dz_len wk j ((book c).take i); rw [List.length_take] at this; omega), upd_out s2 nb, ?_⟩
            rw [upd_same, take_snoc er, FT.dz_snoc, if_pos HP, List.map_append]
            rfl
          · have HN : ¬ FT.inWD wk j r = true := fun z => e (decide_eq_true (congrArg V.int (by have := of_decide_eq_true z; omega)))
            refine ⟨s2, ?_⟩
            rw [take_snoc er, FT.dz_snoc, if_neg HN, List.append_nil]
            exact hb
        · rintro H2 ⟨s2, hb⟩
          rw [List.length_map, hA.len, List.take_length] at hb
          have hdl2 := s2 _ _ hdl
          have ndb : dl ≠ b := ne_of_none hdl nb
          refine ⟨bs.map V.ref, hdl2, small_line (by rw [List.length_map, hB.len, List.length_map, List.length_range]; omega), upd_out (s'.trans s2) ndl, bs ++ [b], by rw [upd_same, List.map_append]; rfl, ?_, fun x mx => ?_⟩
          · rw [List.range_succ, List.map_append]
            refine All2.app (hB.imp_mem fun x zs mx hx => ?_) (All2.one ?_)
            · show upd H2 dl _ x = _
              rw [upd_ne (nbs x mx)]
              exact s2 _ _ hx
            · show upd H2 dl _ b = _
              rw [upd_ne ndb.symm]
              exact hb
          · rcases List.mem_append.mp mx with mx | mx
            · exact nbs x mx
            · rw [List.mem_singleton.mp mx]
              exact ndb.symm
      rintro H5 ⟨s5, bs, hdl, hB, _⟩
      have hB : All2 (NatsAt H5) bs (FT.wdays wk (book c)) := hB
      have s05 := s4.trans s5
      refine ⟨_, rfl, l, rfl, ⟨_, SqL.of (s05 _ _ hl)⟩, fun d6 nd6 => lc_list (K := K) (a := l) (xs := as.map V.ref) (fun i H' => Same H5 H' ∧ H' d6 = some (.lst ((FT.selL (FT.inW wk) FT.Ride.c ((book c).take i)).map V.int))) ⟨same_upd nd6, upd_same⟩ (fun i H' _ ⟨s', _⟩ => SqL.of (s' _ _ (s05 _ _ hl))) ?_ ?_⟩
      · rintro i x H' hi ⟨s', hd⟩
        obtain ⟨t, r, er, ht, rfl⟩ := td_item hA hi (s05.trans s')
        refine ⟨rfl, ?_⟩
        refine ⟨_, rfl, t, _, _, _, rfl, rfl, SqT.of ht, rfl, _, _, rfl, rfl, ⟨by decide, by decide⟩, _, rfl, rfl, _, rfl, ?_⟩
        refine ite2 (fun e => ?_) (fun e => ?_)
        · have HP : (FT.inW wk) r = true := decide_eq_true (V.int.inj (of_decide_eq_true e))
          refine ⟨_, rfl, t, _, _, _, rfl, rfl, SqT.of ht, rfl, _, hd, small_line (by rw [List.length_map]; have := FT.selL_take_len (FT.inW wk) FT.Ride.c (book c) i; omega), upd_out s' nd6, ?_⟩
          rw [upd_same, FT.selL_pos er HP, List.map_append]
          rfl
        · have HN : ¬ (FT.inW wk) r = true := fun z => e (decide_eq_true (congrArg V.int (of_decide_eq_true z)))
          refine ⟨s', ?_⟩
          rw [FT.selL_neg er HN]
          exact hd
      rintro H6 ⟨s6, h6⟩
      rw [List.length_map, hA.len, List.take_length] at h6
      refine ⟨d6, _, rfl, SqL.of h6, ?_⟩
      have s06 := s05.trans s6
      have hdl6 := s6 _ _ hdl
      have hB6 : All2 (NatsAt H6) bs (FT.wdays wk (book c)) := hB.imp fun b r e => s6 _ _ e
      have lz : ∀ zs, zs ∈ FT.wdays wk (book c) → zs.length ≤ 1000 := fun zs m => by have := wdays_lens zs m; omega
      -- the tickets
      refine ⟨_, rfl, p, dx, _, rfl, s06 _ _ hp, lf_no (by decide +kernel), _, rfl, _, rfl, S, D, W, Fx, p, wa, ta, book, O, n, c, wk, rfl, L.same s06, TA, hn, fun H7 tl tas ts s7 ntl htl hT lts hok hsv hcost _ => ?_⟩
      have s07 := s06.trans s7
      refine ⟨_, rfl, .ref tl, .ty "list", .type "list", .type "list", true, rfl, .ty _, .base (.lst htl), kit_ty (by decide +kernel), true, rfl, ?_⟩
      refine iteF ?_
      refine ⟨_, rfl, p, dx, _, rfl, s07 _ _ hp, lf_no (by decide +kernel), _, rfl, _, rfl, _, Fx, p, wa, ta, _, _, _, c, wk, rfl, L.same s07, fun H8 s8 => ?_⟩
      have s08 := s07.trans s8
      refine ⟨_, rfl, rfl, _, rfl, ?_⟩
      refine iteNS rfl ?_
      -- what they cost
      have s68 := s7.trans s8
      refine ⟨_, rfl, _, rfl, _, rfl, tl, dl, ra, tas, bs, rws, S, D, W, ts, _, rfl, s8 _ _ htl, hT.imp fun b k e => tk_same10 e s8, lts, hok, hsv, s68 _ _ hdl6, hB6.imp fun b r e => s68 _ _ e, FT.wdays_len _ _, lz, ⟨s08 _ _ hra, hRA.imp fun b r e => s08 _ _ e⟩, f3, fun H9 s9 => ?_⟩
      have s09 := s08.trans s9
      have s69 := s68.trans s9
      have ec : FT.cost ⟨S, D, W⟩ ts = FT.wsum wk (book c) := hcost.trans (bk.week wk).symm
      refine ⟨_, rfl, rfl, _, rfl, ?_⟩
      refine iteNS (congrArg V.int ec) ?_
      refine ⟨_, rfl, _, rfl, _, rfl, _, rfl, num, ra, dl, rws, bs, S, D, W, _, rfl, ⟨s09 _ _ hra, hRA.imp fun b r e => s09 _ _ e⟩, f3.1, f3.2.1, f3.2.2, s69 _ _ hdl6, hB6.imp fun b r e => s69 _ _ e, bk.in5 wk, fun x hx => ⟨_, _, rfl, rfl, _, rfl, ?_⟩⟩
      refine ite2 (fun e => ?_) (fun _ => ?_)
      · exfalso
        have e2 : x < FT.wsum wk (book c) := of_decide_eq_true e
        have e3 := bk.week wk
        omega
      -- the list is the asker's own
      have htl9 := s9 _ _ (s8 _ _ htl)
      refine ⟨_, rfl, .inl ⟨rfl, _, SqL.of htl9⟩, tl, _, rfl, rfl, htl9, ?_⟩
      have ntl0 : H tl = none := s06.free ntl
      have L3 := (L.same s09).put (o := .lst []) (L.free ntl0) (L.fx.free ntl0) (fun xs z => by rw [htl9] at z; cases z)
      have s610 : Same H6 (upd H9 tl (.lst [])) := upd_out s69 ntl
      obtain ⟨H10, e10⟩ : ∃ H10, H10 = upd H9 tl (.lst []) := ⟨_, rfl⟩
      rw [← e10] at L3 s610 ⊢
      clear e10
      have s010 := s06.trans s610
      refine ⟨_, rfl, p, dx, _, rfl, s010 _ _ hp, lf_no (by decide +kernel), _, rfl, _, rfl, S, D, W, Fx, p, wa, ta, book, O, n, c, wk, rfl, L3, TA, hn, fun H11 tl2 tas2 ts2 s11 _ htl2 hT2 lts2 hok2 hsv2 hcost2 _ => ?_⟩
      have s611 := s610.trans s11
      have s011 := s010.trans s11
      refine ⟨_, rfl, _, rfl, tl2, dl, ra, tas2, bs, rws, S, D, W, ts2, _, rfl, htl2, hT2, lts2, hok2, hsv2, s611 _ _ hdl6, hB6.imp fun b r e => s611 _ _ e, FT.wdays_len _ _, lz, ⟨s011 _ _ hra, hRA.imp fun b r e => s011 _ _ e⟩, f3, fun H12 s12 => ?_⟩
      have ec2 : FT.cost ⟨S, D, W⟩ ts2 = FT.wsum wk (book c) := hcost2.trans (bk.week wk).symm
      refine ⟨_, rfl, rfl, _, rfl, ?_⟩
      refine iteNS (congrArg V.int ec2) ?_
      have s412 := s5.trans (s6.trans (s611.trans s12))
      exact ⟨s4.trans s412, s412 _ _ hsp, _, _, _, _, rfl⟩
    rintro σ H1 ⟨s1, y5, y6, y7, y8, rfl⟩
    exact q H1 s1
end
end FW

namespace FW
open PySem PySem.Spec PyProof.Rows L2
abbrev sLaw : Stmt := top 50
theorem scLaw : FnScope ["_law_script", "_law_many", "_law_size", "_law_step", "_law_zones", "_law_k", "_law_links", "_law_rows_here", "_law_web", "_law_ledger", "_law_told", "_law_last", "_law_card", "_law_start", "_law_goal", "_law_week", "_law_charge", "_law_found", "_law_count", "_law_number", "_law_ticket"] ["_law_script"] (defScope sLaw) := ⟨rfl, rfl, rfl, by decide +kernel, rfl, by decide +kernel, by decide +kernel⟩
def lawN : List Str := ["_law_script", "_law_many", "_law_size", "_law_step", "_law_zones", "_law_k", "_law_links", "_law_rows_here", "_law_web", "_law_ledger", "_law_told", "_law_last", "_law_card", "_law_start", "_law_goal", "_law_week", "_law_charge", "_law_found", "_law_count", "_law_number", "_law_ticket"]
def spLaw (K : PySem.W.Frag) : L2.Sp := fun vs H Q _ => ∃ (a : Addr) (ns : List Int), vs = [.ref a] ∧ SqL K H a (ns.map V.int) ∧ ns.length ≤ 63 ∧ ∀ H', Q (.bl true) H'
theorem cOT : cO ≠ cT := by decide +kernel
theorem pickS (i : Int) (h0 : 0 ≤ i) (h : i < 6) (a b c d e f : Int) : ∃ y : Int, atI [V.int a, .int b, .int c, .int d, .int e, .int f] i = some (.int y) := by
  rcases (show i = 0 ∨ i = 1 ∨ i = 2 ∨ i = 3 ∨ i = 4 ∨ i = 5 by omega) with rfl | rfl | rfl | rfl | rfl | rfl <;> exact ⟨_, rfl⟩
theorem pick9 (i : Int) (h0 : 0 ≤ i) (h : i < 9) : ∃ y : Int, atI [V.int 1, .int 5, .int 25, .int 125, .int 625, .int 3125, .int 15625, .int 78125, .int 390625] i = some (.int y) ∧ 0 < y ∧ y < 1073741824 := by
  rcases (show i = 0 ∨ i = 1 ∨ i = 2 ∨ i = 3 ∨ i = 4 ∨ i = 5 ∨ i = 6 ∨ i = 7 ∨ i = 8 by omega) with rfl | rfl | rfl | rfl | rfl | rfl | rfl | rfl | rfl <;> exact ⟨_, rfl, by decide, by decide⟩
/-- the dict of the two cards -/
abbrev kA : Key := Sum.inr cO
abbrev kB : Key := Sum.inr cT
def kv2 (x y : V) : List (Key × V) := mergeK [] [(kA, x), (kB, y)]
theorem kv2_a (x y : V) : valV (kv2 x y) (.inr cO) = some x := by
  show valV (putK (putK [] kA x) kB y) (.inr cO) = _
  rw [valV_put, if_neg (fun z => cOT (Sum.inr.inj z)), valV_put, if_pos rfl]
theorem kv2_b (x y : V) : valV (kv2 x y) (.inr cT) = some y := by
  show valV (putK (putK [] kA x) kB y) (.inr cT) = _
  rw [valV_put, if_pos rfl]
theorem kv2_len (x y : V) : (kv2 x y).length ≤ 2 := by
  show (putK (putK [] kA x) kB y).length ≤ 2
  have h1 := length_putK (putK [] kA x) kB y
  have h2 := length_putK ([] : List (Key × V)) kA x
  have h3 : ([] : List (Key × V)).length = 0 := rfl
  omega
/-- the told list of a card -/
def tl (la lb : Addr) (c : Str) : Addr := if c = cO then la else lb
theorem tl_ne {la lb : Addr} (h : la ≠ lb) {c c' : Str} (hc : c = cO ∨ c = cT) (hc' : c' = cO ∨ c' = cT) (n : c ≠ c') : tl la lb c ≠ tl la lb c' := by
  unfold tl
  rcases hc with rfl | rfl <;> rcases hc' with rfl | rfl
  · exact absurd rfl n
  · rw [if_pos rfl, if_neg cOT.symm]
    exact h
  · rw [if_pos rfl, if_neg cOT.symm]
    exact h.symm
  · exact absurd rfl n
theorem kv_tl (la lb : Addr) {c : Str} (hc : c = cO ∨ c = cT) : valV (kv2 (.ref la) (.ref lb)) (.inr c) = some (.ref (tl la lb c)) := by
  unfold tl
  rcases hc with rfl | rfl
  · rw [if_pos rfl, kv2_a]
  · rw [if_neg cOT.symm, kv2_b]
theorem tl_mem (d1 d2 la lb : Addr) (c : Str) : tl la lb c ∈ [d2, lb, la, d1] := by
  unfold tl
  split <;> simp
/-- what the law keeps of a card -/
structure CardF (Fx H : Hp) (kvs : List (Key × V)) (rs : List FT.Ride) (c : Str) (l : Addr) (as : List Addr) (x : Int) (j : Nat) : Prop where
  hl : H l = some (.lst (as.map V.ref))
  ha : All2 (TdAt Fx) as rs
  hv : valV kvs (.inr c) = some (.int x)
  ld : FT.lastDay rs ≤ x
  le : rs.length ≤ j
theorem CardF.same {Fx Fx' H H' : Hp} {kvs : List (Key × V)} {rs : List FT.Ride} {c : Str} {l : Addr} {as : List Addr} {x : Int} {j : Nat} (h : CardF Fx H kvs rs c l as x j) (sF : Same Fx Fx') (e : H' l = H l) : CardF Fx' H' kvs rs c l as x j :=
  ⟨by rw [e]; exact h.hl, h.ha.imp fun b r z => sF _ _ z, h.hv, h.ld, h.le⟩
section
variable {P : Program} {w : World} {K : PySem.W.Frag} {mg : Str → Option Value} {base : Heap} {C CP CZ CW CB CS CN CA CL CD : Addr}
structure DefsL (K : PySem.W.Frag) (mg : Str → Option Value) (C CP CZ CW CB CS CN CA CL CD : Addr) : Prop where
  Dg : Prg K mg C CP CZ CW CB CS CN CA CL CD
  gT : mg "Tariff" = some (.ref C)
  gW : mg "Web" = some (.ref CW)
  gL : mg "Ledger" = some (.ref CL)
  gN : mg "NoWay" = some (.ref CN)
  cN : CatchF K CN CN
  int : mg "int" = none
  isi : mg "isinstance" = none
  bool : mg "bool" = none
  abs : mg "abs" = none
  tuple : mg "tuple" = none
  sorted : mg "sorted" = none
  set : mg "set" = none
  cell : FnX K mg "_law_cell_at" sCell ["_law_script", "_law_k"]
  whole : FnX K mg "_law_whole" sWhole ["_law_found"]
  rows : FnX K mg "_law_rows" sRows ["_law_script"]
  links : FnX K mg "_law_links_by" sLinks10 ["_law_script", "_law_many", "_law_size"]
  kept : FnX K mg "_law_kept" sKept ["_law_found", "_law_zones", "_law_links", "_law_start"]
  zonesOf : FnX K mg "_law_zones_of" sZonesOf ["_law_row", "_law_zones", "_law_links", "_law_start", "_law_goal"]
  ridden : FnX K mg "_law_ridden" sRidden10 ["_law_ledger", "_law_card", "_law_day", "_law_start", "_law_goal"]
  serves : FnX K mg "_law_serves" sServes ["_law_ticket", "_law_day", "_law_ride", "_law_zones"]
  cost : FnX K mg "_law_cost" sCost10 ["_law_tickets", "_law_days", "_law_rows_here"]
  drawn : FnX K mg "_law_drawn" sDrawn10 ["_law_number", "_law_rows_here", "_law_days"]
  weeks : FnX K mg "_law_weeks" sWeeks10 ["_law_ledger", "_law_card", "_law_told", "_law_rows_here", "_law_number"]
  rides : FnX K mg "_law_rides" sRides10 ["_law_script", "_law_many", "_law_size"]
  stays : FnX K mg "_law_stays" sStays10 ["_law_ledger"]
theorem ok_law {f : Addr} {fd : FuncData} (F : Fun K "law" "law" sLaw f fd) (D : DefsL K mg C CP CZ CW CB CS CN CA CL CD) : FnOk P w K mg base CX0 8 f fd ["_law_script"] (spLaw K) := by
  obtain ⟨Dg, gT, gW, gL, gN, cN, gInt, gIsi, gBool, gAbs, gTup, gSorted, gSet, Dcell, Dwhole, Drows, Dlinks, Dkept, DzonesOf, Dridden, Dserves, Dcost, Ddrawn, Dweeks, Drides, Dstays⟩ := D
  have gR := Dg.T.P.range
  have gLen := Dg.T.P.len
  have gMin := Dg.T.P.min
  have gSum := Dg.T.sum
  have TL : LT mg := { len := gLen, list := Dg.T.P.list, range := gR, min := gMin, int := gInt, isi := gIsi, bool := gBool, abs := gAbs }
  obtain ⟨fC, dC, FC, bC, gC⟩ := Dcell.ex
  have GC : FnOk P w K mg base CX0 1 fC dC ["_law_script", "_law_k"] (spCell K) := ok_cell FC gLen
  obtain ⟨fH, dH, FH, bH, gH⟩ := Dwhole.ex
  have GH : FnOk P w K mg base CX0 1 fH dH ["_law_found"] spWhole := ok_whole FH gIsi gInt gBool
  obtain ⟨fR, dR, FR, bR, gRo⟩ := Drows.ex
  have GR : FnOk P w K mg base CX0 2 fR dR ["_law_script"] (spRows K) := ok_rows FR gR gLen FC bC gC
  obtain ⟨fK, dK, FK, bK, gK⟩ := Dlinks.ex
  have GK : FnOk P w K mg base CX0 2 fK dK ["_law_script", "_law_many", "_law_size"] (spLinks10 K) := ok_links10 FK gR gLen FC bC gC
  obtain ⟨fE, dE, FE, bE, gE⟩ := Dkept.ex
  have GE : FnOk P w K mg base CX0 1 fE dE ["_law_found", "_law_zones", "_law_links", "_law_start"] (spKept K) := ok_kept FE TL
  obtain ⟨fZ, dZ, FZ, bZ, gZ⟩ := DzonesOf.ex
  have GZ : FnOk P w K mg base CX0 1 fZ dZ ["_law_row", "_law_zones", "_law_links", "_law_start", "_law_goal"] (spZonesOf K) := ok_zonesOf FZ TL
  obtain ⟨fD, dD, FD, bD, gD⟩ := Dridden.ex
  have GD : FnOk P w K mg base CX0 7 fD dD ["_law_ledger", "_law_card", "_law_day", "_law_start", "_law_goal"] (spRidden10 C CW CL CA) := ok_ridden10 FD Dg gN cN
  obtain ⟨fS, dS, FS, bS, gS⟩ := Dserves.ex
  obtain ⟨fQ, dQ, FQ, bQ, gQ⟩ := Dcost.ex
  obtain ⟨fX, dX, FX, bX, gX⟩ := Ddrawn.ex
  obtain ⟨fO, dO, FO, bO, gO⟩ := Dweeks.ex
  have GO : FnOk P w K mg base CX0 7 fO dO ["_law_ledger", "_law_card", "_law_told", "_law_rows_here", "_law_number"] (spWeeks10 C CL CA) := ok_weeks10 FO Dg TL gTup gSorted gSet FH bH gH FS bS gS FQ bQ gQ FX bX gX
  obtain ⟨fI, dI, FI, bI, gI⟩ := Drides.ex
  have GI : FnOk P w K mg base CX0 2 fI dI ["_law_script", "_law_many", "_law_size"] (spRides10 K) := ok_rides10 FI gR gLen gInt Dg.T.enum FC bC gC
  obtain ⟨fY, dY, FY, bY, gY⟩ := Dstays.ex
  have GY : FnOk P w K mg base CX0 7 fY dY ["_law_ledger"] (spStays10 C CL CA) := ok_stays10 FY Dg
  obtain ⟨fT, dT, FT', bT, mkT⟩ := Dg.tInit.ex
  obtain ⟨fP, dP, FP, bP, gP⟩ := Dg.checkPrices.ex
  have GT : FnOk P w K mg base (L2N.CX P w) 2 fT dT ["self", "singles", "days", "weeks"] (spTInit K C CP) := ok_tInit FT' Dg.T.P FP bP gP
  obtain ⟨fW, dW, FW', bW, mkW⟩ := Dg.wInit.ex
  obtain ⟨w1, e1, W1, c1, k1⟩ := Dg.isStop.ex
  obtain ⟨w2, e2, W2, c2, k2⟩ := Dg.checkLink.ex
  obtain ⟨w3, e3, W3, c3, k3⟩ := Dg.neigh.ex
  have GW : FnOk P w K mg base (L2N.CX P w) 4 fW dW ["self", "zones", "links"] (spInit K CW CB) := ok_init FW' Dg.W W1 c1 k1 W2 c2 k2 W3 c3 k3
  obtain ⟨v1, o1, V1, n1, j1⟩ := Dg.checkStop.ex
  obtain ⟨v2, o2, V2, n2, j2⟩ := Dg.search.ex
  obtain ⟨v3, o3, V3, n3, j3⟩ := Dg.fill.ex
  obtain ⟨v4, o4, V4, n4, j4⟩ := Dg.searchGoal.ex
  obtain ⟨fV, dV, FV, bV, mV⟩ := Dg.levels.ex
  have GV : FnOk P w K mg base (L2N.CX P w) 3 fV dV ["self", "start"] (spLevels CW CS) := ok_levels FV Dg.W W1 c1 k1 V1 n1 j1 V2 n2 j2 V3 n3 j3
  obtain ⟨fU, dU, FU, bU, mU⟩ := Dg.way.ex
  have GU : FnOk P w K mg base (L2N.CX P w) 4 fU dU ["self", "start", "goal"] (spWay CW CS CN) := ok_way FU Dg.W W1 c1 k1 V1 n1 j1 V2 n2 j2 V3 n3 j3 V4 n4 j4
  obtain ⟨fL, dL, FL', bL, mkL⟩ := Dg.lInit.ex
  have GL : FnOk P w K mg base CX0 1 fL dL ["self", "web", "tariff"] (spLInit CL) := ok_lInit FL' Dg.L
  obtain ⟨r3, t3, R3, i3, m3⟩ := Dg.weekSum.ex
  have G3 : FnOk P w K mg base CX0 6 r3 t3 ["self", "card", "week"] (spWeekSum CL CA) := ok_weekSum Dg R3
  obtain ⟨r5, t5, R5, i5, m5⟩ := Dg.rides.ex
  have G5 : FnOk P w K mg base CX0 6 r5 t5 ["self", "card"] (spRides CL CA) := ok_rides Dg R5
  obtain ⟨r6, t6, R6, i6, m6⟩ := Dg.tickets.ex
  have G6 : FnOk P w K mg base CX0 6 r6 t6 ["self", "card", "week"] (spTickets C CL CA) := ok_tickets Dg R6
  refine F.ok scLaw (fun vs H Q E h => ?_) (fun cdv A outer s H vs Q E hr h => ?_)
  · obtain ⟨a, ns, rfl, _⟩ := h
    rfl
  · obtain ⟨a, ns, rfl, hS, h63, q⟩ := h
    have h1 := hr.mono (show 1 ≤ 7 by decide)
    have h2 := hr.mono (show 2 ≤ 7 by decide)
    have h3 := hr.mono (show 3 ≤ 7 by decide)
    have h4 := hr.mono (show 4 ≤ 7 by decide)
    have h5 := hr.mono (show 5 ≤ 7 by decide)
    have h6 := hr.mono (show 6 ≤ 7 by decide)
    have hu := hr.units
    have hv := hu_of hr
    refine ⟨_, C8.pss_cut (ps_set (i := 1) scLaw.nd rfl (.inl rfl) (pe_op op_add pe_int (pe_op op_mod (pe_call GC h1 (by rfl) gC FC.kp bC .nil pass0 (pa_cons (pv 0) (pa_cons pe_int pa_nil))) pe_int)))
      (C8.pss_cut (ps_set (i := 2) scLaw.nd rfl (.inl rfl) (pe_op op_mod (pe_op op_fdiv (pe_call GC h1 (by rfl) gC FC.kp bC .nil pass0 (pa_cons (pv 0) (pa_cons pe_int pa_nil))) pe_int) pe_int))
      (C8.pss_cut (ps_set (i := 3) scLaw.nd rfl (.inl rfl) (pe_ix ix_list (pe_lst (pa_cons pe_int (pa_cons pe_int (pa_cons (pe_op op_pow pe_int pe_int) (pa_cons (pe_op op_pow pe_int pe_int) (pa_cons (pe_op op_pow pe_int pe_int) (pa_cons (pe_op op_pow pe_int pe_int) pa_nil))))))) (pe_op op_mod (pe_call GC h1 (by rfl) gC FC.kp bC .nil pass0 (pa_cons (pv 0) (pa_cons pe_int pa_nil))) pe_int) (fun _ _ => rfl)))
      (pss_cons (ps_set (i := 4) scLaw.nd rfl (.inl rfl) (pe_lst pa_nil))
      (C8.pss_cut (ps_for PassesOwn.never rfl (pi_range1 (by rfl) gR (pa_cons (pv 1) pa_nil)) (pg_name (i := 5) scLaw.nd rfl (.inl rfl))
        (pss_one (ps_expr (pe_bm PySem.F.plainAttrs_list PySem.F.slot_list_append PySem.F.type_list_append mt_append (pv 4) (pa_cons (pe_op op_mul (pv 3) (pe_op op_mod (pe_op op_fdiv (pe_call GC h1 (by rfl) gC FC.kp bC .nil pass0 (pa_cons (pv 0) (pa_cons pe_int pa_nil))) (pe_ix ix_list (pe_lst (pa_cons pe_int (pa_cons pe_int (pa_cons pe_int (pa_cons pe_int (pa_cons pe_int (pa_cons pe_int (pa_cons pe_int (pa_cons pe_int (pa_cons pe_int pa_nil)))))))))) (pv 5) (fun _ _ => rfl))) pe_int)) pa_nil)))))
      (pss_cons (ps_set (i := 6) scLaw.nd rfl (.inl rfl) (pe_call GK h2 (by rfl) gK FK.kp bK .nil pass0 (pa_cons (pv 0) (pa_cons (pv 1) (pa_cons (pv 2) pa_nil)))))
      (pss_cons (ps_set (i := 7) scLaw.nd rfl (.inl rfl) (pe_call GR h2 (by rfl) gRo FR.kp bR .nil pass0 (pa_cons (pv 0) pa_nil)))
      (C8.pss_cut (ps_set (i := 8) scLaw.nd rfl (.inl rfl) (pe_make mkW GW h5 (by rfl) gW bW .nil passN (pa_cons (pe_callTy call_list_of (by rfl) Dg.T.P.list (by decide +kernel) (pa_cons (pv 4) pa_nil)) (pa_cons (pe_callTy call_list_of (by rfl) Dg.T.P.list (by decide +kernel) (pa_cons (pv 6) pa_nil)) pa_nil))))
      (C8.pss_cut (ps_set (i := 9) scLaw.nd rfl (.inl rfl) (pe_make mkL GL h2 (by rfl) gL bL .nil pass0 (pa_cons (pv 8) (pa_cons (pe_make mkT GT h3 (by rfl) gT bT .nil passN (pa_cons (pe_ix ix_list (pv 7) pe_int (fun _ _ => rfl)) (pa_cons (pe_ix ix_list (pv 7) pe_int (fun _ _ => rfl)) (pa_cons (pe_ix ix_list (pv 7) pe_int (fun _ _ => rfl)) pa_nil)))) pa_nil))))
      (C8.pss_cut (ps_set (i := 10) scLaw.nd rfl (.inl rfl) (pe_disp (pps_cons pe_str (pe_lst pa_nil) (pps_cons pe_str (pe_lst pa_nil) pps_nil)) (by rfl) (by rfl) (fun z => by cases z) (by decide)))
      (C8.pss_cut (ps_set (i := 11) scLaw.nd rfl (.inl rfl) (pe_disp (pps_cons pe_str pe_int (pps_cons pe_str pe_int pps_nil)) (by rfl) (by rfl) (fun z => by cases z) (by decide)))
      (C8.pss_cut (ps_for PassesOwn.never rfl (pi_list (pe_call GI h2 (by rfl) gI FI.kp bI .nil pass0 (pa_cons (pv 0) (pa_cons (pv 1) (pa_cons (pv 2) pa_nil))))) (pg_tup rfl (pgs_cons (pg_name (i := 12) scLaw.nd rfl (.inl rfl)) (pgs_cons (pg_name (i := 3) scLaw.nd rfl (.inl rfl)) (pgs_cons (pg_name (i := 13) scLaw.nd rfl (.inl rfl)) (pgs_cons (pg_name (i := 14) scLaw.nd rfl (.inl rfl)) pgs_nil)))))
        (C8.pss_cut (ps_set (i := 15) scLaw.nd rfl (.inl rfl) (pe_op op_fdiv (pe_op op_add (pe_dget hv (pv 11) (pv 12) (fun _ _ => rfl)) (pv 3)) pe_int))
        (pss_cons (ps_expr (pe_meth (pv 9) Dg.L.cl m6 G6 h6 i6 .nil pass0 (pa_cons (pv 12) (pa_cons (pv 15) pa_nil))))
        (C8.pss_cut (ps_set (i := 16) scLaw.nd rfl (.inl rfl) (pe_call GD hr (by rfl) gD FD.kp bD .nil pass0 (pa_cons (pv 9) (pa_cons (pv 12) (pa_cons (pe_op op_add (pe_dget hv (pv 11) (pv 12) (fun _ _ => rfl)) (pv 3)) (pa_cons (pv 13) (pa_cons (pv 14) pa_nil)))))))
        (C8.pss_cut (ps_set (i := 17) scLaw.nd rfl (.inl rfl) (pe_meth (pv 8) Dg.W.cl mV GV h3 bV .nil passN (pa_cons (pv 13) pa_nil)))
        (pss_cons (ps_if (PW.pt (pw_or (pt_not (pt_val (pe_call GE h1 (by rfl) gE FE.kp bE .nil pass0 (pa_cons (pv 17) (pa_cons (pv 4) (pa_cons (pv 6) (pa_cons (pv 13) pa_nil))))))) (pw_or1 (pt_cmpR op_ne (pe_cmpR op_isN (pe_ix ix_list (pv 17) (pv 14) (fun _ _ => rfl)) pe_non (nomark _)) (pe_cmpR op_isN (pv 16) pe_non (nomark _)) (nomark _))))) (pss_one (ps_ret pe_bl)) pss_nil)
        (pss_one (ps_if (pt_cmpR op_notN (pv 16) pe_non (nomark _))
          (C8.pss_cut (ps_set (i := 18) scLaw.nd rfl (.inl rfl) (pe_call GZ h1 (by rfl) gZ FZ.kp bZ .nil pass0 (pa_cons (pe_meth (pv 8) Dg.W.cl mU GU h4 bU .nil passN (pa_cons (pv 13) (pa_cons (pv 14) pa_nil))) (pa_cons (pv 4) (pa_cons (pv 6) (pa_cons (pv 13) (pa_cons (pv 14) pa_nil)))))))
          (pss_cons (ps_if (PW.pt (pw_or (pt_not (pt_val (pe_call GH h1 (by rfl) gH FH.kp bH .nil pass0 (pa_cons (pv 16) pa_nil)))) (pw_or1 (pt_cmpR op_ne (pv 18) (pe_ix ix_list (pv 17) (pv 14) (fun _ _ => rfl)) (nomark _))))) (pss_one (ps_ret pe_bl)) pss_nil)
          (C8.pss_cut (ps_dput hv (pv 11) (pv 12) (pe_op op_add (pe_dget hv (pv 11) (pv 12) (fun _ _ => rfl)) (pv 3)) rfl)
          (C8.pss_cut (ps_expr (pe_bm PySem.F.plainAttrs_list PySem.F.slot_list_append PySem.F.type_list_append mt_append (pe_dget hv (pv 10) (pv 12) (fun _ _ => rfl)) (pa_cons (pe_tup (pa_cons (pe_dget hv (pv 11) (pv 12) (fun _ _ => rfl)) (pa_cons (pe_callB (call_min2 rfl) (by rfl) gMin (by decide +kernel) (pa_cons pe_int (pa_cons (pv 18) pa_nil))) (pa_cons (pv 16) pa_nil)))) pa_nil)))
          (pss_cons (ps_if (pt_cmpR op_ne (pe_callB (cr_sum rfl) (by rfl) gSum (by decide +kernel) (pa_cons (pe_lc (own := [("_law_ticket", 20)]) (g := gName 20) (by rfl) scLaw.nd (pi_list (pe_meth (pv 9) Dg.L.cl m6 G6 h6 i6 .nil pass0 (pa_cons (pv 12) (pa_cons (pv 15) pa_nil)))) (blkOk_by (own := [("_law_ticket", 20)]) (N := lawN) (sc := defScope sLaw) (by decide +kernel)) (fun _ _ _ _ _ => pg_name (i := 20) scLaw.nd rfl (Or.inl rfl)) (fun _ _ _ _ _ => pts_nil)
            (fun _ _ _ _ _ => (pe_ix (r := rIxT K) ix_tup (pv 20) (pe_un un_neg pe_int) (fun _ _ => rfl)))) pa_nil)) (pe_meth (pv 9) Dg.L.cl m3 G3 h6 i3 .nil pass0 (pa_cons (pv 12) (pa_cons (pv 15) pa_nil))) (nomark _)) (pss_one (ps_ret pe_bl)) pss_nil)
          (pss_one (ps_if (pt_cmpR (op_neD hu) (pe_ix ix_list (pe_meth (pv 9) Dg.L.cl m5 G5 h6 i5 .nil pass0 (pa_cons (pv 12) pa_nil)) (pe_un un_neg pe_int) (fun _ _ => rfl)) (pe_tup (pa_cons (pe_dget hv (pv 11) (pv 12) (fun _ _ => rfl)) (pa_cons (pv 13) (pa_cons (pv 14) (pa_cons (pe_callB (call_min2 rfl) (by rfl) gMin (by decide +kernel) (pa_cons pe_int (pa_cons (pv 18) pa_nil))) (pa_cons (pv 16) pa_nil)))))) (nomark _)) (pss_one (ps_ret pe_bl)) pss_nil))))))) pss_nil))))))))
      (pss_cons (ps_set (i := 19) scLaw.nd rfl (.inl rfl) (pe_call GC h1 (by rfl) gC FC.kp bC .nil pass0 (pa_cons (pv 0) (pa_cons pe_int pa_nil))))
      (pss_cons (ps_if (pt_not (pt_val (pe_call GY hr (by rfl) gY FY.kp bY .nil pass0 (pa_cons (pv 9) pa_nil)))) (pss_one (ps_ret pe_bl)) pss_nil)
      (pss_one (ps_ret (pe_and (pe_call GO hr (by rfl) gO FO.kp bO .nil pass0 (pa_cons (pv 9) (pa_cons pe_str (pa_cons (pe_dget hv (pv 10) pe_str (fun _ _ => rfl)) (pa_cons (pv 7) (pa_cons (pv 19) pa_nil)))))) (pe_one (pe_call GO hr (by rfl) gO FO.kp bO .nil pass0 (pa_cons (pv 9) (pa_cons pe_str (pa_cons (pe_dget hv (pv 10) pe_str (fun _ _ => rfl)) (pa_cons (pv 7) (pa_cons (pv 19) pa_nil))))))))))))))))))))))), ?_⟩
    -- _law_many
    refine ⟨fun σ H4 => H4 = H ∧ ∃ M : Nat, 1 ≤ M ∧ M ≤ 9 ∧ σ = [some (.ref a), some (.int (M : Nat)), none, none, none, none, none, none, none, none, none, none, none, none, none, none, none, none, none, none, none], ?_, ?_⟩
    · refine ⟨_, rfl, a, ns, 0, rfl, hS, _, _, rfl, rfl, by show (0 : Int) < 9; decide, _, _, rfl, rfl, rfl, (1 + cell ns 0 % 9).toNat, by omega, by omega, ?_⟩
      rw [Int.toNat_of_nonneg (by omega)]
      rfl
    rintro σ H4 ⟨eH, M, hM1, hM9, rfl⟩
    have eH2 := eH.symm
    subst eH2
    -- _law_size
    refine ⟨fun σ H4 => H4 = H ∧ ∃ sz : Nat, sz ≤ 9 ∧ σ = [some (.ref a), some (.int (M : Nat)), some (.int (sz : Nat)), none, none, none, none, none, none, none, none, none, none, none, none, none, none, none, none, none, none], ?_, ?_⟩
    · refine ⟨_, rfl, a, ns, 0, rfl, hS, _, _, rfl, rfl, ⟨by decide, by decide⟩, _, _, rfl, rfl, by show (0 : Int) < 10; decide, rfl, (cell ns 0 / 9 % 10).toNat, by omega, ?_⟩
      rw [Int.toNat_of_nonneg (by omega)]
      rfl
    rintro σ H4 ⟨eH, sz, hsz, rfl⟩
    have eH2 := eH.symm
    subst eH2
    -- _law_step
    refine ⟨fun σ H4 => Same H H4 ∧ ∃ st0 : Int, σ = [some (.ref a), some (.int (M : Nat)), some (.int (sz : Nat)), some (.int st0), none, none, none, none, none, none, none, none, none, none, none, none, none, none, none, none, none], ?_, ?_⟩
    · refine ⟨_, _, rfl, rfl, ⟨by decide, by decide, by decide⟩, _, _, rfl, rfl, ⟨by decide, by decide, by decide⟩, _, _, rfl, rfl, ⟨by decide, by decide, by decide⟩, _, _, rfl, rfl, ⟨by decide, by decide, by decide⟩, by show 6 ≤ sizeLine; decide, fun q nq => ?_⟩
      have sq := same_upd (o := .lst [V.int 1, .int 7, .int (10 ^ (4 : Int).toNat), .int (10 ^ (6 : Int).toNat), .int (2 ^ (32 : Int).toNat), .int (10 ^ (30 : Int).toNat)]) nq
      obtain ⟨y, ey⟩ := pickS (cell ns 2 % 6) (by omega) (by omega) 1 7 (10 ^ (4 : Int).toNat) (10 ^ (6 : Int).toNat) (2 ^ (32 : Int).toNat) (10 ^ (30 : Int).toNat)
      exact ⟨_, rfl, a, ns, 2, rfl, sq.seq hS, _, _, rfl, rfl, by show (0 : Int) < 6; decide, q, _, _, _, rfl, rfl, SqL.of upd_same, ey, sq, y, rfl⟩
    rintro σ Ha ⟨sa, st0, rfl⟩
    have hSa := sa.seq hS
    -- _law_zones
    refine ⟨Nat.zero_le _, fun za nza => ?_⟩
    refine ⟨fun σ H4 => ∃ (y5 : Option V) (zs : List Int), σ = [some (.ref a), some (.int (M : Nat)), some (.int (sz : Nat)), some (.int st0), some (.ref za), y5, none, none, none, none, none, none, none, none, none, none, none, none, none, none, none] ∧ Same Ha H4 ∧ H4 za = some (.lst (zs.map V.int)) ∧ zs.length = M, ?_, ?_⟩
    · refine ⟨_, rfl, M, rfl, by omega, by omega, for_range (lo := 0) (n := ((M : Nat) : Int).toNat) (fun i σ H4 => ∃ (y5 : Option V) (zs : List Int), σ = [some (.ref a), some (.int (M : Nat)), some (.int (sz : Nat)), some (.int st0), some (.ref za), y5, none, none, none, none, none, none, none, none, none, none, none, none, none, none, none] ∧ Same Ha H4 ∧ H4 za = some (.lst (zs.map V.int)) ∧ zs.length = i)
        ⟨none, [], rfl, same_upd nza, upd_same, rfl⟩ ?_ (fun σ H4 h => ?_)⟩
      · rintro i σ H4 hi ⟨y5, zs, rfl, s4, hz, lz⟩
        rw [Int.toNat_natCast] at hi
        refine ⟨_, rfl, .inl ⟨rfl, _, SqL.of hz⟩, _, rfl, _, rfl, a, ns, 1, rfl, s4.seq hSa, by show 9 ≤ sizeLine; decide, fun q nq => ?_⟩
        have sq := same_upd (o := .lst [V.int 1, .int 5, .int 25, .int 125, .int 625, .int 3125, .int 15625, .int 78125, .int 390625]) nq
        obtain ⟨dv, ed, d0, d1⟩ := pick9 (0 + (i : Nat)) (by omega) (by omega)
        refine ⟨_, rfl, q, _, _, _, rfl, rfl, SqL.of upd_same, ed, _, _, rfl, rfl, ⟨d0, d1⟩, _, _, rfl, rfl, by show (0 : Int) < 5; decide, _, _, rfl, rfl, .inr ⟨by omega, by omega⟩, za, _, _, rfl, rfl, sq _ _ hz, small_line (by rw [List.length_map]; omega), ?_⟩
        exact ⟨_, zs ++ [_], rfl, upd_out (s4.trans sq) nza, by rw [upd_same, List.map_append]; rfl, by rw [List.length_append, lz]; rfl⟩
      · rwa [Int.toNat_natCast] at h
    rintro σ Hb ⟨y5, zs, rfl, sb, hza, lz⟩
    have sab := sa.trans sb
    -- _law_links
    refine ⟨_, rfl, _, rfl, _, rfl, a, ns, M, sz, rfl, sab.seq hS, hM1, by omega, hsz, fun lks Hc lka lok llen sc nlka hlk => ?_⟩
    -- the rows
    refine ⟨_, rfl, a, ns, rfl, (sab.trans sc).seq hS, fun H1 ra as rs s1 nra hR hl3 hf _ _ => ?_⟩
    obtain ⟨hra, hA⟩ := hR
    obtain ⟨SS, DD, WW, rfl⟩ : ∃ x y z, rs = [x, y, z] := by
      match rs, hl3 with
      | [x, y, z], _ => exact ⟨x, y, z, rfl⟩
    obtain ⟨a0, a1, a2, rfl⟩ : ∃ x y z, as = [x, y, z] := by
      have := hA.len
      match as, this with
      | [x, y, z], _ => exact ⟨x, y, z, rfl⟩
    have ok5 : Five SS ∧ Five DD ∧ Five WW := ⟨hf SS (by simp), hf DD (by simp), hf WW (by simp)⟩
    have g0 : RowAt H1 a0 SS := hA.at (i := 0) rfl rfl
    have g1 : RowAt H1 a1 DD := hA.at (i := 1) rfl rfl
    have g2 : RowAt H1 a2 WW := hA.at (i := 2) rfl rfl
    have tok : FT.Tar.Ok ⟨SS, DD, WW⟩ := five_ok ok5
    clear hf hl3
    have hS1 : SqL K H1 a (ns.map V.int) := s1.seq ((sab.trans sc).seq hS)
    have hza1 := s1 _ _ (sc _ _ hza)
    have hlk1 : LinksAt H1 lka lks := hlk.same s1
    -- _law_web
    refine ⟨fun σ H5 => ∃ (wa : Addr) (near : List (List Nat)), Same H1 H5 ∧ σ = [some (.ref a), some (.int (M : Nat)), some (.int (sz : Nat)), some (.int st0), some (.ref za), y5, some (.ref lka), some (.ref ra), some (.ref wa), none, none, none, none, none, none, none, none, none, none, none, none] ∧ WebAt CW H5 wa zs lks near, ?_, ?_⟩
    · refine ⟨_, rfl, za, _, rfl, .inl (SqL.of hza1), fun zc nzc => ?_⟩
      have s3 := same_upd (o := .lst (zs.map V.int)) nzc
      obtain ⟨asL, hlas, hLA⟩ := id hlk1
      refine ⟨_, rfl, lka, _, rfl, .inl (SqL.of (s3 _ _ hlas)), fun lc nlc => ?_⟩
      have s4 := same_upd (o := .lst (asL.map V.ref)) nlc
      intro x dx nx ndx nex
      refine mk_web (zs := zs) (lks := lks) nx ndx nex (s4 _ _ upd_same) ⟨asL, upd_same, hLA.imp fun a b r => (s3.trans s4) _ _ r⟩ (by omega) (by rw [lz]; exact lok) fun near H7 s7 WA => ⟨rfl, x, near, s3.trans (s4.trans s7), rfl, WA⟩
    rintro σ H5 ⟨wa, near, s5, rfl, WA⟩
    have hra5 := s5 _ _ hra
    have hza5 := s5 _ _ hza1
    have hlk5 := hlk1.same s5
    have lok' : ∀ q, q ∈ lks → LinkOk zs.length q := by rw [lz]; exact lok
    obtain ⟨⟨dxw, zl, ll, nl, hxw, hrest⟩, NO, _, _⟩ := id WA
    have noL := wf_no zl ll nl (m := "levels") (by decide +kernel) (by decide +kernel) (by decide +kernel)
    have noW := wf_no zl ll nl (m := "way") (by decide +kernel) (by decide +kernel) (by decide +kernel)
    -- _law_ledger
    refine ⟨fun σ H7 => ∃ (p ta : Addr) (Fx : Hp), σ = [some (.ref a), some (.int (M : Nat)), some (.int (sz : Nat)), some (.int st0), some (.ref za), y5, some (.ref lka), some (.ref ra), some (.ref wa), some (.ref p), none, none, none, none, none, none, none, none, none, none, none] ∧ Same H5 Fx ∧ TarAt C Fx ta SS DD WW ∧ OneD CL CA ⟨SS, DD, WW⟩ Fx H7 p wa ta [] (fun _ => []) 0, ?_, ?_⟩
    · refine ⟨_, rfl, ?_⟩
      refine ⟨_, rfl, ra, _, _, _, rfl, rfl, SqL.of hra5, rfl, _, rfl, ra, _, _, _, rfl, rfl, SqL.of hra5, rfl, _, rfl, ra, _, _, _, rfl, rfl, SqL.of hra5, rfl, fun x dx nx ndx nex => ?_⟩
      refine mk_tariff nx ndx nex (s5 _ _ g0) (s5 _ _ g1) (s5 _ _ g2) ok5 fun H6 s6 TA _ => ⟨rfl, fun y dy ny ndy ney => ?_⟩
      exact mk_ledger (Fx := H6) ny ndy ney tok (fun _ _ e => e) fun H7 aa s7 naa L => ⟨rfl, y, x, H6, rfl, s6, TA, .start L⟩
    rintro σ H7 ⟨p, ta, Fx0, rfl, sF0, TA, OD⟩
    -- the told lists
    refine ⟨fun σ H8 => ∃ d1 la lb : Addr, σ = [some (.ref a), some (.int (M : Nat)), some (.int (sz : Nat)), some (.int st0), some (.ref za), y5, some (.ref lka), some (.ref ra), some (.ref wa), some (.ref p), some (.ref d1), none, none, none, none, none, none, none, none, none, none] ∧ OneD CL CA ⟨SS, DD, WW⟩ Fx0 H8 p wa ta [lb, la, d1] (fun _ => []) 0 ∧ la ≠ lb ∧ H8 d1 = some (.dK (kv2 (.ref la) (.ref lb))) ∧ H8 la = some (.lst []) ∧ H8 lb = some (.lst []), ?_, ?_⟩
    · refine fun d1 nd1 => ?_
      have O1 := OD.add (o := .dK []) nd1 (fun xs z => by cases z)
      refine ⟨Nat.zero_le _, fun la nla => ?_⟩
      have O2 := O1.add (o := .lst []) nla (fun xs z => by cases z)
      have n1 : d1 ≠ la := ne_of_none upd_same nla
      refine ⟨Nat.zero_le _, fun lb nlb => ?_⟩
      have O3 := O2.add (o := .lst []) nlb (fun xs z => by cases z)
      have n2 : la ≠ lb := ne_of_none upd_same nlb
      have n3 : d1 ≠ lb := ne_of_none (by rw [upd_ne n1]; exact upd_same) nlb
      refine ⟨by rw [upd_ne n3, upd_ne n1]; exact upd_same, [(kA, .ref la), (kB, .ref lb)], rfl, by show 2 ≤ 15; decide, ?_⟩
      exact ⟨d1, la, lb, rfl, O3.put (by simp) (fun xs z => by cases z), n2, upd_same, by rw [upd_ne n1.symm, upd_ne n2]; exact upd_same, by rw [upd_ne n3.symm]; exact upd_same⟩
    rintro σ H8 ⟨d1, la, lb, rfl, OD1, nlab, hd1, hla, hlb⟩
    clear OD
    -- the last days
    refine ⟨fun σ H9 => ∃ d2 : Addr, σ = [some (.ref a), some (.int (M : Nat)), some (.int (sz : Nat)), some (.int st0), some (.ref za), y5, some (.ref lka), some (.ref ra), some (.ref wa), some (.ref p), some (.ref d1), some (.ref d2), none, none, none, none, none, none, none, none, none] ∧ OneD CL CA ⟨SS, DD, WW⟩ Fx0 H9 p wa ta [d2, lb, la, d1] (fun _ => []) 0 ∧ (d2 ≠ la ∧ d2 ≠ lb ∧ d2 ≠ d1) ∧ H9 d2 = some (.dK (kv2 (.int 0) (.int 3))) ∧ H9 d1 = some (.dK (kv2 (.ref la) (.ref lb))) ∧ H9 la = some (.lst []) ∧ H9 lb = some (.lst []), ?_, ?_⟩
    · refine fun d2 nd2 => ?_
      have O1 := OD1.add (o := .dK []) nd2 (fun xs z => by cases z)
      have n1 : la ≠ d2 := ne_of_none hla nd2
      have n2 : lb ≠ d2 := ne_of_none hlb nd2
      have n3 : d1 ≠ d2 := ne_of_none hd1 nd2
      refine ⟨upd_same, [(kA, .int 0), (kB, .int 3)], rfl, by show 2 ≤ 15; decide, ?_⟩
      exact ⟨d2, rfl, O1.put (by simp) (fun xs z => by cases z), ⟨n1.symm, n2.symm, n3.symm⟩, upd_same, by rw [upd_ne n3, upd_ne n3]; exact hd1, by rw [upd_ne n1, upd_ne n1]; exact hla, by rw [upd_ne n2, upd_ne n2]; exact hlb⟩
    rintro σ H9 ⟨d2, rfl, OD2, ⟨nd2a, nd2b, nd21⟩, hd2, hd1, hla, hlb⟩
    clear OD1
    -- the rides
    refine ⟨fun σ H' => ∃ (y3 y12 y13 y14 y15 y16 y17 y18 : Option V) (Fx : Hp) (kvs : List (Key × V)) (book : Str → List FT.Ride) (as : Str → List Addr) (x : Str → Int), σ = [some (.ref a), some (.int (M : Nat)), some (.int (sz : Nat)), y3, some (.ref za), y5, some (.ref lka), some (.ref ra), some (.ref wa), some (.ref p), some (.ref d1), some (.ref d2), y12, y13, y14, y15, y16, y17, y18, none, none] ∧ Same Fx0 Fx ∧ OneD CL CA ⟨SS, DD, WW⟩ Fx H' p wa ta [d2, lb, la, d1] book 18 ∧
        H' d1 = some (.dK (kv2 (.ref la) (.ref lb))) ∧ ∀ c, c = cO ∨ c = cT → CardF Fx H' kvs (book c) c (tl la lb c) (as c) (x c) 18, ?_, ?_⟩
    · refine ⟨_, rfl, _, rfl, _, rfl, a, ns, M, sz, rfl, OD2.fx.seq (sF0.seq (s5.seq hS1)), hM1, by omega, hsz, fun H11 cl asr rs s11 ncl hcl hAr lrs okr => ?_⟩
      obtain ⟨Fx2, OD4, sF2, kF2, tF2⟩ := OD2.grow s11
      have hclF := kF2 _ _ hcl ncl
      have hArF : All2 (RdAt Fx2) asr rs := hAr.imp fun b r e => tF2 _ _ e
      refine ⟨cl, rfl, ⟨_, SqL.of hcl⟩, for_list (K := K) (a := cl) (xs := asr.map V.ref) (fun j σ H' => ∃ (y3 y12 y13 y14 y15 y16 y17 y18 : Option V) (Fx : Hp) (kvs : List (Key × V)) (book : Str → List FT.Ride) (as : Str → List Addr) (x : Str → Int), σ = [some (.ref a), some (.int (M : Nat)), some (.int (sz : Nat)), y3, some (.ref za), y5, some (.ref lka), some (.ref ra), some (.ref wa), some (.ref p), some (.ref d1), some (.ref d2), y12, y13, y14, y15, y16, y17, y18, none, none] ∧ Same Fx2 Fx ∧ OneD CL CA ⟨SS, DD, WW⟩ Fx H' p wa ta [d2, lb, la, d1] book j ∧
          H' d1 = some (.dK (kv2 (.ref la) (.ref lb))) ∧ H' d2 = some (.dK kvs) ∧ kvs.length ≤ 2 + j ∧ ∀ c, c = cO ∨ c = cT → CardF Fx H' kvs (book c) c (tl la lb c) (as c) (x c) j)
        ⟨some (.int st0), none, none, none, none, none, none, none, Fx2, _, _, fun _ => [], fun c => if c = cO then 0 else 3, rfl, fun _ _ e => e, OD4, s11 _ _ hd1, s11 _ _ hd2, kv2_len _ _, fun c hc => ⟨?_, .nil, ?_, ?_, Nat.le_refl _⟩⟩ (fun j σ H' _ ⟨_, _, _, _, _, _, _, _, _, _, _, _, _, _, sF, OD', _⟩ => SqL.of (OD'.fx _ _ (sF _ _ hclF))) ?_ ?_⟩
      · unfold tl
        rcases hc with rfl | rfl
        · rw [if_pos rfl]
          exact s11 _ _ hla
        · rw [if_neg cOT.symm]
          exact s11 _ _ hlb
      · rcases hc with rfl | rfl
        · show valV (kv2 (.int 0) (.int 3)) (.inr cO) = some (.int (if cO = cO then 0 else 3))
          rw [if_pos rfl]
          exact kv2_a _ _
        · show valV (kv2 (.int 0) (.int 3)) (.inr cT) = some (.int (if cT = cO then 0 else 3))
          rw [if_neg cOT.symm]
          exact kv2_b _ _
      · show (0 : Int) ≤ if c = cO then 0 else 3
        split <;> decide
      · rintro j v σ H' hj ⟨y3, y12, y13, y14, y15, y16, y17, y18, Fx, kvs, book, as, x, rfl, sFx, OD5, hd15, hd25, lk5, CF5⟩
        obtain ⟨t, ⟨c, stp, sn, gn⟩, er, ht, rfl⟩ := rd_item hArF hj (sFx.trans OD5.fx)
        have hjl : j < 18 := Nat.lt_of_lt_of_le (List.getElem?_eq_some_iff.mp er).1 lrs
        obtain ⟨hc, hst, hsn, hgn⟩ := okr _ (List.mem_of_getElem? er)
        have hc : c = cO ∨ c = cT := hc
        have hst : 0 ≤ stp := hst
        have hsn : sn < zs.length := by rw [lz]; exact hsn
        have hgn : gn < zs.length := by rw [lz]; exact hgn
        refine ⟨t, _, rfl, SqT.of ht, rfl, _, _, rfl, _, _, rfl, _, _, rfl, _, _, rfl, rfl, ?_⟩
        have cf := CF5 c hc
        have sF5 : Same H5 Fx := sF0.trans (sF2.trans sFx)
        have WA5 := WA.same sF5
        have TA5 := TA.same (sF2.trans sFx)
        have hzaF := sF5 _ _ hza5
        have hlkF := hlk5.same sF5
        have hxwF := sF5 _ _ hxw
        -- the week
        obtain ⟨wk, ewk⟩ : ∃ wk, wk = (x c + stp) / 7 := ⟨_, rfl⟩
        refine ⟨fun σ H6 => σ = [some (.ref a), some (.int (M : Nat)), some (.int (sz : Nat)), some (.int stp), some (.ref za), y5, some (.ref lka), some (.ref ra), some (.ref wa), some (.ref p), some (.ref d1), some (.ref d2), some (.str c), some (.int (sn : Nat)), some (.int (gn : Nat)), some (.int wk), y16, y17, y18, none, none] ∧ H6 = H', ?_, ?_⟩
        · refine ⟨_, rfl, _, rfl, d2, .int (x c), rfl, cf.hv ▸ DGet.k (k := .inr c) hd25, _, rfl, _, _, rfl, rfl, _, _, rfl, rfl, ⟨by decide, by decide⟩, ?_⟩
          rw [ewk]
          exact ⟨rfl, rfl⟩
        rintro σ H6 ⟨rfl, eH⟩
        have eH2 := eH.symm
        subst eH2
        -- its tickets
        obtain ⟨O5, L5⟩ := OD5.one
        obtain ⟨dx, aa, hp⟩ := L5.at_p
        refine ⟨_, rfl, p, dx, _, rfl, hp, lf_no (by decide +kernel), _, rfl, _, rfl, ?_⟩
        try unfold tNil
        refine ⟨SS, DD, WW, Fx, p, wa, ta, book, O5, j, c, wk, rfl, L5, TA5, by omega, fun H6 tl0 tas ts s6 _ _ _ _ _ _ _ _ => ?_⟩
        have bk : FT.Book ⟨SS, DD, WW⟩ (book c) := (L5.bk c).1
        have OD6 := OD5.same s6
        have hd16 := s6 _ _ hd15
        have hd26 := s6 _ _ hd25
        have CF6 : ∀ c, c = cO ∨ c = cT → CardF Fx H6 kvs (book c) c (tl la lb c) (as c) (x c) j := fun c hc => (CF5 c hc).same (fun _ _ e => e) ((s6 _ _ (CF5 c hc).hl).trans (CF5 c hc).hl.symm)
        clear OD5 hd15 hd25 CF5 cf L5 hp
        have cf := CF6 c hc
        -- the ride
        obtain ⟨L, IL⟩ := levels_exist (near := near) hsn (fun u v ad => WA.near_lt ad)
        refine ⟨fun σ H7 => ∃ (cv : V) (bk' : Str → List FT.Ride), σ = [some (.ref a), some (.int (M : Nat)), some (.int (sz : Nat)), some (.int stp), some (.ref za), y5, some (.ref lka), some (.ref ra), some (.ref wa), some (.ref p), some (.ref d1), some (.ref d2), some (.str c), some (.int (sn : Nat)), some (.int (gn : Nat)), some (.int wk), some cv, y17, y18, none, none] ∧ OneD CL CA ⟨SS, DD, WW⟩ Fx H7 p wa ta [d2, lb, la, d1] bk' (j + 1) ∧ (∀ l, l ∈ [d2, lb, la, d1] → H7 l = H6 l) ∧ ((lk L gn = none ∧ cv = .non ∧ bk' = book) ∨ ∃ k : Nat, lk L gn = some k ∧ cv = .int (FT.charge ⟨SS, DD, WW⟩ (book c) (x c + stp) (min k 5)) ∧ bk' = addTo book c ⟨x c + stp, (sn : Nat), (gn : Nat), min k 5, FT.charge ⟨SS, DD, WW⟩ (book c) (x c + stp) (min k 5)⟩), ?_, ?_⟩
        · refine ⟨_, rfl, _, rfl, _, rfl, _, rfl, d2, .int (x c), rfl, cf.hv ▸ DGet.k (k := .inr c) hd26, _, rfl, _, _, rfl, rfl, _, rfl, _, rfl, ?_⟩
          try unfold tNil
          refine OneD.ridden (c := c) OD6 WA5 TA5 (by omega) rfl rfl hsn hgn IL (by have := cf.ld; omega) (fun en H7 s7 => ⟨_, _, rfl, (OD6.same s7).more (Nat.le_succ j), fun l ml => OD6.stay s7 ml, .inl ⟨en, rfl, rfl⟩⟩) fun k ek H7 OD7 kp => ⟨_, _, rfl, OD7, kp, .inr ⟨k, ek, rfl, rfl⟩⟩
        rintro σ H7 ⟨cv, bk', rfl, OD7, kp7, hcase⟩
        -- the levels
        refine ⟨fun σ H8 => ∃ fa : Addr, σ = [some (.ref a), some (.int (M : Nat)), some (.int (sz : Nat)), some (.int stp), some (.ref za), y5, some (.ref lka), some (.ref ra), some (.ref wa), some (.ref p), some (.ref d1), some (.ref d2), some (.str c), some (.int (sn : Nat)), some (.int (gn : Nat)), some (.int wk), some cv, some (.ref fa), y18, none, none] ∧ Same H7 H8 ∧ H8 fa = some (.lst (L.map optV)), ?_, ?_⟩
        · refine ⟨_, rfl, wa, dxw, _, rfl, OD7.fx _ _ hxwF, noL, _, rfl, wa, _, zs, lks, near, rfl, WA5.same OD7.fx, fun s' es' hs' L2 H8 fa s8 nfa hfa IL2 => ?_, fun no => absurd ⟨by omega, by omega⟩ no⟩
          have e2 : s' = sn := by omega
          subst e2
          have eL : L2 = L := IL2.unique IL
          subst eL
          exact ⟨fa, rfl, s8, hfa⟩
        rintro σ H8 ⟨fa, rfl, s8, hfa⟩
        have OD8 := OD7.same s8
        have hd18 : H8 d1 = some (.dK (kv2 (.ref la) (.ref lb))) := s8 _ _ ((kp7 d1 (by simp)).trans hd16)
        have hd28 : H8 d2 = some (.dK kvs) := s8 _ _ ((kp7 d2 (by simp)).trans hd26)
        have hl8 : ∀ c, c = cO ∨ c = cT → H8 (tl la lb c) = some (.lst ((as c).map V.ref)) := fun c hc => s8 _ _ ((kp7 _ (tl_mem d1 d2 la lb c)).trans (CF6 c hc).hl)
        have CF8 : ∀ c, c = cO ∨ c = cT → CardF Fx H8 kvs (book c) c (tl la lb c) (as c) (x c) j := fun c hc => (CF6 c hc).same (fun _ _ e => e) ((hl8 c hc).trans (CF6 c hc).hl.symm)
        clear OD6 OD7 hd16 hd26 kp7 cf
        have cf := CF8 c hc
        -- they are kept
        refine ⟨_, rfl, _, rfl, _, rfl, _, rfl, fa, za, lka, _, sn, L, zs, lks, near, rfl, rfl, hfa, SqL.of (OD8.fx _ _ hzaF), hlkF.same OD8.fx, IL, NO, lok', hsn, true, rfl, ?_⟩
        refine iteF ?_
        have gL : atI (L.map optV) (gn : Nat) = some (optV (lk L gn)) := at_of rfl (by rw [List.getElem?_map, lk_get (by rw [IL.len]; exact hgn)]; rfl)
        refine ⟨_, rfl, _, rfl, fa, _, _, _, rfl, rfl, SqL.of hfa, gL, rfl, _, rfl, rfl, rfl, _, rfl, ?_⟩
        rcases hcase with ⟨en, rfl, rfl⟩ | ⟨k, ek, rfl, rfl⟩
        · rw [en]
          refine iteNS rfl ?_
          refine ⟨_, rfl, rfl, _, rfl, ?_⟩
          refine iteF ?_
          exact ⟨_, _, _, _, _, _, _, _, Fx, kvs, _, as, x, rfl, sFx, OD8, hd18, hd28, by omega, fun c' hc' => ⟨(CF8 c' hc').hl, (CF8 c' hc').ha, (CF8 c' hc').hv, (CF8 c' hc').ld, Nat.le_succ_of_le (CF8 c' hc').le⟩⟩
        · rw [ek] at gL
          rw [ek]
          refine iteNS rfl ?_
          refine ⟨_, rfl, rfl, _, rfl, ?_⟩
          refine iteT ?_
          obtain ⟨ch, ech⟩ : ∃ ch, ch = FT.charge ⟨SS, DD, WW⟩ (book c) (x c + stp) (min k 5) := ⟨_, rfl⟩
          rw [← ech] at OD8 ⊢
          obtain ⟨day, eday⟩ : ∃ day, day = x c + stp := ⟨_, rfl⟩
          rw [← eday] at OD8 ech ewk
          obtain ⟨zn, ezn⟩ : ∃ zn, zn = min k 5 := ⟨_, rfl⟩
          rw [← ezn] at OD8 ech
          have hk1 : 1 ≤ k := (IL.sound gn k ek).2
          have hz : 1 ≤ zn ∧ zn ≤ 5 := by omega
          have ldd : FT.lastDay (book c) ≤ day := by have := cf.ld; omega
          have WA8 := WA5.same OD8.fx
          -- the way
          refine ⟨fun σ H9 => σ = [some (.ref a), some (.int (M : Nat)), some (.int (sz : Nat)), some (.int stp), some (.ref za), y5, some (.ref lka), some (.ref ra), some (.ref wa), some (.ref p), some (.ref d1), some (.ref d2), some (.str c), some (.int (sn : Nat)), some (.int (gn : Nat)), some (.int wk), some (.int ch), some (.ref fa), some (.int (k : Nat)), none, none] ∧ Same H8 H9, ?_, ?_⟩
          · refine ⟨_, rfl, wa, dxw, _, rfl, OD8.fx _ _ hxwF, noW, _, rfl, _, rfl, wa, _, _, zs, lks, near, rfl, WA8, fun s' g' es' eg' hs' hg' L2 H9 IL2 s9 => ?_, fun no => absurd ⟨⟨by omega, by omega⟩, by omega, by omega⟩ no⟩
            have e1 : s' = sn := by omega
            have e2 : g' = gn := by omega
            subst e1 e2
            have eL : L2 = L := IL2.unique IL
            subst eL
            refine ⟨fun eN => ?_, fun k2 row ra2 ek2 na2 hra2 hrow hlen => ?_⟩
            · rw [ek] at eN
              cases eN
            have ekk : k2 = k := by
              rw [ek] at ek2
              exact (Option.some.inj ek2).symm
            subst ekk
            refine ⟨_, rfl, _, rfl, _, rfl, _, rfl, ra2, za, lka, _, s', g', k2, row, zs, lks, near, rfl, rfl, hra2, SqL.of (s9 _ _ (OD8.fx _ _ hzaF)), (hlkF.same OD8.fx).same s9, NO, hrow.ok, hrow.lt hs' fun u v ad => WA.near_lt ad, hlen, fun H10 s10 => ⟨rfl, s9.trans s10⟩⟩
          rintro σ H9 ⟨rfl, s9⟩
          refine ⟨_, rfl, ch, rfl, true, rfl, ?_⟩
          refine iteF ?_
          refine ⟨_, rfl, _, rfl, _, rfl, fa, _, _, _, rfl, rfl, SqL.of (s9 _ _ hfa), gL, rfl, _, rfl, ?_⟩
          refine iteNS rfl ?_
          have OD9 := OD8.same s9
          have hd19 := s9 _ _ hd18
          have hd29 := s9 _ _ hd28
          have hl9 : ∀ c, c = cO ∨ c = cT → H9 (tl la lb c) = some (.lst ((as c).map V.ref)) := fun c hc => s9 _ _ (hl8 c hc)
          clear OD8 hd18 hd28 WA8
          -- the last day
          refine ⟨fun σ H10 => σ = [some (.ref a), some (.int (M : Nat)), some (.int (sz : Nat)), some (.int stp), some (.ref za), y5, some (.ref lka), some (.ref ra), some (.ref wa), some (.ref p), some (.ref d1), some (.ref d2), some (.str c), some (.int (sn : Nat)), some (.int (gn : Nat)), some (.int wk), some (.int ch), some (.ref fa), some (.int (k : Nat)), none, none] ∧ OneD CL CA ⟨SS, DD, WW⟩ Fx H10 p wa ta [d2, lb, la, d1] (addTo book c ⟨day, sn, gn, zn, ch⟩) (j + 1) ∧ H10 d1 = some (.dK (kv2 (.ref la) (.ref lb))) ∧ H10 d2 = some (.dK (putK kvs (.inr c) (.int day))) ∧ ∀ c, c = cO ∨ c = cT → H10 (tl la lb c) = some (.lst ((as c).map V.ref)), ?_, ?_⟩
          · refine ⟨_, rfl, _, rfl, d2, .int (x c), rfl, cf.hv ▸ DGet.k (k := .inr c) hd29, _, rfl, _, _, rfl, rfl, _, rfl, _, rfl, d2, _, rfl, DPut.k (k := .inr c) hd29 (small_line (by omega)), ?_⟩
            refine ⟨rfl, OD9.put (by simp) (fun xs z => by cases z), by rw [upd_ne nd21.symm]; exact hd19, by rw [upd_same, eday], fun c' hc' => ?_⟩
            have : tl la lb c' ≠ d2 := by
              unfold tl
              split
              · exact nd2a.symm
              · exact nd2b.symm
            rw [upd_ne this]
            exact hl9 c' hc'
          rintro σ H10 ⟨rfl, OD10, hd110, hd210, hl10⟩
          clear OD9 hd19 hd29 hl9
          have lkp := length_putK kvs (.inr c) (V.int day)
          have hvp : valV (putK kvs (.inr c) (.int day)) (.inr c) = some (.int day) := by rw [valV_put, if_pos rfl]
          -- told
          refine ⟨fun σ H12 => ∃ (t : Addr) (Fx' : Hp), σ = [some (.ref a), some (.int (M : Nat)), some (.int (sz : Nat)), some (.int stp), some (.ref za), y5, some (.ref lka), some (.ref ra), some (.ref wa), some (.ref p), some (.ref d1), some (.ref d2), some (.str c), some (.int (sn : Nat)), some (.int (gn : Nat)), some (.int wk), some (.int ch), some (.ref fa), some (.int (k : Nat)), none, none] ∧ Same Fx Fx' ∧ OneD CL CA ⟨SS, DD, WW⟩ Fx' H12 p wa ta [d2, lb, la, d1] (addTo book c ⟨day, sn, gn, zn, ch⟩) (j + 1) ∧ TdAt Fx' t ⟨day, sn, gn, zn, ch⟩ ∧ H12 d1 = some (.dK (kv2 (.ref la) (.ref lb))) ∧ H12 d2 = some (.dK (putK kvs (.inr c) (.int day))) ∧
              H12 (tl la lb c) = some (.lst ((as c ++ [t]).map V.ref)) ∧ ∀ c', c' = cO ∨ c' = cT → c' ≠ c → H12 (tl la lb c') = some (.lst ((as c').map V.ref)), ?_, ?_⟩
          · have hlc := hl10 c hc
            refine ⟨_, rfl, _, rfl, d1, .ref (tl la lb c), rfl, (kv_tl la lb hc) ▸ DGet.k (k := .inr c) hd110, .inl ⟨rfl, _, SqL.of hlc⟩, _, rfl, _, rfl, d2, .int day, rfl, hvp ▸ DGet.k (k := .inr c) hd210, _, rfl, _, _, rfl, ?_⟩
            rw [min5', ← ezn]
            refine ⟨_, rfl, by show 3 ≤ sizeLine; decide, fun t nt => ?_⟩
            have st := same_upd (o := .tup [V.int day, .int (zn : Nat), .int ch]) nt
            obtain ⟨Fx', OG, sG, kG, _⟩ := OD10.grow st
            have lac : (as c).length = (book c).length := cf.ha.len
            refine ⟨_, _, _, rfl, rfl, st _ _ hlc, small_line (by rw [List.length_map, lac]; have := cf.le; omega), ?_⟩
            have ne1 : d1 ≠ tl la lb c := fun z => by
              rw [z, hlc] at hd110
              cases hd110
            have ne2 : d2 ≠ tl la lb c := fun z => by
              rw [z, hlc] at hd210
              cases hd210
            refine ⟨t, Fx', rfl, sG, OG.put (tl_mem d1 d2 la lb c) (fun xs z => by cases z), kG _ _ upd_same nt, by rw [upd_ne ne1]; exact st _ _ hd110, by rw [upd_ne ne2]; exact st _ _ hd210, by rw [upd_same, List.map_append]; rfl, fun c' hc' nc => ?_⟩
            rw [upd_ne (tl_ne nlab hc' hc nc)]
            exact st _ _ (hl10 c' hc')
          rintro σ H12 ⟨t2, Fx', rfl, sG, OD12, htd, hd112, hd212, hlc, hlo⟩
          have CF12 : ∀ c', c' = cO ∨ c' = cT → CardF Fx' H12 (putK kvs (.inr c) (.int day)) (addTo book c ⟨day, sn, gn, zn, ch⟩ c') c' (tl la lb c') (if c' = c then as c ++ [t2] else as c') (if c' = c then day else x c') (j + 1) := fun c' hc' => by
            by_cases ec : c' = c
            · subst ec
              rw [if_pos rfl, if_pos rfl, addTo_self]
              exact ⟨hlc, All2.app (cf.ha.imp fun b r e => sG _ _ e) (All2.one htd), hvp, by rw [FT.lastDay_snoc]; exact Int.le_refl _, by rw [List.length_append]; have := cf.le; show _ + 1 ≤ _; omega⟩
            · have cf' := CF8 c' hc'
              rw [if_neg ec, if_neg ec, addTo_other _ ec]
              exact ⟨hlo c' hc' ec, cf'.ha.imp fun b r e => sG _ _ e, by rw [valV_put, if_neg fun z => ec (Sum.inr.inj z)]; exact cf'.hv, cf'.ld, Nat.le_succ_of_le cf'.le⟩
          -- the sum of the week's tickets
          obtain ⟨O12, L12⟩ := OD12.one
          obtain ⟨dx2, aa2, hp2⟩ := L12.at_p
          have TA12 := TA5.same sG
          refine ⟨_, rfl, p, dx2, _, rfl, hp2, lf_no (by decide +kernel), _, rfl, _, rfl, SS, DD, WW, Fx', p, wa, ta, _, O12, j + 1, c, wk, rfl, L12, TA12, by omega, fun H13 tl1 tas1 ts1 s13 ntl1 htl1 hT1 lts1 _ _ hcost1 _ => ?_⟩
          refine ⟨tl1, rfl, ⟨_, SqL.of htl1⟩, fun pl npl => lc_list (K := K) (a := tl1) (xs := tas1.map V.ref) (fun i H' => Same H13 H' ∧ H' pl = some (.lst (((ts1.take i).map (FT.Tk.price ⟨SS, DD, WW⟩)).map V.int))) ⟨same_upd npl, upd_same⟩ (fun i H' _ ⟨s', _⟩ => SqL.of (s' _ _ htl1)) ?_ ?_⟩
          · rintro i v H' hi ⟨s', hd⟩
            obtain ⟨t0, k0, e0, hk0, rfl⟩ := tk_item hT1 hi s'
            obtain ⟨ys, hy, gy⟩ := tk_price10 hk0
            refine ⟨rfl, ?_⟩
            refine tYes_if ?_
            refine ⟨_, rfl, _, rfl, t0, _, _, _, rfl, rfl, SqT.of hy, gy, _, hd, small_line (by rw [List.length_map, List.length_map, List.length_take]; omega), upd_out s' npl, ?_⟩
            rw [upd_same, take_snoc e0, List.map_append, List.map_append]
            rfl
          rintro H14 ⟨s14, h14⟩
          rw [List.length_map, hT1.len, List.take_length] at h14
          have s124 := s13.trans s14
          have ec : FT.cost ⟨SS, DD, WW⟩ ts1 = FT.wsum wk (addTo book c ⟨day, sn, gn, zn, ch⟩ c) := hcost1.trans ((L12.bk c).1.week wk).symm
          refine ⟨pl, _, rfl, SqL.of h14, _, rfl, p, dx2, _, rfl, s124 _ _ hp2, lf_no (by decide +kernel), _, rfl, _, rfl, _, Fx', p, wa, ta, _, _, _, c, wk, rfl, L12.same s124, fun H15 s15 => ⟨rfl, _, rfl, ?_⟩⟩
          refine iteNS (congrArg V.int ec) ?_
          have s125 := s124.trans s15
          -- the ride told last
          refine ⟨_, rfl, p, dx2, _, rfl, s125 _ _ hp2, lf_no (by decide +kernel), _, rfl, _, Fx', p, wa, ta, _, _, _, c, rfl, L12.same s125, fun H16 fl gs s16 nfl hfl hG => ?_⟩
          rw [addTo_self] at hG
          obtain ⟨g0', gl, hgr⟩ := last_ride hG
          have s126 := s125.trans s16
          refine ⟨_, rfl, fl, _, _, _, rfl, rfl, SqL.of hfl, gl, _, rfl, _, rfl, d2, .int day, rfl, hvp ▸ DGet.k (k := .inr c) (s126 _ _ hd212), _, rfl, _, rfl, _, rfl, _, _, rfl, ?_⟩
          rw [min5', ← ezn]
          refine ⟨_, rfl, by show 5 ≤ sizeLine; decide, fun t5 nt5 => ?_⟩
          have st5 := same_upd (o := .tup [V.int day, .int (sn : Nat), .int (gn : Nat), .int (zn : Nat), .int ch]) nt5
          refine ⟨datRide ⟨day, sn, gn, zn, ch⟩, datRide ⟨day, sn, gn, zn, ch⟩, dp_ride (st5 _ _ hgr), dp_ride upd_same, shaped_ride _, shaped_ride _, _, rfl, ?_⟩
          rw [eqv_ride]
          refine iteF ?_
          have s127 := s126.trans st5
          exact ⟨_, _, _, _, _, _, _, _, Fx', _, _, fun c' => if c' = c then as c ++ [t2] else as c', fun c' => if c' = c then day else x c', rfl, sFx.trans sG, OD12.same s127, s127 _ _ hd112, s127 _ _ hd212, by omega, fun c' hc' => (CF12 c' hc').same (fun _ _ e => e) ((s127 _ _ (CF12 c' hc').hl).trans (CF12 c' hc').hl.symm)⟩
      · rintro σ H' ⟨y3, y12, y13, y14, y15, y16, y17, y18, Fx, kvs, book, as, x, rfl, sFx, OD5, hd15, hd25, lk5, CF5⟩
        have lx : (asr.map V.ref).length ≤ 18 := by rw [List.length_map, hArF.len]; exact lrs
        exact ⟨y3, y12, y13, y14, y15, y16, y17, y18, Fx, kvs, book, as, x, rfl, sF2.trans sFx, OD5.more lx, hd15, fun c hc => ⟨(CF5 c hc).hl, (CF5 c hc).ha, (CF5 c hc).hv, (CF5 c hc).ld, Nat.le_trans (CF5 c hc).le lx⟩⟩
    rintro σ H' ⟨y3, y12, y13, y14, y15, y16, y17, y18, Fx, kvs, book, as, x, rfl, sFx, OD, hd1f, CF⟩
    have sF5f : Same H5 Fx := sF0.trans sFx
    obtain ⟨Of, Lf⟩ := OD.one
    have ca := CF cO (.inl rfl)
    have cb := CF cT (.inr rfl)
    have TAf := TA.same sFx
    have hraf := OD.fx _ _ (sF5f _ _ hra5)
    have hAf : All2 (RowAt H') [a0, a1, a2] [SS, DD, WW] := hA.imp fun b r e => OD.fx _ _ (sF5f _ _ (s5 _ _ e))
    -- _law_number, _law_stays
    refine ⟨_, rfl, a, ns, 2, rfl, OD.fx.seq (sF5f.seq (s5.seq hS1)), ?_⟩
    refine ⟨_, rfl, SS, DD, WW, Fx, p, wa, ta, book, Of, 18, rfl, Lf, TAf, by decide, fun H6 s6 => ⟨true, rfl, ?_⟩⟩
    refine iteF ?_
    -- the weeks
    refine ⟨_, rfl, _, rfl, d1, .ref (tl la lb cO), rfl, (kv_tl la lb (c := cO) (.inl rfl)) ▸ DGet.k (k := .inr cO) (s6 _ _ hd1f), _, rfl, _, rfl, SS, DD, WW, Fx, p, wa, ta, book, Of, 18, cO, tl la lb cO, ra, _, as cO, [a0, a1, a2], rfl, Lf.same s6, TAf, by decide, s6 _ _ ca.hl, ca.ha.imp (fun b r e => s6 _ _ (OD.fx _ _ e)), Nat.le_trans ca.le (by decide), ⟨s6 _ _ hraf, hAf.imp fun b r e => s6 _ _ e⟩, ok5, fun H7 s7 => ⟨true, rfl, ?_⟩⟩
    refine iteT ?_
    have s67 := s6.trans s7
    refine ⟨_, rfl, _, rfl, d1, .ref (tl la lb cT), rfl, (kv_tl la lb (c := cT) (.inr rfl)) ▸ DGet.k (k := .inr cT) (s67 _ _ hd1f), _, rfl, _, rfl, SS, DD, WW, Fx, p, wa, ta, book, Of, 18, cT, tl la lb cT, ra, _, as cT, [a0, a1, a2], rfl, Lf.same s67, TAf, by decide, s67 _ _ cb.hl, cb.ha.imp (fun b r e => s67 _ _ (OD.fx _ _ e)), Nat.le_trans cb.le (by decide), ⟨s67 _ _ hraf, hAf.imp fun b r e => s67 _ _ e⟩, ok5, fun H8 s8 => ?_⟩
    exact q H8
end
end FW

namespace FW
open PySem PySem.Spec PyProof.Rows L2
set_option maxHeartbeats 0 in
theorem all_mk {l : PySem.W.OpenLaw} {w : World} {K : PySem.W.Frag} {h : Heap} {mg : Str → Option Value} {fa C CA CL CW CP CZ CB CS CN CD f1 f2 f3 f4 f5 f6 f7 f8 f9 f10 f11 f12 f13 f14 f15 f16 f17 f18 f19 f20 f21 f22 f23 f24 f25 f26 f27 f28 f29 f30 f31 f32 f33 f34 f35 f36 f37 f38 f39 f40 f41 f42 f43 f44 f45 f46 f47 f48 f49 : Addr} (X : K.In h) (G : h.Ns mainGlobals mg) (hfa : mg "law" = some (.ref fa))
    {tMOST_ZONES : Tok} {tWEEK_DAYS : Tok}  {od1 an1 od2 an2 od3 an3 od4 an4 od5 an5 od6 an6 od7 an7 od8 an8 od9 an9 od10 an10 od11 an11 od12 an12 od13 an13 od14 an14 od15 an15 od16 an16 od17 an17 od18 an18 od19 an19 od20 an20 od21 an21 od22 an22 od23 an23 od24 an24 od25 an25 od26 an26 od27 an27 od28 an28 od29 an29 od30 an30 od31 an31 od32 an32 od33 an33 od34 an34 od35 an35 od36 an36 od37 an37 od38 an38 od39 an39 od40 an40 od41 an41 od42 an42 od43 an43 od44 an44 od45 an45 od46 an46 od47 an47 od48 an48 od49 an49 : Option Addr} {sl1 sl2 sl3 sl4 sl5 sl6 sl7 sl8 sl9 sl10 sl11 sl12 sl13 sl14 sl15 sl16 sl17 sl18 sl19 sl20 sl21 sl22 sl23 sl24 sl25 sl26 sl27 sl28 sl29 sl30 sl31 sl32 sl33 sl34 sl35 sl36 sl37 sl38 sl39 sl40 sl41 sl42 sl43 sl44 sl45 sl46 sl47 sl48 sl49 : Array (Option Value)} {oc1 kV1 dc1 pm1 cd1 ct1 oc2 kV2 dc2 pm2 cd2 ct2 oc3 kV3 dc3 pm3 cd3 ct3 oc4 kV4 dc4 pm4 cd4 ct4 oc5 kV5 dc5 pm5 cd5 ct5 oc6 kV6 dc6 pm6 cd6 ct6 oc7 kV7 dc7 pm7 cd7 ct7 oc8 kV8 dc8 pm8 cd8 ct8 oc9 kV9 dc9 pm9 cd9 ct9 oc10 kV10 dc10 pm10 cd10 ct10 oc11 kV11 dc11 pm11 cd11 ct11 oc12 kV12 dc12 pm12 cd12 ct12 oc13 kV13 dc13 pm13 cd13 ct13 oc14 kV14 dc14 pm14 cd14 ct14 oc15 kV15 dc15 pm15 cd15 ct15 oc16 kV16 dc16 pm16 cd16 ct16 oc17 kV17 dc17 pm17 cd17 ct17 oc18 kV18 dc18 pm18 cd18 ct18 oc19 kV19 dc19 pm19 cd19 ct19 oc20 kV20 dc20 pm20 cd20 ct20 oc21 kV21 dc21 pm21 cd21 ct21 oc22 kV22 dc22 pm22 cd22 ct22 oc23 kV23 dc23 pm23 cd23 ct23 oc24 kV24 dc24 pm24 cd24 ct24 oc25 kV25 dc25 pm25 cd25 ct25 oc26 kV26 dc26 pm26 cd26 ct26 oc27 kV27 dc27 pm27 cd27 ct27 oc28 kV28 dc28 pm28 cd28 ct28 oc29 kV29 dc29 pm29 cd29 ct29 oc30 kV30 dc30 pm30 cd30 ct30 oc31 kV31 dc31 pm31 cd31 ct31 oc32 kV32 dc32 pm32 cd32 ct32 oc33 kV33 dc33 pm33 cd33 ct33 oc34 kV34 dc34 pm34 cd34 ct34 oc35 kV35 dc35 pm35 cd35 ct35 oc36 kV36 dc36 pm36 cd36 ct36 oc37 kV37 dc37 pm37 cd37 ct37 oc38 kV38 dc38 pm38 cd38 ct38 oc39 kV39 dc39 pm39 cd39 ct39 oc40 kV40 dc40 pm40 cd40 ct40 oc41 kV41 dc41 pm41 cd41 ct41 oc42 kV42 dc42 pm42 cd42 ct42 oc43 kV43 dc43 pm43 cd43 ct43 oc44 kV44 dc44 pm44 cd44 ct44 oc45 kV45 dc45 pm45 cd45 ct45 oc46 kV46 dc46 pm46 cd46 ct46 oc47 kV47 dc47 pm47 cd47 ct47 oc48 kV48 dc48 pm48 cd48 ct48 oc49 kV49 dc49 pm49 cd49 ct49 : Value}
    (gC : PySem.W.nsIn K mainGlobals "Tariff" = some (some (.ref C)))
    (pgC : PySem.W.plainGet K C Str.empty = true)
    (hdC : PySem.W.hasDictIn K C = true)
    (poC : PySem.W.plainOver K C = true)
    (saC : PySem.W.findIn K (.ref C) "__setattr__" = some (some (.builtin "object.__setattr__")))
    (mkC : PySem.W.makesIn K C = true)
    (kcC : PySem.W.keepIn K (.ref C) = true)
    (gCA : PySem.W.nsIn K mainGlobals "Account" = some (some (.ref CA)))
    (pgCA : PySem.W.plainGet K CA Str.empty = true)
    (hdCA : PySem.W.hasDictIn K CA = true)
    (poCA : PySem.W.plainOver K CA = true)
    (saCA : PySem.W.findIn K (.ref CA) "__setattr__" = some (some (.builtin "object.__setattr__")))
    (mkCA : PySem.W.makesIn K CA = true)
    (kcCA : PySem.W.keepIn K (.ref CA) = true)
    (gCL : PySem.W.nsIn K mainGlobals "Ledger" = some (some (.ref CL)))
    (pgCL : PySem.W.plainGet K CL Str.empty = true)
    (hdCL : PySem.W.hasDictIn K CL = true)
    (poCL : PySem.W.plainOver K CL = true)
    (saCL : PySem.W.findIn K (.ref CL) "__setattr__" = some (some (.builtin "object.__setattr__")))
    (mkCL : PySem.W.makesIn K CL = true)
    (kcCL : PySem.W.keepIn K (.ref CL) = true)
    (gCW : PySem.W.nsIn K mainGlobals "Web" = some (some (.ref CW)))
    (pgCW : PySem.W.plainGet K CW Str.empty = true)
    (hdCW : PySem.W.hasDictIn K CW = true)
    (poCW : PySem.W.plainOver K CW = true)
    (saCW : PySem.W.findIn K (.ref CW) "__setattr__" = some (some (.builtin "object.__setattr__")))
    (mkCW : PySem.W.makesIn K CW = true)
    (kcCW : PySem.W.keepIn K (.ref CW) = true)
    (a1 : PySem.W.findIn K (.ref C) "__init__" = some (some (.ref f1)))
    (i1 : PySem.W.isFn K (.ref f1) = true)
    (l1 : K.lookup f1 = some ⟨oc1, od1, .func (PySem.W.fnOf "__init__" "Tariff.__init__" (defArgs sTInit) (defBody sTInit) (defScope sTInit) .none kV1 dc1 pm1 an1 cd1 ct1), sl1⟩)
    (c1 : PySem.W.codeIn K cd1 "Tariff.__init__" = true)
    (k1 : PySem.W.keepIn K (.ref f1) = true)
    (a2 : PySem.W.findIn K (.ref CA) "__init__" = some (some (.ref f2)))
    (i2 : PySem.W.isFn K (.ref f2) = true)
    (l2 : K.lookup f2 = some ⟨oc2, od2, .func (PySem.W.fnOf "__init__" "Account.__init__" (defArgs sAInit) (defBody sAInit) (defScope sAInit) .none kV2 dc2 pm2 an2 cd2 ct2), sl2⟩)
    (c2 : PySem.W.codeIn K cd2 "Account.__init__" = true)
    (k2 : PySem.W.keepIn K (.ref f2) = true)
    (a3 : PySem.W.findIn K (.ref CA) "charge_ride" = some (some (.ref f3)))
    (i3 : PySem.W.isFn K (.ref f3) = true)
    (l3 : K.lookup f3 = some ⟨oc3, od3, .func (PySem.W.fnOf "charge_ride" "Account.charge_ride" (defArgs sCharge) (defBody sCharge) (defScope sCharge) .none kV3 dc3 pm3 an3 cd3 ct3), sl3⟩)
    (c3 : PySem.W.codeIn K cd3 "Account.charge_ride" = true)
    (k3 : PySem.W.keepIn K (.ref f3) = true)
    (a4 : PySem.W.findIn K (.ref CA) "week_zones" = some (some (.ref f4)))
    (i4 : PySem.W.isFn K (.ref f4) = true)
    (l4 : K.lookup f4 = some ⟨oc4, od4, .func (PySem.W.fnOf "week_zones" "Account.week_zones" (defArgs sWeekZones) (defBody sWeekZones) (defScope sWeekZones) .none kV4 dc4 pm4 an4 cd4 ct4), sl4⟩)
    (c4 : PySem.W.codeIn K cd4 "Account.week_zones" = true)
    (k4 : PySem.W.keepIn K (.ref f4) = true)
    (a5 : PySem.W.findIn K (.ref CL) "__init__" = some (some (.ref f5)))
    (i5 : PySem.W.isFn K (.ref f5) = true)
    (l5 : K.lookup f5 = some ⟨oc5, od5, .func (PySem.W.fnOf "__init__" "Ledger.__init__" (defArgs sLInit) (defBody sLInit) (defScope sLInit) .none kV5 dc5 pm5 an5 cd5 ct5), sl5⟩)
    (c5 : PySem.W.codeIn K cd5 "Ledger.__init__" = true)
    (k5 : PySem.W.keepIn K (.ref f5) = true)
    (a6 : PySem.W.findIn K (.ref CL) "ride" = some (some (.ref f6)))
    (i6 : PySem.W.isFn K (.ref f6) = true)
    (l6 : K.lookup f6 = some ⟨oc6, od6, .func (PySem.W.fnOf "ride" "Ledger.ride" (defArgs sRide) (defBody sRide) (defScope sRide) .none kV6 dc6 pm6 an6 cd6 ct6), sl6⟩)
    (c6 : PySem.W.codeIn K cd6 "Ledger.ride" = true)
    (k6 : PySem.W.keepIn K (.ref f6) = true)
    (a7 : PySem.W.findIn K (.ref CL) "rides" = some (some (.ref f7)))
    (i7 : PySem.W.isFn K (.ref f7) = true)
    (l7 : K.lookup f7 = some ⟨oc7, od7, .func (PySem.W.fnOf "rides" "Ledger.rides" (defArgs sRides) (defBody sRides) (defScope sRides) .none kV7 dc7 pm7 an7 cd7 ct7), sl7⟩)
    (c7 : PySem.W.codeIn K cd7 "Ledger.rides" = true)
    (k7 : PySem.W.keepIn K (.ref f7) = true)
    (a8 : PySem.W.findIn K (.ref CL) "week_sum" = some (some (.ref f8)))
    (i8 : PySem.W.isFn K (.ref f8) = true)
    (l8 : K.lookup f8 = some ⟨oc8, od8, .func (PySem.W.fnOf "week_sum" "Ledger.week_sum" (defArgs sWeekSum) (defBody sWeekSum) (defScope sWeekSum) .none kV8 dc8 pm8 an8 cd8 ct8), sl8⟩)
    (c8 : PySem.W.codeIn K cd8 "Ledger.week_sum" = true)
    (k8 : PySem.W.keepIn K (.ref f8) = true)
    (a9 : PySem.W.findIn K (.ref CL) "tickets" = some (some (.ref f9)))
    (i9 : PySem.W.isFn K (.ref f9) = true)
    (l9 : K.lookup f9 = some ⟨oc9, od9, .func (PySem.W.fnOf "tickets" "Ledger.tickets" (defArgs sTickets) (defBody sTickets) (defScope sTickets) .none kV9 dc9 pm9 an9 cd9 ct9), sl9⟩)
    (c9 : PySem.W.codeIn K cd9 "Ledger.tickets" = true)
    (k9 : PySem.W.keepIn K (.ref f9) = true)
    (a10 : PySem.W.findIn K (.ref CL) "_account" = some (some (.ref f10)))
    (i10 : PySem.W.isFn K (.ref f10) = true)
    (l10 : K.lookup f10 = some ⟨oc10, od10, .func (PySem.W.fnOf "_account" "Ledger._account" (defArgs sAccount) (defBody sAccount) (defScope sAccount) .none kV10 dc10 pm10 an10 cd10 ct10), sl10⟩)
    (c10 : PySem.W.codeIn K cd10 "Ledger._account" = true)
    (k10 : PySem.W.keepIn K (.ref f10) = true)
    (a11 : PySem.W.findIn K (.ref CW) "__init__" = some (some (.ref f11)))
    (i11 : PySem.W.isFn K (.ref f11) = true)
    (l11 : K.lookup f11 = some ⟨oc11, od11, .func (PySem.W.fnOf "__init__" "Web.__init__" (defArgs sInit) (defBody sInit) (defScope sInit) .none kV11 dc11 pm11 an11 cd11 ct11), sl11⟩)
    (c11 : PySem.W.codeIn K cd11 "Web.__init__" = true)
    (k11 : PySem.W.keepIn K (.ref f11) = true)
    (a12 : PySem.W.findIn K (.ref CW) "levels" = some (some (.ref f12)))
    (i12 : PySem.W.isFn K (.ref f12) = true)
    (l12 : K.lookup f12 = some ⟨oc12, od12, .func (PySem.W.fnOf "levels" "Web.levels" (defArgs sLevels) (defBody sLevels) (defScope sLevels) .none kV12 dc12 pm12 an12 cd12 ct12), sl12⟩)
    (c12 : PySem.W.codeIn K cd12 "Web.levels" = true)
    (k12 : PySem.W.keepIn K (.ref f12) = true)
    (a13 : PySem.W.findIn K (.ref CW) "fewest" = some (some (.ref f13)))
    (i13 : PySem.W.isFn K (.ref f13) = true)
    (l13 : K.lookup f13 = some ⟨oc13, od13, .func (PySem.W.fnOf "fewest" "Web.fewest" (defArgs sFewest) (defBody sFewest) (defScope sFewest) .none kV13 dc13 pm13 an13 cd13 ct13), sl13⟩)
    (c13 : PySem.W.codeIn K cd13 "Web.fewest" = true)
    (k13 : PySem.W.keepIn K (.ref f13) = true)
    (a14 : PySem.W.findIn K (.ref CW) "way" = some (some (.ref f14)))
    (i14 : PySem.W.isFn K (.ref f14) = true)
    (l14 : K.lookup f14 = some ⟨oc14, od14, .func (PySem.W.fnOf "way" "Web.way" (defArgs sWay) (defBody sWay) (defScope sWay) .none kV14 dc14 pm14 an14 cd14 ct14), sl14⟩)
    (c14 : PySem.W.codeIn K cd14 "Web.way" = true)
    (k14 : PySem.W.keepIn K (.ref f14) = true)
    (a15 : PySem.W.findIn K (.ref CW) "_check_stop" = some (some (.ref f15)))
    (i15 : PySem.W.isFn K (.ref f15) = true)
    (l15 : K.lookup f15 = some ⟨oc15, od15, .func (PySem.W.fnOf "_check_stop" "Web._check_stop" (defArgs sCheckStop) (defBody sCheckStop) (defScope sCheckStop) .none kV15 dc15 pm15 an15 cd15 ct15), sl15⟩)
    (c15 : PySem.W.codeIn K cd15 "Web._check_stop" = true)
    (k15 : PySem.W.keepIn K (.ref f15) = true)
    (a16 : PySem.W.findIn K (.ref CW) "_search_goal" = some (some (.ref f16)))
    (i16 : PySem.W.isFn K (.ref f16) = true)
    (l16 : K.lookup f16 = some ⟨oc16, od16, .func (PySem.W.fnOf "_search_goal" "Web._search_goal" (defArgs sSearchGoal) (defBody sSearchGoal) (defScope sSearchGoal) .none kV16 dc16 pm16 an16 cd16 ct16), sl16⟩)
    (c16 : PySem.W.codeIn K cd16 "Web._search_goal" = true)
    (k16 : PySem.W.keepIn K (.ref f16) = true)
    (a17 : PySem.W.findIn K (.ref CW) "_search" = some (some (.ref f17)))
    (i17 : PySem.W.isFn K (.ref f17) = true)
    (l17 : K.lookup f17 = some ⟨oc17, od17, .func (PySem.W.fnOf "_search" "Web._search" (defArgs sSearch) (defBody sSearch) (defScope sSearch) .none kV17 dc17 pm17 an17 cd17 ct17), sl17⟩)
    (c17 : PySem.W.codeIn K cd17 "Web._search" = true)
    (k17 : PySem.W.keepIn K (.ref f17) = true)
    (a18 : PySem.W.findIn K (.ref CW) "_fill_level" = some (some (.ref f18)))
    (i18 : PySem.W.isFn K (.ref f18) = true)
    (l18 : K.lookup f18 = some ⟨oc18, od18, .func (PySem.W.fnOf "_fill_level" "Web._fill_level" (defArgs sFill) (defBody sFill) (defScope sFill) .none kV18 dc18 pm18 an18 cd18 ct18), sl18⟩)
    (c18 : PySem.W.codeIn K cd18 "Web._fill_level" = true)
    (k18 : PySem.W.keepIn K (.ref f18) = true)
    (a19 : PySem.W.nsIn K mainGlobals "cheapest" = some (some (.ref f19)))
    (l19 : K.lookup f19 = some ⟨oc19, od19, .func (PySem.W.fnOf "cheapest" "cheapest" (defArgs sCheapest) (defBody sCheapest) (defScope sCheapest) .none kV19 dc19 pm19 an19 cd19 ct19), sl19⟩)
    (c19 : PySem.W.codeIn K cd19 "cheapest" = true)
    (k19 : PySem.W.keepIn K (.ref f19) = true)
    (a20 : PySem.W.nsIn K mainGlobals "check_zones" = some (some (.ref f20)))
    (l20 : K.lookup f20 = some ⟨oc20, od20, .func (PySem.W.fnOf "check_zones" "check_zones" (defArgs sCheckZones) (defBody sCheckZones) (defScope sCheckZones) .none kV20 dc20 pm20 an20 cd20 ct20), sl20⟩)
    (c20 : PySem.W.codeIn K cd20 "check_zones" = true)
    (k20 : PySem.W.keepIn K (.ref f20) = true)
    (a21 : PySem.W.nsIn K mainGlobals "_least_price" = some (some (.ref f21)))
    (l21 : K.lookup f21 = some ⟨oc21, od21, .func (PySem.W.fnOf "_least_price" "_least_price" (defArgs sLeastPrice) (defBody sLeastPrice) (defScope sLeastPrice) .none kV21 dc21 pm21 an21 cd21 ct21), sl21⟩)
    (c21 : PySem.W.codeIn K cd21 "_least_price" = true)
    (k21 : PySem.W.keepIn K (.ref f21) = true)
    (a22 : PySem.W.nsIn K mainGlobals "_check_prices" = some (some (.ref f22)))
    (l22 : K.lookup f22 = some ⟨oc22, od22, .func (PySem.W.fnOf "_check_prices" "_check_prices" (defArgs sCheckPrices) (defBody sCheckPrices) (defScope sCheckPrices) .none kV22 dc22 pm22 an22 cd22 ct22), sl22⟩)
    (c22 : PySem.W.codeIn K cd22 "_check_prices" = true)
    (k22 : PySem.W.keepIn K (.ref f22) = true)
    (a23 : PySem.W.nsIn K mainGlobals "least" = some (some (.ref f23)))
    (l23 : K.lookup f23 = some ⟨oc23, od23, .func (PySem.W.fnOf "least" "least" (defArgs sLeastOf) (defBody sLeastOf) (defScope sLeastOf) .none kV23 dc23 pm23 an23 cd23 ct23), sl23⟩)
    (c23 : PySem.W.codeIn K cd23 "least" = true)
    (k23 : PySem.W.keepIn K (.ref f23) = true)
    (a24 : PySem.W.nsIn K mainGlobals "_count_rides" = some (some (.ref f24)))
    (l24 : K.lookup f24 = some ⟨oc24, od24, .func (PySem.W.fnOf "_count_rides" "_count_rides" (defArgs sCountRides) (defBody sCountRides) (defScope sCountRides) .none kV24 dc24 pm24 an24 cd24 ct24), sl24⟩)
    (c24 : PySem.W.codeIn K cd24 "_count_rides" = true)
    (k24 : PySem.W.keepIn K (.ref f24) = true)
    (a25 : PySem.W.nsIn K mainGlobals "_cheapest_plan" = some (some (.ref f25)))
    (l25 : K.lookup f25 = some ⟨oc25, od25, .func (PySem.W.fnOf "_cheapest_plan" "_cheapest_plan" (defArgs sPlan) (defBody sPlan) (defScope sPlan) .none kV25 dc25 pm25 an25 cd25 ct25), sl25⟩)
    (c25 : PySem.W.codeIn K cd25 "_cheapest_plan" = true)
    (k25 : PySem.W.keepIn K (.ref f25) = true)
    (a26 : PySem.W.nsIn K mainGlobals "_prices_by_size" = some (some (.ref f26)))
    (l26 : K.lookup f26 = some ⟨oc26, od26, .func (PySem.W.fnOf "_prices_by_size" "_prices_by_size" (defArgs sBySize) (defBody sBySize) (defScope sBySize) .none kV26 dc26 pm26 an26 cd26 ct26), sl26⟩)
    (c26 : PySem.W.codeIn K cd26 "_prices_by_size" = true)
    (k26 : PySem.W.keepIn K (.ref f26) = true)
    (a27 : PySem.W.nsIn K mainGlobals "_costs_above" = some (some (.ref f27)))
    (l27 : K.lookup f27 = some ⟨oc27, od27, .func (PySem.W.fnOf "_costs_above" "_costs_above" (defArgs sAbove) (defBody sAbove) (defScope sAbove) .none kV27 dc27 pm27 an27 cd27 ct27), sl27⟩)
    (c27 : PySem.W.codeIn K cd27 "_costs_above" = true)
    (k27 : PySem.W.keepIn K (.ref f27) = true)
    (a28 : PySem.W.nsIn K mainGlobals "_cheapest_day_plan" = some (some (.ref f28)))
    (l28 : K.lookup f28 = some ⟨oc28, od28, .func (PySem.W.fnOf "_cheapest_day_plan" "_cheapest_day_plan" (defArgs sDayPlan) (defBody sDayPlan) (defScope sDayPlan) .none kV28 dc28 pm28 an28 cd28 ct28), sl28⟩)
    (c28 : PySem.W.codeIn K cd28 "_cheapest_day_plan" = true)
    (k28 : PySem.W.keepIn K (.ref f28) = true)
    (a29 : PySem.W.nsIn K mainGlobals "_plan_tickets" = some (some (.ref f29)))
    (l29 : K.lookup f29 = some ⟨oc29, od29, .func (PySem.W.fnOf "_plan_tickets" "_plan_tickets" (defArgs sPlanTickets) (defBody sPlanTickets) (defScope sPlanTickets) .none kV29 dc29 pm29 an29 cd29 ct29), sl29⟩)
    (c29 : PySem.W.codeIn K cd29 "_plan_tickets" = true)
    (k29 : PySem.W.keepIn K (.ref f29) = true)
    (a30 : PySem.W.nsIn K mainGlobals "_single_tickets" = some (some (.ref f30)))
    (l30 : K.lookup f30 = some ⟨oc30, od30, .func (PySem.W.fnOf "_single_tickets" "_single_tickets" (defArgs sSingleTickets) (defBody sSingleTickets) (defScope sSingleTickets) .none kV30 dc30 pm30 an30 cd30 ct30), sl30⟩)
    (c30 : PySem.W.codeIn K cd30 "_single_tickets" = true)
    (k30 : PySem.W.keepIn K (.ref f30) = true)
    (a31 : PySem.W.nsIn K mainGlobals "least_cost" = some (some (.ref f31)))
    (l31 : K.lookup f31 = some ⟨oc31, od31, .func (PySem.W.fnOf "least_cost" "least_cost" (defArgs sLeastCost) (defBody sLeastCost) (defScope sLeastCost) .none kV31 dc31 pm31 an31 cd31 ct31), sl31⟩)
    (c31 : PySem.W.codeIn K cd31 "least_cost" = true)
    (k31 : PySem.W.keepIn K (.ref f31) = true)
    (a32 : PySem.W.nsIn K mainGlobals "empty_counts" = some (some (.ref f32)))
    (l32 : K.lookup f32 = some ⟨oc32, od32, .func (PySem.W.fnOf "empty_counts" "empty_counts" (defArgs sEmptyCounts) (defBody sEmptyCounts) (defScope sEmptyCounts) .none kV32 dc32 pm32 an32 cd32 ct32), sl32⟩)
    (c32 : PySem.W.codeIn K cd32 "empty_counts" = true)
    (k32 : PySem.W.keepIn K (.ref f32) = true)
    (a33 : PySem.W.nsIn K mainGlobals "_is_stop" = some (some (.ref f33)))
    (l33 : K.lookup f33 = some ⟨oc33, od33, .func (PySem.W.fnOf "_is_stop" "_is_stop" (defArgs sIsStop) (defBody sIsStop) (defScope sIsStop) .none kV33 dc33 pm33 an33 cd33 ct33), sl33⟩)
    (c33 : PySem.W.codeIn K cd33 "_is_stop" = true)
    (k33 : PySem.W.keepIn K (.ref f33) = true)
    (a34 : PySem.W.nsIn K mainGlobals "_neighbours" = some (some (.ref f34)))
    (l34 : K.lookup f34 = some ⟨oc34, od34, .func (PySem.W.fnOf "_neighbours" "_neighbours" (defArgs sNeigh) (defBody sNeigh) (defScope sNeigh) .none kV34 dc34 pm34 an34 cd34 ct34), sl34⟩)
    (c34 : PySem.W.codeIn K cd34 "_neighbours" = true)
    (k34 : PySem.W.keepIn K (.ref f34) = true)
    (a35 : PySem.W.nsIn K mainGlobals "_check_link" = some (some (.ref f35)))
    (l35 : K.lookup f35 = some ⟨oc35, od35, .func (PySem.W.fnOf "_check_link" "_check_link" (defArgs sCheckLink) (defBody sCheckLink) (defScope sCheckLink) .none kV35 dc35 pm35 an35 cd35 ct35), sl35⟩)
    (c35 : PySem.W.codeIn K cd35 "_check_link" = true)
    (k35 : PySem.W.keepIn K (.ref f35) = true)
    (a36 : PySem.W.nsIn K mainGlobals "_law_cell_at" = some (some (.ref f36)))
    (l36 : K.lookup f36 = some ⟨oc36, od36, .func (PySem.W.fnOf "_law_cell_at" "_law_cell_at" (defArgs sCell) (defBody sCell) (defScope sCell) .none kV36 dc36 pm36 an36 cd36 ct36), sl36⟩)
    (c36 : PySem.W.codeIn K cd36 "_law_cell_at" = true)
    (k36 : PySem.W.keepIn K (.ref f36) = true)
    (a37 : PySem.W.nsIn K mainGlobals "_law_whole" = some (some (.ref f37)))
    (l37 : K.lookup f37 = some ⟨oc37, od37, .func (PySem.W.fnOf "_law_whole" "_law_whole" (defArgs sWhole) (defBody sWhole) (defScope sWhole) .none kV37 dc37 pm37 an37 cd37 ct37), sl37⟩)
    (c37 : PySem.W.codeIn K cd37 "_law_whole" = true)
    (k37 : PySem.W.keepIn K (.ref f37) = true)
    (a38 : PySem.W.nsIn K mainGlobals "_law_rows" = some (some (.ref f38)))
    (l38 : K.lookup f38 = some ⟨oc38, od38, .func (PySem.W.fnOf "_law_rows" "_law_rows" (defArgs sRows) (defBody sRows) (defScope sRows) .none kV38 dc38 pm38 an38 cd38 ct38), sl38⟩)
    (c38 : PySem.W.codeIn K cd38 "_law_rows" = true)
    (k38 : PySem.W.keepIn K (.ref f38) = true)
    (a39 : PySem.W.nsIn K mainGlobals "_law_links_by" = some (some (.ref f39)))
    (l39 : K.lookup f39 = some ⟨oc39, od39, .func (PySem.W.fnOf "_law_links_by" "_law_links_by" (defArgs sLinks10) (defBody sLinks10) (defScope sLinks10) .none kV39 dc39 pm39 an39 cd39 ct39), sl39⟩)
    (c39 : PySem.W.codeIn K cd39 "_law_links_by" = true)
    (k39 : PySem.W.keepIn K (.ref f39) = true)
    (a40 : PySem.W.nsIn K mainGlobals "_law_kept" = some (some (.ref f40)))
    (l40 : K.lookup f40 = some ⟨oc40, od40, .func (PySem.W.fnOf "_law_kept" "_law_kept" (defArgs sKept) (defBody sKept) (defScope sKept) .none kV40 dc40 pm40 an40 cd40 ct40), sl40⟩)
    (c40 : PySem.W.codeIn K cd40 "_law_kept" = true)
    (k40 : PySem.W.keepIn K (.ref f40) = true)
    (a41 : PySem.W.nsIn K mainGlobals "_law_zones_of" = some (some (.ref f41)))
    (l41 : K.lookup f41 = some ⟨oc41, od41, .func (PySem.W.fnOf "_law_zones_of" "_law_zones_of" (defArgs sZonesOf) (defBody sZonesOf) (defScope sZonesOf) .none kV41 dc41 pm41 an41 cd41 ct41), sl41⟩)
    (c41 : PySem.W.codeIn K cd41 "_law_zones_of" = true)
    (k41 : PySem.W.keepIn K (.ref f41) = true)
    (a42 : PySem.W.nsIn K mainGlobals "_law_ridden" = some (some (.ref f42)))
    (l42 : K.lookup f42 = some ⟨oc42, od42, .func (PySem.W.fnOf "_law_ridden" "_law_ridden" (defArgs sRidden10) (defBody sRidden10) (defScope sRidden10) .none kV42 dc42 pm42 an42 cd42 ct42), sl42⟩)
    (c42 : PySem.W.codeIn K cd42 "_law_ridden" = true)
    (k42 : PySem.W.keepIn K (.ref f42) = true)
    (a43 : PySem.W.nsIn K mainGlobals "_law_serves" = some (some (.ref f43)))
    (l43 : K.lookup f43 = some ⟨oc43, od43, .func (PySem.W.fnOf "_law_serves" "_law_serves" (defArgs sServes) (defBody sServes) (defScope sServes) .none kV43 dc43 pm43 an43 cd43 ct43), sl43⟩)
    (c43 : PySem.W.codeIn K cd43 "_law_serves" = true)
    (k43 : PySem.W.keepIn K (.ref f43) = true)
    (a44 : PySem.W.nsIn K mainGlobals "_law_cost" = some (some (.ref f44)))
    (l44 : K.lookup f44 = some ⟨oc44, od44, .func (PySem.W.fnOf "_law_cost" "_law_cost" (defArgs sCost10) (defBody sCost10) (defScope sCost10) .none kV44 dc44 pm44 an44 cd44 ct44), sl44⟩)
    (c44 : PySem.W.codeIn K cd44 "_law_cost" = true)
    (k44 : PySem.W.keepIn K (.ref f44) = true)
    (a45 : PySem.W.nsIn K mainGlobals "_law_drawn" = some (some (.ref f45)))
    (l45 : K.lookup f45 = some ⟨oc45, od45, .func (PySem.W.fnOf "_law_drawn" "_law_drawn" (defArgs sDrawn10) (defBody sDrawn10) (defScope sDrawn10) .none kV45 dc45 pm45 an45 cd45 ct45), sl45⟩)
    (c45 : PySem.W.codeIn K cd45 "_law_drawn" = true)
    (k45 : PySem.W.keepIn K (.ref f45) = true)
    (a46 : PySem.W.nsIn K mainGlobals "_law_weeks" = some (some (.ref f46)))
    (l46 : K.lookup f46 = some ⟨oc46, od46, .func (PySem.W.fnOf "_law_weeks" "_law_weeks" (defArgs sWeeks10) (defBody sWeeks10) (defScope sWeeks10) .none kV46 dc46 pm46 an46 cd46 ct46), sl46⟩)
    (c46 : PySem.W.codeIn K cd46 "_law_weeks" = true)
    (k46 : PySem.W.keepIn K (.ref f46) = true)
    (a47 : PySem.W.nsIn K mainGlobals "_law_rides" = some (some (.ref f47)))
    (l47 : K.lookup f47 = some ⟨oc47, od47, .func (PySem.W.fnOf "_law_rides" "_law_rides" (defArgs sRides10) (defBody sRides10) (defScope sRides10) .none kV47 dc47 pm47 an47 cd47 ct47), sl47⟩)
    (c47 : PySem.W.codeIn K cd47 "_law_rides" = true)
    (k47 : PySem.W.keepIn K (.ref f47) = true)
    (a48 : PySem.W.nsIn K mainGlobals "_law_stays" = some (some (.ref f48)))
    (l48 : K.lookup f48 = some ⟨oc48, od48, .func (PySem.W.fnOf "_law_stays" "_law_stays" (defArgs sStays10) (defBody sStays10) (defScope sStays10) .none kV48 dc48 pm48 an48 cd48 ct48), sl48⟩)
    (c48 : PySem.W.codeIn K cd48 "_law_stays" = true)
    (k48 : PySem.W.keepIn K (.ref f48) = true)
    (a49 : PySem.W.nsIn K mainGlobals "law" = some (some (.ref f49)))
    (l49 : K.lookup f49 = some ⟨oc49, od49, .func (PySem.W.fnOf "law" "law" (defArgs sLaw) (defBody sLaw) (defScope sLaw) .none kV49 dc49 pm49 an49 cd49 ct49), sl49⟩)
    (c49 : PySem.W.codeIn K cd49 "law" = true)
    (k49 : PySem.W.keepIn K (.ref f49) = true)
    (nC_singles : PySem.W.findIn K (.ref C) "singles" = some none)
    (nC_days : PySem.W.findIn K (.ref C) "days" = some none)
    (nC_weeks : PySem.W.findIn K (.ref C) "weeks" = some none)
    (nCA_rows : PySem.W.findIn K (.ref CA) "rows" = some none)
    (nCA_last_day : PySem.W.findIn K (.ref CA) "last_day" = some none)
    (nCA_week_counts : PySem.W.findIn K (.ref CA) "week_counts" = some none)
    (nCA_day_sums : PySem.W.findIn K (.ref CA) "day_sums" = some none)
    (nCA_week_sums : PySem.W.findIn K (.ref CA) "week_sums" = some none)
    (nCA_total : PySem.W.findIn K (.ref CA) "total" = some none)
    (nCL__web : PySem.W.findIn K (.ref CL) "_web" = some none)
    (nCL__tariff : PySem.W.findIn K (.ref CL) "_tariff" = some none)
    (nCL__accounts : PySem.W.findIn K (.ref CL) "_accounts" = some none)
    (nCW_zones : PySem.W.findIn K (.ref CW) "zones" = some none)
    (nCW_links : PySem.W.findIn K (.ref CW) "links" = some none)
    (nCW__near : PySem.W.findIn K (.ref CW) "_near" = some none)
    (gCP : PySem.W.nsIn K mainGlobals "BadPrices" = some (some (.ref CP)))
    (xCP : PySem.W.excIn K CP [.type "ValueError", .type "Exception", .type "BaseException", .type "object"] "ValueError.__new__" = true)
    (kCP : PySem.W.keepIn K (.ref CP) = true)
    (bCP : PySem.W.subIn K (.ref CP) (.type "BaseException") = some true)
    (tCP : PySem.W.typeIn K (.ref CP) = some (.type "type"))
    (gCZ : PySem.W.nsIn K mainGlobals "BadZones" = some (some (.ref CZ)))
    (xCZ : PySem.W.excIn K CZ [.type "ValueError", .type "Exception", .type "BaseException", .type "object"] "ValueError.__new__" = true)
    (kCZ : PySem.W.keepIn K (.ref CZ) = true)
    (bCZ : PySem.W.subIn K (.ref CZ) (.type "BaseException") = some true)
    (tCZ : PySem.W.typeIn K (.ref CZ) = some (.type "type"))
    (gCB : PySem.W.nsIn K mainGlobals "BadLink" = some (some (.ref CB)))
    (xCB : PySem.W.excIn K CB [.type "ValueError", .type "Exception", .type "BaseException", .type "object"] "ValueError.__new__" = true)
    (kCB : PySem.W.keepIn K (.ref CB) = true)
    (bCB : PySem.W.subIn K (.ref CB) (.type "BaseException") = some true)
    (tCB : PySem.W.typeIn K (.ref CB) = some (.type "type"))
    (gCS : PySem.W.nsIn K mainGlobals "BadStop" = some (some (.ref CS)))
    (xCS : PySem.W.excIn K CS [.type "ValueError", .type "Exception", .type "BaseException", .type "object"] "ValueError.__new__" = true)
    (kCS : PySem.W.keepIn K (.ref CS) = true)
    (bCS : PySem.W.subIn K (.ref CS) (.type "BaseException") = some true)
    (tCS : PySem.W.typeIn K (.ref CS) = some (.type "type"))
    (gCN : PySem.W.nsIn K mainGlobals "NoWay" = some (some (.ref CN)))
    (xCN : PySem.W.excIn K CN [.type "ValueError", .type "Exception", .type "BaseException", .type "object"] "ValueError.__new__" = true)
    (kCN : PySem.W.keepIn K (.ref CN) = true)
    (bCN : PySem.W.subIn K (.ref CN) (.type "BaseException") = some true)
    (tCN : PySem.W.typeIn K (.ref CN) = some (.type "type"))
    (gCD : PySem.W.nsIn K mainGlobals "PastDay" = some (some (.ref CD)))
    (xCD : PySem.W.excIn K CD [.type "ValueError", .type "Exception", .type "BaseException", .type "object"] "ValueError.__new__" = true)
    (kCD : PySem.W.keepIn K (.ref CD) = true)
    (bCD : PySem.W.subIn K (.ref CD) (.type "BaseException") = some true)
    (tCD : PySem.W.typeIn K (.ref CD) = some (.type "type"))
    (z_len : PySem.W.nsIn K mainGlobals "len" = some none)
    (z_list : PySem.W.nsIn K mainGlobals "list" = some none)
    (z_range : PySem.W.nsIn K mainGlobals "range" = some none)
    (z_min : PySem.W.nsIn K mainGlobals "min" = some none)
    (z_sum : PySem.W.nsIn K mainGlobals "sum" = some none)
    (z_enumerate : PySem.W.nsIn K mainGlobals "enumerate" = some none)
    (z_max : PySem.W.nsIn K mainGlobals "max" = some none)
    (z_int : PySem.W.nsIn K mainGlobals "int" = some none)
    (z_isinstance : PySem.W.nsIn K mainGlobals "isinstance" = some none)
    (z_bool : PySem.W.nsIn K mainGlobals "bool" = some none)
    (z_abs : PySem.W.nsIn K mainGlobals "abs" = some none)
    (z_tuple : PySem.W.nsIn K mainGlobals "tuple" = some none)
    (z_sorted : PySem.W.nsIn K mainGlobals "sorted" = some none)
    (z_set : PySem.W.nsIn K mainGlobals "set" = some none)
    (hMOST_ZONES : PySem.W.nsIn K mainGlobals "MOST_ZONES" = some (some (.int 5 tMOST_ZONES)))
    (hWEEK_DAYS : PySem.W.nsIn K mainGlobals "WEEK_DAYS" = some (some (.int 7 tWEEK_DAYS)))
    (hdCN : PySem.W.hasDictIn K CN = true)
    (seCN : PySem.W.subIn K (.ref CN) (.ref CN) = some true)
    : ∃ fd : FuncData, (∀ (s : Shared) (v : Value), BindsTo s fd ⟨[v], []⟩ [("_law_script", v)]) ∧ ∀ base : Heap, K.In base → base.Ns mainGlobals mg → FnOk l.prog w K mg base CX0 8 fa fd ["_law_script"] (spLaw K) := by
  have e := hfa.symm.trans (PySem.W.mg_of X G a49)
  cases e
  have F1 := fun_mk (st := sTInit) l1 c1 k1
  have b1 := F1.binds (ps := ["self", "singles", "days", "weeks"]) fun _ _ _ _ _ _ us hl => match us, hl with | [_, _, _, _], _ => rfl
  have F2 := fun_mk (st := sAInit) l2 c2 k2
  have b2 := F2.binds (ps := ["self"]) fun _ _ _ _ _ _ us hl => match us, hl with | [_], _ => rfl
  have F3 := fun_mk (st := sCharge) l3 c3 k3
  have b3 := F3.binds (ps := ["self", "tariff", "day", "start", "goal", "zones"]) fun _ _ _ _ _ _ us hl => match us, hl with | [_, _, _, _, _, _], _ => rfl
  have F4 := fun_mk (st := sWeekZones) l4 c4 k4
  have b4 := F4.binds (ps := ["self", "week"]) fun _ _ _ _ _ _ us hl => match us, hl with | [_, _], _ => rfl
  have F5 := fun_mk (st := sLInit) l5 c5 k5
  have b5 := F5.binds (ps := ["self", "web", "tariff"]) fun _ _ _ _ _ _ us hl => match us, hl with | [_, _, _], _ => rfl
  have F6 := fun_mk (st := sRide) l6 c6 k6
  have b6 := F6.binds (ps := ["self", "card", "day", "start", "goal"]) fun _ _ _ _ _ _ us hl => match us, hl with | [_, _, _, _, _], _ => rfl
  have F7 := fun_mk (st := sRides) l7 c7 k7
  have b7 := F7.binds (ps := ["self", "card"]) fun _ _ _ _ _ _ us hl => match us, hl with | [_, _], _ => rfl
  have F8 := fun_mk (st := sWeekSum) l8 c8 k8
  have b8 := F8.binds (ps := ["self", "card", "week"]) fun _ _ _ _ _ _ us hl => match us, hl with | [_, _, _], _ => rfl
  have F9 := fun_mk (st := sTickets) l9 c9 k9
  have b9 := F9.binds (ps := ["self", "card", "week"]) fun _ _ _ _ _ _ us hl => match us, hl with | [_, _, _], _ => rfl
  have F10 := fun_mk (st := sAccount) l10 c10 k10
  have b10 := F10.binds (ps := ["self", "card"]) fun _ _ _ _ _ _ us hl => match us, hl with | [_, _], _ => rfl
  have F11 := fun_mk (st := sInit) l11 c11 k11
  have b11 := F11.binds (ps := ["self", "zones", "links"]) fun _ _ _ _ _ _ us hl => match us, hl with | [_, _, _], _ => rfl
  have F12 := fun_mk (st := sLevels) l12 c12 k12
  have b12 := F12.binds (ps := ["self", "start"]) fun _ _ _ _ _ _ us hl => match us, hl with | [_, _], _ => rfl
  have F13 := fun_mk (st := sFewest) l13 c13 k13
  have b13 := F13.binds (ps := ["self", "start", "goal"]) fun _ _ _ _ _ _ us hl => match us, hl with | [_, _, _], _ => rfl
  have F14 := fun_mk (st := sWay) l14 c14 k14
  have b14 := F14.binds (ps := ["self", "start", "goal"]) fun _ _ _ _ _ _ us hl => match us, hl with | [_, _, _], _ => rfl
  have F15 := fun_mk (st := sCheckStop) l15 c15 k15
  have b15 := F15.binds (ps := ["self", "stop"]) fun _ _ _ _ _ _ us hl => match us, hl with | [_, _], _ => rfl
  have F16 := fun_mk (st := sSearchGoal) l16 c16 k16
  have b16 := F16.binds (ps := ["self", "start", "goal"]) fun _ _ _ _ _ _ us hl => match us, hl with | [_, _, _], _ => rfl
  have F17 := fun_mk (st := sSearch) l17 c17 k17
  have b17 := F17.binds (ps := ["self", "start"]) fun _ _ _ _ _ _ us hl => match us, hl with | [_, _], _ => rfl
  have F18 := fun_mk (st := sFill) l18 c18 k18
  have b18 := F18.binds (ps := ["self", "level", "entries", "levels", "origins"]) fun _ _ _ _ _ _ us hl => match us, hl with | [_, _, _, _, _], _ => rfl
  have F19 := fun_mk (st := sCheapest) l19 c19 k19
  have b19 := F19.binds (ps := ["prices", "zones"]) fun _ _ _ _ _ _ us hl => match us, hl with | [_, _], _ => rfl
  have F20 := fun_mk (st := sCheckZones) l20 c20 k20
  have b20 := F20.binds (ps := ["zones"]) fun _ _ _ _ _ _ us hl => match us, hl with | [_], _ => rfl
  have F21 := fun_mk (st := sLeastPrice) l21 c21 k21
  have b21 := F21.binds (ps := ["prices", "zones"]) fun _ _ _ _ _ _ us hl => match us, hl with | [_, _], _ => rfl
  have F22 := fun_mk (st := sCheckPrices) l22 c22 k22
  have b22 := F22.binds (ps := ["prices"]) fun _ _ _ _ _ _ us hl => match us, hl with | [_], _ => rfl
  have F23 := fun_mk (st := sLeastOf) l23 c23 k23
  have b23 := F23.binds (ps := ["tariff", "days"]) fun _ _ _ _ _ _ us hl => match us, hl with | [_, _], _ => rfl
  have F24 := fun_mk (st := sCountRides) l24 c24 k24
  have b24 := F24.binds (ps := ["rides"]) fun _ _ _ _ _ _ us hl => match us, hl with | [_], _ => rfl
  have F25 := fun_mk (st := sPlan) l25 c25 k25
  have b25 := F25.binds (ps := ["tariff", "counts"]) fun _ _ _ _ _ _ us hl => match us, hl with | [_, _], _ => rfl
  have F26 := fun_mk (st := sBySize) l26 c26 k26
  have b26 := F26.binds (ps := ["prices"]) fun _ _ _ _ _ _ us hl => match us, hl with | [_], _ => rfl
  have F27 := fun_mk (st := sAbove) l27 c27 k27
  have b27 := F27.binds (ps := ["single_prices", "counts"]) fun _ _ _ _ _ _ us hl => match us, hl with | [_, _], _ => rfl
  have F28 := fun_mk (st := sDayPlan) l28 c28 k28
  have b28 := F28.binds (ps := ["day_prices", "costs_above", "week_size"]) fun _ _ _ _ _ _ us hl => match us, hl with | [_, _, _], _ => rfl
  have F29 := fun_mk (st := sPlanTickets) l29 c29 k29
  have b29 := F29.binds (ps := ["tariff", "days", "week_size", "day_sizes"]) fun _ _ _ _ _ _ us hl => match us, hl with | [_, _, _, _], _ => rfl
  have F30 := fun_mk (st := sSingleTickets) l30 c30 k30
  have b30 := F30.binds (ps := ["tariff", "day", "rides", "served"]) fun _ _ _ _ _ _ us hl => match us, hl with | [_, _, _, _], _ => rfl
  have F31 := fun_mk (st := sLeastCost) l31 c31 k31
  have b31 := F31.binds (ps := ["tariff", "counts"]) fun _ _ _ _ _ _ us hl => match us, hl with | [_, _], _ => rfl
  have F32 := fun_mk (st := sEmptyCounts) l32 c32 k32
  have b32 := F32.binds (ps := []) fun _ _ _ _ _ _ us hl => match us, hl with | [], _ => rfl
  have F33 := fun_mk (st := sIsStop) l33 c33 k33
  have b33 := F33.binds (ps := ["stop", "count"]) fun _ _ _ _ _ _ us hl => match us, hl with | [_, _], _ => rfl
  have F34 := fun_mk (st := sNeigh) l34 c34 k34
  have b34 := F34.binds (ps := ["count", "links"]) fun _ _ _ _ _ _ us hl => match us, hl with | [_, _], _ => rfl
  have F35 := fun_mk (st := sCheckLink) l35 c35 k35
  have b35 := F35.binds (ps := ["one", "other", "count"]) fun _ _ _ _ _ _ us hl => match us, hl with | [_, _, _], _ => rfl
  have F36 := fun_mk (st := sCell) l36 c36 k36
  have b36 := F36.binds (ps := ["_law_script", "_law_k"]) fun _ _ _ _ _ _ us hl => match us, hl with | [_, _], _ => rfl
  have F37 := fun_mk (st := sWhole) l37 c37 k37
  have b37 := F37.binds (ps := ["_law_found"]) fun _ _ _ _ _ _ us hl => match us, hl with | [_], _ => rfl
  have F38 := fun_mk (st := sRows) l38 c38 k38
  have b38 := F38.binds (ps := ["_law_script"]) fun _ _ _ _ _ _ us hl => match us, hl with | [_], _ => rfl
  have F39 := fun_mk (st := sLinks10) l39 c39 k39
  have b39 := F39.binds (ps := ["_law_script", "_law_many", "_law_size"]) fun _ _ _ _ _ _ us hl => match us, hl with | [_, _, _], _ => rfl
  have F40 := fun_mk (st := sKept) l40 c40 k40
  have b40 := F40.binds (ps := ["_law_found", "_law_zones", "_law_links", "_law_start"]) fun _ _ _ _ _ _ us hl => match us, hl with | [_, _, _, _], _ => rfl
  have F41 := fun_mk (st := sZonesOf) l41 c41 k41
  have b41 := F41.binds (ps := ["_law_row", "_law_zones", "_law_links", "_law_start", "_law_goal"]) fun _ _ _ _ _ _ us hl => match us, hl with | [_, _, _, _, _], _ => rfl
  have F42 := fun_mk (st := sRidden10) l42 c42 k42
  have b42 := F42.binds (ps := ["_law_ledger", "_law_card", "_law_day", "_law_start", "_law_goal"]) fun _ _ _ _ _ _ us hl => match us, hl with | [_, _, _, _, _], _ => rfl
  have F43 := fun_mk (st := sServes) l43 c43 k43
  have b43 := F43.binds (ps := ["_law_ticket", "_law_day", "_law_ride", "_law_zones"]) fun _ _ _ _ _ _ us hl => match us, hl with | [_, _, _, _], _ => rfl
  have F44 := fun_mk (st := sCost10) l44 c44 k44
  have b44 := F44.binds (ps := ["_law_tickets", "_law_days", "_law_rows_here"]) fun _ _ _ _ _ _ us hl => match us, hl with | [_, _, _], _ => rfl
  have F45 := fun_mk (st := sDrawn10) l45 c45 k45
  have b45 := F45.binds (ps := ["_law_number", "_law_rows_here", "_law_days"]) fun _ _ _ _ _ _ us hl => match us, hl with | [_, _, _], _ => rfl
  have F46 := fun_mk (st := sWeeks10) l46 c46 k46
  have b46 := F46.binds (ps := ["_law_ledger", "_law_card", "_law_told", "_law_rows_here", "_law_number"]) fun _ _ _ _ _ _ us hl => match us, hl with | [_, _, _, _, _], _ => rfl
  have F47 := fun_mk (st := sRides10) l47 c47 k47
  have b47 := F47.binds (ps := ["_law_script", "_law_many", "_law_size"]) fun _ _ _ _ _ _ us hl => match us, hl with | [_, _, _], _ => rfl
  have F48 := fun_mk (st := sStays10) l48 c48 k48
  have b48 := F48.binds (ps := ["_law_ledger"]) fun _ _ _ _ _ _ us hl => match us, hl with | [_], _ => rfl
  have F49 := fun_mk (st := sLaw) l49 c49 k49
  have T : PTx K mg C CP CZ := ⟨⟨pgC, hdC, poC, saC⟩, nC_singles, nC_days, nC_weeks, PySem.W.mg_none_of X G z_len, PySem.W.mg_none_of X G z_list, PySem.W.mg_none_of X G z_range, PySem.W.mg_none_of X G z_min, ⟨_, PySem.W.mg_of X G hMOST_ZONES⟩, ⟨PySem.W.mg_of X G gCP, xCP, kCP, bCP, tCP⟩, ⟨PySem.W.mg_of X G gCZ, xCZ, kCZ, bCZ, tCZ⟩⟩
  have TC : CTx K mg C CP CZ := ⟨T, PySem.W.mg_none_of X G z_sum, PySem.W.mg_none_of X G z_enumerate, PySem.W.mg_none_of X G z_max⟩
  have TA : ATx K mg CA := ⟨⟨pgCA, hdCA, poCA, saCA⟩, nCA_rows, nCA_last_day, nCA_week_counts, nCA_day_sums, nCA_week_sums, nCA_total, ⟨_, PySem.W.mg_of X G hWEEK_DAYS⟩⟩
  have TL : LTx K mg CL CA CD := ⟨⟨pgCL, hdCL, poCL, saCL⟩, nCL__web, nCL__tariff, nCL__accounts, PySem.W.mg_of X G gCA, ⟨PySem.W.mg_of X G gCD, xCD, kCD, bCD, tCD⟩⟩
  have TW : Txt K mg CW CB CS CN := ⟨⟨pgCW, hdCW, poCW, saCW⟩, nCW_zones, nCW_links, nCW__near, PySem.W.mg_none_of X G z_len, PySem.W.mg_none_of X G z_list, PySem.W.mg_none_of X G z_range, ⟨PySem.W.mg_of X G gCB, xCB, kCB, bCB, tCB⟩, ⟨PySem.W.mg_of X G gCS, xCS, kCS, bCS, tCS⟩, ⟨PySem.W.mg_of X G gCN, xCN, kCN, bCN, tCN⟩⟩
  have Dg : Prg K mg C CP CZ CW CB CS CN CA CL CD := ⟨TC, TA, TL, TW, ⟨_, _, F19, b19, PySem.W.mg_of X G a19⟩, ⟨_, _, F20, b20, PySem.W.mg_of X G a20⟩, ⟨_, _, F21, b21, PySem.W.mg_of X G a21⟩, ⟨_, _, F22, b22, PySem.W.mg_of X G a22⟩, ⟨_, _, F23, b23, PySem.W.mg_of X G a23⟩, ⟨_, _, F31, b31, PySem.W.mg_of X G a31⟩, ⟨_, _, F32, b32, PySem.W.mg_of X G a32⟩, ⟨_, _, F24, b24, PySem.W.mg_of X G a24⟩, ⟨_, _, F25, b25, PySem.W.mg_of X G a25⟩, ⟨_, _, F26, b26, PySem.W.mg_of X G a26⟩, ⟨_, _, F27, b27, PySem.W.mg_of X G a27⟩, ⟨_, _, F28, b28, PySem.W.mg_of X G a28⟩, ⟨_, _, F29, b29, PySem.W.mg_of X G a29⟩, ⟨_, _, F30, b30, PySem.W.mg_of X G a30⟩, ⟨_, _, F1, b1, ⟨mkC, a1, i1, kcC⟩⟩, ⟨_, _, F2, b2, ⟨mkCA, a2, i2, kcCA⟩⟩, ⟨_, _, F3, b3, ⟨a3, i3, k3⟩⟩, ⟨_, _, F4, b4, ⟨a4, i4, k4⟩⟩, ⟨_, _, F5, b5, ⟨mkCL, a5, i5, kcCL⟩⟩, ⟨_, _, F6, b6, ⟨a6, i6, k6⟩⟩, ⟨_, _, F7, b7, ⟨a7, i7, k7⟩⟩, ⟨_, _, F8, b8, ⟨a8, i8, k8⟩⟩, ⟨_, _, F9, b9, ⟨a9, i9, k9⟩⟩, ⟨_, _, F10, b10, ⟨a10, i10, k10⟩⟩, ⟨_, _, F11, b11, ⟨mkCW, a11, i11, kcCW⟩⟩, ⟨_, _, F33, b33, PySem.W.mg_of X G a33⟩, ⟨_, _, F34, b34, PySem.W.mg_of X G a34⟩, ⟨_, _, F35, b35, PySem.W.mg_of X G a35⟩, ⟨_, _, F15, b15, ⟨a15, i15, k15⟩⟩, ⟨_, _, F17, b17, ⟨a17, i17, k17⟩⟩, ⟨_, _, F18, b18, ⟨a18, i18, k18⟩⟩, ⟨_, _, F16, b16, ⟨a16, i16, k16⟩⟩, ⟨_, _, F13, b13, ⟨a13, i13, k13⟩⟩, ⟨_, _, F14, b14, ⟨a14, i14, k14⟩⟩, ⟨_, _, F12, b12, ⟨a12, i12, k12⟩⟩⟩
  have D : DefsL K mg C CP CZ CW CB CS CN CA CL CD := ⟨Dg, PySem.W.mg_of X G gC, PySem.W.mg_of X G gCW, PySem.W.mg_of X G gCL, PySem.W.mg_of X G gCN, ⟨bCN, hdCN, tCN, seCN⟩, PySem.W.mg_none_of X G z_int, PySem.W.mg_none_of X G z_isinstance, PySem.W.mg_none_of X G z_bool, PySem.W.mg_none_of X G z_abs, PySem.W.mg_none_of X G z_tuple, PySem.W.mg_none_of X G z_sorted, PySem.W.mg_none_of X G z_set, ⟨_, _, F36, b36, PySem.W.mg_of X G a36⟩, ⟨_, _, F37, b37, PySem.W.mg_of X G a37⟩, ⟨_, _, F38, b38, PySem.W.mg_of X G a38⟩, ⟨_, _, F39, b39, PySem.W.mg_of X G a39⟩, ⟨_, _, F40, b40, PySem.W.mg_of X G a40⟩, ⟨_, _, F41, b41, PySem.W.mg_of X G a41⟩, ⟨_, _, F42, b42, PySem.W.mg_of X G a42⟩, ⟨_, _, F43, b43, PySem.W.mg_of X G a43⟩, ⟨_, _, F44, b44, PySem.W.mg_of X G a44⟩, ⟨_, _, F45, b45, PySem.W.mg_of X G a45⟩, ⟨_, _, F46, b46, PySem.W.mg_of X G a46⟩, ⟨_, _, F47, b47, PySem.W.mg_of X G a47⟩, ⟨_, _, F48, b48, PySem.W.mg_of X G a48⟩⟩
  exact ⟨PySem.W.fnOf "law" "law" (defArgs sLaw) (defBody sLaw) (defScope sLaw) .none kV49 dc49 pm49 an49 cd49 ct49, fun s v => .of_eq rfl, fun base _ _ => ok_law F49 D⟩
theorem walk {l : PySem.W.OpenLaw} {q : Program} {loose : List Str} {XP : (Str → Option Value) → Heap → Prop} {YP : World → Heap → Prop} {d : DefRec} {K : Params → PySem.W.Frag} (hn : l.most = some 63) (hdf : d.params.defaults = [])
    (hY : ∀ (w : World) (h : Heap), YP w h → (K w.params).In h)
    (F : ∀ (w : World) (mg : Str → Option Value) (fa : Addr) (h : Heap), (K w.params).In h → h.Ns mainGlobals mg → mg d.name = some (.ref fa) →
      ∃ fd : FuncData, (∀ (s : Shared) (u : Value), BindsTo s fd ⟨[u], []⟩ [("_law_script", u)]) ∧ ∀ base : Heap, (K w.params).In base → base.Ns mainGlobals mg → FnOk l.prog w (K w.params) mg base CX0 8 fa fd ["_law_script"] (spLaw (K w.params))) :
    PySem.W.WalkO q loose XP YP l.row.toRowW d [] (fun f vs => PySem.call f vs) :=
  L2.walk_of (n := 63) (k := 8) (x := "_law_script") (CX := fun _ => CX0) (sp := fun w => spLaw (K w.params)) hn (by decide) hdf ⟨rfl, by decide, by decide⟩ hY F (fun _ _ a ns hl _ hS => ⟨a, ns, rfl, hS, hl, fun _ => rfl⟩) fun _ _ _ _ _ z => z
end FW
open PySem PySem.W PyProof.Rows
set_option maxRecDepth 100000 in
set_option maxHeartbeats 0 in
theorem PySem.Challenge.cw_fareweb_k10_whole_cards_pay_the_least_holds : PySem.Challenge.rw_fareweb_k10_whole_cards_pay_the_least.Holds := by
  w_on; o_law; k_head; (case hw => w_witness2)
  k_fill
  refine FW.walk (l := PySem.Challenge.rw_fareweb_k10_whole_cards_pay_the_least) rfl rfl (fun w h Y => PySem.W.kIn_of Y) ?F
  case F =>
    intro w mg fa h KX G hmg
    refine' FW.all_mk KX G hmg ?gC ?pgC ?hdC ?poC ?saC ?mkC ?kcC ?gCA ?pgCA ?hdCA ?poCA ?saCA ?mkCA ?kcCA ?gCL ?pgCL ?hdCL ?poCL ?saCL ?mkCL ?kcCL ?gCW ?pgCW ?hdCW ?poCW ?saCW ?mkCW ?kcCW ?a1 ?i1 ?l1 ?c1 ?k1 ?a2 ?i2 ?l2 ?c2 ?k2 ?a3 ?i3 ?l3 ?c3 ?k3 ?a4 ?i4 ?l4 ?c4 ?k4 ?a5 ?i5 ?l5 ?c5 ?k5 ?a6 ?i6 ?l6 ?c6 ?k6 ?a7 ?i7 ?l7 ?c7 ?k7 ?a8 ?i8 ?l8 ?c8 ?k8 ?a9 ?i9 ?l9 ?c9 ?k9 ?a10 ?i10 ?l10 ?c10 ?k10 ?a11 ?i11 ?l11 ?c11 ?k11 ?a12 ?i12 ?l12 ?c12 ?k12 ?a13 ?i13 ?l13 ?c13 ?k13 ?a14 ?i14 ?l14 ?c14 ?k14 ?a15 ?i15 ?l15 ?c15 ?k15 ?a16 ?i16 ?l16 ?c16 ?k16 ?a17 ?i17 ?l17 ?c17 ?k17 ?a18 ?i18 ?l18 ?c18 ?k18 ?a19 ?l19 ?c19 ?k19 ?a20 ?l20 ?c20 ?k20 ?a21 ?l21 ?c21 ?k21 ?a22 ?l22 ?c22 ?k22 ?a23 ?l23 ?c23 ?k23 ?a24 ?l24 ?c24 ?k24 ?a25 ?l25 ?c25 ?k25 ?a26 ?l26 ?c26 ?k26 ?a27 ?l27 ?c27 ?k27 ?a28 ?l28 ?c28 ?k28 ?a29 ?l29 ?c29 ?k29 ?a30 ?l30 ?c30 ?k30 ?a31 ?l31 ?c31 ?k31 ?a32 ?l32 ?c32 ?k32 ?a33 ?l33 ?c33 ?k33 ?a34 ?l34 ?c34 ?k34 ?a35 ?l35 ?c35 ?k35 ?a36 ?l36 ?c36 ?k36 ?a37 ?l37 ?c37 ?k37 ?a38 ?l38 ?c38 ?k38 ?a39 ?l39 ?c39 ?k39 ?a40 ?l40 ?c40 ?k40 ?a41 ?l41 ?c41 ?k41 ?a42 ?l42 ?c42 ?k42 ?a43 ?l43 ?c43 ?k43 ?a44 ?l44 ?c44 ?k44 ?a45 ?l45 ?c45 ?k45 ?a46 ?l46 ?c46 ?k46 ?a47 ?l47 ?c47 ?k47 ?a48 ?l48 ?c48 ?k48 ?a49 ?l49 ?c49 ?k49 ?nC_singles ?nC_days ?nC_weeks ?nCA_rows ?nCA_last_day ?nCA_week_counts ?nCA_day_sums ?nCA_week_sums ?nCA_total ?nCL__web ?nCL__tariff ?nCL__accounts ?nCW_zones ?nCW_links ?nCW__near ?gCP ?xCP ?kCP ?bCP ?tCP ?gCZ ?xCZ ?kCZ ?bCZ ?tCZ ?gCB ?xCB ?kCB ?bCB ?tCB ?gCS ?xCS ?kCS ?bCS ?tCS ?gCN ?xCN ?kCN ?bCN ?tCN ?gCD ?xCD ?kCD ?bCD ?tCD ?z_len ?z_list ?z_range ?z_min ?z_sum ?z_enumerate ?z_max ?z_int ?z_isinstance ?z_bool ?z_abs ?z_tuple ?z_sorted ?z_set ?hMOST_ZONES ?hWEEK_DAYS ?hdCN ?seCN
    (case gC => k_is)
    (case pgC => k_is)
    (case hdC => k_is)
    (case poC => k_is)
    (case saC => k_is)
    (case mkC => k_is)
    (case kcC => k_is)
    (case gCA => k_is)
    (case pgCA => k_is)
    (case hdCA => k_is)
    (case poCA => k_is)
    (case saCA => k_is)
    (case mkCA => k_is)
    (case kcCA => k_is)
    (case gCL => k_is)
    (case pgCL => k_is)
    (case hdCL => k_is)
    (case poCL => k_is)
    (case saCL => k_is)
    (case mkCL => k_is)
    (case kcCL => k_is)
    (case gCW => k_is)
    (case pgCW => k_is)
    (case hdCW => k_is)
    (case poCW => k_is)
    (case saCW => k_is)
    (case mkCW => k_is)
    (case kcCW => k_is)
    (case a1 => k_is)
    (case i1 => k_is)
    (case l1 => k_is)
    (case c1 => k_is)
    (case k1 => k_is)
    (case a2 => k_is)
    (case i2 => k_is)
    (case l2 => k_is)
    (case c2 => k_is)
    (case k2 => k_is)
    (case a3 => k_is)
    (case i3 => k_is)
    (case l3 => k_is)
    (case c3 => k_is)
    (case k3 => k_is)
    (case a4 => k_is)
    (case i4 => k_is)
    (case l4 => k_is)
    (case c4 => k_is)
    (case k4 => k_is)
    (case a5 => k_is)
    (case i5 => k_is)
    (case l5 => k_is)
    (case c5 => k_is)
    (case k5 => k_is)
    (case a6 => k_is)
    (case i6 => k_is)
    (case l6 => k_is)
    (case c6 => k_is)
    (case k6 => k_is)
    (case a7 => k_is)
    (case i7 => k_is)
    (case l7 => k_is)
    (case c7 => k_is)
    (case k7 => k_is)
    (case a8 => k_is)
    (case i8 => k_is)
    (case l8 => k_is)
    (case c8 => k_is)
    (case k8 => k_is)
    (case a9 => k_is)
    (case i9 => k_is)
    (case l9 => k_is)
    (case c9 => k_is)
    (case k9 => k_is)
    (case a10 => k_is)
    (case i10 => k_is)
    (case l10 => k_is)
    (case c10 => k_is)
    (case k10 => k_is)
    (case a11 => k_is)
    (case i11 => k_is)
    (case l11 => k_is)
    (case c11 => k_is)
    (case k11 => k_is)
    (case a12 => k_is)
    (case i12 => k_is)
    (case l12 => k_is)
    (case c12 => k_is)
    (case k12 => k_is)
    (case a13 => k_is)
    (case i13 => k_is)
    (case l13 => k_is)
    (case c13 => k_is)
    (case k13 => k_is)
    (case a14 => k_is)
    (case i14 => k_is)
    (case l14 => k_is)
    (case c14 => k_is)
    (case k14 => k_is)
    (case a15 => k_is)
    (case i15 => k_is)
    (case l15 => k_is)
    (case c15 => k_is)
    (case k15 => k_is)
    (case a16 => k_is)
    (case i16 => k_is)
    (case l16 => k_is)
    (case c16 => k_is)
    (case k16 => k_is)
    (case a17 => k_is)
    (case i17 => k_is)
    (case l17 => k_is)
    (case c17 => k_is)
    (case k17 => k_is)
    (case a18 => k_is)
    (case i18 => k_is)
    (case l18 => k_is)
    (case c18 => k_is)
    (case k18 => k_is)
    (case a19 => k_is)
    (case l19 => k_is)
    (case c19 => k_is)
    (case k19 => k_is)
    (case a20 => k_is)
    (case l20 => k_is)
    (case c20 => k_is)
    (case k20 => k_is)
    (case a21 => k_is)
    (case l21 => k_is)
    (case c21 => k_is)
    (case k21 => k_is)
    (case a22 => k_is)
    (case l22 => k_is)
    (case c22 => k_is)
    (case k22 => k_is)
    (case a23 => k_is)
    (case l23 => k_is)
    (case c23 => k_is)
    (case k23 => k_is)
    (case a24 => k_is)
    (case l24 => k_is)
    (case c24 => k_is)
    (case k24 => k_is)
    (case a25 => k_is)
    (case l25 => k_is)
    (case c25 => k_is)
    (case k25 => k_is)
    (case a26 => k_is)
    (case l26 => k_is)
    (case c26 => k_is)
    (case k26 => k_is)
    (case a27 => k_is)
    (case l27 => k_is)
    (case c27 => k_is)
    (case k27 => k_is)
    (case a28 => k_is)
    (case l28 => k_is)
    (case c28 => k_is)
    (case k28 => k_is)
    (case a29 => k_is)
    (case l29 => k_is)
    (case c29 => k_is)
    (case k29 => k_is)
    (case a30 => k_is)
    (case l30 => k_is)
    (case c30 => k_is)
    (case k30 => k_is)
    (case a31 => k_is)
    (case l31 => k_is)
    (case c31 => k_is)
    (case k31 => k_is)
    (case a32 => k_is)
    (case l32 => k_is)
    (case c32 => k_is)
    (case k32 => k_is)
    (case a33 => k_is)
    (case l33 => k_is)
    (case c33 => k_is)
    (case k33 => k_is)
    (case a34 => k_is)
    (case l34 => k_is)
    (case c34 => k_is)
    (case k34 => k_is)
    (case a35 => k_is)
    (case l35 => k_is)
    (case c35 => k_is)
    (case k35 => k_is)
    (case a36 => k_is)
    (case l36 => k_is)
    (case c36 => k_is)
    (case k36 => k_is)
    (case a37 => k_is)
    (case l37 => k_is)
    (case c37 => k_is)
    (case k37 => k_is)
    (case a38 => k_is)
    (case l38 => k_is)
    (case c38 => k_is)
    (case k38 => k_is)
    (case a39 => k_is)
    (case l39 => k_is)
    (case c39 => k_is)
    (case k39 => k_is)
    (case a40 => k_is)
    (case l40 => k_is)
    (case c40 => k_is)
    (case k40 => k_is)
    (case a41 => k_is)
    (case l41 => k_is)
    (case c41 => k_is)
    (case k41 => k_is)
    (case a42 => k_is)
    (case l42 => k_is)
    (case c42 => k_is)
    (case k42 => k_is)
    (case a43 => k_is)
    (case l43 => k_is)
    (case c43 => k_is)
    (case k43 => k_is)
    (case a44 => k_is)
    (case l44 => k_is)
    (case c44 => k_is)
    (case k44 => k_is)
    (case a45 => k_is)
    (case l45 => k_is)
    (case c45 => k_is)
    (case k45 => k_is)
    (case a46 => k_is)
    (case l46 => k_is)
    (case c46 => k_is)
    (case k46 => k_is)
    (case a47 => k_is)
    (case l47 => k_is)
    (case c47 => k_is)
    (case k47 => k_is)
    (case a48 => k_is)
    (case l48 => k_is)
    (case c48 => k_is)
    (case k48 => k_is)
    (case a49 => k_is)
    (case l49 => k_is)
    (case c49 => k_is)
    (case k49 => k_is)
    (case nC_singles => k_is)
    (case nC_days => k_is)
    (case nC_weeks => k_is)
    (case nCA_rows => k_is)
    (case nCA_last_day => k_is)
    (case nCA_week_counts => k_is)
    (case nCA_day_sums => k_is)
    (case nCA_week_sums => k_is)
    (case nCA_total => k_is)
    (case nCL__web => k_is)
    (case nCL__tariff => k_is)
    (case nCL__accounts => k_is)
    (case nCW_zones => k_is)
    (case nCW_links => k_is)
    (case nCW__near => k_is)
    (case gCP => k_is)
    (case xCP => k_exc)
    (case kCP => k_is)
    (case bCP => k_is)
    (case tCP => k_is)
    (case gCZ => k_is)
    (case xCZ => k_exc)
    (case kCZ => k_is)
    (case bCZ => k_is)
    (case tCZ => k_is)
    (case gCB => k_is)
    (case xCB => k_exc)
    (case kCB => k_is)
    (case bCB => k_is)
    (case tCB => k_is)
    (case gCS => k_is)
    (case xCS => k_exc)
    (case kCS => k_is)
    (case bCS => k_is)
    (case tCS => k_is)
    (case gCN => k_is)
    (case xCN => k_exc)
    (case kCN => k_is)
    (case bCN => k_is)
    (case tCN => k_is)
    (case gCD => k_is)
    (case xCD => k_exc)
    (case kCD => k_is)
    (case bCD => k_is)
    (case tCD => k_is)
    (case z_len => k_is)
    (case z_list => k_is)
    (case z_range => k_is)
    (case z_min => k_is)
    (case z_sum => k_is)
    (case z_enumerate => k_is)
    (case z_max => k_is)
    (case z_int => k_is)
    (case z_isinstance => k_is)
    (case z_bool => k_is)
    (case z_abs => k_is)
    (case z_tuple => k_is)
    (case z_sorted => k_is)
    (case z_set => k_is)
    (case hMOST_ZONES => k_is)
    (case hWEEK_DAYS => k_is)
    (case hdCN => k_is)
    (case seCN => k_is)
#print axioms PySem.Challenge.cw_fareweb_k10_whole_cards_pay_the_least_holds

