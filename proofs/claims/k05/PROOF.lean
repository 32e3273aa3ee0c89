import PyProof.Rows.All
import Wide.All
import OpenK.AllK
import Wide.FinOn
import HandS.ForMost
import HandS.Exc
import HandS.TryOnly
import HandS.ExcOwn
import HandS.WordsExc
import HandS.RaiseMore
import HandS.FStr
import HandS.TryMany
import HandS.ExcCtx
import HandS.ExcIs
import HandS.HotCalls
import HandS.Deep
import HandS.SetFor
import HandS.Strs
import HandS.Codes
import KE.RegKIsAll
import HandS.Style
import HandS.IsInst
import HandS.Conv
import PySem.Challenge.RW_fareweb_k05_stops_that_are_not_there
set_option Elab.async false
set_option linter.all false
set_option maxRecDepth 100000
set_option autoImplicit false
set_option linter.all false
namespace FW
/-! Webs: plain mathematics of levels and ways. -/
abbrev Lv := List (Option Nat)
def lk (L : Lv) (v : Nat) : Option Nat := L.getD v none
def Adj (near : List (List Nat)) (u v : Nat) : Prop := ∃ l, near[u]? = some l ∧ v ∈ l
def wt (zs : List Int) (u v : Nat) : Nat := if zs[u]? = zs[v]? then 0 else 1
inductive Way (near : List (List Nat)) (zs : List Int) (s : Nat) : Nat → Nat → Prop
  | nil : Way near zs s s 1
  | step {v u k : Nat} : Way near zs s v k → Adj near v u → Way near zs s u (k + wt zs v u)
theorem wt_comm (zs : List Int) (u v : Nat) : wt zs u v = wt zs v u := by
  unfold wt
  by_cases h : zs[u]? = zs[v]?
  · rw [if_pos h, if_pos h.symm]
  · rw [if_neg h, if_neg (fun e => h e.symm)]
theorem wt_le (zs : List Int) (u v : Nat) : wt zs u v ≤ 1 := by
  unfold wt
  split <;> omega
theorem lk_set {L : Lv} {v : Nat} {x : Option Nat} (h : v < L.length) (u : Nat) : lk (L.set v x) u = if u = v then x else lk L u := by
  unfold lk
  rw [List.getD_eq_getElem?_getD, List.getD_eq_getElem?_getD, List.getElem?_set]
  by_cases e : v = u
  · subst e
    simp [h]
  · rw [if_neg e, if_neg (fun z => e z.symm)]
theorem lk_get {L : Lv} {v : Nat} (h : v < L.length) : L[v]? = some (lk L v) := by
  unfold lk
  rw [List.getD_eq_getElem?_getD, List.getElem?_eq_getElem h]
  rfl
theorem lk_lt {L : Lv} {v k : Nat} (h : lk L v = some k) : v < L.length := by
  apply Classical.byContradiction
  intro z
  unfold lk at h
  rw [List.getD_eq_getElem?_getD, List.getElem?_eq_none (by omega)] at h
  cases h
theorem lk_rep (n v : Nat) : lk (List.replicate n none) v = none := by
  unfold lk
  rw [List.getD_eq_getElem?_getD, List.getElem?_replicate]
  split <;> rfl
theorem lk_ext {L M : Lv} (h : L.length = M.length) (e : ∀ v, v < L.length → lk L v = lk M v) : L = M := by
  apply List.ext_getElem? 
  intro i
  by_cases hi : i < L.length
  · rw [lk_get hi, lk_get (by omega), e i hi]
  · rw [List.getElem?_eq_none (by omega), List.getElem?_eq_none (by omega)]
/-! levels -/
structure IsLevels (near : List (List Nat)) (zs : List Int) (s : Nat) (L : Lv) : Prop where
  len : L.length = zs.length
  one : lk L s = some 1
  kept : ∀ u v k, lk L u = some k → Adj near u v → ∃ k', lk L v = some k' ∧ k' ≤ k + wt zs u v
  sound : ∀ v k, lk L v = some k → Way near zs s v k ∧ 1 ≤ k
section
variable {near : List (List Nat)} {zs : List Int} {s : Nat} {L M : Lv}
theorem IsLevels.min (h : IsLevels near zs s L) {v k : Nat} (w : Way near zs s v k) : ∃ l, lk L v = some l ∧ l ≤ k := by
  induction w with
  | nil => exact ⟨1, h.one, Nat.le_refl 1⟩
  | step _ a ih =>
    obtain ⟨l, e, hl⟩ := ih
    obtain ⟨k', e', hk⟩ := h.kept _ _ _ e a
    exact ⟨k', e', by omega⟩
theorem IsLevels.unique (h : IsLevels near zs s L) (g : IsLevels near zs s M) : L = M := by
  refine lk_ext (h.len.trans g.len.symm) fun v _ => ?_
  cases e : lk L v with
  | some k =>
    obtain ⟨l, e1, hl⟩ := g.min (h.sound v k e).1
    obtain ⟨l', e2, hl'⟩ := h.min (g.sound v l e1).1
    rw [e] at e2
    cases e2
    rw [e1, show l = k by omega]
  | none =>
    cases e1 : lk M v with
    | none => rfl
    | some k =>
      obtain ⟨l, e2, _⟩ := h.min (g.sound v k e1).1
      rw [e] at e2
      cases e2
end
/-! the search -/
abbrev Sp := Nat × Option Nat
def Org (near : List (List Nat)) (zs : List Int) (s : Nat) (L : Lv) (lv v : Nat) : Option Nat → Prop
  | none => v = s ∧ lv = 1
  | some u => Adj near u v ∧ ∃ k, lk L u = some k ∧ lv = k + wt zs u v
structure Srch (near : List (List Nat)) (zs : List Int) (s lv : Nat) (St On : List Sp) (L O : Lv) (r : Nat → Nat) (t : Nat) : Prop where
  lenL : L.length = zs.length
  lenO : O.length = zs.length
  sound : ∀ v k, lk L v = some k → Way near zs s v k ∧ k ≤ lv ∧ 1 ≤ k
  st : ∀ v o, (v, o) ∈ St → v < zs.length ∧ Way near zs s v lv ∧ Org near zs s L lv v o
  on : ∀ v o, (v, o) ∈ On → v < zs.length ∧ Way near zs s v (lv + 1) ∧ Org near zs s L (lv + 1) v o
  kept : ∀ u v k, lk L u = some k → Adj near u v → (∃ k', lk L v = some k' ∧ k' ≤ k + wt zs u v) ∨ ((v, some u) ∈ St ∧ lv ≤ k + wt zs u v) ∨ ((v, some u) ∈ On ∧ lv + 1 ≤ k + wt zs u v)
  start : lk L s = some 1 ∨ ((s, none) ∈ St ∧ lv = 1)
  org : ∀ v k, lk L v = some k → r v < t ∧ Org near zs s L k v (lk O v) ∧ ∀ u, lk O v = some u → r u < r v
  pos : 1 ≤ lv
section
variable {near : List (List Nat)} {zs : List Int} {s lv t : Nat} {St On : List Sp} {L O : Lv} {r : Nat → Nat}
theorem Srch.popped {v : Nat} {o : Option Nat} {k : Nat} (h : Srch near zs s lv (St ++ [(v, o)]) On L O r t) (e : lk L v = some k) : Srch near zs s lv St On L O r t := by
  refine ⟨h.lenL, h.lenO, h.sound, fun v o m => h.st v o (List.mem_append_left _ m), h.on, fun u x k' e' a => ?_, ?_, h.org, h.pos⟩
  · rcases h.kept u x k' e' a with z | ⟨m, z⟩ | z
    · exact .inl z
    · rcases List.mem_append.mp m with m | m
      · exact .inr (.inl ⟨m, z⟩)
      · have q := List.mem_singleton.mp m
        cases q
        exact .inl ⟨k, e, by have := (h.sound _ _ e).2.1; omega⟩
    · exact .inr (.inr z)
  · rcases h.start with z | ⟨m, z⟩
    · exact .inl z
    · rcases List.mem_append.mp m with m | m
      · exact .inr ⟨m, z⟩
      · have q := List.mem_singleton.mp m
        cases q
        have := h.sound _ _ e
        exact .inl (by rw [e, show k = 1 by omega])
theorem Org.grow {L' : Lv} {v k : Nat} {o : Option Nat} (g : ∀ u k, lk L u = some k → lk L' u = some k) (h : Org near zs s L k v o) : Org near zs s L' k v o := by
  cases o with
  | none => exact h
  | some u =>
    obtain ⟨a, k', e, z⟩ := h
    exact ⟨a, k', g _ _ e, z⟩
/-- a stop is marked, all its neighbours told off -/
theorem Srch.marked {v : Nat} {o : Option Nat} {l : List Nat} {St' On' : List Sp} (h : Srch near zs s lv (St ++ [(v, o)]) On L O r t) (e : lk L v = none) (hl : near[v]? = some l) (hb : ∀ x, x ∈ l → x < zs.length)
    (e1 : St' = St ++ (l.filter fun x => decide (zs[x]? = zs[v]?)).map fun x => (x, some v)) (e2 : On' = On ++ (l.filter fun x => !decide (zs[x]? = zs[v]?)).map fun x => (x, some v)) :
    Srch near zs s lv St' On' (L.set v (some lv)) (O.set v o) (fun x => if x = v then t else r x) (t + 1) := by
  obtain ⟨hv, wv, ov⟩ := h.st v o (List.mem_append_right _ List.mem_cons_self)
  have vL : v < L.length := by rw [h.lenL]; exact hv
  have vO : v < O.length := by rw [h.lenO]; exact hv
  have g : ∀ u k, lk L u = some k → lk (L.set v (some lv)) u = some k := fun u k q => by
    rw [lk_set vL]
    by_cases z : u = v
    · rw [z, e] at q
      cases q
    · rw [if_neg z, q]
  have gv : lk (L.set v (some lv)) v = some lv := by rw [lk_set vL, if_pos rfl]
  subst e1 e2
  refine ⟨by rw [List.length_set]; exact h.lenL, by rw [List.length_set]; exact h.lenO, ?_, ?_, ?_, ?_, ?_, ?_, h.pos⟩
  · intro u k q
    rw [lk_set vL] at q
    by_cases z : u = v
    · rw [if_pos z] at q
      cases q
      exact ⟨z ▸ wv, Nat.le_refl _, h.pos⟩
    · rw [if_neg z] at q
      exact h.sound u k q
  · intro x y m
    rcases List.mem_append.mp m with m | m
    · obtain ⟨a, b, c⟩ := h.st x y (List.mem_append_left _ m)
      exact ⟨a, b, c.grow g⟩
    · obtain ⟨x', mx, ex⟩ := List.mem_map.mp m
      cases ex
      obtain ⟨m1, m2⟩ := List.mem_filter.mp mx
      have w0 : wt zs v x = 0 := by
        unfold wt
        rw [if_pos (of_decide_eq_true m2).symm]
      have ad : Adj near v x := ⟨l, hl, m1⟩
      have q := Way.step wv ad
      rw [w0] at q
      exact ⟨hb x m1, q, ad, lv, gv, by omega⟩
  · intro x y m
    rcases List.mem_append.mp m with m | m
    · obtain ⟨a, b, c⟩ := h.on x y m
      exact ⟨a, b, c.grow g⟩
    · obtain ⟨x', mx, ex⟩ := List.mem_map.mp m
      cases ex
      obtain ⟨m1, m2⟩ := List.mem_filter.mp mx
      have m3 : ¬ zs[x]? = zs[v]? := by simpa using m2
      have w0 : wt zs v x = 1 := by
        unfold wt
        rw [if_neg (fun z => m3 z.symm)]
      have ad : Adj near v x := ⟨l, hl, m1⟩
      have q := Way.step wv ad
      rw [w0] at q
      exact ⟨hb x m1, q, ad, lv, gv, by omega⟩
  · intro u x k q a
    rw [lk_set vL] at q
    by_cases z : u = v
    · rw [if_pos z] at q
      cases q
      subst z
      obtain ⟨l', hl', mx⟩ := a
      rw [hl] at hl'
      cases hl'
      by_cases c : zs[x]? = zs[u]?
      · refine .inr (.inl ⟨List.mem_append_right _ (List.mem_map.mpr ⟨x, List.mem_filter.mpr ⟨mx, decide_eq_true c⟩, rfl⟩), by omega⟩)
      · refine .inr (.inr ⟨List.mem_append_right _ (List.mem_map.mpr ⟨x, List.mem_filter.mpr ⟨mx, by simpa using c⟩, rfl⟩), ?_⟩)
        unfold wt
        rw [if_neg (fun z => c z.symm)]
        exact Nat.le_refl _
    · rw [if_neg z] at q
      rcases h.kept u x k q a with ⟨k', w, y⟩ | ⟨m, y⟩ | ⟨m, y⟩
      · exact .inl ⟨k', g _ _ w, y⟩
      · rcases List.mem_append.mp m with m | m
        · exact .inr (.inl ⟨List.mem_append_left _ m, y⟩)
        · have q' := List.mem_singleton.mp m
          cases q'
          exact .inl ⟨lv, gv, y⟩
      · exact .inr (.inr ⟨List.mem_append_left _ m, y⟩)
  · rcases h.start with z | ⟨m, z⟩
    · exact .inl (g _ _ z)
    · rcases List.mem_append.mp m with m | m
      · exact .inr ⟨List.mem_append_left _ m, z⟩
      · have q' := List.mem_singleton.mp m
        cases q'
        exact .inl (by rw [gv, z])
  · intro u k q
    rw [lk_set vL] at q
    by_cases z : u = v
    · rw [if_pos z] at q
      cases q
      subst z
      have eo : lk (O.set u o) u = o := by rw [lk_set vO, if_pos rfl]
      refine ⟨by simp, by rw [eo]; exact ov.grow g, fun y ey => ?_⟩
      rw [eo] at ey
      subst ey
      obtain ⟨_, k', ek, _⟩ := ov
      have ne : y ≠ u := fun z => by
        rw [z, e] at ek
        cases ek
      have := (h.org y k' ek).1
      simp [ne, this]
    · rw [if_neg z] at q
      obtain ⟨a, b, c⟩ := h.org u k q
      have eo : lk (O.set v o) u = lk O u := by rw [lk_set vO, if_neg z]
      refine ⟨?_, by rw [eo]; exact b.grow g, fun y ey => ?_⟩
      · show (if u = v then t else r u) < t + 1
        rw [if_neg z]
        omega
      · rw [eo] at ey
        rw [ey] at b
        obtain ⟨_, k', ek, _⟩ := b
        have ne : y ≠ v := fun z => by
          rw [z, e] at ek
          cases ek
        show (if y = v then t else r y) < (if u = v then t else r u)
        rw [if_neg ne, if_neg z]
        exact c y ey
theorem Srch.next (h : Srch near zs s lv [] On L O r t) : Srch near zs s (lv + 1) On [] L O r t := by
  refine ⟨h.lenL, h.lenO, fun v k e => ?_, h.on, fun v o m => by simp at m, fun u v k e a => ?_, ?_, h.org, by omega⟩
  · obtain ⟨a, b, c⟩ := h.sound v k e
    exact ⟨a, by omega, c⟩
  · rcases h.kept u v k e a with z | ⟨m, _⟩ | z
    · exact .inl z
    · simp at m
    · exact .inr (.inl z)
  · rcases h.start with z | ⟨m, _⟩
    · exact .inl z
    · simp at m
theorem Srch.init (hs : s < zs.length) : Srch near zs s 1 [(s, none)] [] (List.replicate zs.length none) (List.replicate zs.length none) (fun _ => 0) 0 := by
  refine ⟨List.length_replicate, List.length_replicate, fun v k e => ?_, fun v o m => ?_, fun v o m => by simp at m, fun u v k e => ?_, .inr ⟨List.mem_cons_self, rfl⟩, fun v k e => ?_, Nat.le_refl 1⟩
  · rw [lk_rep] at e
    cases e
  · have q := List.mem_singleton.mp m
    cases q
    exact ⟨hs, .nil, rfl, rfl⟩
  · rw [lk_rep] at e
    cases e
  · rw [lk_rep] at e
    cases e
theorem Srch.done (h : Srch near zs s lv [] [] L O r t) : IsLevels near zs s L := by
  refine ⟨h.lenL, ?_, fun u v k e a => ?_, fun v k e => ⟨(h.sound v k e).1, (h.sound v k e).2.2⟩⟩
  · rcases h.start with z | ⟨m, _⟩
    · exact z
    · simp at m
  · rcases h.kept u v k e a with z | ⟨m, _⟩ | ⟨m, _⟩
    · exact z
    · simp at m
    · simp at m
end
/-- what a search tells of where ways come from -/
structure IsOrigins (near : List (List Nat)) (zs : List Int) (s : Nat) (L O : Lv) (r : Nat → Nat) (t : Nat) : Prop where
  len : O.length = zs.length
  org : ∀ v k, lk L v = some k → r v < t ∧ Org near zs s L k v (lk O v) ∧ ∀ u, lk O v = some u → r u < r v
/-! how much is left to do -/
def pot : List (List Nat) → Lv → Nat
  | a :: near, none :: L => a.length + 1 + pot near L
  | _ :: near, some _ :: L => pot near L
  | _, _ => 0
theorem pot_set : ∀ {near : List (List Nat)} {L : Lv} {v k : Nat} {l : List Nat}, near[v]? = some l → L[v]? = some none → pot near (L.set v (some k)) + l.length + 1 = pot near L
  | [], _, _, _, _, h, _ => by simp at h
  | _ :: _, [], _, _, _, _, h => by simp at h
  | a :: near, x :: L, 0, k, l, h, e => by
    have h1 : a = l := Option.some.inj h
    have h2 : x = none := Option.some.inj e
    subst h1 h2
    show pot near L + a.length + 1 = a.length + 1 + pot near L
    omega
  | a :: near, x :: L, v + 1, k, l, h, e => by
    have ih := pot_set (near := near) (L := L) (v := v) (k := k) (l := l) h e
    cases x with
    | none =>
      show a.length + 1 + pot near (L.set v (some k)) + l.length + 1 = a.length + 1 + pot near L
      omega
    | some y => exact ih
def tot (near : List (List Nat)) : Nat := (near.map List.length).sum
theorem pot_rep : ∀ (near : List (List Nat)) (n : Nat), near.length = n → pot near (List.replicate n none) = tot near + n
  | [], n, h => by
    subst h
    rfl
  | a :: near, n, h => by
    subst h
    show a.length + 1 + pot near (List.replicate near.length none) = (a.length :: near.map List.length).sum + (near.length + 1)
    rw [pot_rep near _ rfl, List.sum_cons]
    unfold tot
    omega
/-! links -/
abbrev Lk := Int × Int
def LinkOk (n : Nat) (p : Lk) : Prop := (0 ≤ p.1 ∧ p.1 < n) ∧ (0 ≤ p.2 ∧ p.2 < n) ∧ p.1 ≠ p.2
instance (n : Nat) (p : Lk) : Decidable (LinkOk n p) := by unfold LinkOk; exact inferInstance
structure NearOk (n : Nat) (lks : List Lk) (near : List (List Nat)) : Prop where
  len : near.length = n
  adj : ∀ u v, Adj near u v ↔ (((u : Int), (v : Int)) ∈ lks ∨ ((v : Int), (u : Int)) ∈ lks)
  size : tot near = 2 * lks.length
theorem adj_set {near : List (List Nat)} {a x : Nat} {na : List Nat} (h : near[a]? = some na) (u v : Nat) : Adj (near.set a (na ++ [x])) u v ↔ (Adj near u v ∨ (u = a ∧ v = x)) := by
  have ha := (List.getElem?_eq_some_iff.mp h).1
  unfold Adj
  rw [List.getElem?_set]
  by_cases e : a = u
  · subst e
    rw [if_pos rfl, if_pos ha]
    constructor
    · rintro ⟨l, e1, m⟩
      cases e1
      rcases List.mem_append.mp m with m | m
      · exact .inl ⟨na, h, m⟩
      · exact .inr ⟨rfl, List.mem_singleton.mp m⟩
    · rintro (⟨l, e1, m⟩ | ⟨_, rfl⟩)
      · rw [h] at e1
        cases e1
        exact ⟨_, rfl, List.mem_append_left _ m⟩
      · exact ⟨_, rfl, List.mem_append_right _ List.mem_cons_self⟩
  · rw [if_neg e]
    constructor
    · exact fun z => .inl z
    · rintro (z | ⟨z, _⟩)
      · exact z
      · exact absurd z.symm e
theorem tot_set : ∀ {near : List (List Nat)} {a x : Nat} {na : List Nat}, near[a]? = some na → tot (near.set a (na ++ [x])) = tot near + 1
  | [], _, _, _, h => by simp at h
  | b :: near, 0, x, na, h => by
    have e : b = na := Option.some.inj h
    subst e
    show ((b ++ [x]).length :: near.map List.length).sum = (b.length :: near.map List.length).sum + 1
    rw [List.sum_cons, List.sum_cons, List.length_append]
    show b.length + 1 + _ = _
    omega
  | b :: near, a + 1, x, na, h => by
    have ih := tot_set (near := near) (a := a) (x := x) (na := na) h
    unfold tot at ih
    show (b.length :: (near.set a (na ++ [x])).map List.length).sum = (b.length :: near.map List.length).sum + 1
    rw [List.sum_cons, List.sum_cons, ih]
    omega
theorem NearOk.init (n : Nat) : NearOk n [] (List.replicate n []) := by
  refine ⟨List.length_replicate, fun u v => ?_, ?_⟩
  · constructor
    · rintro ⟨l, e, m⟩
      rw [List.getElem?_replicate] at e
      split at e
      · cases e
        simp at m
      · cases e
    · rintro (z | z) <;> simp at z
  · unfold tot
    rw [List.map_replicate]
    show (List.replicate n 0).sum = _
    simp
theorem NearOk.more {n : Nat} {lks : List Lk} {near : List (List Nat)} (h : NearOk n lks near) {a b : Nat} (hab : a ≠ b) {na nb : List Nat} (ea : near[a]? = some na) (eb : near[b]? = some nb) :
    NearOk n (lks ++ [((a : Int), (b : Int))]) ((near.set a (na ++ [b])).set b (nb ++ [a])) := by
  have eb' : (near.set a (na ++ [b]))[b]? = some nb := by
    rw [List.getElem?_set, if_neg hab, eb]
  refine ⟨by rw [List.length_set, List.length_set]; exact h.len, fun u v => ?_, ?_⟩
  · rw [adj_set eb', adj_set ea, h.adj, List.mem_append, List.mem_append, List.mem_singleton, List.mem_singleton]
    constructor
    · rintro (((z | z) | ⟨rfl, rfl⟩) | ⟨rfl, rfl⟩)
      · exact .inl (.inl z)
      · exact .inr (.inl z)
      · exact .inl (.inr rfl)
      · exact .inr (.inr rfl)
    · rintro ((z | z) | (z | z))
      · exact .inl (.inl (.inl z))
      · have q := Prod.mk.inj z
        exact .inl (.inr ⟨by omega, by omega⟩)
      · exact .inl (.inl (.inr z))
      · have q := Prod.mk.inj z
        exact .inr ⟨by omega, by omega⟩
  · rw [tot_set eb', tot_set ea, h.size, List.length_append]
    show _ = 2 * (lks.length + 1)
    omega
end FW
namespace FW
/-- a row of stops from s to g that counts k zones -/
inductive RowTo (near : List (List Nat)) (zs : List Int) (s : Nat) : List Nat → Nat → Nat → Prop
  | one : RowTo near zs s [s] s 1
  | snoc {l : List Nat} {u v k : Nat} : RowTo near zs s l u k → Adj near u v → RowTo near zs s (l ++ [v]) v (k + wt zs u v)
end FW
namespace FW
theorem Way.trans {near : List (List Nat)} {zs : List Int} {s v k : Nat} (h : Way near zs s v k) {u j : Nat} (g : Way near zs v u j) : ∃ i, Way near zs s u i := by
  induction g with
  | nil => exact ⟨k, h⟩
  | step _ a ih =>
    obtain ⟨i, z⟩ := ih
    exact ⟨_, z.step a⟩
theorem Way.back {near : List (List Nat)} {zs : List Int} (sym : ∀ u v, Adj near u v → Adj near v u) {s v k : Nat} (h : Way near zs s v k) : ∃ i, Way near zs v s i := by
  induction h with
  | nil => exact ⟨1, .nil⟩
  | step _ a ih =>
    obtain ⟨i, z⟩ := ih
    exact (Way.nil.step (sym _ _ a)).trans z
theorem NearOk.sym {n : Nat} {lks : List Lk} {near : List (List Nat)} (h : NearOk n lks near) (u v : Nat) (a : Adj near u v) : Adj near v u := (h.adj v u).mpr ((h.adj u v).mp a).symm
/-- the zones of a row's first stops -/
def zsum (zs : List Int) (row : List Nat) : Nat → Nat
  | 0 => 1
  | i + 1 => zsum zs row i + wt zs (row.getD i 0) (row.getD (i + 1) 0)
theorem zsum_app (zs : List Int) (row : List Nat) (v : Nat) : ∀ i, i < row.length → zsum zs (row ++ [v]) i = zsum zs row i
  | 0, _ => rfl
  | i + 1, h => by
    show zsum zs (row ++ [v]) i + wt zs ((row ++ [v]).getD i 0) ((row ++ [v]).getD (i + 1) 0) = zsum zs row i + wt zs (row.getD i 0) (row.getD (i + 1) 0)
    rw [zsum_app zs row v i (by omega)]
    simp only [List.getD_eq_getElem?_getD]
    rw [List.getElem?_append_left (by omega), List.getElem?_append_left h]
structure RowOk (near : List (List Nat)) (zs : List Int) (s : Nat) (row : List Nat) (g k : Nat) : Prop where
  pos : 0 < row.length
  first : row[0]? = some s
  last : row[row.length - 1]? = some g
  adj : ∀ i u v, row[i]? = some u → row[i + 1]? = some v → Adj near u v
  sum : zsum zs row (row.length - 1) = k
theorem RowTo.ok {near : List (List Nat)} {zs : List Int} {s : Nat} {row : List Nat} {g k : Nat} (h : RowTo near zs s row g k) : RowOk near zs s row g k := by
  induction h with
  | one => exact ⟨Nat.zero_lt_one, rfl, rfl, fun i u v h1 h2 => by simp at h2, rfl⟩
  | @snoc l u v k _ a ih =>
    have hp := ih.pos
    have len : (l ++ [v]).length = l.length + 1 := List.length_append
    refine ⟨by omega, by rw [List.getElem?_append_left hp]; exact ih.first, ?_, fun i x y h1 h2 => ?_, ?_⟩
    · rw [len, Nat.add_sub_cancel, List.getElem?_append_right (Nat.le_refl _), Nat.sub_self]
      rfl
    · by_cases hi : i + 1 < l.length
      · rw [List.getElem?_append_left (by omega)] at h1
        rw [List.getElem?_append_left hi] at h2
        exact ih.adj i x y h1 h2
      · have hy := (List.getElem?_eq_some_iff.mp h2).1
        rw [len] at hy
        have e : i = l.length - 1 := by omega
        subst e
        rw [List.getElem?_append_left (by omega), ih.last] at h1
        rw [List.getElem?_append_right (by omega), show l.length - 1 + 1 - l.length = 0 by omega] at h2
        cases h1
        cases h2
        exact a
    · rw [len, Nat.add_sub_cancel]
      obtain ⟨m, hm⟩ : ∃ m, l.length = m + 1 := ⟨l.length - 1, by omega⟩
      rw [hm]
      show zsum zs (l ++ [v]) m + wt zs ((l ++ [v]).getD m 0) ((l ++ [v]).getD (m + 1) 0) = k + wt zs u v
      have e1 : (l ++ [v]).getD m 0 = u := by
        rw [List.getD_eq_getElem?_getD, List.getElem?_append_left (by omega)]
        have := ih.last
        rw [hm] at this
        rw [show m + 1 - 1 = m by omega] at this
        rw [this]
        rfl
      have e2 : (l ++ [v]).getD (m + 1) 0 = v := by
        rw [List.getD_eq_getElem?_getD, List.getElem?_append_right (by omega), hm, Nat.sub_self]
        rfl
      rw [e1, e2, zsum_app zs l v m (by omega)]
      have := ih.sum
      rw [hm, Nat.add_sub_cancel] at this
      rw [this]
theorem RowTo.lt {near : List (List Nat)} {zs : List Int} {s n : Nat} (hs : s < n) (hn : ∀ u v, Adj near u v → v < n) {row : List Nat} {g k : Nat} (h : RowTo near zs s row g k) : ∀ x, x ∈ row → x < n := by
  induction h with
  | one =>
    intro x m
    rw [List.mem_singleton.mp m]
    exact hs
  | snoc _ a ih =>
    intro x m
    rcases List.mem_append.mp m with m | m
    · exact ih x m
    · rw [List.mem_singleton.mp m]
      exact hn _ _ a
theorem RowTo.way {near : List (List Nat)} {zs : List Int} {s : Nat} {row : List Nat} {g k : Nat} (h : RowTo near zs s row g k) : Way near zs s g k := by
  induction h with
  | one => exact .nil
  | snoc _ a ih => exact ih.step a
end FW
namespace FW
open PySem PySem.Spec PyProof.Rows L2
/-! ### the text by places -/
def top (i : Nat) : Stmt := PySem.Challenge.pw_fareweb_k05_stops_that_are_not_there.main.body.getD i (.Pass ⟨0, 0, 0, 0⟩)
abbrev sInit : Stmt := inClass (top 9) 0
abbrev sLevels : Stmt := inClass (top 9) 1
abbrev sFewest : Stmt := inClass (top 9) 2
abbrev sWay : Stmt := inClass (top 9) 3
abbrev sCheckStop : Stmt := inClass (top 9) 4
abbrev sSearchGoal : Stmt := inClass (top 9) 5
abbrev sSearch : Stmt := inClass (top 9) 6
abbrev sFill : Stmt := inClass (top 9) 7
abbrev sIsStop : Stmt := top 10
abbrev sNeigh : Stmt := top 11
abbrev sCheckLink : Stmt := top 12
theorem scInit : FnScope ["self", "zones", "links"] ["self", "zones", "links"] (defScope sInit) := ⟨rfl, rfl, rfl, by decide +kernel, rfl, by decide +kernel, by decide +kernel⟩
theorem scLevels : FnScope ["self", "start", "levels", "_"] ["self", "start"] (defScope sLevels) := ⟨rfl, rfl, rfl, by decide +kernel, rfl, by decide +kernel, by decide +kernel⟩
theorem scFewest : FnScope ["self", "start", "goal", "levels", "_"] ["self", "start", "goal"] (defScope sFewest) := ⟨rfl, rfl, rfl, by decide +kernel, rfl, by decide +kernel, by decide +kernel⟩
theorem scWay : FnScope ["self", "start", "goal", "_", "origins", "row"] ["self", "start", "goal"] (defScope sWay) := ⟨rfl, rfl, rfl, by decide +kernel, rfl, by decide +kernel, by decide +kernel⟩
theorem scCheckStop : FnScope ["self", "stop"] ["self", "stop"] (defScope sCheckStop) := ⟨rfl, rfl, rfl, by decide +kernel, rfl, by decide +kernel, by decide +kernel⟩
theorem scSearchGoal : FnScope ["self", "start", "goal", "levels", "origins"] ["self", "start", "goal"] (defScope sSearchGoal) := ⟨rfl, rfl, rfl, by decide +kernel, rfl, by decide +kernel, by decide +kernel⟩
theorem scSearch : FnScope ["self", "start", "levels", "origins", "steps", "level"] ["self", "start"] (defScope sSearch) := ⟨rfl, rfl, rfl, by decide +kernel, rfl, by decide +kernel, by decide +kernel⟩
theorem scFill : FnScope ["self", "level", "entries", "levels", "origins", "steps", "onward", "stop", "origin", "other"] ["self", "level", "entries", "levels", "origins"] (defScope sFill) := ⟨rfl, rfl, rfl, by decide +kernel, rfl, by decide +kernel, by decide +kernel⟩
theorem scIsStop : FnScope ["stop", "count"] ["stop", "count"] (defScope sIsStop) := ⟨rfl, rfl, rfl, by decide +kernel, rfl, by decide +kernel, by decide +kernel⟩
theorem scNeigh : FnScope ["count", "links", "near", "one", "other", "stop"] ["count", "links"] (defScope sNeigh) := ⟨rfl, rfl, rfl, by decide +kernel, rfl, by decide +kernel, by decide +kernel⟩
theorem scCheckLink : FnScope ["one", "other", "count"] ["one", "other", "count"] (defScope sCheckLink) := ⟨rfl, rfl, rfl, by decide +kernel, rfl, by decide +kernel, by decide +kernel⟩
/-! ### data on the heap -/
def optV : Option Nat → V
  | none => .non
  | some k => .int (k : Nat)
theorem optV_non (o : Option Nat) : decide (optV o = V.non) = decide (o = none) := by
  cases o with
  | none => rfl
  | some k => exact decide_eq_decide.mpr ⟨(fun z => nomatch z), (fun z => nomatch z)⟩
inductive All2 {α β : Type} (R : α → β → Prop) : List α → List β → Prop
  | nil : All2 R [] []
  | cons {a : α} {b : β} {as : List α} {bs : List β} : R a b → All2 R as bs → All2 R (a :: as) (b :: bs)
theorem All2.len {α β : Type} {R : α → β → Prop} {as : List α} {bs : List β} (h : All2 R as bs) : as.length = bs.length := by
  induction h with
  | nil => rfl
  | cons _ _ ih => rw [List.length_cons, List.length_cons, ih]
theorem All2.imp {α β : Type} {R S : α → β → Prop} (f : ∀ a b, R a b → S a b) {as : List α} {bs : List β} (h : All2 R as bs) : All2 S as bs := by
  induction h with
  | nil => exact .nil
  | cons r _ ih => exact .cons (f _ _ r) ih
theorem All2.imp_mem {α β : Type} {R S : α → β → Prop} {as : List α} {bs : List β} (h : All2 R as bs) (f : ∀ a b, a ∈ as → R a b → S a b) : All2 S as bs := by
  induction h with
  | nil => exact .nil
  | cons r _ ih => exact .cons (f _ _ List.mem_cons_self r) (ih fun a b m => f a b (List.mem_cons_of_mem _ m))
theorem All2.app {α β : Type} {R : α → β → Prop} {as cs : List α} {bs ds : List β} (h : All2 R as bs) (g : All2 R cs ds) : All2 R (as ++ cs) (bs ++ ds) := by
  induction h with
  | nil => exact g
  | cons r _ ih => exact .cons r ih
theorem All2.one {α β : Type} {R : α → β → Prop} {a : α} {b : β} (r : R a b) : All2 R [a] [b] := .cons r .nil
theorem All2.get {α β : Type} {R : α → β → Prop} {as : List α} {bs : List β} (h : All2 R as bs) {i : Nat} {b : β} (e : bs[i]? = some b) : ∃ a, as[i]? = some a ∧ R a b := by
  induction h generalizing i with
  | nil => simp at e
  | cons r _ ih =>
    cases i with
    | zero =>
      cases e
      exact ⟨_, rfl, r⟩
    | succ i => exact ih (i := i) e
theorem All2.getL {α β : Type} {R : α → β → Prop} {as : List α} {bs : List β} (h : All2 R as bs) {i : Nat} {a : α} (e : as[i]? = some a) : ∃ b, bs[i]? = some b ∧ R a b := by
  induction h generalizing i with
  | nil => simp at e
  | cons r _ ih =>
    cases i with
    | zero =>
      cases e
      exact ⟨_, rfl, r⟩
    | succ i => exact ih (i := i) e
theorem All2.set {α β : Type} {R : α → β → Prop} {as : List α} {bs : List β} (h : All2 R as bs) {i : Nat} {a : α} {b : β} (ea : as[i]? = some a) (r : R a b) : All2 R as (bs.set i b) := by
  induction h generalizing i with
  | nil => simp at ea
  | cons r' h' ih =>
    cases i with
    | zero =>
      cases ea
      exact .cons r h'
    | succ i => exact .cons r' (ih (i := i) ea)
theorem All2.snoc {α β : Type} {R : α → β → Prop} {as : List α} {bs : List β} {b : β} (h : All2 R as (bs ++ [b])) : ∃ as' a, as = as' ++ [a] ∧ All2 R as' bs ∧ R a b := by
  induction bs generalizing as with
  | nil =>
    cases h with
    | cons r t =>
      cases t
      exact ⟨[], _, rfl, .nil, r⟩
  | cons x bs ih =>
    cases h with
    | cons r t =>
      obtain ⟨as', a, e, h', r'⟩ := ih t
      exact ⟨_ :: as', a, by rw [e]; rfl, .cons r h', r'⟩
theorem All2.of_get {α β : Type} {R : α → β → Prop} : ∀ {as : List α} {bs : List β}, as.length = bs.length → (∀ (i : Nat) (a : α) (b : β), as[i]? = some a → bs[i]? = some b → R a b) → All2 R as bs
  | [], [], _, _ => .nil
  | a :: as, b :: bs, h, f => .cons (f 0 a b rfl rfl) (All2.of_get (Nat.succ.inj h) fun i a b e1 e2 => f (i + 1) a b e1 e2)
  | [], _ :: _, h, _ => nomatch h
  | _ :: _, [], h, _ => nomatch h
theorem All2.at {α β : Type} {R : α → β → Prop} {as : List α} {bs : List β} (h : All2 R as bs) {i : Nat} {a : α} {b : β} (e1 : as[i]? = some a) (e2 : bs[i]? = some b) : R a b := by
  obtain ⟨a', e, r⟩ := h.get e2
  rw [e1] at e
  cases e
  exact r
/-- a step: a stop and where it comes from -/
def StepAt (H : Hp) (a : Addr) (p : Sp) : Prop := H a = some (.tup [.int (p.1 : Nat), optV p.2])
def LinkAt (H : Hp) (a : Addr) (p : Lk) : Prop := H a = some (.tup [.int p.1, .int p.2])
def NearAt1 (H : Hp) (a : Addr) (l : List Nat) : Prop := H a = some (.lst (l.map fun (k : Nat) => V.int (k : Nat)))
/-- a list of steps stands at l -/
def Stk (H : Hp) (l : Addr) (ps : List Sp) : Prop := ∃ as : List Addr, H l = some (.lst (as.map V.ref)) ∧ All2 (StepAt H) as ps
def LinksAt (H : Hp) (l : Addr) (lks : List Lk) : Prop := ∃ as : List Addr, H l = some (.lst (as.map V.ref)) ∧ All2 (LinkAt H) as lks
def NearAt (H : Hp) (l : Addr) (near : List (List Nat)) : Prop := ∃ as : List Addr, H l = some (.lst (as.map V.ref)) ∧ All2 (NearAt1 H) as near
theorem Stk.to {H H' : Hp} {l l' : Addr} {ps : List Sp} (h : Stk H l ps) (k : ∀ b xs, H b = some (.tup xs) → H' b = some (.tup xs)) (kl : ∀ as : List Addr, H l = some (.lst (as.map V.ref)) → H' l' = some (.lst (as.map V.ref))) : Stk H' l' ps := by
  obtain ⟨as, e, q⟩ := h
  exact ⟨as, kl as e, q.imp fun a b r => k _ _ r⟩
theorem LinksAt.to {H H' : Hp} {l l' : Addr} {ps : List Lk} (h : LinksAt H l ps) (k : ∀ b xs, H b = some (.tup xs) → H' b = some (.tup xs)) (kl : ∀ as : List Addr, H l = some (.lst (as.map V.ref)) → H' l' = some (.lst (as.map V.ref))) : LinksAt H' l' ps := by
  obtain ⟨as, e, q⟩ := h
  exact ⟨as, kl as e, q.imp fun a b r => k _ _ r⟩
theorem NearAt.to {H H' : Hp} {l : Addr} {near : List (List Nat)} (h : NearAt H l near) (k : Same H H') : NearAt H' l near := by
  obtain ⟨as, e, q⟩ := h
  exact ⟨as, k _ _ e, q.imp fun a b r => k _ _ r⟩
theorem LinksAt.same {H H' : Hp} {l : Addr} {lks : List Lk} (h : LinksAt H l lks) (k : Same H H') : LinksAt H' l lks := h.to (fun b xs e => k _ _ e) fun as e => k _ _ e
theorem same_upd {H : Hp} {p : Addr} {o : HO} (h : H p = none) : Same H (upd H p o) := fun b x e => by
  rw [upd_ne (ne_of_none e h)]
  exact e
theorem NearAt.toL {H H' : Hp} {l : Addr} {near : List (List Nat)} (h : NearAt H l near) (k : ∀ b xs, H b = some (.lst xs) → H' b = some (.lst xs)) : NearAt H' l near := by
  obtain ⟨as, e, q⟩ := h
  exact ⟨as, k _ _ e, q.imp fun a b r => k _ _ r⟩
theorem near_upd {H : Hp} {as : List Addr} {near : List (List Nat)} {a aa : Nat} {na : List Nat} {o : HO} (h : All2 (NearAt1 H) as near) (nd : as.Nodup) (ea : as[a]? = some aa) (x : Nat) (en : near[a]? = some na)
    (eo : o = .lst ((na.map fun (k : Nat) => V.int (k : Nat)) ++ [V.int (x : Nat)])) : All2 (NearAt1 (upd H aa o)) as (near.set a (na ++ [x])) := by
  subst eo
  refine All2.of_get (by rw [List.length_set]; exact h.len) fun i b l e1 e2 => ?_
  rw [List.getElem?_set] at e2
  by_cases ia : a = i
  · subst ia
    rw [if_pos rfl, if_pos (List.getElem?_eq_some_iff.mp en).1] at e2
    cases e2
    have eb : b = aa := Option.some.inj (e1.symm.trans ea)
    subst eb
    show upd H b _ b = _
    rw [upd_same, List.map_append]
    rfl
  · rw [if_neg ia] at e2
    have nb : b ≠ aa := fun z => ia (nd_ix nd ea (by rw [← z]; exact e1))
    show upd H aa _ b = _
    rw [upd_ne nb]
    exact h.at e1 e2
/-- the fields of a web -/
theorem f12 : ¬ (("zones" : Str) = "links") := by decide +kernel
theorem f13 : ¬ (("zones" : Str) = "_near") := by decide +kernel
theorem f23 : ¬ (("links" : Str) = "_near") := by decide +kernel
def wf (zl ll nl : Addr) : List (Str × V) := putF "_near" (.ref nl) (putF "links" (.ref ll) (putF "zones" (.ref zl) []))
theorem wf_zones (zl ll nl : Addr) : (wf zl ll nl).lookup ("zones" : Str) = some (.ref zl) := by
  unfold wf
  rw [lookup_putF, if_neg f13, lookup_putF, if_neg f12, lookup_putF, if_pos rfl]
theorem wf_links (zl ll nl : Addr) : (wf zl ll nl).lookup ("links" : Str) = some (.ref ll) := by
  unfold wf
  rw [lookup_putF, if_neg f23, lookup_putF, if_pos rfl]
theorem wf_near (zl ll nl : Addr) : (wf zl ll nl).lookup ("_near" : Str) = some (.ref nl) := by
  unfold wf
  rw [lookup_putF, if_pos rfl]
theorem wf_no (zl ll nl : Addr) {m : Str} (h1 : ¬ m = "zones") (h2 : ¬ m = "links") (h3 : ¬ m = "_near") : (wf zl ll nl).lookup m = none := by
  unfold wf
  rw [lookup_putF, if_neg h3, lookup_putF, if_neg h2, lookup_putF, if_neg h1]
  all_goals rfl
/-- A WEB stands at p -/
structure WebAt (C : Addr) (H : Hp) (p : Addr) (zs : List Int) (lks : List Lk) (near : List (List Nat)) : Prop where
  ob : ∃ dx zl ll nl, H p = some (.ins C dx (wf zl ll nl)) ∧ H zl = some (.lst (zs.map V.int)) ∧ LinksAt H ll lks ∧ NearAt H nl near
  ok : NearOk zs.length lks near
  lt : ∀ q, q ∈ lks → LinkOk zs.length q
  small : 2 * lks.length + zs.length ≤ 100000
theorem WebAt.same {C p : Addr} {H H' : Hp} {zs : List Int} {lks : List Lk} {near : List (List Nat)} (h : WebAt C H p zs lks near) (k : Same H H') : WebAt C H' p zs lks near := by
  obtain ⟨⟨dx, zl, ll, nl, h1, h2, h3, h4⟩, a, b, c⟩ := h
  exact ⟨⟨dx, zl, ll, nl, k _ _ h1, k _ _ h2, h3.same k, h4.to k⟩, a, b, c⟩
theorem WebAt.near_lt {C p : Addr} {H : Hp} {zs : List Int} {lks : List Lk} {near : List (List Nat)} (h : WebAt C H p zs lks near) {u v : Nat} (a : Adj near u v) : v < zs.length := by
  rcases (h.ok.adj u v).mp a with z | z
  · have := (h.lt _ z).2.1.2
    exact Int.ofNat_lt.mp this
  · have := (h.lt _ z).1.2
    exact Int.ofNat_lt.mp this
/-! ### what the top has written -/
structure ErrT (K : PySem.W.Frag) (mg : Str → Option Value) (nm : Str) (C : Addr) : Prop where
  g : mg nm = some (.ref C)
  x : PySem.W.excIn K C [.type "ValueError", .type "Exception", .type "BaseException", .type "object"] "ValueError.__new__" = true
  k : PySem.W.keepIn K (.ref C) = true
  b : PySem.W.subIn K (.ref C) (.type "BaseException") = some true
  t : PySem.W.typeIn K (.ref C) = some (.type "type")
structure Txt (K : PySem.W.Frag) (mg : Str → Option Value) (C CL CS CN : Addr) : Prop where
  cl : Cls K C
  nZ : NoAttr K C "zones"
  nL : NoAttr K C "links"
  nN : NoAttr K C "_near"
  len : mg "len" = none
  list : mg "list" = none
  range : mg "range" = none
  eL : ErrT K mg "BadLink" CL
  eS : ErrT K mg "BadStop" CS
  eN : ErrT K mg "NoWay" CN
section
variable {P : Program} {w : World} {K : PySem.W.Frag} {mg : Str → Option Value} {base : Heap} {C CL CS CN : Addr}
theorem ErrT.raises {X : Cx} {nm : Str} {C : Addr} (T : ErrT X.K X.mg nm C) : Raises X (.ref C) := raises_own T.b T.t
theorem nd_of {p : Prop} [Decidable p] (e : (!decide p) = true) : ¬ p := fun z => by
  rw [decide_eq_true z] at e
  cases e
theorem d_of {p : Prop} [Decidable p] (e : ¬ (!decide p) = true) : p := by
  by_cases z : p
  · exact z
  · exact absurd (by rw [decide_eq_false z]; rfl) e
/-! ### what is raised: its context stays None, as nothing is handled where it is raised -/
theorem okN {x qual : Str} {st : Stmt} {f : Addr} {fd : FuncData} {N ps : List Str} {k : Nat} {sp : L2.Sp} (F : Fun K x qual st f fd) (S : FnScope N ps (defScope st)) (len : ∀ vs H Q E, sp vs H Q E → vs.length = ps.length)
    (body : ∀ (cdv : Value) (A : Around) (outer : List Env) (s : Shared) (H : Hp) (vs : List V) (Q : VK) (E : XK), Room k (A.deeper (envOfC qual (defScope st) s.heap.objs.size f cdv)) → sp vs H Q E →
      ∃ t, PSs (cxOf (L2N.CX P w) P w K mg base N qual (defScope st) f cdv A outer s H E) (defBody st) t ∧ t { nx := fun _ H' => Q .non H', rt := Q } (L2.start N vs) H) :
    FnOk P w K mg base (L2N.CX P w) (k + 1) f fd ps sp := by
  obtain ⟨_, _, _, _, _, _, cdv, _, _, rfl, at_f, code⟩ := F.ex
  exact fn_of at_f code S len fun A outer s H vs Q E room promised => body cdv A outer s H vs Q E room promised
theorem passN {X : Cx} : Passes (L2N.CX X.prog X.w) X E0 := by
  rintro _ _ _ _ _ _ _ ⟨_, _, _, _, _, _, _, _, _, _, _, _, z⟩
  exact z.elim
theorem pmk_msg {X : Cx} {C : Addr} {nm m : Str} {j : Nat} {p p2 pos : Pos} (T : ErrT X.K X.mg nm C) (hg : Gl X nm) (hdb : (nm == ("__debug__" : Str)) = false := by decide) :
    L2N.PMk X (.Call (.Name nm p) [.Constant (.str m) j p2] [] pos) (fun _ H Q => Q (.ref C) none H) := L2N.pmk_own PySem.F.excBase_ValueError T.x T.g T.k T.raises hg hdb
/-- the same with one argument of any form -/
theorem pmk_one {X : Cx} {C : Addr} {nm : Str} {e : Expr} {ta : TE} {p pos : Pos} (T : ErrT X.K X.mg nm C) (hg : Gl X nm) (he : PE X e ta) (hs : starEach [e] X.env = (false, eval e X.env) :: starEach [] X.env := by rfl)
    (hdb : (nm == ("__debug__" : Str)) = false := by decide) : L2N.PMk X (.Call (.Name nm p) [e] [] pos) (fun σ H Q => ta σ H fun _ H1 => Q (.ref C) none H1) := by
  intro pins st σ H Q inv reading
  refine wpAny_Call_Name_kw (ld_glob inv hg T.g ?_ hdb)
  refine PySem.W.callWith_K (h₀ := X.base) inv.ok.mod.kin T.k ?_ hs (by rfl)
  rw [hs]
  show wpAny _ _ (spliced ((false, eval e X.env) :: backTo pos (starEach [] X.env))) _ _ st
  refine Calls.spliced_cons (thn (he.run pins st σ H _ inv reading) fun made behind ⟨_, _, inv1, _, wish⟩ => ?_)
  refine Calls.spliced_nil ⟨inv1.kIn, ?_⟩
  show wpAny _ _ (call (.ref C) [made]) _ _ _
  obtain ⟨_, _, _, _, _, _, _, _, _, _, _, _, _, _, _, _, _, there, names, none_init, tail⟩ := exc_obj inv1.kIn T.x
  refine wpAny_call_exc_subT PySem.F.excBase_ValueError tail there names none_init (fun heap new is_made => ?_) (by show 1 ≤ sizeLine; rw [sizeLine_eq]; decide)
  exact L2N.mk_of inv1 is_made T.raises wish (inv1.hok.gone is_made.new)
/-! ### _is_stop -/
def spIsStop : L2.Sp := fun vs H Q _ => ∃ a n : Int, vs = [.int a, .int n] ∧ Q (.bl (decide (0 ≤ a ∧ a < n))) H
theorem ok_isStop {f : Addr} {fd : FuncData} (F : Fun K "_is_stop" "_is_stop" sIsStop f fd) : FnOk P w K mg base CX0 1 f fd ["stop", "count"] spIsStop := by
  refine F.ok scIsStop (fun vs H Q E h => ?_) (fun cdv A outer s H vs Q E hr h => ?_)
  · obtain ⟨a, n, rfl, _⟩ := h
    rfl
  · obtain ⟨a, n, rfl, q⟩ := h
    refine ⟨_, pss_one (ps_ret (pe_chain op_le op_lt pe_int (pv 0) (pv 1))), ?_⟩
    refine ⟨_, rfl, _, _, rfl, rfl, _, rfl, ?_⟩
    refine ite2 (fun e => ?_) (fun e => ?_)
    · have h0 : 0 ≤ a := of_decide_eq_true e
      refine ⟨_, rfl, _, _, rfl, rfl, ?_⟩
      have e1 : decide (a < n) = decide (0 ≤ a ∧ a < n) := decide_eq_decide.mpr ⟨fun z => ⟨h0, z⟩, fun z => z.2⟩
      show Q (.bl (decide (a < n))) H
      rw [e1]
      exact q
    · have h0 : ¬ 0 ≤ a := fun z => e (decide_eq_true z)
      have e1 : decide (0 ≤ a ∧ a < n) = false := decide_eq_false fun z => h0 z.1
      rw [e1] at q
      exact q
/-! ### _check_link -/
def spCheckLink (CL : Addr) : L2.Sp := fun vs H Q E => ∃ (a b : Int) (n : Nat), vs = [.int a, .int b, .int n] ∧ n ≤ 100000 ∧ (LinkOk n (a, b) → Q .non H) ∧ (¬ LinkOk n (a, b) → E (.ref CL) none H)
theorem log_small {i : Int} (h0 : 0 ≤ i) (h : i < 100000) : i.natAbs.log2 < 1920 := by
  have h1 : i.natAbs < 2 ^ 1920 := by
    have : i.natAbs < 100000 := by omega
    exact Nat.lt_of_lt_of_le this (by decide +kernel)
  by_cases hz : i.natAbs = 0
  · rw [hz]
    decide +kernel
  · exact (Nat.log2_lt hz).mpr h1
theorem text_le {x y : Str} {m n k : Nat} (hx : x.length ≤ m) (hy : y.length ≤ n) (h : m + n ≤ k) : (x ++ y).length ≤ k := by
  rw [PySem.Str.length_append]
  omega
theorem text_fits {x y : Str} {m n : Nat} (hx : x.length ≤ m) (hy : y.length ≤ n) (h : m + n ≤ 16777216) : (x ++ y).length ≤ sizeLine := by
  rw [sizeLine_eq]
  exact text_le hx hy h
theorem ok_checkLink {f fI : Addr} {fd fdI : FuncData} (F : Fun K "_check_link" "_check_link" sCheckLink f fd) (T : Txt K mg C CL CS CN) (FI : Fun K "_is_stop" "_is_stop" sIsStop fI fdI) (bI : Binds K fdI ["stop", "count"] []) (gI : mg "_is_stop" = some (.ref fI)) :
    FnOk P w K mg base (L2N.CX P w) 2 f fd ["one", "other", "count"] (spCheckLink CL) := by
  have GI : FnOk P w K mg base CX0 1 fI fdI ["stop", "count"] spIsStop := ok_isStop FI
  refine okN F scCheckLink (fun vs H Q E h => ?_) (fun cdv A outer s H vs Q E hr h => ?_)
  · obtain ⟨a, b, n, rfl, _⟩ := h
    rfl
  · obtain ⟨a, b, n, rfl, hn, q1, q2⟩ := h
    refine ⟨_, pss_cons (ps_if (PW.pt (pw_or (pt_not (pt_val (pe_call GI hr (by rfl) gI FI.kp bI .nil pass0 (pa_cons (pv 0) (pa_cons (pv 2) pa_nil)))))
        (pw_or1 (pt_not (pt_val (pe_call GI hr (by rfl) gI FI.kp bI .nil pass0 (pa_cons (pv 1) (pa_cons (pv 2) pa_nil))))))))
        (pss_one (L2N.ps_raise rfl (L2N.takes_of rfl rfl rfl rfl) (pmk_msg T.eL rfl))) pss_nil)
      (pss_one (ps_if (pt_cmpR op_eq (pv 0) (pv 1) (nomark _))
        (pss_one (L2N.ps_raise rfl (L2N.takes_of rfl rfl rfl rfl) (pmk_one T.eL rfl (pe_joined (PJ.cons pe_str (PJ.cons (pe_fmt (pv 0)) (PJ.cons pe_str PJ.nil))))))) pss_nil)), ?_⟩
    refine ⟨_, rfl, _, rfl, a, n, rfl, _, rfl, ?_⟩
    refine ite2 (fun e => ?_) (fun e => ?_)
    · -- one is not there
      have na : ¬ (0 ≤ a ∧ a < n) := nd_of e
      refine iteT ?_
      exact q2 fun z => na z.1
    · have ha : 0 ≤ a ∧ a < n := d_of e
      refine ⟨_, rfl, _, rfl, b, n, rfl, _, rfl, ?_⟩
      refine ite2 (fun e => ?_) (fun e => ?_)
      · have nb : ¬ (0 ≤ b ∧ b < n) := nd_of e
        exact q2 fun z => nb z.2.1
      · have hb : 0 ≤ b ∧ b < n := d_of e
        refine ⟨_, rfl, _, rfl, rfl, _, rfl, ?_⟩
        refine ite2 (fun e => ?_) (fun e => ?_)
        · have eab : a = b := V.int.inj (of_decide_eq_true e)
          have l1 : a.natAbs.log2 < 1920 := log_small ha.1 (by omega)
          refine ⟨_, rfl, ?_⟩
          refine ⟨by rw [sizeLine_eq]; decide +kernel, _, rfl, .inr ⟨a, rfl, l1, ⟨_, rfl, ?_, ?_⟩⟩⟩
          · exact text_fits (m := 100) (by decide +kernel) (int_text_len_1921 l1) (by decide)
          · refine ⟨_, rfl, ?_, ?_⟩
            · exact text_fits (m := 3000) (n := 100) (text_le (m := 100) (by decide +kernel) (int_text_len_1921 l1) (by decide)) (by decide +kernel) (by decide)
            · exact q2 fun z => z.2.2 eab
        · have nab : a ≠ b := fun z => e (decide_eq_true (by rw [z]))
          exact q1 ⟨ha, hb, nab⟩
theorem tYes_if {σ : L2.St} {H : Hp} {A B : Hp → Prop} (h : A H) : tYes σ H (fun b H3 => if b = true then A H3 else B H3) := by
  show (if true = true then A H else B H)
  rw [if_pos rfl]
  exact h
/-! ### _neighbours -/
/-- the lists of neighbours, all new since H -/
def NearNew (H H' : Hp) (l : Addr) (near : List (List Nat)) : Prop := ∃ as : List Addr, H' l = some (.lst (as.map V.ref)) ∧ All2 (NearAt1 H') as near ∧ ∀ a, a ∈ as → H a = none
def spNeigh (CL : Addr) : L2.Sp := fun vs H Q E => ∃ (n : Nat) (l : Addr) (lks : List Lk), vs = [.int n, .ref l] ∧ LinksAt H l lks ∧ 2 * lks.length + n ≤ 100000 ∧
  ((∀ q, q ∈ lks → LinkOk n q) → ∀ (near : List (List Nat)) (H' : Hp) (p : Addr), Same H H' → H p = none → NearNew H H' p near → NearOk n lks near → Q (.ref p) H') ∧
  ((∃ q, q ∈ lks ∧ ¬ LinkOk n q) → ∀ H', Same H H' → E (.ref CL) none H')
theorem upd_out {H H' : Hp} {a : Addr} {o : HO} (k : Same H H') (n : H a = none) : Same H (upd H' a o) := fun b x e => by
  rw [upd_ne (ne_of_none e n)]
  exact k b x e
theorem near_small {n m : Nat} {lks : List Lk} {near : List (List Nat)} (h : NearOk n lks near) (hs : 2 * lks.length ≤ m) {a : Nat} {na : List Nat} (e : near[a]? = some na) : na.length ≤ m := by
  have : na.length ≤ tot near := by
    have hm := List.mem_of_getElem? e
    clear e h
    induction near with
    | nil => simp at hm
    | cons b near ih =>
      show na.length ≤ (b.length :: near.map List.length).sum
      rw [List.sum_cons]
      rcases List.mem_cons.mp hm with rfl | hm
      · omega
      · have := ih hm
        unfold tot at this
        omega
  rw [h.size] at this
  omega
theorem small_line {n : Nat} (h : n ≤ 200000) : n < sizeLine := Nat.lt_of_le_of_lt h (by rw [sizeLine_eq]; decide)
theorem ok_neigh {f fI fL : Addr} {fd fdI fdL : FuncData} (F : Fun K "_neighbours" "_neighbours" sNeigh f fd) (T : Txt K mg C CL CS CN) (FI : Fun K "_is_stop" "_is_stop" sIsStop fI fdI) (bI : Binds K fdI ["stop", "count"] []) (gI : mg "_is_stop" = some (.ref fI))
    (FL : Fun K "_check_link" "_check_link" sCheckLink fL fdL) (bL : Binds K fdL ["one", "other", "count"] []) (gL : mg "_check_link" = some (.ref fL)) :
    FnOk P w K mg base (L2N.CX P w) 3 f fd ["count", "links"] (spNeigh CL) := by
  have GL : FnOk P w K mg base (L2N.CX P w) 2 fL fdL ["one", "other", "count"] (spCheckLink CL) := ok_checkLink FL T FI bI gI
  refine okN F scNeigh (fun vs H Q E h => ?_) (fun cdv A outer s H vs Q E hr h => ?_)
  · obtain ⟨n, l, lks, rfl, _⟩ := h
    rfl
  · obtain ⟨n, l, lks, rfl, ⟨asL, hl, hL⟩, hn, q1, q2⟩ := h
    refine ⟨_, pss_cons (ps_setLc (i := 2) (own := [("stop", 5)]) (g := gName 5) (by rfl) scNeigh.nd rfl rfl (sw_true rfl rfl rfl (by decide +kernel))
        (pi_range1 (by rfl) T.range (pa_cons (pv 0) pa_nil)) (blkOk_by (own := [("stop", 5)]) (N := ["count", "links", "near", "one", "other", "stop"]) (sc := defScope sNeigh) (by decide +kernel))
        (fun _ _ _ _ _ => pg_name (i := 5) scNeigh.nd rfl (Or.inl rfl)) (fun _ _ _ _ _ => pts_nil) (fun _ _ _ _ _ => pe_lst pa_nil))
      (pss_cons (ps_for (passes_of rfl) rfl (pi_list (pv 1)) (pg_tup rfl (pgs_cons (pg_name (i := 3) scNeigh.nd rfl (.inl rfl)) (pgs_cons (pg_name (i := 4) scNeigh.nd rfl (.inl rfl)) pgs_nil)))
        (pss_cons (ps_expr (pe_call GL hr (by rfl) gL FL.kp bL .nil (L2N.passes_call (W := fun cls d _ H => E cls d H) (L2N.takes_of rfl rfl rfl rfl) (fun _ _ _ _ h => h)) (pa_cons (pv 3) (pa_cons (pv 4) (pa_cons (pv 0) pa_nil)))))
        (pss_cons (ps_expr (pe_bm PySem.F.plainAttrs_list PySem.F.slot_list_append PySem.F.type_list_append mt_append (pe_ix ix_list (pv 2) (pv 3) (fun _ _ => rfl)) (pa_cons (pv 4) pa_nil)))
        (pss_one (ps_expr (pe_bm PySem.F.plainAttrs_list PySem.F.slot_list_append PySem.F.type_list_append mt_append (pe_ix ix_list (pv 2) (pv 4) (fun _ _ => rfl)) (pa_cons (pv 3) pa_nil)))))))
      (pss_one (ps_ret (pv 2)))), ?_⟩
    -- near = [[] for stop in range(count)]
    refine ⟨_, rfl, n, rfl, by omega, by omega, fun D hD => ?_⟩
    have nDl : l ≠ D := ne_of_none hl hD
    refine lc_range (lo := 0) (n := (n : Int).toNat) (fun i H' => Same H H' ∧ ∃ as : List Addr, H' D = some (.lst (as.map V.ref)) ∧ All2 (NearAt1 H') as (List.replicate i []) ∧ as.Nodup ∧ D ∉ as ∧ ∀ a, a ∈ as → H a = none)
      ⟨same_upd hD, [], upd_same, .nil, List.nodup_nil, by simp, by simp⟩ ?_ ?_
    · rintro i H1 hi ⟨sm, as, eD, hA, nd, nm, hnew⟩
      refine ⟨rfl, ?_⟩
      refine tYes_if ?_
      refine ⟨Nat.zero_le _, fun p hp => ?_⟩
      have hD1 : H1 D = some (.lst (as.map V.ref)) := eD
      have npD : D ≠ p := ne_of_none hD1 hp
      have npa : ∀ a, a ∈ as → a ≠ p := fun a m => by
        obtain ⟨j, hj⟩ := List.getElem?_of_mem m
        obtain ⟨b, _, r⟩ := hA.getL hj
        exact ne_of_none r hp
      have hil : i < n := by omega
      refine ⟨as.map V.ref, by rw [upd_ne npD]; exact eD, small_line (by rw [List.length_map, hA.len, List.length_replicate]; omega), ?_, as ++ [p], ?_, ?_, ?_, ?_, ?_⟩
      · exact upd_out (sm.trans (same_upd hp)) hD
      · rw [upd_same, List.map_append]
        rfl
      · rw [List.replicate_succ']
        refine All2.app (hA.imp_mem fun a b m r => ?_) (All2.one ?_)
        · show upd (upd H1 p _) D _ a = _
          rw [upd_ne (show a ≠ D from fun z => nm (by rw [← z]; exact m)), upd_ne (npa a m)]
          exact r
        · show upd (upd H1 p _) D _ p = _
          rw [upd_ne npD.symm, upd_same]
          rfl
      · refine List.nodup_append.mpr ⟨nd, by simp, fun a m b m2 => ?_⟩
        rw [List.mem_singleton.mp m2]
        exact npa a m
      · intro m
        rcases List.mem_append.mp m with m | m
        · exact nm m
        · exact npD (List.mem_singleton.mp m)
      · intro a m
        rcases List.mem_append.mp m with m | m
        · exact hnew a m
        · rw [List.mem_singleton.mp m]
          exact sm.free hp
    · rintro H1 ⟨sm, as, eD, hA, nd, nm, hnew⟩
      rw [Int.toNat_natCast] at hA
      -- for one, other in links
      refine ⟨_, rfl, l, rfl, ⟨_, SqL.of (sm _ _ hl)⟩, for_list (K := K) (a := l) (xs := asL.map V.ref) (fun i σ H2 => ∃ (y3 y4 : Option V) (near : List (List Nat)), σ = [some (.int n), some (.ref l), some (.ref D), y3, y4, none] ∧ Same H H2 ∧
          H2 D = some (.lst (as.map V.ref)) ∧ All2 (NearAt1 H2) as near ∧ NearOk n (lks.take i) near ∧ (∀ q, q ∈ lks.take i → LinkOk n q))
        ⟨none, none, List.replicate n [], rfl, sm, eD, hA, NearOk.init n, by simp⟩ (fun i σ H2 _ ⟨_, _, _, _, s2, _⟩ => SqL.of (s2 _ _ hl)) ?_ ?_⟩
      · rintro i x σ H2 hi ⟨y3, y4, near, rfl, s2, eD2, hA2, hN, hok⟩
        obtain ⟨a0, ha0, rfl⟩ : ∃ a0, asL[i]? = some a0 ∧ x = V.ref a0 := by
          rw [List.getElem?_map] at hi
          cases e : asL[i]? with
          | none =>
            rw [e] at hi
            cases hi
          | some a0 =>
            rw [e] at hi
            exact ⟨a0, rfl, (Option.some.inj hi).symm⟩
        obtain ⟨q, hq, hqa⟩ := hL.getL ha0
        obtain ⟨u, v⟩ := q
        have hqa2 : H2 a0 = some (.tup [.int u, .int v]) := s2 _ _ hqa
        have hmem : (u, v) ∈ lks := List.mem_of_getElem? hq
        -- one, other = the pair; _check_link(one, other, count)
        refine ⟨a0, _, rfl, SqT.of hqa2, rfl, _, _, rfl, _, _, rfl, rfl, ?_⟩
        refine ⟨_, rfl, _, rfl, _, rfl, u, v, n, rfl, by omega, fun lo => ?_, fun lo => q2 ⟨(u, v), hmem, lo⟩ H2 s2⟩
        obtain ⟨⟨u0, un⟩, ⟨v0, vn⟩, uv⟩ := id lo
        obtain ⟨a, rfl⟩ : ∃ a : Nat, u = (a : Int) := ⟨u.toNat, by have : 0 ≤ u := u0; omega⟩
        obtain ⟨b, rfl⟩ : ∃ b : Nat, v = (b : Int) := ⟨v.toNat, by have : 0 ≤ v := v0; omega⟩
        have han : a < n := by have : (a : Int) < n := un; omega
        have hbn : b < n := by have : (b : Int) < n := vn; omega
        have hab : a ≠ b := fun z => uv (by rw [z])
        obtain ⟨na, ena⟩ : ∃ na, near[a]? = some na := ⟨near[a]'(by rw [hN.len]; exact han), List.getElem?_eq_getElem _⟩
        obtain ⟨nb, enb⟩ : ∃ nb, near[b]? = some nb := ⟨near[b]'(by rw [hN.len]; exact hbn), List.getElem?_eq_getElem _⟩
        obtain ⟨aa, eaa, ra⟩ := hA2.get ena
        obtain ⟨ab, eab, rb⟩ := hA2.get enb
        have naab : ab ≠ aa := fun z => hab (nd_ix nd eaa (by rw [← z]; exact eab))
        have ltk : (lks.take i).length ≤ lks.length := by rw [List.length_take]; omega
        have sa : na.length ≤ 100000 := near_small hN (by omega) ena
        have sb : nb.length ≤ 100000 := near_small hN (by omega) enb
        have nDa : D ≠ aa := fun z => nm (z ▸ List.mem_of_getElem? eaa)
        have nDb : D ≠ ab := fun z => nm (z ▸ List.mem_of_getElem? eab)
        -- near[one].append(other)
        refine ⟨_, rfl, _, rfl, D, _, _, _, rfl, rfl, SqL.of eD2, at_of (j := a) (v := V.ref aa) rfl (by rw [List.getElem?_map, eaa]; rfl), .inl ⟨rfl, _, SqL.of ra⟩, _, rfl, aa, _, _, rfl, rfl, ra, small_line (by rw [List.length_map]; omega), ?_⟩
        have s3 : Same H (upd H2 aa (.lst ((na.map fun (k : Nat) => V.int (k : Nat)) ++ [V.int (b : Nat)]))) := upd_out s2 (hnew _ (List.mem_of_getElem? eaa))
        have hA3 := near_upd hA2 nd eaa b ena rfl
        have enb' : (near.set a (na ++ [b]))[b]? = some nb := by rw [List.getElem?_set, if_neg hab, enb]
        have rb' := hA3.at eab enb'
        -- near[other].append(one)
        refine ⟨_, rfl, _, rfl, D, _, _, _, rfl, rfl, SqL.of (by rw [upd_ne nDa]; exact eD2), at_of (j := b) (v := V.ref ab) rfl (by rw [List.getElem?_map, eab]; rfl), .inl ⟨rfl, _, SqL.of rb'⟩, _, rfl, ab, _, _, rfl, rfl, rb', small_line (by rw [List.length_map]; omega), ?_⟩
        have hA4 := near_upd hA3 nd eab a enb' rfl
        have htk : lks.take (i + 1) = lks.take i ++ [((a : Int), (b : Int))] := by
          rw [List.take_add_one, hq]
          rfl
        refine ⟨_, _, _, rfl, upd_out s3 (hnew _ (List.mem_of_getElem? eab)), by rw [upd_ne nDb, upd_ne nDa]; exact eD2, hA4, ?_, ?_⟩
        · rw [htk]
          exact hN.more hab ena enb
        · rw [htk]
          intro q m
          rcases List.mem_append.mp m with m | m
          · exact hok q m
          · rw [List.mem_singleton.mp m]
            exact lo
      · rintro σ H2 ⟨y3, y4, near, rfl, s2, eD2, hA2, hN, hok⟩
        have hlen : lks.take (asL.map V.ref).length = lks := by
          rw [List.length_map, hL.len, List.take_length]
        rw [hlen] at hN hok
        exact ⟨_, rfl, q1 hok near H2 D s2 hD ⟨as, eD2, hA2, hnew⟩ hN⟩
/-! ### Web.__init__ -/
def Kept (H H' : Hp) (p : Addr) : Prop := ∀ b o, H b = some o → b ≠ p → H' b = some o
theorem Kept.of {H H1 H2 : Hp} {p : Addr} (a : Kept H H1 p) (b : Same H1 H2) : Kept H H2 p := fun c o e n => b c o (a c o e n)
theorem Kept.put {H H1 : Hp} {p : Addr} {o : HO} (a : Kept H H1 p) : Kept H (upd H1 p o) p := fun c x e n => by
  rw [upd_ne n]
  exact a c x e n
/-- the web is one of objects that are new since H: what becomes of the others is no matter -/
def Stays (C : Addr) (H H' : Hp) (p : Addr) (zs : List Int) (lks : List Lk) (near : List (List Nat)) : Prop :=
  ∀ H'' : Hp, (∀ b o, H' b = some o → (H b = none ∨ b = p ∨ ∃ xs, o = .tup xs) → H'' b = some o) → WebAt C H'' p zs lks near
theorem Kept.new {H H1 : Hp} {p b : Addr} (k : Kept H H1 p) (n : H1 b = none) (np : b ≠ p) : H b = none := by
  cases e : H b with
  | none => rfl
  | some o =>
    rw [k b o e np] at n
    cases n
def spInit (K : PySem.W.Frag) (C CL : Addr) : L2.Sp := fun vs H Q E => ∃ (p dx za la : Addr) (zs : List Int) (lks : List Lk), vs = [.ref p, .ref za, .ref la] ∧ H p = some (.ins C dx []) ∧ SqL K H za (zs.map V.int) ∧ (∀ H', Kept H H' p → SqL K H' za (zs.map V.int)) ∧
  LinksAt H la lks ∧ 2 * lks.length + zs.length ≤ 100000 ∧
  ((∀ q, q ∈ lks → LinkOk zs.length q) → ∀ (near : List (List Nat)) (H' : Hp), Kept H H' p → WebAt C H' p zs lks near → Stays C H H' p zs lks near → Q .non H') ∧
  ((∃ q, q ∈ lks ∧ ¬ LinkOk zs.length q) → ∀ H', Kept H H' p → E (.ref CL) none H')
theorem ok_init {f fN fI fL : Addr} {fd fdN fdI fdL : FuncData} (F : Fun K "__init__" "Web.__init__" sInit f fd) (T : Txt K mg C CL CS CN) (FI : Fun K "_is_stop" "_is_stop" sIsStop fI fdI) (bI : Binds K fdI ["stop", "count"] []) (gI : mg "_is_stop" = some (.ref fI))
    (FL : Fun K "_check_link" "_check_link" sCheckLink fL fdL) (bL : Binds K fdL ["one", "other", "count"] []) (gL : mg "_check_link" = some (.ref fL)) (FN : Fun K "_neighbours" "_neighbours" sNeigh fN fdN) (bN : Binds K fdN ["count", "links"] []) (gN : mg "_neighbours" = some (.ref fN)) :
    FnOk P w K mg base (L2N.CX P w) 4 f fd ["self", "zones", "links"] (spInit K C CL) := by
  have GN : FnOk P w K mg base (L2N.CX P w) 3 fN fdN ["count", "links"] (spNeigh CL) := ok_neigh FN T FI bI gI FL bL gL
  refine okN F scInit (fun vs H Q E h => ?_) (fun cdv A outer s H vs Q E hr h => ?_)
  · obtain ⟨p, dx, za, la, zs, lks, rfl, _⟩ := h
    rfl
  · obtain ⟨p, dx, za, la, zs, lks, rfl, hp, hz, hzk, hl, hn, q1, q2⟩ := h
    refine ⟨_, pss_cons (ps_fld (pv 0) (pe_callTy call_list_of (by rfl) T.list (by decide +kernel) (pa_cons (pv 1) pa_nil)) rfl)
      (pss_cons (ps_fld (pv 0) (pe_callTy call_list_of (by rfl) T.list (by decide +kernel) (pa_cons (pv 2) pa_nil)) rfl)
      (pss_one (ps_fld (pv 0) (pe_call GN hr (by rfl) gN FN.kp bN .nil (L2N.passes_call (W := fun cls d _ H => E cls d H) (L2N.takes_of rfl rfl rfl rfl) (fun _ _ _ _ h => h))
        (pa_cons (pe_callB call_len_seq (by rfl) T.len PySem.boot_len (pa_cons (pv 1) pa_nil)) (pa_cons (pv 2) pa_nil))) rfl))), ?_⟩
    -- self.zones = list(zones)
    refine ⟨_, rfl, za, _, rfl, .inl hz, fun zl nz => ?_⟩
    have pz : p ≠ zl := ne_of_none hp nz
    have k1 : Kept H (upd H zl (.lst (zs.map V.int))) p := fun b o e n => by rw [upd_ne (ne_of_none e nz)]; exact e
    refine ⟨_, rfl, p, C, dx, [], rfl, by rw [upd_ne pz]; exact hp, T.cl, T.nZ, by show 0 < 1000; decide, ?_⟩
    obtain ⟨H1, e1⟩ : ∃ H1, H1 = upd (upd H zl (.lst (zs.map V.int))) p (.ins C dx (putF "zones" (.ref zl) [])) := ⟨_, rfl⟩
    rw [← e1]
    have k2 : Kept H H1 p := e1 ▸ k1.put
    have hz1 : H1 zl = some (.lst (zs.map V.int)) := by rw [e1, upd_ne pz.symm, upd_same]
    have hp1 : H1 p = some (.ins C dx (putF "zones" (.ref zl) [])) := by rw [e1, upd_same]
    have hl1 : LinksAt H1 la lks := hl.to (fun b xs e => k2 b _ e (ne_of e hp (by intro z; cases z))) (fun as e => k2 la _ e (ne_of e hp (by intro z; cases z)))
    clear e1
    obtain ⟨asL, ela, hLa⟩ := id hl1
    -- self.links = list(links)
    refine ⟨_, rfl, la, _, rfl, .inl (SqL.of ela), fun ll nl => ?_⟩
    have pl : p ≠ ll := ne_of_none hp1 nl
    have zl2 : zl ≠ ll := ne_of_none hz1 nl
    refine ⟨_, rfl, p, C, dx, _, rfl, by rw [upd_ne pl]; exact hp1, T.cl, T.nL, by show 1 < 1000; decide, ?_⟩
    obtain ⟨H2, e2⟩ : ∃ H2, H2 = upd (upd H1 ll (.lst (asL.map V.ref))) p (.ins C dx (putF "links" (.ref ll) (putF "zones" (.ref zl) []))) := ⟨_, rfl⟩
    rw [← e2]
    have k3 : Kept H1 H2 p := e2 ▸ Kept.put fun b o e n => by rw [upd_ne (ne_of_none e nl)]; exact e
    have k4 : Kept H H2 p := fun b o e n => k3 b o (k2 b o e n) n
    have hz2 : H2 zl = some (.lst (zs.map V.int)) := k3 _ _ hz1 pz.symm
    have hp2 : H2 p = some (.ins C dx (putF "links" (.ref ll) (putF "zones" (.ref zl) []))) := by rw [e2, upd_same]
    have hll : H2 ll = some (.lst (asL.map V.ref)) := by rw [e2, upd_ne pl.symm, upd_same]
    have hl2 : LinksAt H2 la lks := hl1.to (fun b xs e => k3 b _ e (ne_of e hp1 (by intro z; cases z))) (fun as e => k3 la _ e (ne_of e hp1 (by intro z; cases z)))
    have hl3 : LinksAt H2 ll lks := ⟨asL, hll, hLa.imp fun a b r => k3 _ _ r (ne_of r hp1 (by intro z; cases z))⟩
    clear e2
    -- self._near = _neighbours(len(zones), links)
    refine ⟨_, rfl, za, _, rfl, .inl (hzk H2 k4), _, rfl, zs.length, la, lks, ?_, hl2, hn, fun ok near H3 nl3 s3 n3 hn3 hok => ?_, fun bad H3 s3 => q2 bad H3 (k4.of s3)⟩
    · rw [List.length_map]
      rfl
    have hp3 := s3 _ _ hp2
    have np : p ≠ nl3 := ne_of_none hp2 n3
    refine ⟨_, rfl, p, C, dx, _, rfl, hp3, T.cl, T.nN, by show 2 < 1000; decide, ?_⟩
    obtain ⟨asN, enl, hAN, hnewN⟩ := hn3
    obtain ⟨H4, e4⟩ : ∃ H4, H4 = upd H3 p (.ins C dx (wf zl ll nl3)) := ⟨_, rfl⟩
    have kk : ∀ b o, H3 b = some o → b ≠ p → H4 b = some o := fun b o e n => by rw [e4, upd_ne n]; exact e
    have hp4 : H4 p = some (.ins C dx (wf zl ll nl3)) := by rw [e4, upd_same]
    have k5 : Kept H H4 p := e4 ▸ (k4.of s3).put
    have hz4 := kk _ _ (s3 _ _ hz2) pz.symm
    have hll4 := kk _ _ (s3 _ _ hll) pl.symm
    have hL4 : All2 (LinkAt H4) asL lks := hLa.imp fun a b r => kk a _ (s3 a _ (k3 a _ r (ne_of r hp1 (by intro z; cases z)))) (ne_of (s3 a _ (k3 a _ r (ne_of r hp1 (by intro z; cases z)))) hp3 (by intro z; cases z))
    have hnl4 : H4 nl3 = some (.lst (asN.map V.ref)) := kk _ _ enl np.symm
    have hN4 : All2 (NearAt1 H4) asN near := hAN.imp fun a b r => kk a _ r (ne_of r hp3 (by intro z; cases z))
    have stays : Stays C H H4 p zs lks near := fun H'' keep => ⟨⟨dx, zl, ll, nl3, keep _ _ hp4 (.inr (.inl rfl)), keep _ _ hz4 (.inl nz), ⟨asL, keep _ _ hll4 (.inl (k2.new nl pl.symm)), hL4.imp fun a b r => keep a _ r (.inr (.inr ⟨_, rfl⟩))⟩,
      ⟨asN, keep _ _ hnl4 (.inl (k4.new n3 np.symm)), hN4.imp_mem fun a b m r => keep a _ r (.inl (k4.new (hnewN a m) (ne_of r hp4 (by intro z; cases z))))⟩⟩, hok, ok, hn⟩
    have fin := q1 ok near H4 k5 (stays H4 fun b o e _ => e) stays
    rw [e4] at fin
    exact fin
/-! ### Web._check_stop -/
def spCheckStop (C CS : Addr) : L2.Sp := fun vs H Q E => ∃ (p : Addr) (i : Int) (zs : List Int) (lks : List Lk) (near : List (List Nat)), vs = [.ref p, .int i] ∧ WebAt C H p zs lks near ∧
  ((0 ≤ i ∧ i < zs.length) → Q .non H) ∧ (¬ (0 ≤ i ∧ i < zs.length) → E (.ref CS) none H)
theorem ok_checkStop {f fI : Addr} {fd fdI : FuncData} (F : Fun K "_check_stop" "Web._check_stop" sCheckStop f fd) (T : Txt K mg C CL CS CN) (FI : Fun K "_is_stop" "_is_stop" sIsStop fI fdI) (bI : Binds K fdI ["stop", "count"] []) (gI : mg "_is_stop" = some (.ref fI)) :
    FnOk P w K mg base (L2N.CX P w) 2 f fd ["self", "stop"] (spCheckStop C CS) := by
  have GI : FnOk P w K mg base CX0 1 fI fdI ["stop", "count"] spIsStop := ok_isStop FI
  refine okN F scCheckStop (fun vs H Q E h => ?_) (fun cdv A outer s H vs Q E hr h => ?_)
  · obtain ⟨p, i, zs, lks, near, rfl, _⟩ := h
    rfl
  · obtain ⟨p, i, zs, lks, near, rfl, W, q1, q2⟩ := h
    obtain ⟨⟨dx, zl, ll, nl, h1, h2, h3, ⟨as, h4, hA⟩⟩, ok, _, _⟩ := id W
    refine ⟨_, pss_one (ps_if (pt_not (pt_val (pe_call GI hr (by rfl) gI FI.kp bI .nil pass0 (pa_cons (pv 1) (pa_cons (pe_callB call_len_seq (by rfl) T.len PySem.boot_len (pa_cons (pe_fld (pv 0) rfl) pa_nil)) pa_nil)))))
        (pss_one (L2N.ps_raise rfl (L2N.takes_of rfl rfl rfl rfl) (pmk_msg T.eS rfl))) pss_nil), ?_⟩
    have elen : ((as.map V.ref).length : Int) = zs.length := by rw [List.length_map, hA.len, ok.len]
    refine ⟨_, rfl, _, rfl, p, C, dx, _, _, rfl, h1, T.cl, T.nN, wf_near _ _ _, nl, _, rfl, .inl (SqL.of h4), i, zs.length, by rw [elen]; rfl, _, rfl, ?_⟩
    refine ite2 (fun e => ?_) (fun e => ?_)
    · exact q2 (nd_of e)
    · exact q1 (d_of e)
/-! ### Web._fill_level -/
def Frame (H H' : Hp) (la oa : Addr) : Prop := ∀ b o, H b = some o → b ≠ la → b ≠ oa → H' b = some o
theorem Frame.same {H0 H H' : Hp} {la oa : Addr} (f : Frame H H' la oa) (s : Same H0 H) (n1 : H0 la = none) (n2 : H0 oa = none) : Same H0 H' := fun b o e => f b o (s b o e) (ne_of_none e n1) (ne_of_none e n2)
def spFill (C : Addr) : L2.Sp := fun vs H Q _ => ∃ (p ea la oa : Addr) (lv s t B : Nat) (zs : List Int) (lks : List Lk) (near : List (List Nat)) (S : List Sp) (L O : Lv) (r : Nat → Nat) (H0 : Hp), vs = [.ref p, .int lv, .ref ea, .ref la, .ref oa] ∧
  WebAt C H0 p zs lks near ∧ Same H0 H ∧ H0 la = none ∧ H0 oa = none ∧ la ≠ oa ∧ Stk H ea S ∧ H la = some (.lst (L.map optV)) ∧ H oa = some (.lst (O.map optV)) ∧ Srch near zs s lv S [] L O r t ∧ t + S.length + pot near L ≤ B ∧ B ≤ 150000 ∧
  ∀ (On : List Sp) (L' O' : Lv) (r' : Nat → Nat) (t' : Nat) (H' : Hp) (on : Addr), Frame H H' la oa → H on = none → Stk H' on On → H' la = some (.lst (L'.map optV)) → H' oa = some (.lst (O'.map optV)) → Srch near zs s lv [] On L' O' r' t' →
    t' + On.length + pot near L' ≤ B → (S ≠ [] → On.length + pot near L' < S.length + pot near L) → Q (.ref on) H'
theorem push_step {H : Hp} {l t : Addr} {x y : Nat} {as : List Addr} {ps : List Sp} (hl : H l = some (.lst (as.map V.ref))) (ha : All2 (StepAt H) as ps) (nt : H t = none) :
    Stk (upd (upd H t (.tup [.int (x : Nat), .int (y : Nat)])) l (.lst (as.map V.ref ++ [.ref t]))) l (ps ++ [(x, some y)]) ∧
    (∀ b o, H b = some o → b ≠ l → upd (upd H t (.tup [.int (x : Nat), .int (y : Nat)])) l (.lst (as.map V.ref ++ [.ref t])) b = some o) := by
  have k : ∀ b o, H b = some o → b ≠ l → upd (upd H t (.tup [.int (x : Nat), .int (y : Nat)])) l (.lst (as.map V.ref ++ [.ref t])) b = some o := fun b o e n => by
    rw [upd_ne n, upd_ne (ne_of_none e nt)]
    exact e
  refine ⟨⟨as ++ [t], by rw [upd_same, List.map_append]; rfl, All2.app (ha.imp fun a b r => k _ _ r (ne_of r hl (by intro z; cases z))) (All2.one ?_)⟩, k⟩
  show upd (upd H t _) l _ t = _
  rw [upd_ne (ne_of_none hl nt).symm, upd_same]
  rfl
theorem take_filter {l : List Nat} {i x : Nat} (h : l[i]? = some x) (p : Nat → Bool) (v : Nat) :
    ((l.take (i + 1)).filter p).map (fun x => (x, some v)) = ((l.take i).filter p).map (fun x => (x, some v)) ++ (if p x = true then [(x, some v)] else []) := by
  rw [List.take_add_one, h, List.filter_append, List.map_append]
  by_cases c : p x = true
  · simp [c]
  · simp [c]
theorem filter_two (p : Nat → Bool) : ∀ l : List Nat, (l.filter p).length + (l.filter fun x => !p x).length = l.length
  | [] => rfl
  | a :: l => by
    have ih := filter_two p l
    cases c : p a with
    | true => simp [c]; omega
    | false => simp [c]; omega
theorem ixN_nat {n i : Nat} (h : i < n) : ixN n (i : Int) = some i := by
  unfold ixN
  rw [if_pos (Int.natCast_nonneg i), if_pos (Int.ofNat_lt.mpr h)]
  rfl
theorem ok_fill {f : Addr} {fd : FuncData} (F : Fun K "_fill_level" "Web._fill_level" sFill f fd) (T : Txt K mg C CL CS CN) : FnOk P w K mg base CX0 1 f fd ["self", "level", "entries", "levels", "origins"] (spFill C) := by
  refine F.ok scFill (fun vs H Q E h => ?_) (fun cdv A outer s0 H vs Q E hr h => ?_)
  · obtain ⟨p, ea, la, oa, lv, s, t, B, zs, lks, near, S, L, O, r, H0, rfl, _⟩ := h
    rfl
  · obtain ⟨p, ea, la, oa, lv, s, t, B, zs, lks, near, S, L, O, r, H0, rfl, W, sm0, n0l, n0o, nlo, ⟨asE, hE, hEA⟩, hL, hO, R, hB, hB2, q⟩ := h
    obtain ⟨⟨dx, zl, ll, nl, h1, h2, h3, ⟨asN, h4, hN⟩⟩, ok, _, _⟩ := id W
    refine ⟨_, pss_cons (ps_set (i := 5) scFill.nd rfl (.inl rfl) (pe_callTy call_list_of (by rfl) T.list (by decide +kernel) (pa_cons (pv 2) pa_nil)))
      (pss_cons (ps_set (i := 6) scFill.nd rfl (.inl rfl) (pe_lst pa_nil))
      (pss_cons (ps_while PassesOwn.never (pt_truth (pv 5) (by intro _; rfl))
        (pss_cons (ps_asg (pe_bm0 PySem.F.plainAttrs_list PySem.F.slot_list_pop PySem.F.type_list_pop mt_pop (pv 5)) (pg_tup rfl (pgs_cons (pg_name (i := 7) scFill.nd rfl (.inl rfl)) (pgs_cons (pg_name (i := 8) scFill.nd rfl (.inl rfl)) pgs_nil))))
        (pss_one (ps_if (pt_cmpR op_isN (pe_ix ix_list (pv 3) (pv 7) (fun _ _ => rfl)) pe_non (nomark _))
          (pss_cons (ps_asg (pv 1) (pg_sub (pv 3) (pv 7) set_list))
          (pss_cons (ps_asg (pv 8) (pg_sub (pv 4) (pv 7) set_list))
          (pss_one (ps_for PassesOwn.never rfl (pi_list (pe_ix ix_list (pe_fld (pv 0) rfl) (pv 7) (fun _ _ => rfl))) (pg_name (i := 9) scFill.nd rfl (.inl rfl))
            (pss_one (ps_if (pt_cmpR op_eq (pe_ix ix_list (pe_fld (pv 0) rfl) (pv 9) (fun _ _ => rfl)) (pe_ix ix_list (pe_fld (pv 0) rfl) (pv 7) (fun _ _ => rfl)) (nomark _))
              (pss_one (ps_expr (pe_bm PySem.F.plainAttrs_list PySem.F.slot_list_append PySem.F.type_list_append mt_append (pv 5) (pa_cons (pe_tup (pa_cons (pv 9) (pa_cons (pv 7) pa_nil))) pa_nil))))
              (pss_one (ps_expr (pe_bm PySem.F.plainAttrs_list PySem.F.slot_list_append PySem.F.type_list_append mt_append (pv 6) (pa_cons (pe_tup (pa_cons (pv 9) (pa_cons (pv 7) pa_nil))) pa_nil)))))))))) pss_nil))))
      (pss_one (ps_ret (pv 6))))), ?_⟩
    -- steps = list(entries); onward = []
    refine ⟨_, rfl, ea, _, rfl, .inl (SqL.of hE), fun sl nsl => ?_⟩
    refine ⟨Nat.zero_le _, fun on non => ?_⟩
    have nso : sl ≠ on := ne_of_none (upd_same) non
    obtain ⟨H1, e1⟩ : ∃ H1, H1 = upd (upd H sl (.lst (asE.map V.ref))) on (.lst []) := ⟨_, rfl⟩
    rw [← e1]
    have k1 : Same H H1 := e1 ▸ (same_upd nsl).trans (same_upd non)
    have hs1 : H1 sl = some (.lst (asE.map V.ref)) := by rw [e1, upd_ne nso, upd_same]
    have ho1 : H1 on = some (.lst []) := by rw [e1, upd_same]
    have non0 : H on = none := (same_upd nsl).free non
    clear e1
    have nsl_la : sl ≠ la := (ne_of_none hL nsl).symm
    have nsl_oa : sl ≠ oa := (ne_of_none hO nsl).symm
    have non_la : on ≠ la := (ne_of_none hL non0).symm
    have non_oa : on ≠ oa := (ne_of_none hO non0).symm
    refine ⟨fun m σ H2 => ∃ (S2 On2 : List Sp) (La Oa : Lv) (r2 : Nat → Nat) (t2 : Nat) (y7 y8 y9 : Option V), σ = [some (.ref p), some (.int lv), some (.ref ea), some (.ref la), some (.ref oa), some (.ref sl), some (.ref on), y7, y8, y9] ∧
        m = S2.length + pot near La ∧ Frame H H2 la oa ∧ Stk H2 sl S2 ∧ Stk H2 on On2 ∧ H2 la = some (.lst (La.map optV)) ∧ H2 oa = some (.lst (Oa.map optV)) ∧ Srch near zs s lv S2 On2 La Oa r2 t2 ∧
        t2 + S2.length + On2.length + pot near La ≤ B ∧ (S2.length + On2.length + pot near La < S.length + pot near L ∨ (S2 = S ∧ On2 = [] ∧ La = L)),
      ⟨_, S, [], L, O, r, t, none, none, none, rfl, rfl, fun b o e _ _ => k1 b o e, ⟨asE, hs1, hEA.imp fun a b r => k1 _ _ r⟩, ⟨[], ho1, .nil⟩, k1 _ _ hL, k1 _ _ hO, R, hB, .inr ⟨rfl, rfl, rfl⟩⟩, ?_⟩
    rintro m σ H2 ⟨S2, On2, La, Oa, r2, t2, y7, y8, y9, rfl, rfl, fr, ⟨as2, hs2, hA2⟩, hOn, hL2, hO2, R2, hB3, hd⟩
    refine ⟨_, rfl, _, .inl ⟨_, SqL.of hs2, rfl⟩, ?_⟩
    refine ite2 (fun e => ?_) (fun e => ?_)
    · -- a step is taken off
      obtain ⟨S3, vo, rfl⟩ : ∃ S3 vo, S2 = S3 ++ [vo] := by
        rcases List.eq_nil_or_concat S2 with z | ⟨S3, vo, z⟩
        · subst z
          cases hA2
          exact absurd e (by simp)
        · exact ⟨S3, vo, by rw [z, List.concat_eq_append]⟩
      obtain ⟨v, o⟩ := vo
      obtain ⟨as3, a0, rfl, hA3, ra⟩ := hA2.snoc
      obtain ⟨hv, wv, ov⟩ := R2.st v o (List.mem_append_right _ List.mem_cons_self)
      have hvL : v < La.length := by rw [R2.lenL]; exact hv
      have hvO : v < Oa.length := by rw [R2.lenO]; exact hv
      have epop : ((as3 ++ [a0]).map V.ref)[((as3 ++ [a0]).map V.ref).length - 1]? = some (V.ref a0) := by
        simp
      have edrop : ((as3 ++ [a0]).map V.ref).dropLast = as3.map V.ref := by
        rw [List.map_append]
        exact List.dropLast_concat
      refine ⟨_, fun σ' H' z => z, ?_⟩
      refine ⟨_, rfl, .inl ⟨rfl, _, SqL.of hs2⟩, sl, _, _, rfl, rfl, hs2, epop, ?_⟩
      rw [edrop]
      obtain ⟨H3, e3⟩ : ∃ H3, H3 = upd H2 sl (.lst (as3.map V.ref)) := ⟨_, rfl⟩
      rw [← e3]
      have k3 : ∀ b o, H2 b = some o → b ≠ sl → H3 b = some o := fun b o z n => by rw [e3, upd_ne n]; exact z
      have hs3 : H3 sl = some (.lst (as3.map V.ref)) := by rw [e3, upd_same]
      clear e3
      have kt3 : ∀ b xs, H2 b = some (.tup xs) → H3 b = some (.tup xs) := fun b xs z => k3 b _ z (ne_of z hs2 (by intro z; cases z))
      have fr3 : Frame H H3 la oa := fun b o z n1 n2 => k3 b o (fr b o z n1 n2) (ne_of_none z nsl)
      have hOn3 : Stk H3 on On2 := hOn.to kt3 fun as z => k3 _ _ z nso.symm
      have hL3 := k3 _ _ hL2 nsl_la.symm
      have hO3 := k3 _ _ hO2 nsl_oa.symm
      have sm3 : Same H0 H3 := fr3.same sm0 n0l n0o
      have ra3 : H3 a0 = some (.tup [.int (v : Nat), optV o]) := kt3 _ _ ra
      have gL : (La.map optV)[v]? = some (optV (lk La v)) := by rw [List.getElem?_map, lk_get hvL]; rfl
      -- stop, origin = steps.pop()
      refine ⟨a0, _, rfl, SqT.of ra3, rfl, _, _, rfl, _, _, rfl, rfl, ?_⟩
      -- if levels[stop] is None
      refine ⟨_, rfl, _, rfl, la, _, _, _, rfl, rfl, SqL.of hL3, at_of (j := v) rfl gL, rfl, _, rfl, ?_⟩
      refine ite2 (fun e => ?_) (fun e => ?_)
      · have eN : lk La v = none := of_decide_eq_true ((optV_non _).symm.trans e)
        -- levels[stop] = level; origins[stop] = origin
        refine ⟨_, rfl, _, rfl, _, rfl, la, _, _, v, rfl, rfl, hL3, ixN_nat (by rw [List.length_map]; exact hvL), ?_⟩
        refine ⟨_, rfl, _, rfl, _, rfl, oa, _, _, v, rfl, rfl, by rw [upd_ne nlo.symm]; exact hO3, ixN_nat (by rw [List.length_map]; exact hvO), ?_⟩
        obtain ⟨H4, e4⟩ : ∃ H4, H4 = upd (upd H3 la (.lst ((La.map optV).set v (.int lv)))) oa (.lst ((Oa.map optV).set v (optV o))) := ⟨_, rfl⟩
        rw [← e4]
        have k4 : ∀ b o, H3 b = some o → b ≠ la → b ≠ oa → H4 b = some o := fun b o z n1 n2 => by rw [e4, upd_ne n2, upd_ne n1]; exact z
        have hL4 : H4 la = some (.lst ((La.set v (some lv)).map optV)) := by
          rw [e4, upd_ne nlo, upd_same, List.map_set]
          rfl
        have hO4 : H4 oa = some (.lst ((Oa.set v o).map optV)) := by
          rw [e4, upd_same, List.map_set]
        clear e4
        have fr4 : Frame H H4 la oa := fun b o z n1 n2 => k4 b o (fr3 b o z n1 n2) n1 n2
        have sm4 : Same H0 H4 := fr4.same sm0 n0l n0o
        have kt4 : ∀ b xs, H3 b = some (.tup xs) → H4 b = some (.tup xs) := fun b xs z => k4 b _ z (ne_of z hL3 (by intro z; cases z)) (ne_of z hO3 (by intro z; cases z))
        have hs4 : H4 sl = some (.lst (as3.map V.ref)) := k4 _ _ hs3 nsl_la nsl_oa
        have hA4 : All2 (StepAt H4) as3 S3 := hA3.imp fun a b r => kt4 _ _ (kt3 _ _ r)
        have hOn4 : Stk H4 on On2 := hOn3.to kt4 fun as z => k4 _ _ z non_la non_oa
        -- the neighbours
        obtain ⟨ln, eln⟩ : ∃ ln, near[v]? = some ln := ⟨near[v]'(by rw [ok.len]; exact hv), List.getElem?_eq_getElem _⟩
        obtain ⟨an, ean, rn⟩ := hN.get eln
        have hln : ∀ x, x ∈ ln → x < zs.length := fun x m => W.near_lt ⟨ln, eln, m⟩
        have epot : pot near (La.set v (some lv)) + ln.length + 1 = pot near La := pot_set eln (by rw [lk_get hvL, eN])
        obtain ⟨zv, ezv⟩ : ∃ zv, zs[v]? = some zv := ⟨zs[v], List.getElem?_eq_getElem hv⟩
        have hB4 : S3.length + On2.length + ln.length + 2 ≤ B := by
          rw [List.length_append] at hB3
          have : [(v, o)].length = 1 := rfl
          omega
        have sz : ∀ i, ((ln.take i).filter fun x => decide (zs[x]? = zs[v]?)).length ≤ ln.length := fun i => Nat.le_trans (List.length_filter_le _ _) (by rw [List.length_take]; omega)
        have sz2 : ∀ i, ((ln.take i).filter fun x => !decide (zs[x]? = zs[v]?)).length ≤ ln.length := fun i => Nat.le_trans (List.length_filter_le _ _) (by rw [List.length_take]; omega)
        refine ⟨_, rfl, p, C, dx, _, _, rfl, sm4 _ _ h1, T.cl, T.nN, wf_near _ _ _, _, rfl, nl, _, _, _, rfl, rfl, SqL.of (sm4 _ _ h4), at_of (j := v) rfl (by rw [List.getElem?_map, ean]; rfl), an, rfl, ⟨_, SqL.of (sm4 _ _ rn)⟩,
          for_list (K := K) (a := an) (xs := ln.map fun (k : Nat) => V.int (k : Nat)) (fun i σ H5 => ∃ y9 : Option V, σ = [some (.ref p), some (.int lv), some (.ref ea), some (.ref la), some (.ref oa), some (.ref sl), some (.ref on), some (.int v), some (optV o), y9] ∧
            Frame H H5 la oa ∧ Stk H5 sl (S3 ++ ((ln.take i).filter fun x => decide (zs[x]? = zs[v]?)).map fun x => (x, some v)) ∧ Stk H5 on (On2 ++ ((ln.take i).filter fun x => !decide (zs[x]? = zs[v]?)).map fun x => (x, some v)) ∧
            H5 la = some (.lst ((La.set v (some lv)).map optV)) ∧ H5 oa = some (.lst ((Oa.set v o).map optV)))
          ⟨_, rfl, fr4, by simpa using ⟨as3, hs4, hA4⟩, by simpa using hOn4, hL4, hO4⟩ (fun i σ H5 _ ⟨_, _, f5, _⟩ => SqL.of ((f5.same sm0 n0l n0o) _ _ rn)) ?_ ?_⟩
        · rintro i x σ H5 hi ⟨y9, rfl, f5, ⟨as5, hs5, hA5⟩, ⟨bs5, hb5, hB5⟩, hL5, hO5⟩
          obtain ⟨x, hx, rfl⟩ : ∃ x', ln[i]? = some x' ∧ x = V.int (x' : Nat) := by
            rw [List.getElem?_map] at hi
            cases z : ln[i]? with
            | none =>
              rw [z] at hi
              cases hi
            | some x' =>
              rw [z] at hi
              exact ⟨x', rfl, (Option.some.inj hi).symm⟩
          have hxn := hln x (List.mem_of_getElem? hx)
          obtain ⟨zx, ezx⟩ : ∃ zx, zs[x]? = some zx := ⟨zs[x], List.getElem?_eq_getElem hxn⟩
          have sm5 : Same H0 H5 := f5.same sm0 n0l n0o
          have gz : ∀ (j : Nat) (y : Int), zs[j]? = some y → atI (zs.map V.int) (j : Nat) = some (.int y) := fun j y z => at_of rfl (by rw [List.getElem?_map, z]; rfl)
          have hil : i < ln.length := (List.getElem?_eq_some_iff.mp hx).1
          -- if self.zones[other] == self.zones[stop]
          refine ⟨_, rfl, p, C, dx, _, _, rfl, sm5 _ _ h1, T.cl, T.nZ, wf_zones _ _ _, _, rfl, zl, _, _, _, rfl, rfl, SqL.of (sm5 _ _ h2), gz x zx ezx,
            _, rfl, p, C, dx, _, _, rfl, sm5 _ _ h1, T.cl, T.nZ, wf_zones _ _ _, _, rfl, zl, _, _, _, rfl, rfl, SqL.of (sm5 _ _ h2), gz v zv ezv, rfl, _, rfl, ?_⟩
          have ec : decide (zs[x]? = zs[v]?) = decide (V.int zx = V.int zv) := decide_eq_decide.mpr ⟨fun z => by
            rw [ezx, ezv] at z
            cases z
            rfl, fun z => by
            cases z
            rw [ezx, ezv]⟩
          have lenA : as5.length ≤ 200000 := by
            rw [hA5.len, List.length_append, List.length_map]
            have := sz i
            omega
          have lenB : bs5.length ≤ 200000 := by
            rw [hB5.len, List.length_append, List.length_map]
            have := sz2 i
            omega
          refine ite2 (fun e => ?_) (fun e => ?_)
          · -- in one zone
            have ec2 : decide (zs[x]? = zs[v]?) = true := ec.trans e
            refine ⟨_, rfl, .inl ⟨rfl, _, SqL.of hs5⟩, _, rfl, _, rfl, by show 2 ≤ sizeLine; decide, fun tp ntp => ?_⟩
            obtain ⟨g1, g2⟩ := push_step (x := x) (y := v) hs5 hA5 ntp
            refine ⟨sl, _, _, rfl, rfl, by rw [upd_ne (ne_of_none hs5 ntp)]; exact hs5, small_line (by rw [List.length_map]; exact lenA), ?_⟩
            refine ⟨_, rfl, fun b o z n1 n2 => g2 b o (f5 b o z n1 n2) (ne_of_none z nsl), ?_, ?_, g2 _ _ hL5 nsl_la.symm, g2 _ _ hO5 nsl_oa.symm⟩
            · rw [take_filter hx, if_pos ec2, ← List.append_assoc]
              exact g1
            · rw [take_filter hx, if_neg (by simp [ec2]), List.append_nil]
              exact Stk.to ⟨bs5, hb5, hB5⟩ (fun b xs z => g2 b _ z (ne_of z hs5 (by intro z; cases z))) fun as z => g2 _ _ z nso.symm
          · have ec2 : decide (zs[x]? = zs[v]?) = false := by
              rw [ec]
              cases z : decide (V.int zx = V.int zv) with
              | false => rfl
              | true => exact absurd z e
            refine ⟨_, rfl, .inl ⟨rfl, _, SqL.of hb5⟩, _, rfl, _, rfl, by show 2 ≤ sizeLine; decide, fun tp ntp => ?_⟩
            obtain ⟨g1, g2⟩ := push_step (x := x) (y := v) hb5 hB5 ntp
            refine ⟨on, _, _, rfl, rfl, by rw [upd_ne (ne_of_none hb5 ntp)]; exact hb5, small_line (by rw [List.length_map]; exact lenB), ?_⟩
            refine ⟨_, rfl, fun b o z n1 n2 => g2 b o (f5 b o z n1 n2) (ne_of_none z non0), ?_, ?_, g2 _ _ hL5 non_la.symm, g2 _ _ hO5 non_oa.symm⟩
            · rw [take_filter hx, if_neg (by simp [ec2]), List.append_nil]
              exact Stk.to ⟨as5, hs5, hA5⟩ (fun b xs z => g2 b _ z (ne_of z hb5 (by intro z; cases z))) fun as z => g2 _ _ z nso
            · rw [take_filter hx, if_pos (by simp [ec2]), ← List.append_assoc]
              exact g1
        · rintro σ H5 ⟨y9, rfl, f5, hS5, hO5', hL5, hO5⟩
          rw [List.length_map, List.take_length] at hS5 hO5'
          have ft := filter_two (fun x => decide (zs[x]? = zs[v]?)) ln
          have el : [(v, o)].length = 1 := rfl
          rw [List.length_append, el] at hB3 hd
          refine ⟨_, ?_, _, _, _, _, _, _, _, _, _, rfl, rfl, f5, hS5, hO5', hL5, hO5, R2.marked eN eln hln rfl rfl, ?_, .inl ?_⟩
          · simp only [List.length_append, List.length_map, el]
            omega
          · simp only [List.length_append, List.length_map]
            omega
          · simp only [List.length_append, List.length_map]
            rcases hd with z | ⟨z1, z2, z3⟩
            · omega
            · rw [← z1, ← z3, z2, List.length_append, el]
              show _ + (0 + _) + _ < _
              omega
      · -- it had its level before
        obtain ⟨k, eK⟩ : ∃ k, lk La v = some k := by
          cases z : lk La v with
          | none =>
            rw [z] at e
            exact absurd rfl e
          | some k => exact ⟨k, rfl⟩
        refine ⟨S3.length + pot near La, by rw [List.length_append]; show S3.length + pot near La < S3.length + 1 + pot near La; omega, S3, On2, La, Oa, r2, t2, _, _, _, rfl, rfl, fr3, ⟨as3, hs3, hA3.imp fun a b r => kt3 _ _ r⟩, hOn3, hL3, hO3, R2.popped eK, ?_, .inl ?_⟩
        · rw [List.length_append] at hB3
          have : [(v, o)].length = 1 := rfl
          omega
        · rcases hd with z | ⟨z1, z2, z3⟩
          · rw [List.length_append] at z
            have : [(v, o)].length = 1 := rfl
            omega
          · rw [← z1, z2, z3, List.length_append]
            show S3.length + 0 + pot near L < S3.length + 1 + pot near L
            omega
    · -- no step is left
      have eS : S2 = [] := by
        have : as2 = [] := by
          cases as2 with
          | nil => rfl
          | cons a as => exact absurd rfl e
        subst this
        cases hA2
        rfl
      subst eS
      refine ⟨_, rfl, q On2 La Oa r2 t2 H2 on fr non0 hOn hL2 hO2 R2 (by simpa using hB3) fun ne => ?_⟩
      rcases hd with z | ⟨z, _, _⟩
      · simpa using z
      · exact absurd z.symm ne
/-! ### Web._search -/
def spSearch (C : Addr) : L2.Sp := fun vs H Q _ => ∃ (p : Addr) (s : Nat) (zs : List Int) (lks : List Lk) (near : List (List Nat)), vs = [.ref p, .int s] ∧ s < zs.length ∧ WebAt C H p zs lks near ∧
  ∀ (L O : Lv) (r : Nat → Nat) (t : Nat) (H' : Hp) (tp la oa : Addr), Same H H' → H la = none → H oa = none → la ≠ oa → H' tp = some (.tup [.ref la, .ref oa]) → H' la = some (.lst (L.map optV)) → H' oa = some (.lst (O.map optV)) →
    IsLevels near zs s L → IsOrigins near zs s L O r t → t ≤ 150000 → Q (.ref tp) H'
theorem rep_non (n : Nat) : (List.replicate n [V.non]).flatten = (List.replicate n (none : Option Nat)).map optV := by
  rw [List.flatten_replicate_singleton, List.map_replicate]
  rfl
theorem ok_search {f fF : Addr} {fd fdF : FuncData} (F : Fun K "_search" "Web._search" sSearch f fd) (T : Txt K mg C CL CS CN) (FF : Fun K "_fill_level" "Web._fill_level" sFill fF fdF) (bF : Binds K fdF ["self", "level", "entries", "levels", "origins"] []) (mF : Meth K C "_fill_level" fF) :
    FnOk P w K mg base CX0 2 f fd ["self", "start"] (spSearch C) := by
  have GF : FnOk P w K mg base CX0 1 fF fdF ["self", "level", "entries", "levels", "origins"] (spFill C) := ok_fill FF T
  refine F.ok scSearch (fun vs H Q E h => ?_) (fun cdv A outer s0 H vs Q E hr h => ?_)
  · obtain ⟨p, s, zs, lks, near, rfl, _⟩ := h
    rfl
  · obtain ⟨p, s, zs, lks, near, rfl, hs, W, q⟩ := h
    obtain ⟨⟨dx, zl, ll, nl, h1, h2, h3, ⟨asN, h4, hN⟩⟩, ok, _, hsm⟩ := id W
    have elen : ((asN.map V.ref).length : Int) = zs.length := by rw [List.length_map, hN.len, ok.len]
    refine ⟨_, pss_cons (ps_set (i := 2) scSearch.nd rfl (.inl rfl) (pe_op op_rep (pe_lst (pa_cons pe_non pa_nil)) (pe_callB call_len_seq (by rfl) T.len PySem.boot_len (pa_cons (pe_fld (pv 0) rfl) pa_nil))))
      (pss_cons (ps_set (i := 3) scSearch.nd rfl (.inl rfl) (pe_op op_rep (pe_lst (pa_cons pe_non pa_nil)) (pe_callB call_len_seq (by rfl) T.len PySem.boot_len (pa_cons (pe_fld (pv 0) rfl) pa_nil))))
      (pss_cons (ps_set (i := 4) scSearch.nd rfl (.inl rfl) (pe_lst (pa_cons (pe_tup (pa_cons (pv 1) (pa_cons pe_non pa_nil))) pa_nil)))
      (pss_cons (ps_set (i := 5) scSearch.nd rfl (.inl rfl) pe_int)
      (pss_cons (ps_while PassesOwn.never (pt_truth (pv 4) (by intro _; rfl))
        (pss_cons (ps_aug (i := 5) scSearch.nd rfl (.inl rfl) pe_int ip_add)
        (pss_one (ps_set (i := 4) scSearch.nd rfl (.inl rfl) (pe_meth (pv 0) T.cl mF GF hr bF .nil pass0 (pa_cons (pv 5) (pa_cons (pv 4) (pa_cons (pv 2) (pa_cons (pv 3) pa_nil)))))))))
      (pss_one (ps_ret (pe_tup (pa_cons (pv 2) (pa_cons (pv 3) pa_nil))))))))), ?_⟩
    -- levels = [None] * len(self._near)
    refine ⟨by show 1 ≤ sizeLine; decide, fun q1 n1 => ?_⟩
    have a1 := same_upd (o := .lst [V.non]) n1
    refine ⟨_, rfl, p, C, dx, _, _, rfl, a1 _ _ h1, T.cl, T.nN, wf_near _ _ _, nl, _, rfl, .inl (SqL.of (a1 _ _ h4)), q1, _, _, rfl, rfl, upd_same, by rw [elen]; omega, by rw [elen]; omega, ?_, fun la nla => ?_⟩
    · rw [elen, Int.toNat_natCast]
      show 1 * zs.length ≤ sizeLine
      exact Nat.le_of_lt (small_line (by omega))
    rw [elen, Int.toNat_natCast, rep_non]
    obtain ⟨H1, e1⟩ : ∃ H1, H1 = upd (upd H q1 (.lst [V.non])) la (.lst ((List.replicate zs.length none).map optV)) := ⟨_, rfl⟩
    rw [← e1]
    have s1 : Same H H1 := e1 ▸ a1.trans (same_upd nla)
    have hla1 : H1 la = some (.lst ((List.replicate zs.length none).map optV)) := by rw [e1, upd_same]
    have nla0 : H la = none := a1.free nla
    clear e1
    -- origins = [None] * len(self._near)
    refine ⟨by show 1 ≤ sizeLine; decide, fun q2 n2 => ?_⟩
    have a2 := same_upd (o := .lst [V.non]) n2
    refine ⟨_, rfl, p, C, dx, _, _, rfl, a2 _ _ (s1 _ _ h1), T.cl, T.nN, wf_near _ _ _, nl, _, rfl, .inl (SqL.of (a2 _ _ (s1 _ _ h4))), q2, _, _, rfl, rfl, upd_same, by rw [elen]; omega, by rw [elen]; omega, ?_, fun oa noa => ?_⟩
    · rw [elen, Int.toNat_natCast]
      show 1 * zs.length ≤ sizeLine
      exact Nat.le_of_lt (small_line (by omega))
    rw [elen, Int.toNat_natCast, rep_non]
    obtain ⟨H2, e2⟩ : ∃ H2, H2 = upd (upd H1 q2 (.lst [V.non])) oa (.lst ((List.replicate zs.length none).map optV)) := ⟨_, rfl⟩
    rw [← e2]
    have s2 : Same H1 H2 := e2 ▸ a2.trans (same_upd noa)
    have hoa2 : H2 oa = some (.lst ((List.replicate zs.length none).map optV)) := by rw [e2, upd_same]
    have noa1 : H1 oa = none := a2.free noa
    have noa0 : H oa = none := s1.free noa1
    have nlo : la ≠ oa := ne_of_none hla1 noa1
    have hla2 := s2 _ _ hla1
    clear e2
    -- steps = [(start, None)]; level = 0
    refine ⟨_, rfl, by show 2 ≤ sizeLine; decide, fun tp ntp => ?_⟩
    refine ⟨by show 1 ≤ sizeLine; decide, fun sl nsl => ?_⟩
    obtain ⟨H3, e3⟩ : ∃ H3, H3 = upd (upd H2 tp (.tup [.int s, .non])) sl (.lst [.ref tp]) := ⟨_, rfl⟩
    rw [← e3]
    have s3 : Same H2 H3 := e3 ▸ (same_upd ntp).trans (same_upd nsl)
    have hst : Stk H3 sl [(s, none)] := ⟨[tp], by rw [e3, upd_same]; rfl, All2.one (by
      show H3 tp = _
      rw [e3, upd_ne (ne_of_none upd_same nsl), upd_same]
      rfl)⟩
    clear e3
    have s03 : Same H H3 := (s1.trans s2).trans s3
    have epot : pot near (List.replicate zs.length none) = 2 * lks.length + zs.length := by rw [pot_rep near _ ok.len, ok.size]
    refine ⟨fun m σ H4 => ∃ (S : List Sp) (L O : Lv) (r : Nat → Nat) (t lv : Nat) (st : Addr), σ = [some (.ref p), some (.int s), some (.ref la), some (.ref oa), some (.ref st), some (.int lv)] ∧ m = S.length + pot near L ∧ Same H H4 ∧
        H4 la = some (.lst (L.map optV)) ∧ H4 oa = some (.lst (O.map optV)) ∧ Stk H4 st S ∧ Srch near zs s (lv + 1) S [] L O r t ∧ t + S.length + pot near L ≤ 150000,
      ⟨_, [(s, none)], _, _, _, 0, 0, sl, rfl, rfl, s03, s3 _ _ hla2, s3 _ _ hoa2, hst, Srch.init hs, by rw [epot]; show 0 + 1 + _ ≤ _; omega⟩, ?_⟩
    rintro m σ H4 ⟨S, L, O, r, t, lv, st, rfl, rfl, s4, hL, hO, hS, R, hB⟩
    obtain ⟨asS, hS1, hS2⟩ := id hS
    refine ⟨_, rfl, _, .inl ⟨_, SqL.of hS1, rfl⟩, ?_⟩
    refine ite2 (fun e => ?_) (fun e => ?_)
    · refine ⟨_, fun σ' H' z => z, ?_⟩
      refine ⟨_, rfl, _, _, rfl, rfl, ?_⟩
      have neS : S ≠ [] := fun z => by
        subst z
        cases hS2
        exact absurd e (by simp)
      refine ⟨_, rfl, p, dx, _, rfl, s4 _ _ h1, wf_no _ _ _ (by decide +kernel) (by decide +kernel) (by decide +kernel), _, rfl, _, rfl, _, rfl, _, rfl, ?_⟩
      refine ⟨p, st, la, oa, lv + 1, s, t, 150000, zs, lks, near, S, L, O, r, H, rfl, W, s4, nla0, noa0, nlo, hS, hL, hO, R, hB, Nat.le_refl _, ?_⟩
      intro On L' O' r' t' H' on fr non hOn hL' hO' R' hB' lt
      exact ⟨On.length + pot near L', lt neS, On, L', O', r', t', lv + 1, on, rfl, rfl, fr.same s4 nla0 noa0, hL', hO', hOn, R'.next, hB'⟩
    · have eS : S = [] := by
        cases asS with
        | nil =>
          cases hS2
          rfl
        | cons a as => exact absurd rfl e
      subst eS
      refine ⟨_, rfl, _, rfl, by show 2 ≤ sizeLine; decide, fun tr ntr => ?_⟩
      have s5 := same_upd (o := .tup [V.ref la, V.ref oa]) ntr
      exact q L O r t _ tr la oa (s4.trans s5) nla0 noa0 nlo upd_same (s5 _ _ hL) (s5 _ _ hO) R.done ⟨R.lenO, R.org⟩ (by have : ([] : List Sp).length = 0 := rfl; omega)
/-! ### Web.levels -/
def spLevels (C CS : Addr) : L2.Sp := fun vs H Q E => ∃ (p : Addr) (i : Int) (zs : List Int) (lks : List Lk) (near : List (List Nat)), vs = [.ref p, .int i] ∧ WebAt C H p zs lks near ∧
  (∀ s : Nat, i = s → s < zs.length → ∀ (L : Lv) (H' : Hp) (la : Addr), Same H H' → H la = none → H' la = some (.lst (L.map optV)) → IsLevels near zs s L → Q (.ref la) H') ∧
  (¬ (0 ≤ i ∧ i < zs.length) → E (.ref CS) none H)
theorem ok_levels {f fI fC fS fF : Addr} {fd fdI fdC fdS fdF : FuncData} (F : Fun K "levels" "Web.levels" sLevels f fd) (T : Txt K mg C CL CS CN) (FI : Fun K "_is_stop" "_is_stop" sIsStop fI fdI) (bI : Binds K fdI ["stop", "count"] []) (gI : mg "_is_stop" = some (.ref fI))
    (FC : Fun K "_check_stop" "Web._check_stop" sCheckStop fC fdC) (bC : Binds K fdC ["self", "stop"] []) (mC : Meth K C "_check_stop" fC)
    (FS : Fun K "_search" "Web._search" sSearch fS fdS) (bS : Binds K fdS ["self", "start"] []) (mS : Meth K C "_search" fS)
    (FF : Fun K "_fill_level" "Web._fill_level" sFill fF fdF) (bF : Binds K fdF ["self", "level", "entries", "levels", "origins"] []) (mF : Meth K C "_fill_level" fF) :
    FnOk P w K mg base (L2N.CX P w) 3 f fd ["self", "start"] (spLevels C CS) := by
  have GC : FnOk P w K mg base (L2N.CX P w) 2 fC fdC ["self", "stop"] (spCheckStop C CS) := ok_checkStop FC T FI bI gI
  have GS : FnOk P w K mg base CX0 2 fS fdS ["self", "start"] (spSearch C) := ok_search FS T FF bF mF
  refine okN F scLevels (fun vs H Q E h => ?_) (fun cdv A outer s0 H vs Q E hr h => ?_)
  · obtain ⟨p, i, zs, lks, near, rfl, _⟩ := h
    rfl
  · obtain ⟨p, i, zs, lks, near, rfl, W, q1, q2⟩ := h
    obtain ⟨⟨dx, zl, ll, nl, h1, _⟩, _⟩ := id W
    refine ⟨_, pss_cons (ps_expr (pe_meth (pv 0) T.cl mC GC hr bC .nil (L2N.passes_call (W := fun cls d _ H => E cls d H) (L2N.takes_of rfl rfl rfl rfl) (fun _ _ _ _ h => h)) (pa_cons (pv 1) pa_nil)))
      (pss_cons (ps_asg (pe_meth (pv 0) T.cl mS GS hr bS .nil pass0 (pa_cons (pv 1) pa_nil)) (pg_tup rfl (pgs_cons (pg_name (i := 2) scLevels.nd rfl (.inl rfl)) (pgs_cons (pg_name (i := 3) scLevels.nd rfl (.inl rfl)) pgs_nil))))
      (pss_one (ps_ret (pv 2)))), ?_⟩
    refine ⟨_, rfl, p, dx, _, rfl, h1, wf_no _ _ _ (by decide +kernel) (by decide +kernel) (by decide +kernel), _, rfl, p, i, zs, lks, near, rfl, W, fun hi => ?_, q2⟩
    obtain ⟨s, rfl⟩ : ∃ s : Nat, i = s := ⟨i.toNat, by omega⟩
    refine ⟨_, rfl, p, dx, _, rfl, h1, wf_no _ _ _ (by decide +kernel) (by decide +kernel) (by decide +kernel), _, rfl, p, s, zs, lks, near, rfl, by omega, W, fun L O r t H' tp la oa sm nla noa nlo htp hL hO IL IO ht => ?_⟩
    exact ⟨tp, _, rfl, SqT.of htp, rfl, _, _, rfl, _, _, rfl, rfl, _, rfl, q1 s rfl (by omega) L H' la sm nla hL IL⟩
/-! ### Web._search_goal -/
def Both (i j : Int) (n : Nat) : Prop := (0 ≤ i ∧ i < n) ∧ (0 ≤ j ∧ j < n)
def spSearchGoal (C CS CN : Addr) : L2.Sp := fun vs H Q E => ∃ (p : Addr) (i j : Int) (zs : List Int) (lks : List Lk) (near : List (List Nat)), vs = [.ref p, .int i, .int j] ∧ WebAt C H p zs lks near ∧
  (∀ s g : Nat, i = s → j = g → s < zs.length → g < zs.length → ∀ (L : Lv) (H' : Hp), IsLevels near zs s L → Same H H' → (lk L g = none → E (.ref CN) none H') ∧
    ∀ (O : Lv) (r : Nat → Nat) (t k : Nat) (tp la oa : Addr), lk L g = some k → H la = none → H oa = none → H' tp = some (.tup [.ref la, .ref oa]) → H' la = some (.lst (L.map optV)) → H' oa = some (.lst (O.map optV)) → IsOrigins near zs s L O r t → t ≤ 150000 → Q (.ref tp) H') ∧
  (¬ Both i j zs.length → E (.ref CS) none H)
theorem ok_searchGoal {f fI fC fS fF : Addr} {fd fdI fdC fdS fdF : FuncData} (F : Fun K "_search_goal" "Web._search_goal" sSearchGoal f fd) (T : Txt K mg C CL CS CN) (FI : Fun K "_is_stop" "_is_stop" sIsStop fI fdI) (bI : Binds K fdI ["stop", "count"] []) (gI : mg "_is_stop" = some (.ref fI))
    (FC : Fun K "_check_stop" "Web._check_stop" sCheckStop fC fdC) (bC : Binds K fdC ["self", "stop"] []) (mC : Meth K C "_check_stop" fC)
    (FS : Fun K "_search" "Web._search" sSearch fS fdS) (bS : Binds K fdS ["self", "start"] []) (mS : Meth K C "_search" fS)
    (FF : Fun K "_fill_level" "Web._fill_level" sFill fF fdF) (bF : Binds K fdF ["self", "level", "entries", "levels", "origins"] []) (mF : Meth K C "_fill_level" fF) :
    FnOk P w K mg base (L2N.CX P w) 3 f fd ["self", "start", "goal"] (spSearchGoal C CS CN) := by
  have GC : FnOk P w K mg base (L2N.CX P w) 2 fC fdC ["self", "stop"] (spCheckStop C CS) := ok_checkStop FC T FI bI gI
  have GS : FnOk P w K mg base CX0 2 fS fdS ["self", "start"] (spSearch C) := ok_search FS T FF bF mF
  refine okN F scSearchGoal (fun vs H Q E h => ?_) (fun cdv A outer s0 H vs Q E hr h => ?_)
  · obtain ⟨p, i, j, zs, lks, near, rfl, _⟩ := h
    rfl
  · obtain ⟨p, i, j, zs, lks, near, rfl, W, q1, q2⟩ := h
    obtain ⟨⟨dx, zl, ll, nl, h1, _⟩, _, _, hsm⟩ := id W
    refine ⟨_, pss_cons (ps_expr (pe_meth (pv 0) T.cl mC GC hr bC .nil (L2N.passes_call (W := fun cls d _ H => E cls d H) (L2N.takes_of rfl rfl rfl rfl) (fun _ _ _ _ h => h)) (pa_cons (pv 1) pa_nil)))
      (pss_cons (ps_expr (pe_meth (pv 0) T.cl mC GC hr bC .nil (L2N.passes_call (W := fun cls d _ H => E cls d H) (L2N.takes_of rfl rfl rfl rfl) (fun _ _ _ _ h => h)) (pa_cons (pv 2) pa_nil)))
      (pss_cons (ps_asg (pe_meth (pv 0) T.cl mS GS hr bS .nil pass0 (pa_cons (pv 1) pa_nil)) (pg_tup rfl (pgs_cons (pg_name (i := 3) scSearchGoal.nd rfl (.inl rfl)) (pgs_cons (pg_name (i := 4) scSearchGoal.nd rfl (.inl rfl)) pgs_nil))))
      (pss_cons (ps_if (pt_cmpR op_isN (pe_ix ix_list (pv 3) (pv 2) (fun _ _ => rfl)) pe_non (nomark _))
        (pss_one (L2N.ps_raise rfl (L2N.takes_of rfl rfl rfl rfl) (pmk_one T.eN rfl (pe_joined (PJ.cons pe_str (PJ.cons (pe_fmt (pv 1)) (PJ.cons pe_str (PJ.cons (pe_fmt (pv 2)) PJ.nil)))))))) pss_nil)
      (pss_one (ps_ret (pe_tup (pa_cons (pv 3) (pa_cons (pv 4) pa_nil)))))))), ?_⟩
    have noC := wf_no zl ll nl (m := "_check_stop") (by decide +kernel) (by decide +kernel) (by decide +kernel)
    have noS := wf_no zl ll nl (m := "_search") (by decide +kernel) (by decide +kernel) (by decide +kernel)
    refine ⟨_, rfl, p, dx, _, rfl, h1, noC, _, rfl, p, i, zs, lks, near, rfl, W, fun hi => ?_, fun no => q2 fun b => no b.1⟩
    refine ⟨_, rfl, p, dx, _, rfl, h1, noC, _, rfl, p, j, zs, lks, near, rfl, W, fun hj => ?_, fun no => q2 fun b => no b.2⟩
    obtain ⟨s, rfl⟩ : ∃ s : Nat, i = s := ⟨i.toNat, by omega⟩
    obtain ⟨g, rfl⟩ : ∃ g : Nat, j = g := ⟨j.toNat, by omega⟩
    refine ⟨_, rfl, p, dx, _, rfl, h1, noS, _, rfl, p, s, zs, lks, near, rfl, by omega, W, fun L O r t H' tp la oa sm nla noa nlo htp hL hO IL IO ht => ?_⟩
    refine ⟨tp, _, rfl, SqT.of htp, rfl, _, _, rfl, _, _, rfl, rfl, ?_⟩
    have hgL : g < L.length := by rw [IL.len]; omega
    have gL : atI (L.map optV) (g : Nat) = some (optV (lk L g)) := at_of rfl (by rw [List.getElem?_map, lk_get hgL]; rfl)
    refine ⟨_, rfl, _, rfl, la, _, _, _, rfl, rfl, SqL.of hL, gL, rfl, _, rfl, ?_⟩
    refine ite2 (fun e => ?_) (fun e => ?_)
    · have eN : lk L g = none := of_decide_eq_true ((optV_non _).symm.trans e)
      have l1 : (s : Int).natAbs.log2 < 1920 := log_small (by omega) (by omega)
      have l2 : (g : Int).natAbs.log2 < 1920 := log_small (by omega) (by omega)
      have t1 := int_text_len_1921 l1
      have t2 := int_text_len_1921 l2
      refine ⟨_, rfl, ?_⟩
      refine ⟨by rw [sizeLine_eq]; decide +kernel, _, rfl, .inr ⟨_, rfl, l1, ⟨_, rfl, ?_, ?_⟩⟩⟩
      · exact text_fits (m := 100) (by decide +kernel) t1 (by decide)
      · refine ⟨_, rfl, ?_, ?_⟩
        · exact text_fits (m := 3000) (n := 100) (text_le (m := 100) (by decide +kernel) t1 (by decide)) (by decide +kernel) (by decide)
        · refine ⟨_, rfl, .inr ⟨_, rfl, l2, ⟨_, rfl, ?_, ?_⟩⟩⟩
          · exact text_fits (m := 4000) (text_le (m := 3000) (n := 100) (text_le (m := 100) (by decide +kernel) t1 (by decide)) (by decide +kernel) (by decide)) t2 (by decide)
          · exact (q1 s g rfl rfl (by omega) (by omega) L H' IL sm).1 eN
    · have e2 : ∃ k, lk L g = some k := by
        cases z : lk L g with
        | none =>
          rw [z] at e
          exact absurd rfl e
        | some k => exact ⟨k, rfl⟩
      obtain ⟨k, ek⟩ := e2
      refine ⟨_, rfl, _, rfl, by show 2 ≤ sizeLine; decide, fun tr ntr => ?_⟩
      have s5 := same_upd (o := .tup [V.ref la, V.ref oa]) ntr
      exact (q1 s g rfl rfl (by omega) (by omega) L _ IL (sm.trans s5)).2 O r t k tr la oa ek nla noa upd_same (s5 _ _ hL) (s5 _ _ hO) IO ht
/-! ### Web.fewest -/
def spFewest (C CS CN : Addr) : L2.Sp := fun vs H Q E => ∃ (p : Addr) (i j : Int) (zs : List Int) (lks : List Lk) (near : List (List Nat)), vs = [.ref p, .int i, .int j] ∧ WebAt C H p zs lks near ∧
  (∀ s g : Nat, i = s → j = g → s < zs.length → g < zs.length → ∀ (L : Lv) (H' : Hp), IsLevels near zs s L → Same H H' → (lk L g = none → E (.ref CN) none H') ∧ ∀ k : Nat, lk L g = some k → Q (.int k) H') ∧
  (¬ Both i j zs.length → E (.ref CS) none H)
theorem ok_fewest {f fG fI fC fS fF : Addr} {fd fdG fdI fdC fdS fdF : FuncData} (F : Fun K "fewest" "Web.fewest" sFewest f fd) (T : Txt K mg C CL CS CN) (FI : Fun K "_is_stop" "_is_stop" sIsStop fI fdI) (bI : Binds K fdI ["stop", "count"] []) (gI : mg "_is_stop" = some (.ref fI))
    (FC : Fun K "_check_stop" "Web._check_stop" sCheckStop fC fdC) (bC : Binds K fdC ["self", "stop"] []) (mC : Meth K C "_check_stop" fC)
    (FS : Fun K "_search" "Web._search" sSearch fS fdS) (bS : Binds K fdS ["self", "start"] []) (mS : Meth K C "_search" fS)
    (FF : Fun K "_fill_level" "Web._fill_level" sFill fF fdF) (bF : Binds K fdF ["self", "level", "entries", "levels", "origins"] []) (mF : Meth K C "_fill_level" fF)
    (FG : Fun K "_search_goal" "Web._search_goal" sSearchGoal fG fdG) (bG : Binds K fdG ["self", "start", "goal"] []) (mG : Meth K C "_search_goal" fG) :
    FnOk P w K mg base (L2N.CX P w) 4 f fd ["self", "start", "goal"] (spFewest C CS CN) := by
  have GG : FnOk P w K mg base (L2N.CX P w) 3 fG fdG ["self", "start", "goal"] (spSearchGoal C CS CN) := ok_searchGoal FG T FI bI gI FC bC mC FS bS mS FF bF mF
  refine okN F scFewest (fun vs H Q E h => ?_) (fun cdv A outer s0 H vs Q E hr h => ?_)
  · obtain ⟨p, i, j, zs, lks, near, rfl, _⟩ := h
    rfl
  · obtain ⟨p, i, j, zs, lks, near, rfl, W, q1, q2⟩ := h
    obtain ⟨⟨dx, zl, ll, nl, h1, _⟩, _, _, hsm⟩ := id W
    refine ⟨_, pss_cons (ps_asg (pe_meth (pv 0) T.cl mG GG hr bG .nil (L2N.passes_call (W := fun cls d _ H => E cls d H) (L2N.takes_of rfl rfl rfl rfl) (fun _ _ _ _ h => h)) (pa_cons (pv 1) (pa_cons (pv 2) pa_nil))) (pg_tup rfl (pgs_cons (pg_name (i := 3) scFewest.nd rfl (.inl rfl)) (pgs_cons (pg_name (i := 4) scFewest.nd rfl (.inl rfl)) pgs_nil))))
      (pss_one (ps_ret (pe_ix ix_list (pv 3) (pv 2) (fun _ _ => rfl)))), ?_⟩
    refine ⟨_, rfl, p, dx, _, rfl, h1, wf_no zl ll nl (by decide +kernel) (by decide +kernel) (by decide +kernel), _, rfl, _, rfl, p, i, j, zs, lks, near, rfl, W, fun s g ei ej hs hg L H' IL sm => ⟨fun e => ((q1 s g ei ej hs hg L H' IL sm).1 e), fun O r t k tp la oa ek nla noa htp hL hO IO ht => ?_⟩, q2⟩
    have hgL : g < L.length := by rw [IL.len]; omega
    have gL : atI (L.map optV) j = some (optV (lk L g)) := at_of ej (by rw [List.getElem?_map, lk_get hgL]; rfl)
    refine ⟨tp, _, rfl, SqT.of htp, rfl, _, _, rfl, _, _, rfl, rfl, _, rfl, _, rfl, la, _, _, _, rfl, rfl, SqL.of hL, gL, ?_⟩
    rw [ek]
    exact (q1 s g ei ej hs hg L H' IL sm).2 k ek
/-! ### Web.way -/
def spWay (C CS CN : Addr) : L2.Sp := fun vs H Q E => ∃ (p : Addr) (i j : Int) (zs : List Int) (lks : List Lk) (near : List (List Nat)), vs = [.ref p, .int i, .int j] ∧ WebAt C H p zs lks near ∧
  (∀ s g : Nat, i = s → j = g → s < zs.length → g < zs.length → ∀ (L : Lv) (H' : Hp), IsLevels near zs s L → Same H H' → (lk L g = none → E (.ref CN) none H') ∧
    ∀ (k : Nat) (row : List Nat) (a : Addr), lk L g = some k → H a = none → H' a = some (.lst (row.map fun (x : Nat) => V.int (x : Nat))) → RowTo near zs s row g k → row.length ≤ 150001 → Q (.ref a) H') ∧
  (¬ Both i j zs.length → E (.ref CS) none H)
theorem ok_way {f fG fI fC fS fF : Addr} {fd fdG fdI fdC fdS fdF : FuncData} (F : Fun K "way" "Web.way" sWay f fd) (T : Txt K mg C CL CS CN) (FI : Fun K "_is_stop" "_is_stop" sIsStop fI fdI) (bI : Binds K fdI ["stop", "count"] []) (gI : mg "_is_stop" = some (.ref fI))
    (FC : Fun K "_check_stop" "Web._check_stop" sCheckStop fC fdC) (bC : Binds K fdC ["self", "stop"] []) (mC : Meth K C "_check_stop" fC)
    (FS : Fun K "_search" "Web._search" sSearch fS fdS) (bS : Binds K fdS ["self", "start"] []) (mS : Meth K C "_search" fS)
    (FF : Fun K "_fill_level" "Web._fill_level" sFill fF fdF) (bF : Binds K fdF ["self", "level", "entries", "levels", "origins"] []) (mF : Meth K C "_fill_level" fF)
    (FG : Fun K "_search_goal" "Web._search_goal" sSearchGoal fG fdG) (bG : Binds K fdG ["self", "start", "goal"] []) (mG : Meth K C "_search_goal" fG) :
    FnOk P w K mg base (L2N.CX P w) 4 f fd ["self", "start", "goal"] (spWay C CS CN) := by
  have GG : FnOk P w K mg base (L2N.CX P w) 3 fG fdG ["self", "start", "goal"] (spSearchGoal C CS CN) := ok_searchGoal FG T FI bI gI FC bC mC FS bS mS FF bF mF
  refine okN F scWay (fun vs H Q E h => ?_) (fun cdv A outer s0 H vs Q E hr h => ?_)
  · obtain ⟨p, i, j, zs, lks, near, rfl, _⟩ := h
    rfl
  · obtain ⟨p, i, j, zs, lks, near, rfl, W, q1, q2⟩ := h
    obtain ⟨⟨dx, zl, ll, nl, h1, _⟩, _, _, hsm⟩ := id W
    refine ⟨_, pss_cons (ps_asg (pe_meth (pv 0) T.cl mG GG hr bG .nil (L2N.passes_call (W := fun cls d _ H => E cls d H) (L2N.takes_of rfl rfl rfl rfl) (fun _ _ _ _ h => h)) (pa_cons (pv 1) (pa_cons (pv 2) pa_nil))) (pg_tup rfl (pgs_cons (pg_name (i := 3) scWay.nd rfl (.inl rfl)) (pgs_cons (pg_name (i := 4) scWay.nd rfl (.inl rfl)) pgs_nil))))
      (pss_cons (ps_set (i := 5) scWay.nd rfl (.inl rfl) (pe_lst (pa_cons (pv 2) pa_nil)))
      (pss_cons (ps_while (passes_of rfl) (pt_cmpR op_ne (pe_ix ix_list (pv 5) (pe_un un_neg pe_int) (fun _ _ => rfl)) (pv 1) (nomark _))
        (pss_one (ps_expr (pe_bm PySem.F.plainAttrs_list PySem.F.slot_list_append PySem.F.type_list_append mt_append (pv 5) (pa_cons (pe_ix ix_list (pv 4) (pe_ix ix_list (pv 5) (pe_un un_neg pe_int) (fun _ _ => rfl)) (fun _ _ => rfl)) pa_nil)))))
      (pss_one (ps_ret (pe_revL (pv 5)))))), ?_⟩
    refine ⟨_, rfl, p, dx, _, rfl, h1, wf_no zl ll nl (by decide +kernel) (by decide +kernel) (by decide +kernel), _, rfl, _, rfl, p, i, j, zs, lks, near, rfl, W, fun s g ei ej hs hg L H' IL sm => ⟨fun e => ((q1 s g ei ej hs hg L H' IL sm).1 e), fun O r t k tp la oa ek nla noa htp hL hO IO ht => ?_⟩, q2⟩
    subst ei ej
    refine ⟨tp, _, rfl, SqT.of htp, rfl, _, _, rfl, _, _, rfl, rfl, ?_⟩
    refine ⟨_, rfl, by show 1 ≤ sizeLine; decide, fun rw nrw => ?_⟩
    have sr := same_upd (o := .lst [V.int (g : Nat)]) nrw
    have nrw0 := sm.free nrw
    obtain ⟨rg, _, _⟩ := IO.org g k ek
    refine ⟨fun m σ H2 => ∃ (R suf : List Nat) (c d kc : Nat), σ = [some (.ref p), some (.int s), some (.int g), some (.ref la), some (.ref oa), some (.ref rw)] ∧ m = r c ∧ Same H' H2 ∧ H2 rw = some (.lst ((R ++ [c]).map fun (x : Nat) => V.int (x : Nat))) ∧
        R.reverse = suf ∧ lk L c = some kc ∧ kc + d = k ∧ (∀ l kk, RowTo near zs s l c kk → RowTo near zs s (l ++ suf) g (kk + d)) ∧ R.length + r c ≤ r g,
      ⟨_, [], [], g, 0, k, rfl, rfl, sr, upd_same, rfl, ek, rfl, fun l kk x => by rw [List.append_nil]; exact x, by show 0 + r g ≤ r g; omega⟩, ?_⟩
    rintro m σ H2 ⟨R, suf, c, d, kc, rfl, rfl, s2', hR, hsuf, ec, hd, hrow, hlen⟩
    have alast : atI ((R ++ [c]).map fun (x : Nat) => V.int (x : Nat)) (-1) = some (.int (c : Nat)) := by
      rw [List.map_append]
      exact atI_last _ _
    obtain ⟨rc, oc, lc⟩ := IO.org c kc ec
    refine ⟨_, rfl, 1, rfl, rw, _, _, _, rfl, rfl, SqL.of hR, alast, _, rfl, rfl, _, rfl, ?_⟩
    refine ite2 (fun e => ?_) (fun e => ?_)
    · have nc : c ≠ s := fun z => nd_of e (by rw [z])
      obtain ⟨u, eu⟩ : ∃ u, lk O c = some u := by
        cases z : lk O c with
        | some u => exact ⟨u, rfl⟩
        | none =>
          rw [z] at oc
          exact absurd oc.1 nc
      rw [eu] at oc
      obtain ⟨ad, ku, eku, hku⟩ := oc
      have hcO : c < O.length := lk_lt eu
      have gO : atI (O.map optV) (c : Nat) = some (.int (u : Nat)) := at_of rfl (by rw [List.getElem?_map, lk_get hcO, eu]; rfl)
      have hru := lc u eu
      refine ⟨_, fun σ' H' z => z, ?_⟩
      refine ⟨_, rfl, .inl ⟨rfl, _, SqL.of hR⟩, _, rfl, _, rfl, 1, rfl, rw, _, _, _, rfl, rfl, SqL.of hR, alast, oa, _, _, _, rfl, rfl, SqL.of (s2' _ _ hO), gO, rw, _, _, rfl, rfl, hR, small_line (by rw [List.length_map, List.length_append]; show R.length + 1 ≤ _; omega), ?_⟩
      refine ⟨r u, hru, R ++ [c], c :: suf, u, d + wt zs u c, ku, rfl, rfl, upd_out s2' nrw, ?_, by rw [List.reverse_append, hsuf]; rfl, eku, by omega, fun l kk x => ?_, by rw [List.length_append]; show R.length + 1 + r u ≤ r g; omega⟩
      · rw [upd_same, List.map_append (l₂ := [u])]
        rfl
      · have z := hrow _ _ (RowTo.snoc x ad)
        rw [List.append_assoc] at z
        have e2 : kk + wt zs u c + d = kk + (d + wt zs u c) := by omega
        rw [e2] at z
        exact z
    · have ecs : c = s := by
        have z : V.int (c : Nat) = V.int (s : Nat) := d_of e
        have := V.int.inj z
        omega
      subst ecs
      have k1 : kc = 1 := by
        rw [IL.one] at ec
        cases ec
        rfl
      refine ⟨_, rfl, rw, _, rfl, SqL.of hR, fun a na => ?_⟩
      have s3 := same_upd (o := .lst ((R ++ [c]).map fun (x : Nat) => V.int (x : Nat)).reverse) na
      have er : ((R ++ [c]).map fun (x : Nat) => V.int (x : Nat)).reverse = ((c :: suf).map fun (x : Nat) => V.int (x : Nat)) := by
        rw [← List.map_reverse, List.reverse_append, hsuf]
        rfl
      have z := hrow [c] 1 .one
      have e2 : 1 + d = k := by omega
      rw [e2] at z
      refine (q1 c g rfl rfl hs hg L _ IL (sm.trans (s2'.trans s3))).2 k (c :: suf) a ek (sm.free (s2'.free na)) (by rw [upd_same, er]) z ?_
      have : suf.length = R.length := by rw [← hsuf, List.length_reverse]
      rw [List.length_cons]
      omega
end
end FW
namespace FW
open PySem PySem.Spec PyProof.Rows L2
/-! ### the law's helpers that several laws have -/
abbrev sCell : Stmt := top 14
abbrev sLinksBy : Stmt := top 15
theorem scCell : FnScope ["_law_script", "_law_k"] ["_law_script", "_law_k"] (defScope sCell) := ⟨rfl, rfl, rfl, by decide +kernel, rfl, by decide +kernel, by decide +kernel⟩
def cell (ns : List Int) (k : Nat) : Int := ns.getD k 0
/-- what the law's text asks of the built-ins -/
structure BT (mg : Str → Option Value) : Prop where
  len : mg "len" = none
  list : mg "list" = none
  range : mg "range" = none
  min : mg "min" = none
  int : mg "int" = none
def datO : Option Nat → PyData
  | none => .none
  | some k => .int (k : Nat)
theorem dp_opt {K : PySem.W.Frag} {H : Hp} (o : Option Nat) : Dp K H (optV o) (datO o) := by
  cases o with
  | none => exact .non
  | some k => exact .int _
theorem dps_opt {K : PySem.W.Frag} {H : Hp} : ∀ L : Lv, DpAll K H (L.map optV) (L.map datO)
  | [] => .nil
  | o :: L => .cons (dp_opt o) (dps_opt L)
theorem lay_opt : ∀ L : Lv, PyData.canLayAll0 (L.map datO) = true
  | [] => by simp [PyData.canLayAll0]
  | o :: L => by
    have ih := lay_opt L
    cases o <;> simpa [PyData.canLayAll0, PyData.canLay0, datO] using ih
theorem dep_opt : ∀ L : Lv, PyData.depthAll (L.map datO) = 0
  | [] => by simp [PyData.depthAll]
  | o :: L => by
    have ih := dep_opt L
    cases o <;> simpa [PyData.depthAll, PyData.depth, datO] using ih
theorem shaped_opt (L : Lv) : SeqAt.shaped (.list (L.map datO)) = true := by
  unfold SeqAt.shaped
  rw [Bool.and_eq_true_iff]
  refine ⟨by simpa [PyData.canLay0] using lay_opt L, decide_eq_true ?_⟩
  show PyData.depth (.list (L.map datO)) ≤ 64
  have : PyData.depth (.list (L.map datO)) = PyData.depthAll (L.map datO) + 1 := by simp [PyData.depth]
  rw [this, dep_opt]
  decide
theorem eqv_opt (L : Lv) : PyData.eqv (.list (L.map datO)) (.list (L.map datO)) = true := SeqAt.eqv_refl _ (by simpa [PyData.canLay0] using lay_opt L)
section
variable {P : Program} {w : World} {K : PySem.W.Frag} {mg : Str → Option Value} {base : Heap}
def spCell (K : PySem.W.Frag) : L2.Sp := fun vs H Q _ => ∃ (a : Addr) (ns : List Int) (k : Nat), vs = [.ref a, .int k] ∧ SqL K H a (ns.map V.int) ∧ Q (.int (cell ns k)) H
theorem ok_cell {f : Addr} {fd : FuncData} (F : Fun K "_law_cell_at" "_law_cell_at" sCell f fd) (B : mg "len" = none) : FnOk P w K mg base CX0 1 f fd ["_law_script", "_law_k"] (spCell K) := by
  refine F.ok scCell (fun vs H Q E h => ?_) (fun cdv A outer s H vs Q E hr h => ?_)
  · obtain ⟨a, ns, k, rfl, _⟩ := h
    rfl
  · obtain ⟨a, ns, k, rfl, hS, q⟩ := h
    refine ⟨_, pss_cons (ps_if (pt_cmpR op_lt (pv 1) (pe_callB call_len_seq (by rfl) B PySem.boot_len (pa_cons (pv 0) pa_nil)) (nomark _)) (pss_one (ps_ret (pe_ix ix_list (pv 0) (pv 1) (fun _ _ => rfl)))) pss_nil)
      (pss_one (ps_ret pe_int)), ?_⟩
    refine ⟨_, rfl, _, rfl, a, _, rfl, .inl hS, _, _, rfl, rfl, _, rfl, ?_⟩
    rw [List.length_map]
    refine ite2 (fun e => ?_) (fun e => ?_)
    · have hk : k < ns.length := Int.ofNat_lt.mp (of_decide_eq_true e)
      have eg : ns[k]? = some (cell ns k) := by
        unfold cell
        rw [List.getD_eq_getElem?_getD, List.getElem?_eq_getElem hk]
        rfl
      exact ⟨_, rfl, _, rfl, a, _, _, _, rfl, rfl, hS, at_of (j := k) rfl (by rw [List.getElem?_map, eg]; rfl), q⟩
    · have hk : ns.length ≤ k := by
        have : ¬ ((k : Int) < ns.length) := fun z => e (decide_eq_true z)
        omega
      have eg : cell ns k = 0 := by
        unfold cell
        rw [List.getD_eq_getElem?_getD, List.getElem?_eq_none hk]
        rfl
      rw [eg] at q
      exact q
end
end FW
namespace FW
open PySem PySem.Spec PyProof.Rows L2
/-! ### a refusal that is handled is handed to a def, which asks what kind it is -/
section
variable {P : Program} {w : World} {K : PySem.W.Frag} {mg : Str → Option Value} {base : Heap}
/-- what a def is told of the refusal that is handled: its place, its class, its dict -/
abbrev SpE := Addr → Value → Option Addr → List V → Hp → VK → Prop
structure FnE (P : Program) (w : World) (K : PySem.W.Frag) (mg : Str → Option Value) (base : Heap) (k : Nat) (f : Addr) (fd : FuncData) (ps : List Str) (sp : SpE) : Prop where
  len : ∀ a cls d vs H Q, sp a cls d vs H Q → vs.length = ps.length
  run : ∀ (A : Around) (outer : List Env) (s : Shared) (H : Hp) (args : Args) (us : List Value) (vs : List V) (Q : VK) (a : Addr) (oe : Obj) (cls : Value) (d : Option Addr),
    L2H.RoomH k A → L2N.Zn cls d oe → (∃ fl, oe.data = .fields fl) → L2H.PinOk outer H s (a, oe) → Env0 P w K mg base A outer s H → BindsTo s fd args (ps.zip us) → Vals vs us → sp a cls d vs H Q →
    codeAny (model P w) A (.call (.ref f) args) (CR CX0 outer P w H s Q E0) s
theorem okE {x qual : Str} {st : Stmt} {f : Addr} {fd : FuncData} {N ps : List Str} {k : Nat} {sp : SpE} (F : Fun K x qual st f fd) (S : FnScope N ps (defScope st)) (len : ∀ a cls d vs H Q, sp a cls d vs H Q → vs.length = ps.length)
    (body : ∀ (cdv : Value) (A : Around) (outer : List Env) (s : Shared) (H : Hp) (vs : List V) (Q : VK) (a : Addr) (oe : Obj) (cls : Value) (d : Option Addr), L2H.RoomH k (A.deeper (envOfC qual (defScope st) s.heap.objs.size f cdv)) →
      L2N.Zn cls d oe → (∃ fl, oe.data = .fields fl) → sp a cls d vs H Q →
      ∃ t, PSs (L2H.cxH CX0 P w K mg base N qual (defScope st) f cdv A outer s H E0 (a, oe)) (defBody st) t ∧ t { nx := fun _ H' => Q .non H', rt := Q } (L2.start N vs) H) :
    FnE P w K mg base (k + 1) f fd ps sp := by
  obtain ⟨_, _, _, _, _, _, cdv, _, _, rfl, at_f, code⟩ := F.ex
  constructor
  · exact len
  intro A outer s H args us vs Q a oe cls d room zn flds pin env0 binds vals promised
  have count := len _ _ _ _ _ _ promised
  have kept_in : K.In s.heap := env0.mod.kin.keeps fun b o there => (env0.bs b o there).1
  have no_limit : s.heap.NoLimit := env0.mod.nolimit.keeps fun b o there => (env0.bs b o there).1
  have kinds : ∀ y ∈ ps.zip us, (defScope st).names.lookup y.1 = some .local ∨ ((defScope st).names.lookup y.1 = some .cell ∧ ((cellsFrom (s.heap.objs.size + 1) (defScope st).names []).lookup y.1).isSome = true) := by
    rintro ⟨n, v⟩ both
    rcases S.par n (List.of_mem_zip both).1 with is_local | is_cell
    · exact .inl is_local
    · exact .inr ⟨is_cell, PySem.W.cellsFrom_some _ _ _ (.inl is_cell)⟩
  refine codeAny_call_function room.depth (kept_in _ _ at_f) rfl S.co S.gen rfl (PySem.W.codeRec_of kept_in code) (binds _ _ _ _ ?_)
  refine wpAny_newFunctionEnv_cells S.kind kinds fun env is_env made begun => ?_
  subst is_env
  refine ⟨no_limit.keeps begun.toInCall.keep, codeAny_func ?_⟩
  obtain ⟨t, term, reading⟩ := body cdv A outer s H vs Q a oe cls d (room.deeper _) zn flds promised
  have inv : Inv (L2H.cxH CX0 P w K mg base N qual (defScope st) f cdv A outer s H E0 (a, oe)) [] (L2.start N vs) H made := L2H.inv_startH S pin env0 count vals begun
  refine wpAny_mono (term.run [] made (L2.start N vs) H _ inv reading) (fun flow behind told => ?_) fun _ _ told => told
  have leave : ∀ {σ' : L2.St} {H' : Hp} {v : V} {u : Value}, Inv (L2H.cxH CX0 P w K mg base N qual (defScope st) f cdv A outer s H E0 (a, oe)) [] σ' H' behind → RelV v u → Q v H' → CE outer P w H s Q u behind := by
    intro σ' H' v u inv' rel wish
    exact ⟨v, H', inv'.os, inv'.bare, inv'.base, inv'.hok, rel, wish⟩
  match flow, told with
  | .ret u, ⟨v, σ', H', inv', rel, wish⟩ => exact leave inv' rel wish
  | .next, ⟨σ', H', inv', wish⟩ => exact leave (v := V.non) (u := Value.none) inv' rfl wish
  | .brk, ⟨_, _, _, no⟩ => exact no.elim
  | .cont, ⟨_, _, _, no⟩ => exact no.elim
/-- f(e) within an except suite, e the refusal -/
theorem pe_callE {X : Cx} {k : Nat} {f a : Addr} {fd : FuncData} {ps : List Str} {sp : SpE} {x : Str} {q pos : Pos} {e : Expr} {t : TA} {oe : Obj} {cls : Value} {d : Option Addr} {pn : List (Addr × Obj)} (F : FnE X.prog X.w X.K X.mg X.base k f fd ps sp) (hr : L2H.RoomH k X.A)
    (hz : L2N.Zn cls d oe) (hf : ∃ fl, oe.data = .fields fl) (hg : Gl X x) (hm : X.mg x = some (.ref f)) (hk : PySem.W.keepIn X.K (.ref f) = true) (hb : Binds X.K fd ps [])
    (ha : PA (X.suite a ((a, oe) :: pn)) [e] t) (hdb : (x == ("__debug__" : Str)) = false := by decide) (he : starEach [e] (X.suite a ((a, oe) :: pn)).env = (false, eval e (X.suite a ((a, oe) :: pn)).env) :: starEach [] (X.suite a ((a, oe) :: pn)).env := by rfl)
    (hpl : (backTo pos (starEach [] (X.suite a ((a, oe) :: pn)).env)).any (·.1) = false := by rfl) : PE (X.suite a ((a, oe) :: pn)) (.Call (.Name x q) [e] [] pos) (fun σ H Q => t σ H fun vs H1 => sp a cls d vs H1 Q) := by
  constructor
  intro pins s σ H Q inv reading
  refine wpAny_Call_Name_kw (ld_glob inv hg hm ?_ hdb)
  refine PySem.W.callWith_K (h₀ := X.base) inv.ok.mod.kin hk (thn (ha.run pos pins s σ H _ inv reading) fun us behind ⟨vs, H1, inv1, rel, promised⟩ => ⟨inv1.kIn, ?_⟩) he hpl
  have count : us.length = ps.length := by
    rw [← rel.length]
    exact F.len _ _ _ _ _ _ promised
  have binds := hb behind us inv1.kIn (by rw [List.append_nil]; exact count)
  rw [List.append_nil] at binds
  obtain ⟨there, free, not_local, not_frame, no_cell⟩ := inv1.pin (a, oe) (List.mem_append_left _ List.mem_cons_self)
  have pin : L2H.PinOk (X.suite a ((a, oe) :: pn)).stack H1 behind (a, oe) := ⟨there, free, fun is_in => (List.mem_cons.mp (inv1.stkSub a is_in)).elim not_local not_frame, no_cell⟩
  refine wpAny_call (codeAny_mono (F.run _ _ behind H1 ⟨us, []⟩ us vs Q a oe cls d ⟨hr.dp, hr.un⟩ hz hf pin inv1.env0 binds rel promised) fun result after told => ?_)
  match result, told with
  | .error _, no => exact no.elim
  | .ok (.ret _), told => exact inv1.after told
  | .ok .next, no => exact no.elim
  | .ok .brk, no => exact no.elim
  | .ok .cont, no => exact no.elim
/-- isinstance(e, c), e the refusal that such a def was handed -/
theorem call_isP {X : Cx} {a : Addr} {oe : Obj} {cls : Value} {d : Option Addr} (hp : (a, oe) ∈ X.pn) (hz : Zc cls d oe) (hf : ∃ fl, oe.data = .fields fl) :
    CallR X (.builtin "isinstance") (fun xs H Q => ∃ (D : Addr) (c : V) (cv : Value) (b : Bool), cls = .ref D ∧ d = none ∧ ExcC X.K D ∧ xs = [.ref a, c] ∧ (∀ u, RelV c u → u = cv) ∧ PySem.W.kitOne X.K (.ref D) cv = some b ∧ Q (.bl b) H) := by
  intro pins s σ H xs us Q inv vals reading
  obtain ⟨D, c, cv, b, rfl, rfl, C, rfl, only, answer, wish⟩ := reading
  obtain ⟨there, _⟩ := inv.pin (a, oe) (List.mem_append_left _ hp)
  obtain ⟨oc, od, data, slots⟩ := oe
  obtain ⟨fl, is_fl⟩ := hf
  obtain ⟨is_cls, is_dict⟩ := hz
  dsimp only at is_cls is_dict is_fl
  subst is_cls is_dict is_fl
  cases vals with
  | cons rx more =>
    cases more with
    | cons rc none_more =>
      cases none_more
      cases rx
      obtain rfl := only _ rc
      have stands : PySem.W.InstAt s.heap a _ D none := ⟨there, rfl, rfl, trivial⟩
      exact PySem.W.kia_one (PySem.W.handS_kitx_exc C.hg C.hk C.hs C.hd C.ha C.hn C.ht C.hm) inv.kIn stands answer (fun z => nomatch z) fun tk => ⟨.bl b, H, inv.kept (t' := tk) fun _ _ z => z, rfl, wish⟩
/-- xs.count(y), flat items -/
theorem countP_eqU {y : V} : ∀ {xs : List V} {us : List Value}, Vals xs us → xs.all flatV = true → us.countP (eqU y) = xs.countP fun z => eqV z y
  | _, _, .nil, _ => rfl
  | x :: xs, u :: us, .cons r t, f => by
    rw [List.all_cons, Bool.and_eq_true] at f
    rw [List.countP_cons, List.countP_cons, countP_eqU t f.2, eqU_of r f.1]
theorem mt_countF {X : Cx} : MtR X "list.count" (fun x xs H Q => ∃ (p : Addr) (ys : List V) (y : V), x = .ref p ∧ xs = [y] ∧ SqL X.K H p ys ∧ flatV y = true ∧ ys.all flatV = true ∧ Q (.int (ys.countP fun z => eqV z y : Nat)) H) := by
  intro pins s σ H x xs v us Q inv rx rxs reading
  obtain ⟨p, ys, y, rfl, rfl, list, flat_y, flat_ys, wish⟩ := reading
  cases rx
  obtain ⟨uy, rfl, ry⟩ := rxs.one
  focus
    obtain ⟨items, vals, ⟨⟨_, dd, _, sl⟩, n, there, is_list, _, is_data⟩, _⟩ := inv.list list
    simp only at is_list is_data
    subst is_list is_data
    have counted := countP_eqU (y := y) vals flat_ys
    refine call_meets PySem.F.slot_list_count ⟨_, there, rfl⟩ PySem.F.entry_list_count (PySem.F.args_list_count_2 _ _) (SeqAt.list_countAt p items.toArray n dd sl uy (eqU y))
      ⟨there, fun u is_in => mem_eqAt ry flat_y vals flat_ys u (by simpa using is_in), .int (ys.countP fun z => eqV z y : Nat), H, inv.tok _, ⟨s.toks, ?_⟩, wish⟩
    rw [← counted]
/-! ### _law_kind -/
abbrev sKind : Stmt := top 17
theorem scKind : FnScope ["_law_e", "_law_kinds"] ["_law_e"] (defScope sKind) := ⟨rfl, rfl, rfl, by decide +kernel, rfl, by decide +kernel, by decide +kernel⟩
/-- the class at D is the j-th of the six kinds, and no other -/
structure KindT (K : PySem.W.Frag) (c0 c1 c2 c3 c4 c5 D : Addr) (j : Nat) : Prop where
  ex : ExcC K D
  k0 : PySem.W.kitOne K (.ref D) (.ref c0) = some (decide (j = 0))
  k1 : PySem.W.kitOne K (.ref D) (.ref c1) = some (decide (j = 1))
  k2 : PySem.W.kitOne K (.ref D) (.ref c2) = some (decide (j = 2))
  k3 : PySem.W.kitOne K (.ref D) (.ref c3) = some (decide (j = 3))
  k4 : PySem.W.kitOne K (.ref D) (.ref c4) = some (decide (j = 4))
  k5 : PySem.W.kitOne K (.ref D) (.ref c5) = some (decide (j = 5))
  kv : PySem.W.kitOne K (.ref D) (.type "ValueError") = some true
  lt : j < 6
structure KG (mg : Str → Option Value) (c0 c1 c2 c3 c4 c5 : Addr) : Prop where
  g0 : mg "BadLink" = some (.ref c0)
  g1 : mg "BadStop" = some (.ref c1)
  g2 : mg "NoWay" = some (.ref c2)
  g3 : mg "BadPrices" = some (.ref c3)
  g4 : mg "BadZones" = some (.ref c4)
  g5 : mg "PastDay" = some (.ref c5)
  isi : mg "isinstance" = none
  ve : mg "ValueError" = none
def kinds (j : Nat) : List V := [.bl (decide (j = 0)), .bl (decide (j = 1)), .bl (decide (j = 2)), .bl (decide (j = 3))] ++ [.bl (decide (j = 4)), .bl (decide (j = 5))]
theorem kinds_all : ∀ j, j < 6 → ((kinds j).countP fun z => eqV z (.bl true)) = 1 ∧ (kinds j)[j]? = some (.bl true) ∧ (kinds j).all flatV = true ∧ ∀ (m : Nat) (z : V), m < j → (kinds j)[m]? = some z → eqV z (.bl true) = false
  | 0, _ => ⟨rfl, rfl, rfl, fun m z h => by omega⟩
  | 1, _ => ⟨rfl, rfl, rfl, fun m z h e => by
    match m, h, e with
    | 0, _, e => cases e; rfl⟩
  | 2, _ => ⟨rfl, rfl, rfl, fun m z h e => by
    match m, h, e with
    | 0, _, e => cases e; rfl
    | 1, _, e => cases e; rfl⟩
  | 3, _ => ⟨rfl, rfl, rfl, fun m z h e => by
    match m, h, e with
    | 0, _, e => cases e; rfl
    | 1, _, e => cases e; rfl
    | 2, _, e => cases e; rfl⟩
  | 4, _ => ⟨rfl, rfl, rfl, fun m z h e => by
    match m, h, e with
    | 0, _, e => cases e; rfl
    | 1, _, e => cases e; rfl
    | 2, _, e => cases e; rfl
    | 3, _, e => cases e; rfl⟩
  | 5, _ => ⟨rfl, rfl, rfl, fun m z h e => by
    match m, h, e with
    | 0, _, e => cases e; rfl
    | 1, _, e => cases e; rfl
    | 2, _, e => cases e; rfl
    | 3, _, e => cases e; rfl
    | 4, _, e => cases e; rfl⟩
  | j + 6, h => by omega
def spKind (K : PySem.W.Frag) (c0 c1 c2 c3 c4 c5 : Addr) : SpE := fun a cls d vs H Q => vs = [.ref a] ∧ ∃ (D : Addr) (j : Nat), cls = .ref D ∧ d = none ∧ KindT K c0 c1 c2 c3 c4 c5 D j ∧ ∀ H', Same H H' → Q (.int (j : Nat)) H'
theorem ok_kind {f c0 c1 c2 c3 c4 c5 : Addr} {fd : FuncData} (F : Fun K "_law_kind" "_law_kind" sKind f fd) (G : KG mg c0 c1 c2 c3 c4 c5) : FnE P w K mg base 1 f fd ["_law_e"] (spKind K c0 c1 c2 c3 c4 c5) := by
  refine okE F scKind (fun a cls d vs H Q h => ?_) (fun cdv A outer s0 H vs Q a oe cls d hr hz hf h => ?_)
  · obtain ⟨rfl, _⟩ := h
    rfl
  · obtain ⟨rfl, D, j, ec, ed, T, q⟩ := h
    refine ⟨_, pss_cons (ps_set (i := 1) scKind.nd rfl (.inl rfl) (pe_lst
        (pa_cons (pe_callB (call_isP List.mem_cons_self hz.zc hf) (by rfl) G.isi boot_isinstance (pa_cons (pv 0) (pa_cons (pe_glob (v := .ref c0) (by rfl) G.g0 rfl) pa_nil)))
        (pa_cons (pe_callB (call_isP List.mem_cons_self hz.zc hf) (by rfl) G.isi boot_isinstance (pa_cons (pv 0) (pa_cons (pe_glob (v := .ref c1) (by rfl) G.g1 rfl) pa_nil)))
        (pa_cons (pe_callB (call_isP List.mem_cons_self hz.zc hf) (by rfl) G.isi boot_isinstance (pa_cons (pv 0) (pa_cons (pe_glob (v := .ref c2) (by rfl) G.g2 rfl) pa_nil)))
        (pa_cons (pe_callB (call_isP List.mem_cons_self hz.zc hf) (by rfl) G.isi boot_isinstance (pa_cons (pv 0) (pa_cons (pe_glob (v := .ref c3) (by rfl) G.g3 rfl) pa_nil))) pa_nil))))))
      (pss_cons (ps_set (i := 1) scKind.nd rfl (.inl rfl) (pe_op op_cat (pv 1) (pe_lst
        (pa_cons (pe_callB (call_isP List.mem_cons_self hz.zc hf) (by rfl) G.isi boot_isinstance (pa_cons (pv 0) (pa_cons (pe_glob (v := .ref c4) (by rfl) G.g4 rfl) pa_nil)))
        (pa_cons (pe_callB (call_isP List.mem_cons_self hz.zc hf) (by rfl) G.isi boot_isinstance (pa_cons (pv 0) (pa_cons (pe_glob (v := .ref c5) (by rfl) G.g5 rfl) pa_nil))) pa_nil)))))
      (pss_cons (ps_if (PW.pt (pw_or (pt_not (pt_val (pe_callB (call_isP List.mem_cons_self hz.zc hf) (by rfl) G.isi boot_isinstance (pa_cons (pv 0) (pa_cons (pe_bltn (v := .ty "ValueError") (by rfl) G.ve (by decide +kernel) rfl) pa_nil)))))
          (pw_or1 (pt_cmpR op_ne (pe_bm PySem.F.plainAttrs_list PySem.F.slot_list_count PySem.F.type_list_count mt_countF (pv 1) (pa_cons pe_bl pa_nil)) pe_int (nomark _))))) (pss_one (ps_ret (pe_un un_neg pe_int))) pss_nil)
      (pss_one (ps_ret (pe_bm PySem.F.plainAttrs_list PySem.F.slot_list_index PySem.F.type_list_index mt_index (pv 1) (pa_cons pe_bl pa_nil)))))), ?_⟩
    obtain ⟨kc, ka, kf, kn⟩ := kinds_all j T.lt
    have cv : ∀ (c : Addr) (u : Value), RelV (.ref c) u → u = .ref c := fun c u r => r
    refine ⟨_, rfl, D, _, _, _, ec, ed, T.ex, rfl, cv _, T.k0, ?_⟩
    refine ⟨_, rfl, D, _, _, _, ec, ed, T.ex, rfl, cv _, T.k1, ?_⟩
    refine ⟨_, rfl, D, _, _, _, ec, ed, T.ex, rfl, cv _, T.k2, ?_⟩
    refine ⟨_, rfl, D, _, _, _, ec, ed, T.ex, rfl, cv _, T.k3, by show 4 ≤ sizeLine; decide, fun l1 n1 => ?_⟩
    have s1 : Same H _ := same_upd (o := .lst [V.bl (decide (j = 0)), .bl (decide (j = 1)), .bl (decide (j = 2)), .bl (decide (j = 3))]) n1
    refine ⟨_, rfl, ?_⟩
    refine ⟨_, rfl, D, _, _, _, ec, ed, T.ex, rfl, cv _, T.k4, ?_⟩
    refine ⟨_, rfl, D, _, _, _, ec, ed, T.ex, rfl, cv _, T.k5, by show 2 ≤ sizeLine; decide, fun l2 n2 => ?_⟩
    have s2 := s1.trans (same_upd (o := .lst [V.bl (decide (j = 4)), .bl (decide (j = 5))]) n2)
    refine ⟨l1, l2, _, _, rfl, rfl, by rw [upd_ne (ne_of_none upd_same n2), upd_same], upd_same, by show 6 ≤ sizeLine; decide, fun l3 n3 => ?_⟩
    have s3 := s2.trans (same_upd (o := .lst (kinds j)) n3)
    obtain ⟨H3, e3⟩ : ∃ H3, H3 = upd (upd (upd H l1 (.lst [V.bl (decide (j = 0)), .bl (decide (j = 1)), .bl (decide (j = 2)), .bl (decide (j = 3))])) l2 (.lst [V.bl (decide (j = 4)), .bl (decide (j = 5))])) l3 (.lst (kinds j)) := ⟨_, rfl⟩
    have h3 : H3 l3 = some (.lst (kinds j)) := by rw [e3, upd_same]
    rw [← e3] at s3
    show tSeq _ _ _ _ (upd (upd (upd H l1 _) l2 _) l3 (.lst (kinds j)))
    rw [← e3]
    clear e3
    refine ⟨_, rfl, D, _, _, _, ec, ed, T.ex, rfl, fun u r => r, T.kv, true, rfl, ?_⟩
    refine iteF ?_
    refine ⟨_, rfl, .inl ⟨rfl, _, SqL.of h3⟩, l3, _, _, rfl, rfl, SqL.of h3, rfl, kf, rfl, _, rfl, ?_⟩
    rw [kc]
    refine iteNS rfl ?_
    exact ⟨_, rfl, .inl ⟨rfl, _, SqL.of h3⟩, l3, _, _, j, _, rfl, rfl, SqL.of h3, rfl, kf, ka, rfl, kn, q H3 s3⟩
end
end FW
namespace FW
open PySem PySem.Spec PyProof.Rows L2
abbrev sWrong : Stmt := top 16
abbrev sMade : Stmt := top 18
abbrev sAny : Stmt := top 19
abbrev sAsked : Stmt := top 20
abbrev sStop : Stmt := top 21
abbrev sFields : Stmt := top 22
abbrev sLaw : Stmt := top 23
theorem scLinksBy : FnScope ["_law_script", "_law_first", "_law_many", "_law_links", "_law_k"] ["_law_script", "_law_first", "_law_many"] (defScope sLinksBy) := ⟨rfl, rfl, rfl, by decide +kernel, rfl, by decide +kernel, by decide +kernel⟩
theorem scWrong : FnScope ["_law_cell", "_law_many", "_law_far", "_law_stop_here"] ["_law_cell", "_law_many"] (defScope sWrong) := ⟨rfl, rfl, rfl, by decide +kernel, rfl, by decide +kernel, by decide +kernel⟩
theorem scMade : FnScope ["_law_zones", "_law_links"] ["_law_zones", "_law_links"] (defScope sMade) := ⟨rfl, rfl, rfl, by decide +kernel, rfl, by decide +kernel, by decide +kernel⟩
theorem scAny : FnScope ["_law_zones", "_law_links", "_law_e"] ["_law_zones", "_law_links"] (defScope sAny) := ⟨rfl, rfl, rfl, by decide +kernel, rfl, by decide +kernel, by decide +kernel⟩
theorem scAsked : FnScope ["_law_web", "_law_sort", "_law_start", "_law_goal", "_law_e"] ["_law_web", "_law_sort", "_law_start", "_law_goal"] (defScope sAsked) := ⟨rfl, rfl, rfl, by decide +kernel, rfl, by decide +kernel, by decide +kernel⟩
theorem scStop : FnScope ["_law_cell", "_law_many"] ["_law_cell", "_law_many"] (defScope sStop) := ⟨rfl, rfl, rfl, by decide +kernel, rfl, by decide +kernel, by decide +kernel⟩
theorem scFields : FnScope ["_law_web", "_law_zones", "_law_links", "_law_link"] ["_law_web", "_law_zones", "_law_links"] (defScope sFields) := ⟨rfl, rfl, rfl, by decide +kernel, rfl, by decide +kernel, by decide +kernel⟩
theorem scLaw : FnScope ["_law_script", "_law_many", "_law_zones", "_law_links", "_law_good", "_law_handed", "_law_web", "_law_stop_here", "_law_ahead", "_law_start", "_law_goal", "_law_lost", "_law_sort", "_law_k"] ["_law_script"] (defScope sLaw) := ⟨rfl, rfl, rfl, by decide +kernel, rfl, by decide +kernel, by decide +kernel⟩
/-- the program's own class CF takes refusals of the class C -/
structure CatchF (K : PySem.W.Frag) (CF C : Addr) : Prop where
  b : PySem.W.subIn K (.ref CF) (.type "BaseException") = some true
  hd : PySem.W.hasDictIn K CF = true
  t : PySem.W.typeIn K (.ref CF) = some (.type "type")
  sub : PySem.W.subIn K (.ref C) (.ref CF) = some true
structure LT (mg : Str → Option Value) : Prop where
  len : mg "len" = none
  list : mg "list" = none
  range : mg "range" = none
  min : mg "min" = none
  max : mg "max" = none
  isi : mg "isinstance" = none
  tuple : mg "tuple" = none
section
variable {P : Program} {w : World} {K : PySem.W.Frag} {mg : Str → Option Value} {base : Heap} {C CL CS CN CF c3 c4 c5 : Addr}
theorem takes0N {X : Cx} : L2N.Takes X (fun _ _ _ _ => False) := by
  rintro _ _ ⟨_, _, _, _, _, _, _, _, _, _, _, _, _, _, _, _, z⟩
  exact z.elim
theorem passTry {X : Cx} {W : WX} (n : Nat) (tk : L2N.Takes X W) (hn : X.N.length = n := by rfl) : Passes (L2N.CX X.prog X.w) X (fun cls d H => ∀ σ : L2.St, σ.length = n → W cls d σ H) :=
  fun _ σ _ _ e s' I c => tk e s' (L2N.XE.of_call I (fun _ _ _ h => h σ (I.len.trans hn)) c)
theorem caughtF (c : CatchF K CF C) : PySem.W.exmOne K (.ref C) (.ref CF) = some true := PySem.W.exm_ref c.b c.hd c.t c.sub
/-! ### _law_links_by -/
def spLinksBy (K : PySem.W.Frag) : L2.Sp := fun vs H Q _ => ∃ (a : Addr) (ns : List Int) (n : Nat), vs = [.ref a, .int 5, .int n] ∧ SqL K H a (ns.map V.int) ∧ ns.length ≤ 63 ∧ n ≤ 9 ∧
  ∀ (lks : List Lk) (H' : Hp) (p : Addr), (∀ q, q ∈ lks → LinkOk n q) → lks.length ≤ 40 → Same H H' → H p = none → LinksAt H' p lks → Q (.ref p) H'
theorem rg5 : ∀ k : Fin 64, RgC 5 (((k.val : Nat) : Int) - 1) 2 ((k.val - 5) / 2) := by
  unfold RgC
  decide +kernel
theorem link_push {H : Hp} {l t : Addr} {x y : Int} {as : List Addr} {ps : List Lk} (hl : H l = some (.lst (as.map V.ref))) (ha : All2 (LinkAt H) as ps) (nt : H t = none) :
    LinksAt (upd (upd H t (.tup [.int x, .int y])) l (.lst (as.map V.ref ++ [.ref t]))) l (ps ++ [(x, y)]) := by
  have k : ∀ b o, H b = some o → b ≠ l → upd (upd H t (.tup [.int x, .int y])) l (.lst (as.map V.ref ++ [.ref t])) b = some o := fun b o e n => by
    rw [upd_ne n, upd_ne (ne_of_none e nt)]
    exact e
  refine ⟨as ++ [t], by rw [upd_same, List.map_append]; rfl, All2.app (ha.imp fun a b r => k _ _ r (ne_of r hl (by intro z; cases z))) (All2.one ?_)⟩
  show upd (upd H t _) l _ t = _
  rw [upd_ne (ne_of_none hl nt).symm, upd_same]
theorem ok_linksBy {f : Addr} {fd : FuncData} (F : Fun K "_law_links_by" "_law_links_by" sLinksBy f fd) (T : LT mg) : FnOk P w K mg base CX0 1 f fd ["_law_script", "_law_first", "_law_many"] (spLinksBy K) := by
  refine F.ok scLinksBy (fun vs H Q E h => ?_) (fun cdv A outer s H vs Q E hr h => ?_)
  · obtain ⟨a, ns, n, rfl, _⟩ := h
    rfl
  · obtain ⟨a, ns, n, rfl, hS, h63, hn9, q⟩ := h
    refine ⟨_, pss_cons (ps_set (i := 3) scLinksBy.nd rfl (.inl rfl) (pe_lst pa_nil))
      (pss_cons (ps_if (pt_cmpR op_eq (pv 2) pe_int (nomark _)) (pss_one (ps_ret (pv 3))) pss_nil)
      (pss_cons (ps_for PassesOwn.never rfl (pi_range3 (by rfl) T.range (pa_cons (pv 1) (pa_cons (pe_op op_sub (pe_callB (call_min2 rfl) (by rfl) T.min (by decide +kernel) (pa_cons (pe_callB call_len_seq (by rfl) T.len PySem.boot_len (pa_cons (pv 0) pa_nil)) (pa_cons pe_int pa_nil))) pe_int) (pa_cons pe_int pa_nil))))
          (pg_name (i := 4) scLinksBy.nd rfl (.inl rfl))
        (pss_one (ps_if (pt_cmpR op_ne (pe_op op_mod (pe_ix ix_list (pv 0) (pv 4) (fun _ _ => rfl)) (pv 2)) (pe_op op_mod (pe_ix ix_list (pv 0) (pe_op op_add (pv 4) pe_int) (fun _ _ => rfl)) (pv 2)) (nomark _))
          (pss_one (ps_expr (pe_bm PySem.F.plainAttrs_list PySem.F.slot_list_append PySem.F.type_list_append mt_append (pv 3)
            (pa_cons (pe_tup (pa_cons (pe_op op_mod (pe_ix ix_list (pv 0) (pv 4) (fun _ _ => rfl)) (pv 2)) (pa_cons (pe_op op_mod (pe_ix ix_list (pv 0) (pe_op op_add (pv 4) pe_int) (fun _ _ => rfl)) (pv 2)) pa_nil))) pa_nil)))) pss_nil)))
      (pss_one (ps_ret (pv 3))))), ?_⟩
    refine ⟨Nat.zero_le _, fun l nl => ?_⟩
    have s1 : Same H (upd H l (.lst [])) := same_upd nl
    refine ⟨_, rfl, rfl, _, rfl, ?_⟩
    refine ite2 (fun e => ?_) (fun e => ?_)
    · exact ⟨_, rfl, q [] _ l (by simp) (by decide) s1 nl ⟨[], upd_same, .nil⟩⟩
    have np : (0 : Int) < n := by
      have : ¬ (n : Int) = 0 := fun z => e (decide_eq_true (by rw [z]))
      omega
    have hrg := rg5 ⟨ns.length, by omega⟩
    have emin : (if (200 : Int) < ((ns.map V.int).length : Int) then (200 : Int) else ((ns.map V.int).length : Int)) - 1 = (ns.length : Int) - 1 := by
      rw [List.length_map, if_neg (by omega)]
    refine ⟨_, rfl, _, rfl, a, _, rfl, .inl (s1.seq hS), _, _, rfl, _, _, rfl, rfl, _, _, _, (ns.length - 5) / 2, rfl, by rw [emin]; exact hrg, ?_⟩
    refine for_rangeC (lo := 5) (c := 2) (n := (ns.length - 5) / 2) (fun i σ H2 => ∃ (y4 : Option V) (lks : List Lk), σ = [some (.ref a), some (.int 5), some (.int n), some (.ref l), y4] ∧ Same H H2 ∧ LinksAt H2 l lks ∧ (∀ q, q ∈ lks → LinkOk n q) ∧ lks.length ≤ i)
      ⟨none, [], rfl, s1, ⟨[], upd_same, .nil⟩, by simp, Nat.le_refl _⟩ ?_ ?_
    · rintro i σ H2 hi ⟨y4, lks, rfl, s2, ⟨as, hl, hA⟩, hok, hlen⟩
      have hk1 : 5 + 2 * i < ns.length := by omega
      have hk2 : 5 + 2 * i + 1 < ns.length := by omega
      obtain ⟨x, ex⟩ : ∃ x, ns[5 + 2 * i]? = some x := ⟨_, List.getElem?_eq_getElem hk1⟩
      obtain ⟨y, ey⟩ : ∃ y, ns[5 + 2 * i + 1]? = some y := ⟨_, List.getElem?_eq_getElem hk2⟩
      have g1 : atI (ns.map V.int) (5 + (i : Nat) * 2) = some (.int x) := at_of (j := 5 + 2 * i) (by omega) (by rw [List.getElem?_map, ex]; rfl)
      have g2 : atI (ns.map V.int) (5 + (i : Nat) * 2 + 1) = some (.int y) := at_of (j := 5 + 2 * i + 1) (by omega) (by rw [List.getElem?_map, ey]; rfl)
      have hS2 := s2.seq hS
      refine ⟨_, rfl, _, rfl, a, _, _, _, rfl, rfl, hS2, g1, _, rfl, _, _, rfl, rfl, np, _, rfl, _, rfl, _, _, rfl, rfl, a, _, _, _, rfl, rfl, hS2, g2, _, rfl, _, _, rfl, rfl, np, rfl, _, rfl, ?_⟩
      refine ite2 (fun e => ?_) (fun e => ?_)
      · have hne : x % n ≠ y % n := fun z => nd_of e (congrArg V.int z)
        refine ⟨_, rfl, .inl ⟨rfl, _, SqL.of hl⟩, _, rfl, _, rfl, a, _, _, _, rfl, rfl, hS2, g1, _, rfl, _, _, rfl, rfl, np, _, rfl, _, rfl, _, _, rfl, rfl, a, _, _, _, rfl, rfl, hS2, g2, _, rfl, _, _, rfl, rfl, np, by show 2 ≤ sizeLine; decide, fun t nt => ?_⟩
        refine ⟨l, _, _, rfl, rfl, by rw [upd_ne (ne_of_none hl nt)]; exact hl, small_line (by rw [List.length_map, hA.len]; omega), ?_⟩
        refine ⟨_, lks ++ [(x % n, y % n)], rfl, upd_out (s2.trans (same_upd nt)) nl, link_push hl hA nt, ?_, by rw [List.length_append]; show lks.length + 1 ≤ i + 1; omega⟩
        intro q m
        rcases List.mem_append.mp m with m | m
        · exact hok q m
        · rw [List.mem_singleton.mp m]
          exact ⟨⟨Int.emod_nonneg _ (by omega), Int.emod_lt_of_pos _ np⟩, ⟨Int.emod_nonneg _ (by omega), Int.emod_lt_of_pos _ np⟩, hne⟩
      · exact ⟨_, lks, rfl, s2, ⟨as, hl, hA⟩, hok, by omega⟩
    · rintro σ H2 ⟨y4, lks, rfl, s2, hL2, hok, hlen⟩
      exact ⟨_, rfl, q lks H2 l hok (by omega) s2 nl hL2⟩
/-! ### _law_wrong -/
def spWrong : L2.Sp := fun vs H Q _ => ∃ (c : Int) (n : Nat), vs = [.int c, .int n] ∧ n ≤ 9 ∧ ∀ (u v : Int) (t : Addr) (H' : Hp), ¬ LinkOk n (u, v) → Same H H' → H t = none → H' t = some (.tup [.int u, .int v]) → Q (.ref t) H'
theorem ok_wrong {f : Addr} {fd : FuncData} (F : Fun K "_law_wrong" "_law_wrong" sWrong f fd) (T : LT mg) : FnOk P w K mg base CX0 1 f fd ["_law_cell", "_law_many"] spWrong := by
  refine F.ok scWrong (fun vs H Q E h => ?_) (fun cdv A outer s H vs Q E hr h => ?_)
  · obtain ⟨c, n, rfl, _⟩ := h
    rfl
  · obtain ⟨c, n, rfl, hn, q⟩ := h
    refine ⟨_, pss_cons (ps_set (i := 2) scWrong.nd rfl (.inl rfl) pe_int)
      (C8.pss_cut (ps_if (pt_cmpR op_eq (pe_op op_mod (pe_op op_fdiv (pv 0) pe_int) pe_int) pe_int (nomark _)) (pss_one (ps_set (i := 2) scWrong.nd rfl (.inl rfl) (pe_op op_pow pe_int pe_int))) pss_nil)
      (pss_cons (ps_set (i := 3) scWrong.nd rfl (.inl rfl) (pe_op op_mod (pe_op op_fdiv (pv 0) pe_int) (pe_callB (call_max2 rfl) (by rfl) T.max (by decide +kernel) (pa_cons pe_int (pa_cons (pv 1) pa_nil)))))
      (pss_cons (ps_if (pt_cmpR op_eq (pe_op op_mod (pv 0) pe_int) pe_int (nomark _)) (pss_one (ps_ret (pe_tup (pa_cons (pv 3) (pa_cons (pe_op op_add (pe_op op_add (pv 1) (pv 2)) (pe_op op_mod (pe_op op_fdiv (pv 0) pe_int) pe_int)) pa_nil))))) pss_nil)
      (pss_cons (ps_if (pt_cmpR op_eq (pe_op op_mod (pv 0) pe_int) pe_int (nomark _)) (pss_one (ps_ret (pe_tup (pa_cons (pe_op op_sub (pe_un un_neg pe_int) (pv 2)) (pa_cons (pv 3) pa_nil))))) pss_nil)
      (pss_one (ps_ret (pe_tup (pa_cons (pv 3) (pa_cons (pv 3) pa_nil))))))))), ?_⟩
    refine ⟨fun σ H2 => H2 = H ∧ ∃ far : Int, 0 ≤ far ∧ σ = [some (.int c), some (.int n), some (.int far), none], ?_, ?_⟩
    · refine ⟨_, rfl, _, _, rfl, rfl, ⟨by decide, by decide⟩, _, _, rfl, rfl, by show (0 : Int) < 4; decide, rfl, _, rfl, ?_⟩
      refine ite2 (fun _ => ?_) (fun _ => ?_)
      · refine ⟨_, _, rfl, rfl, ⟨by decide, by decide, by decide⟩, rfl, 10 ^ (9 : Int).toNat, by decide, rfl⟩
      · exact ⟨rfl, 0, by decide, rfl⟩
    rintro σ H2 ⟨rfl, far, hfar, rfl⟩
    have ends : ∀ (u v : Int), ¬ LinkOk n (u, v) → ∀ p, H2 p = none → Q (.ref p) (upd H2 p (.tup [.int u, .int v])) := fun u v no p np => q u v p _ no (same_upd np) np upd_same
    have pos : (0 : Int) < if (n : Int) > 1 then (n : Int) else 1 := by
      split
      · omega
      · decide
    refine ⟨_, rfl, _, _, rfl, rfl, ⟨by decide, by decide⟩, _, rfl, 1, n, rfl, _, _, rfl, rfl, pos, ?_⟩
    refine ⟨_, rfl, _, _, rfl, rfl, by show (0 : Int) < 3; decide, rfl, _, rfl, ?_⟩
    refine ite2 (fun _ => ?_) (fun _ => ?_)
    · refine ⟨_, rfl, _, rfl, _, rfl, _, _, rfl, rfl, _, rfl, _, _, rfl, rfl, ⟨by decide, by decide⟩, _, _, rfl, rfl, by show (0 : Int) < 2; decide, _, _, rfl, rfl, by show 2 ≤ sizeLine; decide, ?_⟩
      refine ends _ _ fun z => ?_
      have : (n : Int) + far + c / 24 % 2 < n := z.2.1.2
      omega
    refine ⟨_, rfl, _, _, rfl, rfl, by show (0 : Int) < 3; decide, rfl, _, rfl, ?_⟩
    refine ite2 (fun _ => ?_) (fun _ => ?_)
    · refine ⟨1, rfl, _, rfl, _, _, rfl, rfl, _, rfl, by show 2 ≤ sizeLine; decide, ?_⟩
      refine ends _ _ fun z => ?_
      have : (0 : Int) ≤ -1 - far := z.1.1
      omega
    · refine ⟨_, rfl, _, rfl, by show 2 ≤ sizeLine; decide, ?_⟩
      exact ends _ _ fun z => z.2.2 rfl
/-! ### _law_made, _law_any_refusal -/
/-- the web at x is one of objects that are new since H -/
def Apart (C : Addr) (H H' : Hp) (x : Addr) (zs : List Int) (lks : List Lk) (near : List (List Nat)) : Prop :=
  ∀ H'' : Hp, (∀ b o, H' b = some o → (H b = none ∨ ∃ xs, o = .tup xs) → H'' b = some o) → WebAt C H'' x zs lks near
def spMade (C : Addr) : L2.Sp := fun vs H Q _ => ∃ (za la : Addr) (zs : List Int) (lks : List Lk), vs = [.ref za, .ref la] ∧ H za = some (.lst (zs.map V.int)) ∧ LinksAt H la lks ∧ 2 * lks.length + zs.length ≤ 100000 ∧
  ((∀ q, q ∈ lks → LinkOk zs.length q) → ∀ (near : List (List Nat)) (H' : Hp) (x : Addr), Same H H' → WebAt C H' x zs lks near → Apart C H H' x zs lks near → Q (.ref x) H') ∧
  ((∃ q, q ∈ lks ∧ ¬ LinkOk zs.length q) → ∀ H', Same H H' → Q .non H')
theorem made_new {C x dx : Addr} {H : Hp} (nx : H x = none) (ndx : H dx = none) (nex : dx ≠ x) : ∃ H1, H1 = upd (upd H dx (.own x)) x (.ins C dx []) ∧ Same H H1 ∧ H1 x = some (.ins C dx []) := by
  refine ⟨_, rfl, (same_upd ndx).trans (same_upd ?_), upd_same⟩
  rw [upd_ne nex.symm]
  exact nx
theorem ok_made {f fIn : Addr} {fd dIn : FuncData} (F : Fun K "_law_made" "_law_made" sMade f fd) (T : Txt K mg C CL CS CN) (cL : CatchF K CL CL) (mk : Mk K C fIn) (gW : mg "Web" = some (.ref C))
    (GI : FnOk P w K mg base (L2N.CX P w) 4 fIn dIn ["self", "zones", "links"] (spInit K C CL)) (bI : Binds K dIn ["self", "zones", "links"] []) : FnOk P w K mg base CX0 6 f fd ["_law_zones", "_law_links"] (spMade C) := by
  refine F.ok scMade (fun vs H Q E h => ?_) (fun cdv A outer s0 H vs Q E hr h => ?_)
  · obtain ⟨za, la, zs, lks, rfl, _⟩ := h
    rfl
  · obtain ⟨za, la, zs, lks, rfl, hza, hla, hb, q1, q2⟩ := h
    refine ⟨_, pss_one (L2N.ps_try_many rfl rfl takes0N (fun W pn xe tk _ => pss_one (ps_ret (pe_make mk GI hr (by rfl) gW bI .nil (passTry 2 tk) (pa_cons (pv 0) (pa_cons (pv 1) pa_nil)))))
      (L2N.HdsOk.cons ⟨rfl, by decide, .inl T.eL.g⟩ (fun a oe cls d pn _ _ => pss_one (ps_ret pe_non)) L2N.HdsOk.nil)), ?_⟩
    refine ⟨_, rfl, _, rfl, fun x dx nx ndx nex => ?_⟩
    obtain ⟨H1, e1, s1, hx1⟩ := made_new (C := C) nx ndx nex
    rw [← e1]
    clear e1
    refine ⟨x, dx, za, la, zs, lks, rfl, hx1, SqL.of (s1 _ _ hza), fun H' k => SqL.of (k _ _ (s1 _ _ hza) (ne_of_none hza nx)), hla.same s1, hb, fun ok near H5 kp W st => ⟨rfl, ?_⟩, fun bad H5 kp σ _ => ⟨true, caughtF cL, fun _ a _ => q2 bad H5 ?_, fun z => Bool.noConfusion z⟩⟩
    · refine q1 ok near H5 x (fun b o e => kp b o (s1 b o e) (ne_of_none e nx)) W fun H'' keep => st H'' fun b o e c => keep b o e ?_
      rcases c with c | c | c
      · exact .inl (s1.free c)
      · exact .inl (by rw [c]; exact nx)
      · exact .inr c
    · exact fun b o e => kp b o (s1 b o e) (ne_of_none e nx)
def spAny : L2.Sp := fun vs H Q _ => ∃ (za la : Addr) (zs : List Int) (lks : List Lk), vs = [.ref za, .ref la] ∧ H za = some (.lst (zs.map V.int)) ∧ LinksAt H la lks ∧ 2 * lks.length + zs.length ≤ 100000 ∧
  (∃ q, q ∈ lks ∧ ¬ LinkOk zs.length q) ∧ ∀ H', Same H H' → Q (.bl true) H'
theorem roomH {k j : Nat} {A : Around} (r : Room k A) (h : j ≤ k) : L2H.RoomH j A := L2H.roomH_of (r.mono h)
theorem ok_any {f fIn fK : Addr} {fd dIn dK : FuncData} (F : Fun K "_law_any_refusal" "_law_any_refusal" sAny f fd) (gF : mg "FareError" = some (.ref CF)) (cL : CatchF K CF CL) (kL : KindT K CL CS CN c3 c4 c5 CL 0) (mk : Mk K C fIn) (gW : mg "Web" = some (.ref C))
    (GI : FnOk P w K mg base (L2N.CX P w) 4 fIn dIn ["self", "zones", "links"] (spInit K C CL)) (bI : Binds K dIn ["self", "zones", "links"] [])
    (FK : Fun K "_law_kind" "_law_kind" sKind fK dK) (bK : Binds K dK ["_law_e"] []) (gK : mg "_law_kind" = some (.ref fK)) (KGs : KG mg CL CS CN c3 c4 c5) : FnOk P w K mg base CX0 6 f fd ["_law_zones", "_law_links"] spAny := by
  have GK : FnE P w K mg base 1 fK dK ["_law_e"] (spKind K CL CS CN c3 c4 c5) := ok_kind FK KGs
  refine F.ok scAny (fun vs H Q E h => ?_) (fun cdv A outer s0 H vs Q E hr h => ?_)
  · obtain ⟨za, la, zs, lks, rfl, _⟩ := h
    rfl
  · obtain ⟨za, la, zs, lks, rfl, hza, hla, hb, bad, q⟩ := h
    refine ⟨_, pss_cons (L2N.ps_try_as (i := 2) rfl rfl scAny.nd rfl rfl ⟨rfl, by decide, .inl gF⟩ takes0N
        (fun W pn xe tk _ => pss_one (ps_expr (pe_make mk GI hr (by rfl) gW bI .nil (passTry 3 tk) (pa_cons (pv 0) (pa_cons (pv 1) pa_nil)))))
        (fun a oe cls d pn hz hf => pss_one (ps_ret (pe_cmpR op_eq (pe_callE GK (roomH hr (by decide)) hz hf (by rfl) gK FK.kp bK (pa_cons (pv 2) pa_nil)) pe_int (nomark _)))))
      (pss_one (ps_ret pe_bl)), ?_⟩
    refine ⟨_, rfl, _, rfl, fun x dx nx ndx nex => ?_⟩
    obtain ⟨H1, e1, s1, hx1⟩ := made_new (C := C) nx ndx nex
    rw [← e1]
    clear e1
    refine ⟨x, dx, za, la, zs, lks, rfl, hx1, SqL.of (s1 _ _ hza), fun H' k => SqL.of (k _ _ (s1 _ _ hza) (ne_of_none hza nx)), hla.same s1, hb, fun ok near H5 kp W st => ?_, fun _ H5 kp σ len => ⟨true, caughtF cL, fun _ a na => ?_, fun z => Bool.noConfusion z⟩⟩
    · obtain ⟨q', m, no⟩ := bad
      exact absurd (ok q' m) no
    · have s5 : Same H H5 := fun b o e => kp b o (s1 b o e) (ne_of_none e nx)
      refine ⟨.ref a, List.getElem?_set_self (by rw [len]; decide), rfl, CL, 0, rfl, rfl, kL, fun H6 s6 => ⟨rfl, ?_⟩⟩
      exact q H6 (s5.trans s6)
/-! ### _law_asked -/
def spAsked (C : Addr) : L2.Sp := fun vs H Q _ => ∃ (x : Addr) (so i j : Int) (zs : List Int) (lks : List Lk) (near : List (List Nat)), vs = [.ref x, .int so, .int i, .int j] ∧ WebAt C H x zs lks near ∧
  ∀ (b : Bool) (H' : Hp), Same H H' → (so = 0 → (b = true ↔ ¬ (0 ≤ i ∧ i < zs.length))) → (so ≠ 0 → (b = true ↔ ¬ Both i j zs.length)) → Q (.bl b) H'
theorem ok_asked {f fLe fFe fWa fK : Addr} {fd dLe dFe dWa dK : FuncData} (F : Fun K "_law_asked" "_law_asked" sAsked f fd) (T : Txt K mg C CL CS CN) (gF : mg "FareError" = some (.ref CF)) (cS : CatchF K CF CS) (cN : CatchF K CF CN) (kS : KindT K CL CS CN c3 c4 c5 CS 1) (kN : KindT K CL CS CN c3 c4 c5 CN 2)
    (GLe : FnOk P w K mg base (L2N.CX P w) 3 fLe dLe ["self", "start"] (spLevels C CS)) (bLe : Binds K dLe ["self", "start"] []) (mLe : Meth K C "levels" fLe)
    (GFe : FnOk P w K mg base (L2N.CX P w) 4 fFe dFe ["self", "start", "goal"] (spFewest C CS CN)) (bFe : Binds K dFe ["self", "start", "goal"] []) (mFe : Meth K C "fewest" fFe)
    (GWa : FnOk P w K mg base (L2N.CX P w) 4 fWa dWa ["self", "start", "goal"] (spWay C CS CN)) (bWa : Binds K dWa ["self", "start", "goal"] []) (mWa : Meth K C "way" fWa)
    (FK : Fun K "_law_kind" "_law_kind" sKind fK dK) (bK : Binds K dK ["_law_e"] []) (gK : mg "_law_kind" = some (.ref fK)) (KGs : KG mg CL CS CN c3 c4 c5) : FnOk P w K mg base CX0 6 f fd ["_law_web", "_law_sort", "_law_start", "_law_goal"] (spAsked C) := by
  have GK : FnE P w K mg base 1 fK dK ["_law_e"] (spKind K CL CS CN c3 c4 c5) := ok_kind FK KGs
  refine F.ok scAsked (fun vs H Q E h => ?_) (fun cdv A outer s0 H vs Q E hr h => ?_)
  · obtain ⟨x, so, i, j, zs, lks, near, rfl, _⟩ := h
    rfl
  · obtain ⟨x, so, i, j, zs, lks, near, rfl, W, q⟩ := h
    obtain ⟨⟨dx, zl, ll, nl, h1, _⟩, _, _, _⟩ := id W
    refine ⟨_, pss_cons (L2N.ps_try_as (i := 4) rfl rfl scAsked.nd rfl rfl ⟨rfl, by decide, .inl gF⟩ takes0N
        (fun W pn xe tk _ => pss_one (ps_if (pt_cmpR op_eq (pv 1) pe_int (nomark _)) (pss_one (ps_expr (pe_meth (pv 0) T.cl mLe GLe (hr.mono (by decide)) bLe .nil (passTry 5 tk) (pa_cons (pv 2) pa_nil))))
          (pss_one (ps_if (pt_cmpR op_eq (pv 1) pe_int (nomark _)) (pss_one (ps_expr (pe_meth (pv 0) T.cl mFe GFe (hr.mono (by decide)) bFe .nil (passTry 5 tk) (pa_cons (pv 2) (pa_cons (pv 3) pa_nil)))))
            (pss_one (ps_expr (pe_meth (pv 0) T.cl mWa GWa (hr.mono (by decide)) bWa .nil (passTry 5 tk) (pa_cons (pv 2) (pa_cons (pv 3) pa_nil)))))))))
        (fun a oe cls d pn hz hf => pss_cons (ps_if (pt_cmpR op_eq (pe_callE GK (roomH hr (by decide)) hz hf (by rfl) gK FK.kp bK (pa_cons (pv 4) pa_nil)) pe_int (nomark _)) (pss_one (ps_ret pe_bl)) pss_nil)
          (pss_one (ps_ret (pe_or (pe_cmpR op_eq (pe_callE GK (roomH hr (by decide)) hz hf (by rfl) gK FK.kp bK (pa_cons (pv 4) pa_nil)) pe_int (nomark _)) (pe_one pe_non))))))
      (pss_one (ps_ret pe_bl)), ?_⟩
    refine ⟨_, rfl, rfl, _, rfl, ?_⟩
    refine ite2 (fun e => ?_) (fun e => ?_)
    · have so0 : so = 0 := V.int.inj (of_decide_eq_true e)
      refine ⟨_, rfl, x, dx, _, rfl, h1, wf_no zl ll nl (by decide +kernel) (by decide +kernel) (by decide +kernel), _, rfl, x, i, zs, lks, near, rfl, W, fun s es hs L H' la sm nla hla IL => ?_, fun no σ len => ⟨true, caughtF cS, fun _ a na => ?_, fun z => Bool.noConfusion z⟩⟩
      · exact q false H' sm (fun _ => ⟨fun z => Bool.noConfusion z, fun z => absurd ⟨by omega, by omega⟩ z⟩) (fun z => absurd so0 z)
      · focus
          refine ⟨.ref a, List.getElem?_set_self (by rw [len]; decide), rfl, CS, 1, rfl, rfl, kS, fun H6 s6 => ⟨rfl, _, rfl, ?_⟩⟩
          refine iteF ?_
          refine ⟨.ref a, List.getElem?_set_self (by rw [len]; decide), rfl, CS, 1, rfl, rfl, kS, fun H7 s7 => ⟨rfl, _, rfl, ?_⟩⟩
          refine iteT ?_
          exact q true H7 (s6.trans s7) (fun _ => ⟨fun _ => no, fun _ => rfl⟩) (fun z => absurd so0 z)
    have so0 : ¬ so = 0 := fun z => e (decide_eq_true (by rw [z]))
    refine ⟨_, rfl, rfl, _, rfl, ?_⟩
    refine ite2 (fun _ => ?_) (fun _ => ?_)
    · refine ⟨_, rfl, x, dx, _, rfl, h1, wf_no zl ll nl (by decide +kernel) (by decide +kernel) (by decide +kernel), _, rfl, _, rfl, x, i, j, zs, lks, near, rfl, W, fun s g es eg hs hg L H' IL sm => ⟨fun en σ len => ⟨true, caughtF cN, fun _ a na => ?_, fun z => Bool.noConfusion z⟩, fun k ek => ?_⟩, fun no σ len => ⟨true, caughtF cS, fun _ a na => ?_, fun z => Bool.noConfusion z⟩⟩
      · focus
          refine ⟨.ref a, List.getElem?_set_self (by rw [len]; decide), rfl, CN, 2, rfl, rfl, kN, fun H6 s6 => ⟨rfl, _, rfl, ?_⟩⟩
          refine iteT ?_
          exact q false H6 (sm.trans s6) (fun z => absurd z so0) (fun _ => ⟨fun z => Bool.noConfusion z, fun z => absurd ⟨⟨by omega, by omega⟩, ⟨by omega, by omega⟩⟩ z⟩)
      · exact q false H' sm (fun z => absurd z so0) (fun _ => ⟨fun z => Bool.noConfusion z, fun z => absurd ⟨⟨by omega, by omega⟩, ⟨by omega, by omega⟩⟩ z⟩)
      · focus
          refine ⟨.ref a, List.getElem?_set_self (by rw [len]; decide), rfl, CS, 1, rfl, rfl, kS, fun H6 s6 => ⟨rfl, _, rfl, ?_⟩⟩
          refine iteF ?_
          refine ⟨.ref a, List.getElem?_set_self (by rw [len]; decide), rfl, CS, 1, rfl, rfl, kS, fun H7 s7 => ⟨rfl, _, rfl, ?_⟩⟩
          refine iteT ?_
          exact q true H7 (s6.trans s7) (fun z => absurd z so0) (fun _ => ⟨fun _ => no, fun _ => rfl⟩)
    · refine ⟨_, rfl, x, dx, _, rfl, h1, wf_no zl ll nl (by decide +kernel) (by decide +kernel) (by decide +kernel), _, rfl, _, rfl, x, i, j, zs, lks, near, rfl, W, fun s g es eg hs hg L H' IL sm => ⟨fun en σ len => ⟨true, caughtF cN, fun _ a na => ?_, fun z => Bool.noConfusion z⟩, fun k row ra ek nra hra hrow hlen => ?_⟩, fun no σ len => ⟨true, caughtF cS, fun _ a na => ?_, fun z => Bool.noConfusion z⟩⟩
      · focus
          refine ⟨.ref a, List.getElem?_set_self (by rw [len]; decide), rfl, CN, 2, rfl, rfl, kN, fun H6 s6 => ⟨rfl, _, rfl, ?_⟩⟩
          refine iteT ?_
          exact q false H6 (sm.trans s6) (fun z => absurd z so0) (fun _ => ⟨fun z => Bool.noConfusion z, fun z => absurd ⟨⟨by omega, by omega⟩, ⟨by omega, by omega⟩⟩ z⟩)
      · exact q false H' sm (fun z => absurd z so0) (fun _ => ⟨fun z => Bool.noConfusion z, fun z => absurd ⟨⟨by omega, by omega⟩, ⟨by omega, by omega⟩⟩ z⟩)
      · focus
          refine ⟨.ref a, List.getElem?_set_self (by rw [len]; decide), rfl, CS, 1, rfl, rfl, kS, fun H6 s6 => ⟨rfl, _, rfl, ?_⟩⟩
          refine iteF ?_
          refine ⟨.ref a, List.getElem?_set_self (by rw [len]; decide), rfl, CS, 1, rfl, rfl, kS, fun H7 s7 => ⟨rfl, _, rfl, ?_⟩⟩
          refine iteT ?_
          exact q true H7 (s6.trans s7) (fun z => absurd z so0) (fun _ => ⟨fun _ => no, fun _ => rfl⟩)
/-! ### _law_stop, _law_fields -/
def spStop : L2.Sp := fun vs H Q _ => ∃ (c : Int) (n : Nat), vs = [.int c, .int n] ∧ n ≤ 9 ∧ ∀ z : Int, Q (.int z) H
theorem ok_stop {f : Addr} {fd : FuncData} (F : Fun K "_law_stop" "_law_stop" sStop f fd) : FnOk P w K mg base CX0 1 f fd ["_law_cell", "_law_many"] spStop := by
  refine F.ok scStop (fun vs H Q E h => ?_) (fun cdv A outer s H vs Q E hr h => ?_)
  · obtain ⟨c, n, rfl, _⟩ := h
    rfl
  · obtain ⟨c, n, rfl, hn, q⟩ := h
    refine ⟨_, pss_cons (ps_if (pt_cmpR op_eq (pe_op op_mod (pv 0) pe_int) pe_int (nomark _)) (pss_one (ps_ret (pe_op op_mul (pe_op op_sub (pe_op op_mul (pe_op op_mod (pe_op op_fdiv (pv 0) pe_int) pe_int) pe_int) pe_int)
        (pe_op op_add (pe_op op_pow pe_int pe_int) (pe_op op_mod (pe_op op_fdiv (pv 0) pe_int) pe_int))))) pss_nil)
      (pss_one (ps_ret (pe_op op_sub (pe_op op_mod (pe_op op_fdiv (pv 0) pe_int) (pe_op op_add (pv 1) pe_int)) pe_int))), ?_⟩
    refine ⟨_, rfl, _, _, rfl, rfl, by show (0 : Int) < 4; decide, rfl, _, rfl, ?_⟩
    refine ite2 (fun _ => ?_) (fun _ => ?_)
    · exact ⟨_, rfl, _, _, rfl, rfl, ⟨by decide, by decide⟩, _, _, rfl, rfl, by show (0 : Int) < 2; decide, _, _, rfl, rfl, .inr ⟨by decide, by decide⟩, _, _, rfl, rfl, _, _, rfl, rfl, ⟨by decide, by decide, by decide⟩, _, rfl, _, _, rfl, rfl, ⟨by decide, by decide⟩, _, _, rfl, rfl, by show (0 : Int) < 100; decide, _, _, rfl, rfl, _, _, rfl, rfl, .inl ⟨by omega, by omega⟩, q _⟩
    · exact ⟨_, rfl, _, _, rfl, rfl, ⟨by decide, by decide⟩, _, rfl, _, _, rfl, rfl, _, _, rfl, rfl, by show (0 : Int) < (n : Int) + 4; omega, _, _, rfl, rfl, q _⟩
/-! data -/
theorem dps_ints {H : Hp} : ∀ ns : List Int, DpAll K H (ns.map V.int) (ns.map PyData.int)
  | [] => .nil
  | n :: ns => .cons (.int n) (dps_ints ns)
theorem lay_ints : ∀ ns : List Int, PyData.canLayAll0 (ns.map PyData.int) = true
  | [] => by simp [PyData.canLayAll0]
  | n :: ns => by
    have ih := lay_ints ns
    simpa [PyData.canLayAll0, PyData.canLay0] using ih
theorem dep_ints : ∀ ns : List Int, PyData.depthAll (ns.map PyData.int) = 0
  | [] => by simp [PyData.depthAll]
  | n :: ns => by
    have ih := dep_ints ns
    simpa [PyData.depthAll, PyData.depth] using ih
theorem shaped_ints (ns : List Int) : SeqAt.shaped (.list (ns.map PyData.int)) = true := by
  unfold SeqAt.shaped
  rw [Bool.and_eq_true_iff]
  refine ⟨by simpa [PyData.canLay0] using lay_ints ns, decide_eq_true ?_⟩
  have e : PyData.depth (.list (ns.map PyData.int)) = PyData.depthAll (ns.map PyData.int) + 1 := by simp [PyData.depth]
  rw [e, dep_ints]
  decide
theorem eqv_ints (ns : List Int) : PyData.eqv (.list (ns.map PyData.int)) (.list (ns.map PyData.int)) = true := SeqAt.eqv_refl _ (by simpa [PyData.canLay0] using lay_ints ns)
def datL (p : Lk) : PyData := .tuple [.int p.1, .int p.2]
theorem dps_lks {H : Hp} {as : List Addr} {lks : List Lk} (h : All2 (LinkAt H) as lks) : DpAll K H (as.map V.ref) (lks.map datL) := by
  induction h with
  | nil => exact .nil
  | cons r _ ih => exact .cons (.tup (SqT.of r) (.cons (.int _) (.cons (.int _) .nil))) ih
theorem lay_lks : ∀ l : List Lk, PyData.canLayAll0 (l.map datL) = true
  | [] => by simp [PyData.canLayAll0]
  | p :: l => by
    have ih := lay_lks l
    simpa [PyData.canLayAll0, PyData.canLay0, datL] using ih
theorem dep_lks : ∀ l : List Lk, PyData.depthAll (l.map datL) ≤ 1
  | [] => by simp [PyData.depthAll]
  | p :: l => by
    have ih := dep_lks l
    have e : PyData.depthAll ((p :: l).map datL) = max 1 (PyData.depthAll (l.map datL)) := by simp [PyData.depthAll, PyData.depth, datL]
    rw [e]
    omega
theorem shaped_lks (l : List Lk) : SeqAt.shaped (.list (l.map datL)) = true := by
  unfold SeqAt.shaped
  rw [Bool.and_eq_true_iff]
  refine ⟨by simpa [PyData.canLay0] using lay_lks l, decide_eq_true ?_⟩
  have e : PyData.depth (.list (l.map datL)) = PyData.depthAll (l.map datL) + 1 := by simp [PyData.depth]
  have := dep_lks l
  rw [e]
  omega
theorem eqv_lks (l : List Lk) : PyData.eqv (.list (l.map datL)) (.list (l.map datL)) = true := SeqAt.eqv_refl _ (by simpa [PyData.canLay0] using lay_lks l)
def spFields (C : Addr) : L2.Sp := fun vs H Q _ => ∃ (x za la : Addr) (zs : List Int) (lks : List Lk) (near : List (List Nat)), vs = [.ref x, .ref za, .ref la] ∧ WebAt C H x zs lks near ∧ H za = some (.lst (zs.map V.int)) ∧ LinksAt H la lks ∧ Q (.bl true) H
theorem ok_fields {f : Addr} {fd : FuncData} (F : Fun K "_law_fields" "_law_fields" sFields f fd) (T : Txt K mg C CL CS CN) (B : LT mg) : FnOk P w K mg base CX0 1 f fd ["_law_web", "_law_zones", "_law_links"] (spFields C) := by
  refine F.ok scFields (fun vs H Q E h => ?_) (fun cdv A outer s0 H vs Q E hr h => ?_)
  · obtain ⟨x, za, la, zs, lks, near, rfl, _⟩ := h
    rfl
  · obtain ⟨x, za, la, zs, lks, near, rfl, W, hza, ⟨asL, hla, hLA⟩, q⟩ := h
    obtain ⟨⟨dx, zl, ll, nl, h1, h2, ⟨as, h3, hA⟩, h4⟩, _, _, _⟩ := id W
    refine ⟨_, pss_cons (ps_if (PW.pt (pw_or (pt_not (pt_val (pe_callB call_isi (by rfl) B.isi boot_isinstance (pa_cons (pe_fld (pv 0) rfl) (pa_cons (pe_bltn (v := .ty "list") (by rfl) B.list (by decide +kernel) rfl) pa_nil)))))
        (pw_or1 (pt_not (pt_val (pe_callB call_isi (by rfl) B.isi boot_isinstance (pa_cons (pe_fld (pv 0) rfl) (pa_cons (pe_bltn (v := .ty "list") (by rfl) B.list (by decide +kernel) rfl) pa_nil)))))))) (pss_one (ps_ret pe_bl)) pss_nil)
      (pss_cons (ps_for PassesOwn.never rfl (pi_list (pe_fld (pv 0) rfl)) (pg_name (i := 3) scFields.nd rfl (.inl rfl))
        (pss_one (ps_if (pt_not (pt_val (pe_callB call_isi (by rfl) B.isi boot_isinstance (pa_cons (pv 3) (pa_cons (pe_bltn (v := .ty "tuple") (by rfl) B.tuple (by decide +kernel) rfl) pa_nil))))) (pss_one (ps_ret pe_bl)) pss_nil)))
      (pss_one (ps_ret (pe_and (pe_cmpR (op_eqD hr.units) (pe_fld (pv 0) rfl) (pv 1) (nomark _)) (pe_one (pe_cmpR (op_eqD hr.units) (pe_fld (pv 0) rfl) (pv 2) (nomark _))))))), ?_⟩
    refine ⟨_, rfl, x, C, dx, _, _, rfl, h1, T.cl, T.nZ, wf_zones _ _ _, .ref zl, .ty "list", .type "list", .type "list", true, rfl, .ty _, .base (.lst h2), kit_ty (by decide +kernel), true, rfl, ?_⟩
    refine iteF ?_
    refine ⟨_, rfl, x, C, dx, _, _, rfl, h1, T.cl, T.nL, wf_links _ _ _, .ref ll, .ty "list", .type "list", .type "list", true, rfl, .ty _, .base (.lst h3), kit_ty (by decide +kernel), true, rfl, ?_⟩
    refine iteF ?_
    refine ⟨_, rfl, x, C, dx, _, _, rfl, h1, T.cl, T.nL, wf_links _ _ _, ll, rfl, ⟨_, SqL.of h3⟩, for_list (K := K) (a := ll) (xs := as.map V.ref) (fun i σ H8 => ∃ y3 : Option V, σ = [some (.ref x), some (.ref za), some (.ref la), y3] ∧ H8 = H)
      ⟨none, rfl, rfl⟩ (fun i σ H8 _ ⟨_, _, e⟩ => by rw [e]; exact SqL.of h3) ?_ ?_⟩
    · rintro i y σ H8 hi ⟨y3, rfl, rfl⟩
      obtain ⟨a0, ha0, rfl⟩ : ∃ a0, as[i]? = some a0 ∧ y = V.ref a0 := by
        rw [List.getElem?_map] at hi
        cases e : as[i]? with
        | none =>
          rw [e] at hi
          cases hi
        | some a0 =>
          rw [e] at hi
          exact ⟨a0, rfl, (Option.some.inj hi).symm⟩
      obtain ⟨p, _, hp⟩ := hA.getL ha0
      refine ⟨_, rfl, .ref a0, .ty "tuple", .type "tuple", .type "tuple", true, rfl, .ty _, .base (.tup hp), kit_ty (by decide +kernel), true, rfl, ?_⟩
      refine iteF ?_
      exact ⟨_, rfl, rfl⟩
    · rintro σ H8 ⟨y3, rfl, rfl⟩
      refine ⟨_, rfl, x, C, dx, _, _, rfl, h1, T.cl, T.nZ, wf_zones _ _ _, _, rfl, _, _, .lst (SqL.of h2) (dps_ints zs), .lst (SqL.of hza) (dps_ints zs), shaped_ints _, shaped_ints _, _, rfl, ?_⟩
      rw [eqv_ints]
      refine iteT ?_
      refine ⟨_, rfl, x, C, dx, _, _, rfl, h1, T.cl, T.nL, wf_links _ _ _, _, rfl, _, _, .lst (SqL.of h3) (dps_lks hA), .lst (SqL.of hla) (dps_lks hLA), shaped_lks _, shaped_lks _, ?_⟩
      rw [eqv_lks]
      exact q
/-! ### the law -/
theorem all2_take {α β : Type} {R : α → β → Prop} {as : List α} {bs : List β} (h : All2 R as bs) : ∀ i, All2 R (as.take i) (bs.take i) := by
  induction h with
  | nil =>
    intro i
    simp only [List.take_nil]
    exact .nil
  | cons r _ ih =>
    intro i
    cases i with
    | zero => exact .nil
    | succ i => exact .cons r (ih i)
theorem all2_drop {α β : Type} {R : α → β → Prop} {as : List α} {bs : List β} (h : All2 R as bs) : ∀ i, All2 R (as.drop i) (bs.drop i) := by
  induction h with
  | nil =>
    intro i
    simp only [List.drop_nil]
    exact .nil
  | cons r t ih =>
    intro i
    cases i with
    | zero => exact .cons r t
    | succ i => exact ih i
def datV (L : Lv) : PyData := .list (L.map datO)
def LvR (H : Hp) (a : Addr) (L : Lv) : Prop := H a = some (.lst (L.map optV))
theorem dps_lvs {H : Hp} {as : List Addr} {Ls : List Lv} (h : All2 (LvR H) as Ls) : DpAll K H (as.map V.ref) (Ls.map datV) := by
  induction h with
  | nil => exact .nil
  | cons r _ ih => exact .cons (.lst (SqL.of r) (dps_opt _)) ih
theorem lay_lvs : ∀ l : List Lv, PyData.canLayAll0 (l.map datV) = true
  | [] => by simp [PyData.canLayAll0]
  | L :: l => by
    have ih := lay_lvs l
    have h := lay_opt L
    simp only [List.map_cons, PyData.canLayAll0, Bool.and_eq_true]
    exact ⟨by simpa [datV, PyData.canLay0] using h, ih⟩
theorem dep_lvs : ∀ l : List Lv, PyData.depthAll (l.map datV) ≤ 1
  | [] => by simp [PyData.depthAll]
  | L :: l => by
    have ih := dep_lvs l
    have h := dep_opt L
    have e : PyData.depthAll ((L :: l).map datV) = max (PyData.depthAll (L.map datO) + 1) (PyData.depthAll (l.map datV)) := by simp [PyData.depthAll, PyData.depth, datV]
    rw [e, h]
    omega
theorem shaped_lvs (l : List Lv) : SeqAt.shaped (.list (l.map datV)) = true := by
  unfold SeqAt.shaped
  rw [Bool.and_eq_true_iff]
  refine ⟨by simpa [PyData.canLay0] using lay_lvs l, decide_eq_true ?_⟩
  have e : PyData.depth (.list (l.map datV)) = PyData.depthAll (l.map datV) + 1 := by simp [PyData.depth]
  have := dep_lvs l
  rw [e]
  omega
theorem eqv_lvs (l : List Lv) : PyData.eqv (.list (l.map datV)) (.list (l.map datV)) = true := SeqAt.eqv_refl _ (by simpa [PyData.canLay0] using lay_lvs l)
def spLaw (K : PySem.W.Frag) : L2.Sp := fun vs H Q _ => ∃ (a : Addr) (ns : List Int), vs = [.ref a] ∧ SqL K H a (ns.map V.int) ∧ ns.length ≤ 63 ∧ ∀ H', Q (.bl true) H'
structure Defs (K : PySem.W.Frag) (mg : Str → Option Value) (C CL CS CN CF c3 c4 c5 : Addr) (fIn fLe fFe fWa fCSt fSG fSe fFi fIs fNe fChL fCe fLi fWr fKi fMd fAn fAs fSt fFl : Addr) (dIn dLe dFe dWa dCSt dSG dSe dFi dIs dNe dChL dCe dLi dWr dKi dMd dAn dAs dSt dFl : FuncData) : Prop where
  T : Txt K mg C CL CS CN
  B : LT mg
  gF : mg "FareError" = some (.ref CF)
  KGs : KG mg CL CS CN c3 c4 c5
  cLL : CatchF K CL CL
  cL : CatchF K CF CL
  cS : CatchF K CF CS
  cN : CatchF K CF CN
  kL : KindT K CL CS CN c3 c4 c5 CL 0
  kS : KindT K CL CS CN c3 c4 c5 CS 1
  kN : KindT K CL CS CN c3 c4 c5 CN 2
  mkW : Mk K C fIn
  gWeb : mg "Web" = some (.ref C)
  In : Fun K "__init__" "Web.__init__" sInit fIn dIn
  bIn : Binds K dIn ["self", "zones", "links"] []
  Le : Fun K "levels" "Web.levels" sLevels fLe dLe
  bLe : Binds K dLe ["self", "start"] []
  mLe : Meth K C "levels" fLe
  Fe : Fun K "fewest" "Web.fewest" sFewest fFe dFe
  bFe : Binds K dFe ["self", "start", "goal"] []
  mFe : Meth K C "fewest" fFe
  Wa : Fun K "way" "Web.way" sWay fWa dWa
  bWa : Binds K dWa ["self", "start", "goal"] []
  mWa : Meth K C "way" fWa
  CSt : Fun K "_check_stop" "Web._check_stop" sCheckStop fCSt dCSt
  bCSt : Binds K dCSt ["self", "stop"] []
  mCSt : Meth K C "_check_stop" fCSt
  SG : Fun K "_search_goal" "Web._search_goal" sSearchGoal fSG dSG
  bSG : Binds K dSG ["self", "start", "goal"] []
  mSG : Meth K C "_search_goal" fSG
  Se : Fun K "_search" "Web._search" sSearch fSe dSe
  bSe : Binds K dSe ["self", "start"] []
  mSe : Meth K C "_search" fSe
  Fi : Fun K "_fill_level" "Web._fill_level" sFill fFi dFi
  bFi : Binds K dFi ["self", "level", "entries", "levels", "origins"] []
  mFi : Meth K C "_fill_level" fFi
  Is : Fun K "_is_stop" "_is_stop" sIsStop fIs dIs
  bIs : Binds K dIs ["stop", "count"] []
  gIs : mg "_is_stop" = some (.ref fIs)
  Ne : Fun K "_neighbours" "_neighbours" sNeigh fNe dNe
  bNe : Binds K dNe ["count", "links"] []
  gNe : mg "_neighbours" = some (.ref fNe)
  ChL : Fun K "_check_link" "_check_link" sCheckLink fChL dChL
  bChL : Binds K dChL ["one", "other", "count"] []
  gChL : mg "_check_link" = some (.ref fChL)
  Ce : Fun K "_law_cell_at" "_law_cell_at" sCell fCe dCe
  bCe : Binds K dCe ["_law_script", "_law_k"] []
  gCe : mg "_law_cell_at" = some (.ref fCe)
  Li : Fun K "_law_links_by" "_law_links_by" sLinksBy fLi dLi
  bLi : Binds K dLi ["_law_script", "_law_first", "_law_many"] []
  gLi : mg "_law_links_by" = some (.ref fLi)
  Wr : Fun K "_law_wrong" "_law_wrong" sWrong fWr dWr
  bWr : Binds K dWr ["_law_cell", "_law_many"] []
  gWr : mg "_law_wrong" = some (.ref fWr)
  Ki : Fun K "_law_kind" "_law_kind" sKind fKi dKi
  bKi : Binds K dKi ["_law_e"] []
  gKi : mg "_law_kind" = some (.ref fKi)
  Md : Fun K "_law_made" "_law_made" sMade fMd dMd
  bMd : Binds K dMd ["_law_zones", "_law_links"] []
  gMd : mg "_law_made" = some (.ref fMd)
  An : Fun K "_law_any_refusal" "_law_any_refusal" sAny fAn dAn
  bAn : Binds K dAn ["_law_zones", "_law_links"] []
  gAn : mg "_law_any_refusal" = some (.ref fAn)
  As : Fun K "_law_asked" "_law_asked" sAsked fAs dAs
  bAs : Binds K dAs ["_law_web", "_law_sort", "_law_start", "_law_goal"] []
  gAs : mg "_law_asked" = some (.ref fAs)
  St : Fun K "_law_stop" "_law_stop" sStop fSt dSt
  bSt : Binds K dSt ["_law_cell", "_law_many"] []
  gSt : mg "_law_stop" = some (.ref fSt)
  Fl : Fun K "_law_fields" "_law_fields" sFields fFl dFl
  bFl : Binds K dFl ["_law_web", "_law_zones", "_law_links"] []
  gFl : mg "_law_fields" = some (.ref fFl)
theorem ok_law {f fIn fLe fFe fWa fCSt fSG fSe fFi fIs fNe fChL fCe fLi fWr fKi fMd fAn fAs fSt fFl : Addr} {fd dIn dLe dFe dWa dCSt dSG dSe dFi dIs dNe dChL dCe dLi dWr dKi dMd dAn dAs dSt dFl : FuncData} (F : Fun K "law" "law" sLaw f fd) (D : Defs K mg C CL CS CN CF c3 c4 c5 fIn fLe fFe fWa fCSt fSG fSe fFi fIs fNe fChL fCe fLi fWr fKi fMd fAn fAs fSt fFl dIn dLe dFe dWa dCSt dSG dSe dFi dIs dNe dChL dCe dLi dWr dKi dMd dAn dAs dSt dFl) : FnOk P w K mg base CX0 7 f fd ["_law_script"] (spLaw K) := by
  have GI : FnOk P w K mg base (L2N.CX P w) 4 fIn dIn ["self", "zones", "links"] (spInit K C CL) := ok_init D.In D.T D.Is D.bIs D.gIs D.ChL D.bChL D.gChL D.Ne D.bNe D.gNe
  have GLe : FnOk P w K mg base (L2N.CX P w) 3 fLe dLe ["self", "start"] (spLevels C CS) := ok_levels D.Le D.T D.Is D.bIs D.gIs D.CSt D.bCSt D.mCSt D.Se D.bSe D.mSe D.Fi D.bFi D.mFi
  have GFe : FnOk P w K mg base (L2N.CX P w) 4 fFe dFe ["self", "start", "goal"] (spFewest C CS CN) := ok_fewest D.Fe D.T D.Is D.bIs D.gIs D.CSt D.bCSt D.mCSt D.Se D.bSe D.mSe D.Fi D.bFi D.mFi D.SG D.bSG D.mSG
  have GWa : FnOk P w K mg base (L2N.CX P w) 4 fWa dWa ["self", "start", "goal"] (spWay C CS CN) := ok_way D.Wa D.T D.Is D.bIs D.gIs D.CSt D.bCSt D.mCSt D.Se D.bSe D.mSe D.Fi D.bFi D.mFi D.SG D.bSG D.mSG
  have GC : FnOk P w K mg base CX0 1 fCe dCe ["_law_script", "_law_k"] (spCell K) := ok_cell D.Ce D.B.len
  have GLk : FnOk P w K mg base CX0 1 fLi dLi ["_law_script", "_law_first", "_law_many"] (spLinksBy K) := ok_linksBy D.Li D.B
  have GWr : FnOk P w K mg base CX0 1 fWr dWr ["_law_cell", "_law_many"] spWrong := ok_wrong D.Wr D.B
  have GMd : FnOk P w K mg base CX0 6 fMd dMd ["_law_zones", "_law_links"] (spMade C) := ok_made D.Md D.T D.cLL D.mkW D.gWeb GI D.bIn
  have GAn : FnOk P w K mg base CX0 6 fAn dAn ["_law_zones", "_law_links"] spAny := ok_any D.An D.gF D.cL D.kL D.mkW D.gWeb GI D.bIn D.Ki D.bKi D.gKi D.KGs
  have GAs : FnOk P w K mg base CX0 6 fAs dAs ["_law_web", "_law_sort", "_law_start", "_law_goal"] (spAsked C) := ok_asked D.As D.T D.gF D.cS D.cN D.kS D.kN GLe D.bLe D.mLe GFe D.bFe D.mFe GWa D.bWa D.mWa D.Ki D.bKi D.gKi D.KGs
  have GSt : FnOk P w K mg base CX0 1 fSt dSt ["_law_cell", "_law_many"] spStop := ok_stop D.St
  have GFi : FnOk P w K mg base CX0 1 fFl dFl ["_law_web", "_law_zones", "_law_links"] (spFields C) := ok_fields D.Fl D.T D.B
  refine F.ok scLaw (fun vs H Q E h => ?_) (fun cdv A outer s H vs Q E hr h => ?_)
  · obtain ⟨a, ns, rfl, _⟩ := h
    rfl
  · obtain ⟨a, ns, rfl, hS, h63, q⟩ := h
    have r1 : Room 1 _ := hr.mono (by decide)
    have r3 : Room 3 _ := hr.mono (by decide)
    refine ⟨_, (C8.pss_cut (ps_set (i := 1) scLaw.nd rfl (.inl rfl) (pe_op op_mod (pe_call GC r1 (by rfl) D.gCe D.Ce.kp D.bCe .nil pass0 (pa_cons (pv 0) (pa_cons pe_int pa_nil))) pe_int))
      (pss_cons (ps_setLc (i := 2) (own := [("_law_k", 13)]) (g := gName 13) (by rfl) scLaw.nd rfl rfl (sw_true rfl rfl rfl (by decide +kernel)) (pi_range1 (by rfl) D.B.range (pa_cons (pv 1) pa_nil)) (blkOk_by (own := [("_law_k", 13)]) (N := ["_law_script", "_law_many", "_law_zones", "_law_links", "_law_good", "_law_handed", "_law_web", "_law_stop_here", "_law_ahead", "_law_start", "_law_goal", "_law_lost", "_law_sort", "_law_k"]) (sc := defScope sLaw) (by decide +kernel)) (fun _ _ _ _ _ => pg_name (i := 13) scLaw.nd rfl (Or.inl rfl)) (fun _ _ _ _ _ => pts_nil) (fun _ _ _ _ _ => pe_call GC r1 (by rfl) D.gCe D.Ce.kp D.bCe .nil pass0 (pa_cons (pv 0) (pa_cons (pe_op op_add pe_int (pv 13)) pa_nil))))
      (pss_cons (ps_set (i := 3) scLaw.nd rfl (.inl rfl) (pe_call GLk r1 (by rfl) D.gLi D.Li.kp D.bLi .nil pass0 (pa_cons (pv 0) (pa_cons pe_int (pa_cons (pv 1) pa_nil)))))
      (C8.pss_cut (ps_set (i := 4) scLaw.nd rfl (.inl rfl) (pe_cmpR op_eq (pe_op op_mod (pe_call GC r1 (by rfl) D.gCe D.Ce.kp D.bCe .nil pass0 (pa_cons (pv 0) (pa_cons pe_int pa_nil))) pe_int) pe_int (nomark _)))
      (C8.pss_cut (ps_if (pt_not (pt_val (pv 4))) (pss_one (ps_expr (pe_bm PySem.F.plainAttrs_list PySem.F.slot_list_insert PySem.F.type_list_insert mt_insert (pv 3) (pa_cons (pe_op op_mod (pe_op op_fdiv (pe_call GC r1 (by rfl) D.gCe D.Ce.kp D.bCe .nil pass0 (pa_cons (pv 0) (pa_cons pe_int pa_nil))) pe_int) (pe_op op_add (pe_callB call_len_seq (by rfl) D.B.len PySem.boot_len (pa_cons (pv 3) pa_nil)) pe_int)) (pa_cons (pe_call GWr r1 (by rfl) D.gWr D.Wr.kp D.bWr .nil pass0 (pa_cons (pe_call GC r1 (by rfl) D.gCe D.Ce.kp D.bCe .nil pass0 (pa_cons (pv 0) (pa_cons pe_int pa_nil))) (pa_cons (pv 1) pa_nil))) pa_nil))))) pss_nil)
      (pss_cons (ps_set (i := 5) scLaw.nd rfl (.inl rfl) (pe_lst (pa_cons (pe_callTy call_list_of (by rfl) D.B.list (by decide +kernel) (pa_cons (pv 2) pa_nil)) (pa_cons (pe_callTy call_list_of (by rfl) D.B.list (by decide +kernel) (pa_cons (pv 3) pa_nil)) pa_nil))))
      (pss_cons (ps_set (i := 6) scLaw.nd rfl (.inr rfl) (pe_call GMd hr (by rfl) D.gMd D.Md.kp D.bMd .nil pass0 (pa_cons (pe_ix ix_list (pv 5) pe_int (fun _ _ => rfl)) (pa_cons (pe_ix ix_list (pv 5) pe_int (fun _ _ => rfl)) pa_nil))))
      (pss_cons (ps_if (pt_cmpR op_isN (pv 6) pe_non (nomark _)) (pss_one (ps_ret (pe_and (pe_not (pv 4)) (pe_one (pe_call GAn hr (by rfl) D.gAn D.An.kp D.bAn .nil pass0 (pa_cons (pe_callTy call_list_of (by rfl) D.B.list (by decide +kernel) (pa_cons (pv 2) pa_nil)) (pa_cons (pe_callTy call_list_of (by rfl) D.B.list (by decide +kernel) (pa_cons (pv 3) pa_nil)) pa_nil))))))) pss_nil)
      (pss_cons (ps_if (PW.pt (pw_or (pt_not (pt_val (pv 4))) (pw_or (pt_cmpR (op_neD hr.units) (pe_ix ix_list (pv 5) pe_int (fun _ _ => rfl)) (pv 2) (nomark _)) (pw_or1 (pt_cmpR (op_neD hr.units) (pe_ix ix_list (pv 5) pe_int (fun _ _ => rfl)) (pv 3) (nomark _)))))) (pss_one (ps_ret pe_bl)) pss_nil)
      (pss_cons (ps_setLc (i := 8) (own := [("_law_stop_here", 7)]) (g := gName 7) (by rfl) scLaw.nd rfl rfl (sw_true rfl rfl rfl (by decide +kernel)) (pi_range1 (by rfl) D.B.range (pa_cons (pv 1) pa_nil)) (blkOk_by (own := [("_law_stop_here", 7)]) (N := ["_law_script", "_law_many", "_law_zones", "_law_links", "_law_good", "_law_handed", "_law_web", "_law_stop_here", "_law_ahead", "_law_start", "_law_goal", "_law_lost", "_law_sort", "_law_k"]) (sc := defScope sLaw) (by decide +kernel)) (fun _ _ _ _ _ => pg_name (i := 7) scLaw.nd rfl (Or.inl rfl)) (fun _ _ _ _ _ => pts_nil) (fun _ _ _ _ _ => pe_meth (pv 6) D.T.cl D.mLe GLe r3 D.bLe .nil passN (pa_cons (pv 7) pa_nil)))
      (pss_cons (ps_expr (pe_bm PySem.F.plainAttrs_list PySem.F.slot_list_append PySem.F.type_list_append mt_append (pe_ix ix_list (pv 5) pe_int (fun _ _ => rfl)) (pa_cons pe_int pa_nil)))
      (pss_cons (ps_for PassesOwn.never rfl (pi_range2 (by rfl) D.B.range (pa_cons pe_int (pa_cons (pv 1) pa_nil))) (pg_name (i := 7) scLaw.nd rfl (.inl rfl)) (pss_cons (ps_expr (pe_bm PySem.F.plainAttrs_list PySem.F.slot_list_append PySem.F.type_list_append mt_append (pe_ix ix_list (pv 5) pe_int (fun _ _ => rfl)) (pa_cons (pe_tup (pa_cons (pv 7) (pa_cons pe_int pa_nil))) pa_nil))) (pss_one (ps_asg (pe_op op_add (pe_op op_pow pe_int pe_int) (pv 7)) (pg_sub (pe_ix ix_list (pv 5) pe_int (fun _ _ => rfl)) (pv 7) set_list)))))
      (pss_cons (ps_if (PW.pt (pw_or (pt_not (pt_val (pe_call GFi r1 (by rfl) D.gFl D.Fl.kp D.bFl .nil pass0 (pa_cons (pv 6) (pa_cons (pv 2) (pa_cons (pv 3) pa_nil)))))) (pw_or1 (pt_cmpR (op_neD hr.units) (pe_lc (own := [("_law_stop_here", 7)]) (g := gName 7) (by rfl) scLaw.nd (pi_range1 (by rfl) D.B.range (pa_cons (pv 1) pa_nil)) (blkOk_by (own := [("_law_stop_here", 7)]) (N := ["_law_script", "_law_many", "_law_zones", "_law_links", "_law_good", "_law_handed", "_law_web", "_law_stop_here", "_law_ahead", "_law_start", "_law_goal", "_law_lost", "_law_sort", "_law_k"]) (sc := defScope sLaw) (by decide +kernel)) (fun _ _ _ _ _ => pg_name (i := 7) scLaw.nd rfl (Or.inl rfl)) (fun _ _ _ _ _ => pts_nil) (fun _ _ _ _ _ => pe_meth (pv 6) D.T.cl D.mLe GLe r3 D.bLe .nil passN (pa_cons (pv 7) pa_nil))) (pv 8) (nomark _))))) (pss_one (ps_ret pe_bl)) pss_nil)
      (pss_cons (ps_set (i := 9) scLaw.nd rfl (.inl rfl) (pe_call GSt r1 (by rfl) D.gSt D.St.kp D.bSt .nil pass0 (pa_cons (pe_call GC r1 (by rfl) D.gCe D.Ce.kp D.bCe .nil pass0 (pa_cons (pv 0) (pa_cons pe_int pa_nil))) (pa_cons (pv 1) pa_nil))))
      (pss_cons (ps_set (i := 10) scLaw.nd rfl (.inl rfl) (pe_call GSt r1 (by rfl) D.gSt D.St.kp D.bSt .nil pass0 (pa_cons (pe_call GC r1 (by rfl) D.gCe D.Ce.kp D.bCe .nil pass0 (pa_cons (pv 0) (pa_cons pe_int pa_nil))) (pa_cons (pv 1) pa_nil))))
      (C8.pss_cut (ps_set (i := 11) scLaw.nd rfl (.inl rfl) (pe_lst (pa_cons (pe_or (pe_cmp (pc_lt (pv 9) pe_int) rfl) (pe_one (pe_cmp (pc_ge (pv 9) (pv 1)) rfl))) (pa_cons (pe_or (pe_cmp (pc_lt (pv 9) pe_int) rfl) (pe_or (pe_cmp (pc_ge (pv 9) (pv 1)) rfl) (pe_or (pe_cmp (pc_lt (pv 10) pe_int) rfl) (pe_one (pe_cmp (pc_ge (pv 10) (pv 1)) rfl))))) pa_nil))))
      (pss_cons (ps_for PassesOwn.never rfl (pi_range1 (by rfl) D.B.range (pa_cons pe_int pa_nil)) (pg_name (i := 12) scLaw.nd rfl (.inl rfl)) (pss_one (ps_if (pt_cmpR op_ne (pe_call GAs hr (by rfl) D.gAs D.As.kp D.bAs .nil pass0 (pa_cons (pv 6) (pa_cons (pv 12) (pa_cons (pv 9) (pa_cons (pv 10) pa_nil))))) (pe_ix ix_list (pv 11) (pe_callB (call_min2 rfl) (by rfl) D.B.min (by decide +kernel) (pa_cons (pv 12) (pa_cons pe_int pa_nil))) (fun _ _ => rfl)) (nomark _)) (pss_one (ps_ret pe_bl)) pss_nil)))
      (pss_one (ps_ret pe_bl))))))))))))))))))), ?_⟩
    -- _law_many
    refine ⟨fun σ H1 => H1 = H ∧ ∃ n : Nat, n ≤ 9 ∧ σ = [some (.ref a), some (.int n), none, none, none, none, none, none, none, none, none, none, none, none], ?_, ?_⟩
    · refine ⟨_, rfl, a, ns, 0, rfl, hS, _, _, rfl, rfl, by show (0 : Int) < 10; decide, rfl, (cell ns 0 % 10).toNat, by omega, ?_⟩
      have e : V.int (cell ns 0 % 10) = V.int (((cell ns 0 % 10).toNat : Nat) : Int) := by rw [show (((cell ns 0 % 10).toNat : Nat) : Int) = cell ns 0 % 10 by omega]
      rw [← e]
      rfl
    rintro σ H1 ⟨rfl, n, hn9, rfl⟩
    -- _law_zones
    refine ⟨_, rfl, n, rfl, by omega, by omega, fun zd hzd => ?_⟩
    refine lc_range (lo := 0) (n := (n : Int).toNat) (fun i H' => Same H1 H' ∧ ∃ zs : List Int, H' zd = some (.lst (zs.map V.int)) ∧ zs.length = i) ⟨same_upd hzd, [], upd_same, rfl⟩ ?_ ?_
    · rintro i H2 hi ⟨sm, zs, eD, hl⟩
      refine ⟨rfl, ?_⟩
      refine tYes_if ?_
      refine ⟨_, rfl, _, rfl, _, _, rfl, rfl, a, ns, 5 + i, ?_, sm.seq hS, zs.map V.int, eD, small_line (by rw [List.length_map]; omega), upd_out sm hzd, zs ++ [cell ns (5 + i)], by rw [upd_same, List.map_append]; rfl, by rw [List.length_append, hl]; rfl⟩
      show [V.ref a, V.int (5 + (0 + (i : Nat)))] = [V.ref a, V.int ((5 + i : Nat) : Int)]
      rw [show ((5 + i : Nat) : Int) = 5 + (0 + (i : Nat)) by omega]
    rintro H2 ⟨s1, zs, hz1, hzl⟩
    rw [Int.toNat_natCast] at hzl
    -- _law_links
    refine ⟨_, rfl, _, rfl, a, ns, n, rfl, s1.seq hS, h63, hn9, fun lk0 H3 la lok0 llen s2 nla hla => ?_⟩
    have s12 := s1.trans s2
    -- _law_good
    refine ⟨fun σ H4 => H4 = H3 ∧ ∃ good : Bool, σ = [some (.ref a), some (.int n), some (.ref zd), some (.ref la), some (.bl good), none, none, none, none, none, none, none, none, none], ?_, ?_⟩
    · exact ⟨_, rfl, a, ns, 1, rfl, s12.seq hS, _, _, rfl, rfl, by show (0 : Int) < 2; decide, rfl, rfl, _, rfl⟩
    rintro σ H4 ⟨rfl, good, rfl⟩
    have hz4 := s2 _ _ hz1
    have nzla : zd ≠ la := ne_of_none hz1 nla
    -- if not good: a wrong link is put in
    refine ⟨fun σ H5 => σ = [some (.ref a), some (.int n), some (.ref zd), some (.ref la), some (.bl good), none, none, none, none, none, none, none, none, none] ∧ Same H1 H5 ∧ H5 zd = some (.lst (zs.map V.int)) ∧
      ∃ lks : List Lk, LinksAt H5 la lks ∧ lks.length ≤ 50 ∧ (good = true → ∀ q, q ∈ lks → LinkOk n q) ∧ (good = false → ∃ q, q ∈ lks ∧ ¬ LinkOk n q), ?_, ?_⟩
    · refine ⟨_, rfl, good, rfl, ?_⟩
      refine ite2 (fun e => ?_) (fun e => ?_)
      · have eg : good = false := by
          cases good with
          | false => rfl
          | true => exact absurd e (by decide)
        subst eg
        obtain ⟨as, hl, hA⟩ := id hla
        have hal : as.length = lk0.length := hA.len
        refine ⟨_, rfl, .inl ⟨rfl, _, SqL.of hl⟩, _, rfl, a, ns, 1, rfl, s12.seq hS, _, _, rfl, rfl, ⟨by decide, by decide⟩, _, rfl, la, _, rfl, .inl (SqL.of hl), _, _, rfl, rfl, _, _, rfl, rfl, by rw [List.length_map]; omega, _, rfl, a, ns, 2, rfl, s12.seq hS, _, rfl, _, n, rfl, hn9, fun u v t H5 no s5 nt ht => ?_⟩
        have i0 : 0 ≤ cell ns 1 / 2 % (((as.map V.ref).length : Nat) + 1) := Int.emod_nonneg _ (by omega)
        have i1 : cell ns 1 / 2 % (((as.map V.ref).length : Nat) + 1) < ((as.map V.ref).length : Nat) + 1 := Int.emod_lt_of_pos _ (by omega)
        have hl5 := s5 _ _ hl
        have hlen5 : (as.map V.ref).length ≤ 40 := by rw [List.length_map, hal]; exact llen
        refine ⟨la, _, _, _, rfl, rfl, hl5, small_line (by omega), i0, by omega, rfl, ?_⟩
        obtain ⟨ix, eix⟩ : ∃ ix : Nat, (cell ns 1 / 2 % (((as.map V.ref).length : Nat) + 1)).toNat = ix := ⟨_, rfl⟩
        rw [eix]
        have ntla : t ≠ la := (ne_of_none hl nt).symm
        refine ⟨upd_out (s12.trans s5) (s1.free nla), by rw [upd_ne nzla]; exact s5 _ _ hz4, lk0.take ix ++ [(u, v)] ++ lk0.drop ix, ?_, ?_, fun z => Bool.noConfusion z, fun _ => ⟨(u, v), by simp, no⟩⟩
        · have kt : ∀ b p, LinkAt H4 b p → LinkAt (upd H5 la (.lst ((as.map V.ref).take ix ++ [.ref t] ++ (as.map V.ref).drop ix))) b p := fun b p r => by
            show upd H5 la _ b = _
            rw [upd_ne (ne_of r hl (by intro z; cases z))]
            exact s5 _ _ r
          have hA5 := hA.imp kt
          refine ⟨as.take ix ++ [t] ++ as.drop ix, ?_, ((all2_take hA5 ix).app (All2.one ?_)).app (all2_drop hA5 ix)⟩
          · rw [upd_same, List.map_append, List.map_append, List.map_take, List.map_drop]
            rfl
          · show upd H5 la _ t = _
            rw [upd_ne ntla]
            exact ht
        · simp only [List.length_append, List.length_take, List.length_drop]
          show min ix lk0.length + 1 + (lk0.length - ix) ≤ 50
          omega
      · have eg : good = true := by
          cases good with
          | true => rfl
          | false => exact absurd rfl e
        subst eg
        exact ⟨rfl, s12, hz4, lk0, hla, by omega, fun _ => lok0, fun z => Bool.noConfusion z⟩
    rintro σ H5 ⟨rfl, s5, hz5, lks, hla5, hll5, hg1, hg2⟩
    obtain ⟨asL, hl5, hA5⟩ := id hla5
    -- _law_handed
    refine ⟨_, rfl, zd, _, rfl, .inl (SqL.of hz5), fun hz nhz => ?_⟩
    have t1 : Same H5 _ := same_upd (o := .lst (zs.map V.int)) nhz
    refine ⟨_, rfl, la, _, rfl, .inl (SqL.of (t1 _ _ hl5)), fun hk nhk => ?_⟩
    have t2 := t1.trans (same_upd (o := .lst (asL.map V.ref)) nhk)
    refine ⟨by show 2 ≤ sizeLine; decide, fun hd nhd => ?_⟩
    have t3 := t2.trans (same_upd (o := .lst [.ref hz, .ref hk]) nhd)
    have nzk : hz ≠ hk := ne_of_none upd_same nhk
    obtain ⟨H6, e6⟩ : ∃ H6, H6 = upd (upd (upd H5 hz (.lst (zs.map V.int))) hk (.lst (asL.map V.ref))) hd (.lst [.ref hz, .ref hk]) := ⟨_, rfl⟩
    have nkd : hk ≠ hd := ne_of_none upd_same nhd
    have nzd : hz ≠ hd := ne_of_none (by rw [upd_ne nzk, upd_same]) nhd
    rw [← e6] at t3
    show tSeq _ _ _ _ (upd (upd (upd H5 hz _) hk _) hd (.lst [.ref hz, .ref hk]))
    rw [← e6]
    have h6z : H6 hz = some (.lst (zs.map V.int)) := by rw [e6, upd_ne nzd, upd_ne nzk, upd_same]
    have h6k : H6 hk = some (.lst (asL.map V.ref)) := by rw [e6, upd_ne nkd, upd_same]
    have h6d : H6 hd = some (.lst [.ref hz, .ref hk]) := by rw [e6, upd_same]
    clear e6 t1 t2
    have h6A : All2 (LinkAt H6) asL lks := hA5.imp fun a b r => t3 _ _ r
    have s6 := s5.trans t3
    have i0 : atI [V.ref hz, .ref hk] 0 = some (.ref hz) := rfl
    have i1 : atI [V.ref hz, .ref hk] 1 = some (.ref hk) := rfl
    -- _law_web
    refine ⟨_, rfl, hd, _, _, _, rfl, rfl, SqL.of h6d, i0, _, rfl, hd, _, _, _, rfl, rfl, SqL.of h6d, i1, hz, hk, zs, lks, rfl, h6z, ⟨asL, h6k, h6A⟩, by rw [hzl]; omega, fun ok near H7 x s7 W ap => ?_, fun bad H7 s7 => ?_⟩
    rotate_left
    · -- it is refused
      have eg : good = false := by
        cases good with
        | false => rfl
        | true =>
          obtain ⟨p, m, no⟩ := bad
          rw [hzl] at no
          exact absurd (hg1 rfl p m) no
      subst eg
      refine ⟨_, rfl, rfl, _, rfl, ?_⟩
      refine iteT ?_
      refine ⟨_, rfl, false, rfl, true, rfl, ?_⟩
      refine iteT ?_
      have t7 := t3.trans s7
      refine ⟨_, rfl, zd, _, rfl, .inl (SqL.of (t7 _ _ hz5)), fun z2 nz2 => ?_⟩
      have u1 : Same H7 _ := same_upd (o := .lst (zs.map V.int)) nz2
      have hla7 := (hla5.same t7).same u1
      obtain ⟨as7, hl7, hA7⟩ := id hla7
      refine ⟨_, rfl, la, _, rfl, .inl (SqL.of hl7), fun l2 nl2 => ?_⟩
      have u2 := same_upd (H := upd H7 z2 (.lst (zs.map V.int))) (o := .lst (as7.map V.ref)) nl2
      exact ⟨z2, l2, zs, lks, rfl, u2 _ _ upd_same, ⟨as7, upd_same, hA7.imp fun a b r => u2 _ _ r⟩, by rw [hzl]; omega, bad, fun H8 _ => q H8⟩
    -- it stands
    have eg : good = true := by
      cases good with
      | true => rfl
      | false =>
        obtain ⟨p, m, no⟩ := hg2 rfl
        exact absurd (ok p m) (by rw [hzl]; exact no)
    subst eg
    refine ⟨_, rfl, rfl, _, rfl, ?_⟩
    refine iteF ?_
    refine ⟨_, rfl, true, rfl, ?_⟩
    refine iteF ?_
    have t7 := t3.trans s7
    have h7z := s7 _ _ h6z
    have h7k := s7 _ _ h6k
    have h7d := s7 _ _ h6d
    have hz7 := t7 _ _ hz5
    obtain ⟨as7, hl7, hA7⟩ := hla5.same t7
    have h7A : All2 (LinkAt H7) asL lks := h6A.imp fun a b r => s7 _ _ r
    refine ⟨_, rfl, hd, _, _, _, rfl, rfl, SqL.of h7d, i0, _, rfl, _, _, .lst (SqL.of h7z) (dps_ints zs), .lst (SqL.of hz7) (dps_ints zs), shaped_ints _, shaped_ints _, _, rfl, ?_⟩
    rw [eqv_ints]
    refine iteF ?_
    refine ⟨_, rfl, hd, _, _, _, rfl, rfl, SqL.of h7d, i1, _, rfl, _, _, .lst (SqL.of h7k) (dps_lks h7A), .lst (SqL.of hl7) (dps_lks hA7), shaped_lks _, shaped_lks _, _, rfl, ?_⟩
    rw [eqv_lks]
    refine iteF ?_
    obtain ⟨⟨dx, zl, ll, nl, hx7, hrest⟩, NO, _, _⟩ := id W
    have noL := wf_no zl ll nl (m := "levels") (by decide +kernel) (by decide +kernel) (by decide +kernel)
    have n5k : H5 hk = none := (same_upd (o := .lst (zs.map V.int)) nhz).free nhk
    -- _law_ahead
    refine ⟨_, rfl, n, rfl, by omega, by omega, fun ad nad => ?_⟩
    refine lc_range (lo := 0) (n := (n : Int).toNat) (fun i H' => Same H7 H' ∧ ∃ (as : List Addr) (Ls : List Lv), H' ad = some (.lst (as.map V.ref)) ∧ All2 (LvR H') as Ls ∧ Ls.length = i ∧ (∀ j L, Ls[j]? = some L → IsLevels near zs j L) ∧ ∀ b, b ∈ as → b ≠ ad ∧ H7 b = none)
      ⟨same_upd nad, [], [], upd_same, .nil, rfl, by simp, by simp⟩ ?_ ?_
    · rintro i H8 hi ⟨sm, as, Ls, eD, hAs, hlen, hIL, hnew⟩
      refine ⟨rfl, ?_⟩
      refine tYes_if ?_
      refine ⟨_, rfl, x, dx, _, rfl, sm _ _ hx7, noL, _, rfl, x, _, zs, lks, near, rfl, W.same sm, fun st est hst L H9 l9 s9 nl9 hl9 IL => ?_, fun no => absurd ⟨by omega, by omega⟩ no⟩
      have est' : st = i := by omega
      subst est'
      have nla9 : l9 ≠ ad := (ne_of_none eD nl9).symm
      refine ⟨as.map V.ref, s9 _ _ eD, small_line (by rw [List.length_map, hAs.len]; omega), upd_out (sm.trans s9) nad, as ++ [l9], Ls ++ [L], by rw [upd_same, List.map_append]; rfl, ?_, by rw [List.length_append, hlen]; rfl, fun j M e => ?_, fun b m => ?_⟩
      · refine All2.app (hAs.imp_mem fun b M m r => ?_) (All2.one ?_)
        · show upd H9 ad _ b = _
          rw [upd_ne (hnew b m).1]
          exact s9 _ _ r
        · show upd H9 ad _ l9 = _
          rw [upd_ne nla9]
          exact hl9
      · by_cases hj : j < Ls.length
        · rw [List.getElem?_append_left hj] at e
          exact hIL j M e
        · have hj2 := (List.getElem?_eq_some_iff.mp e).1
          rw [List.length_append] at hj2
          have : [L].length = 1 := rfl
          have ej : j = st := by omega
          rw [List.getElem?_append_right (by omega), ej, hlen, Nat.sub_self] at e
          cases e
          rw [ej]
          exact IL
      · rcases List.mem_append.mp m with m | m
        · exact hnew b m
        · rw [List.mem_singleton.mp m]
          exact ⟨nla9, sm.free nl9⟩
    rintro H8 ⟨s8, as, Ls, had, hAs, hlenL, hIL, hnew⟩
    rw [Int.toNat_natCast] at hlenL
    -- _law_handed[0].append(7)
    have h8d := s8 _ _ h7d
    have h8z := s8 _ _ h7z
    have h8k := s8 _ _ h7k
    refine ⟨_, rfl, hd, _, _, _, rfl, rfl, SqL.of h8d, i0, .inl ⟨rfl, _, SqL.of h8z⟩, hz, _, _, rfl, rfl, h8z, small_line (by rw [List.length_map]; omega), ?_⟩
    obtain ⟨H9, e9⟩ : ∃ H9, H9 = upd H8 hz (.lst (zs.map V.int ++ [.int 7])) := ⟨_, rfl⟩
    rw [← e9]
    have k9 : ∀ b o, H8 b = some o → b ≠ hz → H9 b = some o := fun b o e n => by rw [e9, upd_ne n]; exact e
    have h9z : H9 hz = some (.lst (zs.map V.int ++ [.int 7])) := by rw [e9, upd_same]
    clear e9
    have h9d := k9 _ _ h8d (ne_of h8d h8z (by
      intro z
      have := HO.lst.inj z
      cases zs with
      | nil => cases this
      | cons _ _ => cases this))
    have h9k := k9 _ _ h8k nzk.symm
    have ndz : hd ≠ hz := nzd.symm
    have ndk : hd ≠ hk := nkd.symm
    -- the handed lists are changed
    refine ⟨_, rfl, 1, n, rfl, ⟨by decide, by decide, by omega, by omega⟩, ?_⟩
    refine for_range (lo := 1) (n := ((n : Int) - 1).toNat) (fun i σ H' => ∃ y7 : Option V, σ = [some (.ref a), some (.int n), some (.ref zd), some (.ref la), some (.bl true), some (.ref hd), some (.ref x), y7, some (.ref ad), none, none, none, none, none] ∧
        (∀ b o, H9 b = some o → b ≠ hz → b ≠ hk → H' b = some o) ∧ (∃ vs : List V, H' hz = some (.lst vs) ∧ vs.length = n + 1) ∧ ∃ vs : List V, H' hk = some (.lst vs) ∧ vs.length ≤ 50 + i)
      ⟨none, rfl, fun b o e _ _ => e, ⟨_, h9z, by rw [List.length_append, List.length_map, hzl]; rfl⟩, ⟨_, h9k, by rw [List.length_map, hA5.len]; omega⟩⟩ ?_ ?_
    · rintro i σ H' hi ⟨y7, rfl, k', ⟨vz, hvz, lvz⟩, vk, hvk, lvk⟩
      have hd' := k' _ _ h9d ndz ndk
      refine ⟨_, rfl, hd, _, _, _, rfl, rfl, SqL.of hd', i1, .inl ⟨rfl, _, SqL.of hvk⟩, _, rfl, by show 2 ≤ sizeLine; decide, fun t nt => ?_⟩
      have nkt := ne_of_none hvk nt
      refine ⟨hk, _, _, rfl, rfl, by rw [upd_ne nkt]; exact hvk, small_line (by omega), ?_⟩
      have nzt := ne_of_none hvz nt
      have ndt := ne_of_none hd' nt
      refine ⟨_, _, rfl, rfl, ⟨by decide, by decide, by decide⟩, _, rfl, _, _, rfl, rfl, _, rfl, hd, _, _, _, rfl, rfl, SqL.of (by rw [upd_ne ndk, upd_ne ndt]; exact hd'), i0, _, rfl, hz, vz, _, 1 + i, rfl, rfl, by rw [upd_ne nzk, upd_ne nzt]; exact hvz, ?_, ?_⟩
      · rw [show (1 + ((i : Nat) : Int)) = ((1 + i : Nat) : Int) by omega]
        exact ixN_nat (by omega)
      · refine ⟨_, rfl, fun b o e n1 n2 => ?_, ⟨_, upd_same, by rw [List.length_set]; exact lvz⟩, ⟨_, by rw [upd_ne nzk.symm, upd_same], by rw [List.length_append]; show vk.length + 1 ≤ _; omega⟩⟩
        rw [upd_ne n1, upd_ne n2, upd_ne (ne_of_none (k' b o e n1 n2) nt)]
        exact k' b o e n1 n2
    rintro σ HA ⟨y7, rfl, kA, _, _⟩
    -- what stands as it stood
    have k8A : ∀ b o, H8 b = some o → b ≠ hz → b ≠ hk → HA b = some o := fun b o e n1 n2 => kA b o (k9 b o e n1) n1 n2
    have k7A : ∀ b o, H7 b = some o → b ≠ hz → b ≠ hk → HA b = some o := fun b o e n1 n2 => k8A b o (s8 b o e) n1 n2
    have k5A : Same H5 HA := fun b o e => k7A b o (t7 b o e) (ne_of_none e nhz) (ne_of_none e n5k)
    have WA : WebAt C HA x zs lks near := ap HA fun b o e c => by
      have nz' : b ≠ hz := by
        rcases c with c | ⟨ys, c⟩
        · exact (ne_of_none h6z c).symm
        · exact ne_of e h7z (by rw [c]; intro z; cases z)
      have nk' : b ≠ hk := by
        rcases c with c | ⟨ys, c⟩
        · exact (ne_of_none h6k c).symm
        · exact ne_of e h7k (by rw [c]; intro z; cases z)
      exact k7A b o e nz' nk'
    obtain ⟨⟨dxA, zlA, llA, nlA, hxA, hrestA⟩, _, _, _⟩ := id WA
    have noLA := wf_no zlA llA nlA (m := "levels") (by decide +kernel) (by decide +kernel) (by decide +kernel)
    have hadA : HA ad = some (.lst (as.map V.ref)) := k8A _ _ had (ne_of_none h7z nad).symm (ne_of_none h7k nad).symm
    have hAsA : All2 (LvR HA) as Ls := hAs.imp_mem fun b L m r => k8A b _ r (ne_of_none h7z (hnew b m).2).symm (ne_of_none h7k (hnew b m).2).symm
    -- if not fields(web, zones, links)
    refine ⟨_, rfl, _, rfl, _, rfl, x, zd, la, zs, lks, near, rfl, WA, k5A _ _ hz5, hla5.same k5A, true, rfl, ?_⟩
    refine iteF ?_
    -- the levels once more
    refine ⟨_, rfl, n, rfl, by omega, by omega, fun bd nbd => ?_⟩
    refine lc_range (lo := 0) (n := (n : Int).toNat) (fun i H' => Same HA H' ∧ ∃ (as : List Addr) (Ls : List Lv), H' bd = some (.lst (as.map V.ref)) ∧ All2 (LvR H') as Ls ∧ Ls.length = i ∧ (∀ j L, Ls[j]? = some L → IsLevels near zs j L) ∧ ∀ b, b ∈ as → b ≠ bd)
      ⟨same_upd nbd, [], [], upd_same, .nil, rfl, by simp, by simp⟩ ?_ ?_
    · rintro i H' hi ⟨sm, as, Ls, eD, hAs, hlen, hIL, hnew⟩
      refine ⟨rfl, ?_⟩
      refine tYes_if ?_
      refine ⟨_, rfl, x, dxA, _, rfl, sm _ _ hxA, noLA, _, rfl, x, _, zs, lks, near, rfl, WA.same sm, fun st est hst L H9 l9 s9 nl9 hl9 IL => ?_, fun no => absurd ⟨by omega, by omega⟩ no⟩
      have est' : st = i := by omega
      subst est'
      have nla9 : l9 ≠ bd := (ne_of_none eD nl9).symm
      refine ⟨as.map V.ref, s9 _ _ eD, small_line (by rw [List.length_map, hAs.len]; omega), upd_out (sm.trans s9) nbd, as ++ [l9], Ls ++ [L], by rw [upd_same, List.map_append]; rfl, ?_, by rw [List.length_append, hlen]; rfl, fun j M e => ?_, fun b m => ?_⟩
      · refine All2.app (hAs.imp_mem fun b M m r => ?_) (All2.one ?_)
        · show upd H9 bd _ b = _
          rw [upd_ne (hnew b m)]
          exact s9 _ _ r
        · show upd H9 bd _ l9 = _
          rw [upd_ne nla9]
          exact hl9
      · by_cases hj : j < Ls.length
        · rw [List.getElem?_append_left hj] at e
          exact hIL j M e
        · have hj2 := (List.getElem?_eq_some_iff.mp e).1
          rw [List.length_append] at hj2
          have : [L].length = 1 := rfl
          have ej : j = st := by omega
          rw [List.getElem?_append_right (by omega), ej, hlen, Nat.sub_self] at e
          cases e
          rw [ej]
          exact IL
      · rcases List.mem_append.mp m with m | m
        · exact hnew b m
        · rw [List.mem_singleton.mp m]
          exact nla9
    rintro HB ⟨sB, bs, Ms, hbd, hBs, hlenM, hIM, _⟩
    rw [Int.toNat_natCast] at hlenM
    have eLM : Ms = Ls := by
      refine List.ext_getElem? fun j => ?_
      by_cases hj : j < n
      · have h1 : Ms[j]? = some (Ms[j]'(by omega)) := List.getElem?_eq_getElem _
        have h2 : Ls[j]? = some (Ls[j]'(by omega)) := List.getElem?_eq_getElem _
        rw [h1, h2, (hIM j _ h1).unique (hIL j _ h2)]
      · rw [List.getElem?_eq_none (by omega), List.getElem?_eq_none (by omega)]
    subst eLM
    refine ⟨_, rfl, _, _, .lst (SqL.of hbd) (dps_lvs hBs), .lst (SqL.of (sB _ _ hadA)) (dps_lvs (hAsA.imp fun b L r => sB _ _ r)), shaped_lvs _, shaped_lvs _, _, rfl, ?_⟩
    rw [eqv_lvs]
    refine iteF ?_
    have kB : Same H5 HB := k5A.trans sB
    have s1B := s5.trans kB
    have WB := WA.same sB
    -- _law_start, _law_goal
    refine ⟨_, rfl, a, ns, 3, rfl, s1B.seq hS, _, rfl, _, n, rfl, hn9, fun z1 => ?_⟩
    refine ⟨_, rfl, a, ns, 4, rfl, s1B.seq hS, _, rfl, _, n, rfl, hn9, fun z2 => ?_⟩
    -- _law_lost
    refine ⟨fun σ H' => ∃ (lo : Addr) (l0 l1 : Bool) (y7 : Option V), σ = [some (.ref a), some (.int n), some (.ref zd), some (.ref la), some (.bl true), some (.ref hd), some (.ref x), y7, some (.ref ad), some (.int z1), some (.int z2), some (.ref lo), none, none] ∧ Same HB H' ∧ H' lo = some (.lst [.bl l0, .bl l1]) ∧
        (l0 = true ↔ ¬ (0 ≤ z1 ∧ z1 < n)) ∧ (l1 = true ↔ ¬ Both z1 z2 n), ?_, ?_⟩
    · have fin : ∀ (l0 l1 : Bool), (l0 = true ↔ ¬ (0 ≤ z1 ∧ z1 < n)) → (l1 = true ↔ ¬ Both z1 z2 n) → ∀ p, HB p = none → ∃ (lo : Addr) (l0 l1 : Bool) (y7' : Option V), ([some (.ref a), some (.int n), some (.ref zd), some (.ref la), some (.bl true), some (.ref hd), some (.ref x), y7, some (.ref ad), some (.int z1), some (.int z2), some (.ref p), none, none] : L2.St) =
          [some (.ref a), some (.int n), some (.ref zd), some (.ref la), some (.bl true), some (.ref hd), some (.ref x), y7', some (.ref ad), some (.int z1), some (.int z2), some (.ref lo), none, none] ∧ Same HB (upd HB p (.lst [.bl l0, .bl l1])) ∧ (upd HB p (.lst [.bl l0, .bl l1])) lo = some (.lst [.bl l0, .bl l1]) ∧
          (l0 = true ↔ ¬ (0 ≤ z1 ∧ z1 < n)) ∧ (l1 = true ↔ ¬ Both z1 z2 n) := fun l0 l1 h0 h1 p np => ⟨p, l0, l1, y7, rfl, same_upd np, upd_same, h0, h1⟩
      refine ⟨_, rfl, _, _, rfl, rfl, _, rfl, ?_⟩
      refine ite2 (fun e => ?_) (fun e => ?_)
      · have z1n : z1 < 0 := of_decide_eq_true e
        refine ⟨_, rfl, _, _, rfl, rfl, _, rfl, ?_⟩
        rw [e]
        refine iteT ?_
        refine ⟨by show 2 ≤ sizeLine; decide, fun p np => ?_⟩
        exact ⟨p, true, true, y7, rfl, same_upd np, upd_same, ⟨fun _ => by omega, fun _ => rfl⟩, ⟨fun _ z => by have := z.1.1; omega, fun _ => rfl⟩⟩
      · have z1p : ¬ z1 < 0 := fun z => e (decide_eq_true z)
        refine ⟨_, rfl, _, rfl, _, _, rfl, rfl, ?_⟩
        refine ⟨_, rfl, _, _, rfl, rfl, _, rfl, ?_⟩
        refine ite2 (fun e => absurd (of_decide_eq_true e) z1p) (fun _ => ?_)
        refine ⟨_, rfl, _, rfl, _, _, rfl, rfl, _, rfl, ?_⟩
        have h0 : (decide ((n : Int) ≤ z1) = true ↔ ¬ (0 ≤ z1 ∧ z1 < n)) := by
          rw [decide_eq_true_iff]
          omega
        refine ite2 (fun e => ?_) (fun e => ?_)
        · have z1n : (n : Int) ≤ z1 := of_decide_eq_true e
          refine ⟨by show 2 ≤ sizeLine; decide, fun p np => ?_⟩
          exact ⟨p, _, true, y7, rfl, same_upd np, upd_same, h0, ⟨fun _ z => by have := z.1.2; omega, fun _ => rfl⟩⟩
        · have z1q : ¬ (n : Int) ≤ z1 := fun z => e (decide_eq_true z)
          refine ⟨_, rfl, _, _, rfl, rfl, _, rfl, ?_⟩
          refine ite2 (fun e => ?_) (fun e => ?_)
          · have z2n : z2 < 0 := of_decide_eq_true e
            refine ⟨by show 2 ≤ sizeLine; decide, fun p np => ?_⟩
            exact ⟨p, _, true, y7, rfl, same_upd np, upd_same, h0, ⟨fun _ z => by have := z.2.1; omega, fun _ => rfl⟩⟩
          · have z2p : ¬ z2 < 0 := fun z => e (decide_eq_true z)
            refine ⟨_, rfl, _, rfl, _, _, rfl, rfl, ?_⟩
            refine ⟨by show 2 ≤ sizeLine; decide, fun p np => ?_⟩
            refine ⟨p, _, decide ((n : Int) ≤ z2), y7, rfl, same_upd np, upd_same, h0, ?_⟩
            rw [decide_eq_true_iff]
            unfold Both
            omega
    rintro σ HC ⟨lo, l0, l1, y7', rfl, sC, hlo, e0, e1⟩
    refine ⟨3, rfl, by decide, by decide, for_range (lo := 0) (n := 3) (fun i σ H' => ∃ y12 : Option V, σ = [some (.ref a), some (.int n), some (.ref zd), some (.ref la), some (.bl true), some (.ref hd), some (.ref x), y7', some (.ref ad), some (.int z1), some (.int z2), some (.ref lo), y12, none] ∧ Same HC H')
      ⟨none, rfl, Same.refl _⟩ ?_ ?_⟩
    · rintro i σ H' hi ⟨y12, rfl, s'⟩
      refine ⟨_, rfl, _, rfl, _, rfl, _, rfl, x, _, z1, z2, zs, lks, near, rfl, WB.same (sC.trans s'), fun b H'' s'' c0 c1 => ?_⟩
      rw [hzl] at c0 c1
      have eix : (if (1 : Int) < 0 + (i : Nat) then (1 : Int) else 0 + (i : Nat)) = if i = 0 then 0 else 1 := by
        split <;> split <;> omega
      have hb : atI [V.bl l0, V.bl l1] (if (1 : Int) < 0 + (i : Nat) then (1 : Int) else 0 + (i : Nat)) = some (.bl b) := by
        rw [eix]
        by_cases h0 : i = 0
        · rw [if_pos h0]
          have : b = l0 := Bool.eq_iff_iff.mpr ((c0 (by omega)).trans e0.symm)
          rw [this]
          rfl
        · rw [if_neg h0]
          have : b = l1 := Bool.eq_iff_iff.mpr ((c1 (by omega)).trans e1.symm)
          rw [this]
          rfl
      refine ⟨_, rfl, _, rfl, _, _, rfl, lo, _, _, _, rfl, rfl, SqL.of (s'' _ _ (s' _ _ hlo)), hb, rfl, _, rfl, ?_⟩
      refine iteNS rfl ?_
      exact ⟨_, rfl, s'.trans s''⟩
    · rintro σ H' ⟨y12, rfl, s'⟩
      exact q H'
end
end FW
namespace FW
open PySem PySem.Spec PyProof.Rows L2
theorem all_mk {l : PySem.W.OpenLaw} {w : World} {K : PySem.W.Frag} {h : Heap} {mg : Str → Option Value} {fa C CL CS CN CF CP CZ CD f1 f2 f3 f4 f5 f6 f7 f8 f9 f10 f11 f12 f13 f14 f15 f16 f17 f18 f19 f20 f21 : Addr} (X : K.In h) (G : h.Ns mainGlobals mg) (hfa : mg "law" = some (.ref fa))
    {od1 an1 od2 an2 od3 an3 od4 an4 od5 an5 od6 an6 od7 an7 od8 an8 od9 an9 od10 an10 od11 an11 od12 an12 od13 an13 od14 an14 od15 an15 od16 an16 od17 an17 od18 an18 od19 an19 od20 an20 od21 an21 : Option Addr} {sl1 sl2 sl3 sl4 sl5 sl6 sl7 sl8 sl9 sl10 sl11 sl12 sl13 sl14 sl15 sl16 sl17 sl18 sl19 sl20 sl21 : Array (Option Value)} {oc1 kV1 dc1 pm1 cd1 ct1 oc2 kV2 dc2 pm2 cd2 ct2 oc3 kV3 dc3 pm3 cd3 ct3 oc4 kV4 dc4 pm4 cd4 ct4 oc5 kV5 dc5 pm5 cd5 ct5 oc6 kV6 dc6 pm6 cd6 ct6 oc7 kV7 dc7 pm7 cd7 ct7 oc8 kV8 dc8 pm8 cd8 ct8 oc9 kV9 dc9 pm9 cd9 ct9 oc10 kV10 dc10 pm10 cd10 ct10 oc11 kV11 dc11 pm11 cd11 ct11 oc12 kV12 dc12 pm12 cd12 ct12 oc13 kV13 dc13 pm13 cd13 ct13 oc14 kV14 dc14 pm14 cd14 ct14 oc15 kV15 dc15 pm15 cd15 ct15 oc16 kV16 dc16 pm16 cd16 ct16 oc17 kV17 dc17 pm17 cd17 ct17 oc18 kV18 dc18 pm18 cd18 ct18 oc19 kV19 dc19 pm19 cd19 ct19 oc20 kV20 dc20 pm20 cd20 ct20 oc21 kV21 dc21 pm21 cd21 ct21 : Value}
    (gC : PySem.W.nsIn K mainGlobals "Web" = some (some (.ref C)))
    (pgC : PySem.W.plainGet K C Str.empty = true)
    (hdC : PySem.W.hasDictIn K C = true)
    (poC : PySem.W.plainOver K C = true)
    (saC : PySem.W.findIn K (.ref C) "__setattr__" = some (some (.builtin "object.__setattr__")))
    (mkC : PySem.W.makesIn K C = true)
    (kcC : PySem.W.keepIn K (.ref C) = true)
    (a1 : PySem.W.findIn K (.ref C) "__init__" = some (some (.ref f1)))
    (i1 : PySem.W.isFn K (.ref f1) = true)
    (l1 : K.lookup f1 = some ⟨oc1, od1, .func (PySem.W.fnOf "__init__" "Web.__init__" (defArgs sInit) (defBody sInit) (defScope sInit) .none kV1 dc1 pm1 an1 cd1 ct1), sl1⟩)
    (c1 : PySem.W.codeIn K cd1 "Web.__init__" = true)
    (k1 : PySem.W.keepIn K (.ref f1) = true)
    (a2 : PySem.W.findIn K (.ref C) "levels" = some (some (.ref f2)))
    (i2 : PySem.W.isFn K (.ref f2) = true)
    (l2 : K.lookup f2 = some ⟨oc2, od2, .func (PySem.W.fnOf "levels" "Web.levels" (defArgs sLevels) (defBody sLevels) (defScope sLevels) .none kV2 dc2 pm2 an2 cd2 ct2), sl2⟩)
    (c2 : PySem.W.codeIn K cd2 "Web.levels" = true)
    (k2 : PySem.W.keepIn K (.ref f2) = true)
    (a3 : PySem.W.findIn K (.ref C) "fewest" = some (some (.ref f3)))
    (i3 : PySem.W.isFn K (.ref f3) = true)
    (l3 : K.lookup f3 = some ⟨oc3, od3, .func (PySem.W.fnOf "fewest" "Web.fewest" (defArgs sFewest) (defBody sFewest) (defScope sFewest) .none kV3 dc3 pm3 an3 cd3 ct3), sl3⟩)
    (c3 : PySem.W.codeIn K cd3 "Web.fewest" = true)
    (k3 : PySem.W.keepIn K (.ref f3) = true)
    (a4 : PySem.W.findIn K (.ref C) "way" = some (some (.ref f4)))
    (i4 : PySem.W.isFn K (.ref f4) = true)
    (l4 : K.lookup f4 = some ⟨oc4, od4, .func (PySem.W.fnOf "way" "Web.way" (defArgs sWay) (defBody sWay) (defScope sWay) .none kV4 dc4 pm4 an4 cd4 ct4), sl4⟩)
    (c4 : PySem.W.codeIn K cd4 "Web.way" = true)
    (k4 : PySem.W.keepIn K (.ref f4) = true)
    (a5 : PySem.W.findIn K (.ref C) "_check_stop" = some (some (.ref f5)))
    (i5 : PySem.W.isFn K (.ref f5) = true)
    (l5 : K.lookup f5 = some ⟨oc5, od5, .func (PySem.W.fnOf "_check_stop" "Web._check_stop" (defArgs sCheckStop) (defBody sCheckStop) (defScope sCheckStop) .none kV5 dc5 pm5 an5 cd5 ct5), sl5⟩)
    (c5 : PySem.W.codeIn K cd5 "Web._check_stop" = true)
    (k5 : PySem.W.keepIn K (.ref f5) = true)
    (a6 : PySem.W.findIn K (.ref C) "_search_goal" = some (some (.ref f6)))
    (i6 : PySem.W.isFn K (.ref f6) = true)
    (l6 : K.lookup f6 = some ⟨oc6, od6, .func (PySem.W.fnOf "_search_goal" "Web._search_goal" (defArgs sSearchGoal) (defBody sSearchGoal) (defScope sSearchGoal) .none kV6 dc6 pm6 an6 cd6 ct6), sl6⟩)
    (c6 : PySem.W.codeIn K cd6 "Web._search_goal" = true)
    (k6 : PySem.W.keepIn K (.ref f6) = true)
    (a7 : PySem.W.findIn K (.ref C) "_search" = some (some (.ref f7)))
    (i7 : PySem.W.isFn K (.ref f7) = true)
    (l7 : K.lookup f7 = some ⟨oc7, od7, .func (PySem.W.fnOf "_search" "Web._search" (defArgs sSearch) (defBody sSearch) (defScope sSearch) .none kV7 dc7 pm7 an7 cd7 ct7), sl7⟩)
    (c7 : PySem.W.codeIn K cd7 "Web._search" = true)
    (k7 : PySem.W.keepIn K (.ref f7) = true)
    (a8 : PySem.W.findIn K (.ref C) "_fill_level" = some (some (.ref f8)))
    (i8 : PySem.W.isFn K (.ref f8) = true)
    (l8 : K.lookup f8 = some ⟨oc8, od8, .func (PySem.W.fnOf "_fill_level" "Web._fill_level" (defArgs sFill) (defBody sFill) (defScope sFill) .none kV8 dc8 pm8 an8 cd8 ct8), sl8⟩)
    (c8 : PySem.W.codeIn K cd8 "Web._fill_level" = true)
    (k8 : PySem.W.keepIn K (.ref f8) = true)
    (a9 : PySem.W.nsIn K mainGlobals "_is_stop" = some (some (.ref f9)))
    (l9 : K.lookup f9 = some ⟨oc9, od9, .func (PySem.W.fnOf "_is_stop" "_is_stop" (defArgs sIsStop) (defBody sIsStop) (defScope sIsStop) .none kV9 dc9 pm9 an9 cd9 ct9), sl9⟩)
    (c9 : PySem.W.codeIn K cd9 "_is_stop" = true)
    (k9 : PySem.W.keepIn K (.ref f9) = true)
    (a10 : PySem.W.nsIn K mainGlobals "_neighbours" = some (some (.ref f10)))
    (l10 : K.lookup f10 = some ⟨oc10, od10, .func (PySem.W.fnOf "_neighbours" "_neighbours" (defArgs sNeigh) (defBody sNeigh) (defScope sNeigh) .none kV10 dc10 pm10 an10 cd10 ct10), sl10⟩)
    (c10 : PySem.W.codeIn K cd10 "_neighbours" = true)
    (k10 : PySem.W.keepIn K (.ref f10) = true)
    (a11 : PySem.W.nsIn K mainGlobals "_check_link" = some (some (.ref f11)))
    (l11 : K.lookup f11 = some ⟨oc11, od11, .func (PySem.W.fnOf "_check_link" "_check_link" (defArgs sCheckLink) (defBody sCheckLink) (defScope sCheckLink) .none kV11 dc11 pm11 an11 cd11 ct11), sl11⟩)
    (c11 : PySem.W.codeIn K cd11 "_check_link" = true)
    (k11 : PySem.W.keepIn K (.ref f11) = true)
    (a12 : PySem.W.nsIn K mainGlobals "_law_cell_at" = some (some (.ref f12)))
    (l12 : K.lookup f12 = some ⟨oc12, od12, .func (PySem.W.fnOf "_law_cell_at" "_law_cell_at" (defArgs sCell) (defBody sCell) (defScope sCell) .none kV12 dc12 pm12 an12 cd12 ct12), sl12⟩)
    (c12 : PySem.W.codeIn K cd12 "_law_cell_at" = true)
    (k12 : PySem.W.keepIn K (.ref f12) = true)
    (a13 : PySem.W.nsIn K mainGlobals "_law_links_by" = some (some (.ref f13)))
    (l13 : K.lookup f13 = some ⟨oc13, od13, .func (PySem.W.fnOf "_law_links_by" "_law_links_by" (defArgs sLinksBy) (defBody sLinksBy) (defScope sLinksBy) .none kV13 dc13 pm13 an13 cd13 ct13), sl13⟩)
    (c13 : PySem.W.codeIn K cd13 "_law_links_by" = true)
    (k13 : PySem.W.keepIn K (.ref f13) = true)
    (a14 : PySem.W.nsIn K mainGlobals "_law_wrong" = some (some (.ref f14)))
    (l14 : K.lookup f14 = some ⟨oc14, od14, .func (PySem.W.fnOf "_law_wrong" "_law_wrong" (defArgs sWrong) (defBody sWrong) (defScope sWrong) .none kV14 dc14 pm14 an14 cd14 ct14), sl14⟩)
    (c14 : PySem.W.codeIn K cd14 "_law_wrong" = true)
    (k14 : PySem.W.keepIn K (.ref f14) = true)
    (a15 : PySem.W.nsIn K mainGlobals "_law_kind" = some (some (.ref f15)))
    (l15 : K.lookup f15 = some ⟨oc15, od15, .func (PySem.W.fnOf "_law_kind" "_law_kind" (defArgs sKind) (defBody sKind) (defScope sKind) .none kV15 dc15 pm15 an15 cd15 ct15), sl15⟩)
    (c15 : PySem.W.codeIn K cd15 "_law_kind" = true)
    (k15 : PySem.W.keepIn K (.ref f15) = true)
    (a16 : PySem.W.nsIn K mainGlobals "_law_made" = some (some (.ref f16)))
    (l16 : K.lookup f16 = some ⟨oc16, od16, .func (PySem.W.fnOf "_law_made" "_law_made" (defArgs sMade) (defBody sMade) (defScope sMade) .none kV16 dc16 pm16 an16 cd16 ct16), sl16⟩)
    (c16 : PySem.W.codeIn K cd16 "_law_made" = true)
    (k16 : PySem.W.keepIn K (.ref f16) = true)
    (a17 : PySem.W.nsIn K mainGlobals "_law_any_refusal" = some (some (.ref f17)))
    (l17 : K.lookup f17 = some ⟨oc17, od17, .func (PySem.W.fnOf "_law_any_refusal" "_law_any_refusal" (defArgs sAny) (defBody sAny) (defScope sAny) .none kV17 dc17 pm17 an17 cd17 ct17), sl17⟩)
    (c17 : PySem.W.codeIn K cd17 "_law_any_refusal" = true)
    (k17 : PySem.W.keepIn K (.ref f17) = true)
    (a18 : PySem.W.nsIn K mainGlobals "_law_asked" = some (some (.ref f18)))
    (l18 : K.lookup f18 = some ⟨oc18, od18, .func (PySem.W.fnOf "_law_asked" "_law_asked" (defArgs sAsked) (defBody sAsked) (defScope sAsked) .none kV18 dc18 pm18 an18 cd18 ct18), sl18⟩)
    (c18 : PySem.W.codeIn K cd18 "_law_asked" = true)
    (k18 : PySem.W.keepIn K (.ref f18) = true)
    (a19 : PySem.W.nsIn K mainGlobals "_law_stop" = some (some (.ref f19)))
    (l19 : K.lookup f19 = some ⟨oc19, od19, .func (PySem.W.fnOf "_law_stop" "_law_stop" (defArgs sStop) (defBody sStop) (defScope sStop) .none kV19 dc19 pm19 an19 cd19 ct19), sl19⟩)
    (c19 : PySem.W.codeIn K cd19 "_law_stop" = true)
    (k19 : PySem.W.keepIn K (.ref f19) = true)
    (a20 : PySem.W.nsIn K mainGlobals "_law_fields" = some (some (.ref f20)))
    (l20 : K.lookup f20 = some ⟨oc20, od20, .func (PySem.W.fnOf "_law_fields" "_law_fields" (defArgs sFields) (defBody sFields) (defScope sFields) .none kV20 dc20 pm20 an20 cd20 ct20), sl20⟩)
    (c20 : PySem.W.codeIn K cd20 "_law_fields" = true)
    (k20 : PySem.W.keepIn K (.ref f20) = true)
    (a21 : PySem.W.nsIn K mainGlobals "law" = some (some (.ref f21)))
    (l21 : K.lookup f21 = some ⟨oc21, od21, .func (PySem.W.fnOf "law" "law" (defArgs sLaw) (defBody sLaw) (defScope sLaw) .none kV21 dc21 pm21 an21 cd21 ct21), sl21⟩)
    (c21 : PySem.W.codeIn K cd21 "law" = true)
    (k21 : PySem.W.keepIn K (.ref f21) = true)
    (nC_zones : PySem.W.findIn K (.ref C) "zones" = some none)
    (nC_links : PySem.W.findIn K (.ref C) "links" = some none)
    (nC__near : PySem.W.findIn K (.ref C) "_near" = some none)
    (gCL : PySem.W.nsIn K mainGlobals "BadLink" = some (some (.ref CL)))
    (xCL : PySem.W.excIn K CL [.type "ValueError", .type "Exception", .type "BaseException", .type "object"] "ValueError.__new__" = true)
    (kCL : PySem.W.keepIn K (.ref CL) = true)
    (bCL : PySem.W.subIn K (.ref CL) (.type "BaseException") = some true)
    (tCL : PySem.W.typeIn K (.ref CL) = some (.type "type"))
    (gCS : PySem.W.nsIn K mainGlobals "BadStop" = some (some (.ref CS)))
    (xCS : PySem.W.excIn K CS [.type "ValueError", .type "Exception", .type "BaseException", .type "object"] "ValueError.__new__" = true)
    (kCS : PySem.W.keepIn K (.ref CS) = true)
    (bCS : PySem.W.subIn K (.ref CS) (.type "BaseException") = some true)
    (tCS : PySem.W.typeIn K (.ref CS) = some (.type "type"))
    (gCN : PySem.W.nsIn K mainGlobals "NoWay" = some (some (.ref CN)))
    (xCN : PySem.W.excIn K CN [.type "ValueError", .type "Exception", .type "BaseException", .type "object"] "ValueError.__new__" = true)
    (kCN : PySem.W.keepIn K (.ref CN) = true)
    (bCN : PySem.W.subIn K (.ref CN) (.type "BaseException") = some true)
    (tCN : PySem.W.typeIn K (.ref CN) = some (.type "type"))
    (z_len : PySem.W.nsIn K mainGlobals "len" = some none)
    (z_list : PySem.W.nsIn K mainGlobals "list" = some none)
    (z_range : PySem.W.nsIn K mainGlobals "range" = some none)
    (z_min : PySem.W.nsIn K mainGlobals "min" = some none)
    (z_max : PySem.W.nsIn K mainGlobals "max" = some none)
    (z_isinstance : PySem.W.nsIn K mainGlobals "isinstance" = some none)
    (z_tuple : PySem.W.nsIn K mainGlobals "tuple" = some none)
    (z_ValueError : PySem.W.nsIn K mainGlobals "ValueError" = some none)
    (gCF : PySem.W.nsIn K mainGlobals "FareError" = some (some (.ref CF)))
    (gCP : PySem.W.nsIn K mainGlobals "BadPrices" = some (some (.ref CP)))
    (gCZ : PySem.W.nsIn K mainGlobals "BadZones" = some (some (.ref CZ)))
    (gCD : PySem.W.nsIn K mainGlobals "PastDay" = some (some (.ref CD)))
    (bCF : PySem.W.subIn K (.ref CF) (.type "BaseException") = some true)
    (hdCF : PySem.W.hasDictIn K CF = true)
    (tCF : PySem.W.typeIn K (.ref CF) = some (.type "type"))
    (seCL : PySem.W.subIn K (.ref CL) (.ref CL) = some true)
    (sp_cls : PySem.W.specialIn K (.builtin "object.__class__") "__get__" = some (some (.builtin "getset_descriptor.__get__")))
    (tk_cls : PySem.W.takesIn K (.builtin "object.__class__") = some true)
    (suCL : PySem.W.subIn K (.ref CL) (.ref CF) = some true)
    (hdCL : PySem.W.hasDictIn K CL = true)
    (gaCL : PySem.W.findIn K (.ref CL) "__getattribute__" = some (some (.builtin "BaseException.__getattribute__")))
    (gkCL : PySem.W.findIn K (.ref CL) "__getattr__" = some none)
    (caCL : PySem.W.findIn K (.ref CL) "__class__" = some (some (.builtin "object.__class__")))
    (moCL : PySem.W.mroIn K CL (.type "object") = some true)
    (kvCL : PySem.W.kitOne K (.ref CL) (.type "ValueError") = some true)
    (kCL0 : PySem.W.kitOne K (.ref CL) (.ref CL) = some true)
    (kCL1 : PySem.W.kitOne K (.ref CL) (.ref CS) = some false)
    (kCL2 : PySem.W.kitOne K (.ref CL) (.ref CN) = some false)
    (kCL3 : PySem.W.kitOne K (.ref CL) (.ref CP) = some false)
    (kCL4 : PySem.W.kitOne K (.ref CL) (.ref CZ) = some false)
    (kCL5 : PySem.W.kitOne K (.ref CL) (.ref CD) = some false)
    (suCS : PySem.W.subIn K (.ref CS) (.ref CF) = some true)
    (hdCS : PySem.W.hasDictIn K CS = true)
    (gaCS : PySem.W.findIn K (.ref CS) "__getattribute__" = some (some (.builtin "BaseException.__getattribute__")))
    (gkCS : PySem.W.findIn K (.ref CS) "__getattr__" = some none)
    (caCS : PySem.W.findIn K (.ref CS) "__class__" = some (some (.builtin "object.__class__")))
    (moCS : PySem.W.mroIn K CS (.type "object") = some true)
    (kvCS : PySem.W.kitOne K (.ref CS) (.type "ValueError") = some true)
    (kCS0 : PySem.W.kitOne K (.ref CS) (.ref CL) = some false)
    (kCS1 : PySem.W.kitOne K (.ref CS) (.ref CS) = some true)
    (kCS2 : PySem.W.kitOne K (.ref CS) (.ref CN) = some false)
    (kCS3 : PySem.W.kitOne K (.ref CS) (.ref CP) = some false)
    (kCS4 : PySem.W.kitOne K (.ref CS) (.ref CZ) = some false)
    (kCS5 : PySem.W.kitOne K (.ref CS) (.ref CD) = some false)
    (suCN : PySem.W.subIn K (.ref CN) (.ref CF) = some true)
    (hdCN : PySem.W.hasDictIn K CN = true)
    (gaCN : PySem.W.findIn K (.ref CN) "__getattribute__" = some (some (.builtin "BaseException.__getattribute__")))
    (gkCN : PySem.W.findIn K (.ref CN) "__getattr__" = some none)
    (caCN : PySem.W.findIn K (.ref CN) "__class__" = some (some (.builtin "object.__class__")))
    (moCN : PySem.W.mroIn K CN (.type "object") = some true)
    (kvCN : PySem.W.kitOne K (.ref CN) (.type "ValueError") = some true)
    (kCN0 : PySem.W.kitOne K (.ref CN) (.ref CL) = some false)
    (kCN1 : PySem.W.kitOne K (.ref CN) (.ref CS) = some false)
    (kCN2 : PySem.W.kitOne K (.ref CN) (.ref CN) = some true)
    (kCN3 : PySem.W.kitOne K (.ref CN) (.ref CP) = some false)
    (kCN4 : PySem.W.kitOne K (.ref CN) (.ref CZ) = some false)
    (kCN5 : PySem.W.kitOne K (.ref CN) (.ref CD) = some false)
    : ∃ fd : FuncData, (∀ (s : Shared) (v : Value), BindsTo s fd ⟨[v], []⟩ [("_law_script", v)]) ∧ ∀ base : Heap, K.In base → base.Ns mainGlobals mg → FnOk l.prog w K mg base CX0 7 fa fd ["_law_script"] (spLaw K) := by
  have e := hfa.symm.trans (PySem.W.mg_of X G a21)
  cases e
  have F1 := fun_mk (st := sInit) l1 c1 k1
  have b1 := F1.binds (ps := ["self", "zones", "links"]) fun _ _ _ _ _ _ us hl => match us, hl with | [_, _, _], _ => rfl
  have F2 := fun_mk (st := sLevels) l2 c2 k2
  have b2 := F2.binds (ps := ["self", "start"]) fun _ _ _ _ _ _ us hl => match us, hl with | [_, _], _ => rfl
  have F3 := fun_mk (st := sFewest) l3 c3 k3
  have b3 := F3.binds (ps := ["self", "start", "goal"]) fun _ _ _ _ _ _ us hl => match us, hl with | [_, _, _], _ => rfl
  have F4 := fun_mk (st := sWay) l4 c4 k4
  have b4 := F4.binds (ps := ["self", "start", "goal"]) fun _ _ _ _ _ _ us hl => match us, hl with | [_, _, _], _ => rfl
  have F5 := fun_mk (st := sCheckStop) l5 c5 k5
  have b5 := F5.binds (ps := ["self", "stop"]) fun _ _ _ _ _ _ us hl => match us, hl with | [_, _], _ => rfl
  have F6 := fun_mk (st := sSearchGoal) l6 c6 k6
  have b6 := F6.binds (ps := ["self", "start", "goal"]) fun _ _ _ _ _ _ us hl => match us, hl with | [_, _, _], _ => rfl
  have F7 := fun_mk (st := sSearch) l7 c7 k7
  have b7 := F7.binds (ps := ["self", "start"]) fun _ _ _ _ _ _ us hl => match us, hl with | [_, _], _ => rfl
  have F8 := fun_mk (st := sFill) l8 c8 k8
  have b8 := F8.binds (ps := ["self", "level", "entries", "levels", "origins"]) fun _ _ _ _ _ _ us hl => match us, hl with | [_, _, _, _, _], _ => rfl
  have F9 := fun_mk (st := sIsStop) l9 c9 k9
  have b9 := F9.binds (ps := ["stop", "count"]) fun _ _ _ _ _ _ us hl => match us, hl with | [_, _], _ => rfl
  have F10 := fun_mk (st := sNeigh) l10 c10 k10
  have b10 := F10.binds (ps := ["count", "links"]) fun _ _ _ _ _ _ us hl => match us, hl with | [_, _], _ => rfl
  have F11 := fun_mk (st := sCheckLink) l11 c11 k11
  have b11 := F11.binds (ps := ["one", "other", "count"]) fun _ _ _ _ _ _ us hl => match us, hl with | [_, _, _], _ => rfl
  have F12 := fun_mk (st := sCell) l12 c12 k12
  have b12 := F12.binds (ps := ["_law_script", "_law_k"]) fun _ _ _ _ _ _ us hl => match us, hl with | [_, _], _ => rfl
  have F13 := fun_mk (st := sLinksBy) l13 c13 k13
  have b13 := F13.binds (ps := ["_law_script", "_law_first", "_law_many"]) fun _ _ _ _ _ _ us hl => match us, hl with | [_, _, _], _ => rfl
  have F14 := fun_mk (st := sWrong) l14 c14 k14
  have b14 := F14.binds (ps := ["_law_cell", "_law_many"]) fun _ _ _ _ _ _ us hl => match us, hl with | [_, _], _ => rfl
  have F15 := fun_mk (st := sKind) l15 c15 k15
  have b15 := F15.binds (ps := ["_law_e"]) fun _ _ _ _ _ _ us hl => match us, hl with | [_], _ => rfl
  have F16 := fun_mk (st := sMade) l16 c16 k16
  have b16 := F16.binds (ps := ["_law_zones", "_law_links"]) fun _ _ _ _ _ _ us hl => match us, hl with | [_, _], _ => rfl
  have F17 := fun_mk (st := sAny) l17 c17 k17
  have b17 := F17.binds (ps := ["_law_zones", "_law_links"]) fun _ _ _ _ _ _ us hl => match us, hl with | [_, _], _ => rfl
  have F18 := fun_mk (st := sAsked) l18 c18 k18
  have b18 := F18.binds (ps := ["_law_web", "_law_sort", "_law_start", "_law_goal"]) fun _ _ _ _ _ _ us hl => match us, hl with | [_, _, _, _], _ => rfl
  have F19 := fun_mk (st := sStop) l19 c19 k19
  have b19 := F19.binds (ps := ["_law_cell", "_law_many"]) fun _ _ _ _ _ _ us hl => match us, hl with | [_, _], _ => rfl
  have F20 := fun_mk (st := sFields) l20 c20 k20
  have b20 := F20.binds (ps := ["_law_web", "_law_zones", "_law_links"]) fun _ _ _ _ _ _ us hl => match us, hl with | [_, _, _], _ => rfl
  have F21 := fun_mk (st := sLaw) l21 c21 k21
  have T : Txt K mg C CL CS CN := ⟨⟨pgC, hdC, poC, saC⟩, nC_zones, nC_links, nC__near, PySem.W.mg_none_of X G z_len, PySem.W.mg_none_of X G z_list, PySem.W.mg_none_of X G z_range, ⟨PySem.W.mg_of X G gCL, xCL, kCL, bCL, tCL⟩, ⟨PySem.W.mg_of X G gCS, xCS, kCS, bCS, tCS⟩, ⟨PySem.W.mg_of X G gCN, xCN, kCN, bCN, tCN⟩⟩
  have B : LT mg := ⟨PySem.W.mg_none_of X G z_len, PySem.W.mg_none_of X G z_list, PySem.W.mg_none_of X G z_range, PySem.W.mg_none_of X G z_min, PySem.W.mg_none_of X G z_max, PySem.W.mg_none_of X G z_isinstance, PySem.W.mg_none_of X G z_tuple⟩
  have KGs : KG mg CL CS CN CP CZ CD := ⟨PySem.W.mg_of X G gCL, PySem.W.mg_of X G gCS, PySem.W.mg_of X G gCN, PySem.W.mg_of X G gCP, PySem.W.mg_of X G gCZ, PySem.W.mg_of X G gCD, PySem.W.mg_none_of X G z_isinstance, PySem.W.mg_none_of X G z_ValueError⟩
  have ECL : ExcC K CL := ⟨gaCL, gkCL, bCL, hdCL, caCL, sp_cls, tk_cls, moCL⟩
  have KCL : KindT K CL CS CN CP CZ CD CL 0 := ⟨ECL, kCL0, kCL1, kCL2, kCL3, kCL4, kCL5, kvCL, by decide⟩
  have ECS : ExcC K CS := ⟨gaCS, gkCS, bCS, hdCS, caCS, sp_cls, tk_cls, moCS⟩
  have KCS : KindT K CL CS CN CP CZ CD CS 1 := ⟨ECS, kCS0, kCS1, kCS2, kCS3, kCS4, kCS5, kvCS, by decide⟩
  have ECN : ExcC K CN := ⟨gaCN, gkCN, bCN, hdCN, caCN, sp_cls, tk_cls, moCN⟩
  have KCN : KindT K CL CS CN CP CZ CD CN 2 := ⟨ECN, kCN0, kCN1, kCN2, kCN3, kCN4, kCN5, kvCN, by decide⟩
  have D : Defs K mg C CL CS CN CF CP CZ CD f1 f2 f3 f4 f5 f6 f7 f8 f9 f10 f11 f12 f13 f14 f15 f16 f17 f18 f19 f20 _ _ _ _ _ _ _ _ _ _ _ _ _ _ _ _ _ _ _ _ := ⟨T, B, PySem.W.mg_of X G gCF, KGs, ⟨bCL, hdCL, tCL, seCL⟩, ⟨bCF, hdCF, tCF, suCL⟩, ⟨bCF, hdCF, tCF, suCS⟩, ⟨bCF, hdCF, tCF, suCN⟩, KCL, KCS, KCN, ⟨mkC, a1, i1, kcC⟩, PySem.W.mg_of X G gC, F1, b1, F2, b2, ⟨a2, i2, k2⟩, F3, b3, ⟨a3, i3, k3⟩, F4, b4, ⟨a4, i4, k4⟩, F5, b5, ⟨a5, i5, k5⟩, F6, b6, ⟨a6, i6, k6⟩, F7, b7, ⟨a7, i7, k7⟩, F8, b8, ⟨a8, i8, k8⟩, F9, b9, PySem.W.mg_of X G a9, F10, b10, PySem.W.mg_of X G a10, F11, b11, PySem.W.mg_of X G a11, F12, b12, PySem.W.mg_of X G a12, F13, b13, PySem.W.mg_of X G a13, F14, b14, PySem.W.mg_of X G a14, F15, b15, PySem.W.mg_of X G a15, F16, b16, PySem.W.mg_of X G a16, F17, b17, PySem.W.mg_of X G a17, F18, b18, PySem.W.mg_of X G a18, F19, b19, PySem.W.mg_of X G a19, F20, b20, PySem.W.mg_of X G a20⟩
  exact ⟨PySem.W.fnOf "law" "law" (defArgs sLaw) (defBody sLaw) (defScope sLaw) .none kV21 dc21 pm21 an21 cd21 ct21, fun s v => .of_eq rfl, fun base _ _ => ok_law F21 D⟩
theorem walk {l : PySem.W.OpenLaw} {q : Program} {loose : List Str} {XP : (Str → Option Value) → Heap → Prop} {YP : World → Heap → Prop} {d : DefRec} {K : Params → PySem.W.Frag} (hn : l.most = some 63) (hdf : d.params.defaults = [])
    (hY : ∀ (w : World) (h : Heap), YP w h → (K w.params).In h)
    (F : ∀ (w : World) (mg : Str → Option Value) (fa : Addr) (h : Heap), (K w.params).In h → h.Ns mainGlobals mg → mg d.name = some (.ref fa) →
      ∃ fd : FuncData, (∀ (s : Shared) (u : Value), BindsTo s fd ⟨[u], []⟩ [("_law_script", u)]) ∧ ∀ base : Heap, (K w.params).In base → base.Ns mainGlobals mg → FnOk l.prog w (K w.params) mg base CX0 7 fa fd ["_law_script"] (spLaw (K w.params))) :
    PySem.W.WalkO q loose XP YP l.row.toRowW d [] (fun f vs => PySem.call f vs) :=
  L2.walk_of (n := 63) (k := 7) (x := "_law_script") (CX := fun _ => CX0) (sp := fun w => spLaw (K w.params)) hn (by decide) hdf ⟨rfl, by decide, by decide⟩ hY F (fun _ _ a ns hl _ hS => ⟨a, ns, rfl, hS, hl, fun _ => rfl⟩) fun _ _ _ _ _ z => z
end FW
open PySem PySem.W PyProof.Rows
set_option maxRecDepth 100000 in
set_option maxHeartbeats 0 in
theorem PySem.Challenge.cw_fareweb_k05_stops_that_are_not_there_holds : PySem.Challenge.rw_fareweb_k05_stops_that_are_not_there.Holds := by
  w_on; o_law; k_head; (case hw => w_witness2)
  k_fill
  refine FW.walk (l := PySem.Challenge.rw_fareweb_k05_stops_that_are_not_there) rfl rfl (fun w h Y => PySem.W.kIn_of Y) ?F
  case F =>
    intro w mg fa h KX G hmg
    refine' FW.all_mk KX G hmg ?gC ?pgC ?hdC ?poC ?saC ?mkC ?kcC ?a1 ?i1 ?l1 ?c1 ?k1 ?a2 ?i2 ?l2 ?c2 ?k2 ?a3 ?i3 ?l3 ?c3 ?k3 ?a4 ?i4 ?l4 ?c4 ?k4 ?a5 ?i5 ?l5 ?c5 ?k5 ?a6 ?i6 ?l6 ?c6 ?k6 ?a7 ?i7 ?l7 ?c7 ?k7 ?a8 ?i8 ?l8 ?c8 ?k8 ?a9 ?l9 ?c9 ?k9 ?a10 ?l10 ?c10 ?k10 ?a11 ?l11 ?c11 ?k11 ?a12 ?l12 ?c12 ?k12 ?a13 ?l13 ?c13 ?k13 ?a14 ?l14 ?c14 ?k14 ?a15 ?l15 ?c15 ?k15 ?a16 ?l16 ?c16 ?k16 ?a17 ?l17 ?c17 ?k17 ?a18 ?l18 ?c18 ?k18 ?a19 ?l19 ?c19 ?k19 ?a20 ?l20 ?c20 ?k20 ?a21 ?l21 ?c21 ?k21 ?nC_zones ?nC_links ?nC__near ?gCL ?xCL ?kCL ?bCL ?tCL ?gCS ?xCS ?kCS ?bCS ?tCS ?gCN ?xCN ?kCN ?bCN ?tCN ?z_len ?z_list ?z_range ?z_min ?z_max ?z_isinstance ?z_tuple ?z_ValueError ?gCF ?gCP ?gCZ ?gCD ?bCF ?hdCF ?tCF ?seCL ?sp_cls ?tk_cls ?suCL ?hdCL ?gaCL ?gkCL ?caCL ?moCL ?kvCL ?kCL0 ?kCL1 ?kCL2 ?kCL3 ?kCL4 ?kCL5 ?suCS ?hdCS ?gaCS ?gkCS ?caCS ?moCS ?kvCS ?kCS0 ?kCS1 ?kCS2 ?kCS3 ?kCS4 ?kCS5 ?suCN ?hdCN ?gaCN ?gkCN ?caCN ?moCN ?kvCN ?kCN0 ?kCN1 ?kCN2 ?kCN3 ?kCN4 ?kCN5
    (case gC => k_is)
    (case pgC => k_is)
    (case hdC => k_is)
    (case poC => k_is)
    (case saC => k_is)
    (case mkC => k_is)
    (case kcC => k_is)
    (case a1 => k_is)
    (case i1 => k_is)
    (case l1 => k_is)
    (case c1 => k_is)
    (case k1 => k_is)
    (case a2 => k_is)
    (case i2 => k_is)
    (case l2 => k_is)
    (case c2 => k_is)
    (case k2 => k_is)
    (case a3 => k_is)
    (case i3 => k_is)
    (case l3 => k_is)
    (case c3 => k_is)
    (case k3 => k_is)
    (case a4 => k_is)
    (case i4 => k_is)
    (case l4 => k_is)
    (case c4 => k_is)
    (case k4 => k_is)
    (case a5 => k_is)
    (case i5 => k_is)
    (case l5 => k_is)
    (case c5 => k_is)
    (case k5 => k_is)
    (case a6 => k_is)
    (case i6 => k_is)
    (case l6 => k_is)
    (case c6 => k_is)
    (case k6 => k_is)
    (case a7 => k_is)
    (case i7 => k_is)
    (case l7 => k_is)
    (case c7 => k_is)
    (case k7 => k_is)
    (case a8 => k_is)
    (case i8 => k_is)
    (case l8 => k_is)
    (case c8 => k_is)
    (case k8 => k_is)
    (case a9 => k_is)
    (case l9 => k_is)
    (case c9 => k_is)
    (case k9 => k_is)
    (case a10 => k_is)
    (case l10 => k_is)
    (case c10 => k_is)
    (case k10 => k_is)
    (case a11 => k_is)
    (case l11 => k_is)
    (case c11 => k_is)
    (case k11 => k_is)
    (case a12 => k_is)
    (case l12 => k_is)
    (case c12 => k_is)
    (case k12 => k_is)
    (case a13 => k_is)
    (case l13 => k_is)
    (case c13 => k_is)
    (case k13 => k_is)
    (case a14 => k_is)
    (case l14 => k_is)
    (case c14 => k_is)
    (case k14 => k_is)
    (case a15 => k_is)
    (case l15 => k_is)
    (case c15 => k_is)
    (case k15 => k_is)
    (case a16 => k_is)
    (case l16 => k_is)
    (case c16 => k_is)
    (case k16 => k_is)
    (case a17 => k_is)
    (case l17 => k_is)
    (case c17 => k_is)
    (case k17 => k_is)
    (case a18 => k_is)
    (case l18 => k_is)
    (case c18 => k_is)
    (case k18 => k_is)
    (case a19 => k_is)
    (case l19 => k_is)
    (case c19 => k_is)
    (case k19 => k_is)
    (case a20 => k_is)
    (case l20 => k_is)
    (case c20 => k_is)
    (case k20 => k_is)
    (case a21 => k_is)
    (case l21 => k_is)
    (case c21 => k_is)
    (case k21 => k_is)
    (case nC_zones => k_is)
    (case nC_links => k_is)
    (case nC__near => k_is)
    (case gCL => k_is)
    (case xCL => k_exc)
    (case kCL => k_is)
    (case bCL => k_is)
    (case tCL => k_is)
    (case gCS => k_is)
    (case xCS => k_exc)
    (case kCS => k_is)
    (case bCS => k_is)
    (case tCS => k_is)
    (case gCN => k_is)
    (case xCN => k_exc)
    (case kCN => k_is)
    (case bCN => k_is)
    (case tCN => k_is)
    (case z_len => k_is)
    (case z_list => k_is)
    (case z_range => k_is)
    (case z_min => k_is)
    (case z_max => k_is)
    (case z_isinstance => k_is)
    (case z_tuple => k_is)
    (case z_ValueError => k_is)
    (case gCF => k_is)
    (case gCP => k_is)
    (case gCZ => k_is)
    (case gCD => k_is)
    (case bCF => k_is)
    (case hdCF => k_is)
    (case tCF => k_is)
    (case seCL => k_is)
    (case sp_cls => k_is)
    (case tk_cls => k_is)
    (case suCL => k_is)
    (case hdCL => k_is)
    (case gaCL => k_is)
    (case gkCL => k_is)
    (case caCL => k_is)
    (case moCL => k_is)
    (case kvCL => kit_is)
    (case kCL0 => kit_is)
    (case kCL1 => kit_is)
    (case kCL2 => kit_is)
    (case kCL3 => kit_is)
    (case kCL4 => kit_is)
    (case kCL5 => kit_is)
    (case suCS => k_is)
    (case hdCS => k_is)
    (case gaCS => k_is)
    (case gkCS => k_is)
    (case caCS => k_is)
    (case moCS => k_is)
    (case kvCS => kit_is)
    (case kCS0 => kit_is)
    (case kCS1 => kit_is)
    (case kCS2 => kit_is)
    (case kCS3 => kit_is)
    (case kCS4 => kit_is)
    (case kCS5 => kit_is)
    (case suCN => k_is)
    (case hdCN => k_is)
    (case gaCN => k_is)
    (case gkCN => k_is)
    (case caCN => k_is)
    (case moCN => k_is)
    (case kvCN => kit_is)
    (case kCN0 => kit_is)
    (case kCN1 => kit_is)
    (case kCN2 => kit_is)
    (case kCN3 => kit_is)
    (case kCN4 => kit_is)
    (case kCN5 => kit_is)
#print axioms PySem.Challenge.cw_fareweb_k05_stops_that_are_not_there_holds
