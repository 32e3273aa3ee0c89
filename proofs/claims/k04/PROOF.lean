import PyProof.Rows.All
import Wide.All
import OpenK.AllK
import Wide.FinOn
import HandS.ForMost
import HandS.Exc
import HandS.TryOnly
import HandS.ExcOwn
import HandS.WordsExc
import HandS.RaiseMore
import HandS.FStr
import HandS.TryMany
import HandS.ExcCtx
import HandS.ExcIs
import HandS.HotCalls
import HandS.Deep
import HandS.SetFor
import HandS.Strs
import HandS.Codes
import HandS.Style
import HandS.IsInst
import HandS.Conv
import PySem.Challenge.RW_fareweb_k04_whole_fewest_zones
set_option Elab.async false
set_option linter.all false
set_option maxRecDepth 100000
set_option autoImplicit false
set_option linter.all false
namespace FW
/-! Webs: plain mathematics of levels and ways. -/
abbrev Lv := List (Option Nat)
def lk (L : Lv) (v : Nat) : Option Nat := L.getD v none
def Adj (near : List (List Nat)) (u v : Nat) : Prop := ∃ l, near[u]? = some l ∧ v ∈ l
def wt (zs : List Int) (u v : Nat) : Nat := if zs[u]? = zs[v]? then 0 else 1
inductive Way (near : List (List Nat)) (zs : List Int) (s : Nat) : Nat → Nat → Prop
  | nil : Way near zs s s 1
  | step {v u k : Nat} : Way near zs s v k → Adj near v u → Way near zs s u (k + wt zs v u)
theorem wt_comm (zs : List Int) (u v : Nat) : wt zs u v = wt zs v u := by
  unfold wt
  by_cases h : zs[u]? = zs[v]?
  · rw [if_pos h, if_pos h.symm]
  · rw [if_neg h, if_neg (fun e => h e.symm)]
theorem wt_le (zs : List Int) (u v : Nat) : wt zs u v ≤ 1 := by
  unfold wt
  split <;> omega
theorem lk_set {L : Lv} {v : Nat} {x : Option Nat} (h : v < L.length) (u : Nat) : lk (L.set v x) u = if u = v then x else lk L u := by
  unfold lk
  rw [List.getD_eq_getElem?_getD, List.getD_eq_getElem?_getD, List.getElem?_set]
  by_cases e : v = u
  · subst e
    simp [h]
  · rw [if_neg e, if_neg (fun z => e z.symm)]
theorem lk_get {L : Lv} {v : Nat} (h : v < L.length) : L[v]? = some (lk L v) := by
  unfold lk
  rw [List.getD_eq_getElem?_getD, List.getElem?_eq_getElem h]
  rfl
theorem lk_lt {L : Lv} {v k : Nat} (h : lk L v = some k) : v < L.length := by
  apply Classical.byContradiction
  intro z
  unfold lk at h
  rw [List.getD_eq_getElem?_getD, List.getElem?_eq_none (by omega)] at h
  cases h
theorem lk_rep (n v : Nat) : lk (List.replicate n none) v = none := by
  unfold lk
  rw [List.getD_eq_getElem?_getD, List.getElem?_replicate]
  split <;> rfl
theorem lk_ext {L M : Lv} (h : L.length = M.length) (e : ∀ v, v < L.length → lk L v = lk M v) : L = M := by
  apply List.ext_getElem? 
  intro i
  by_cases hi : i < L.length
  · rw [lk_get hi, lk_get (by omega), e i hi]
  · rw [List.getElem?_eq_none (by omega), List.getElem?_eq_none (by omega)]
/-! levels -/
structure IsLevels (near : List (List Nat)) (zs : List Int) (s : Nat) (L : Lv) : Prop where
  len : L.length = zs.length
  one : lk L s = some 1
  kept : ∀ u v k, lk L u = some k → Adj near u v → ∃ k', lk L v = some k' ∧ k' ≤ k + wt zs u v
  sound : ∀ v k, lk L v = some k → Way near zs s v k ∧ 1 ≤ k
section
variable {near : List (List Nat)} {zs : List Int} {s : Nat} {L M : Lv}
theorem IsLevels.min (h : IsLevels near zs s L) {v k : Nat} (w : Way near zs s v k) : ∃ l, lk L v = some l ∧ l ≤ k := by
  induction w with
  | nil => exact ⟨1, h.one, Nat.le_refl 1⟩
  | step _ a ih =>
    obtain ⟨l, e, hl⟩ := ih
    obtain ⟨k', e', hk⟩ := h.kept _ _ _ e a
    exact ⟨k', e', by omega⟩
theorem IsLevels.unique (h : IsLevels near zs s L) (g : IsLevels near zs s M) : L = M := by
  refine lk_ext (h.len.trans g.len.symm) fun v _ => ?_
  cases e : lk L v with
  | some k =>
    obtain ⟨l, e1, hl⟩ := g.min (h.sound v k e).1
    obtain ⟨l', e2, hl'⟩ := h.min (g.sound v l e1).1
    rw [e] at e2
    cases e2
    rw [e1, show l = k by omega]
  | none =>
    cases e1 : lk M v with
    | none => rfl
    | some k =>
      obtain ⟨l, e2, _⟩ := h.min (g.sound v k e1).1
      rw [e] at e2
      cases e2
end
/-! the search -/
abbrev Sp := Nat × Option Nat
def Org (near : List (List Nat)) (zs : List Int) (s : Nat) (L : Lv) (lv v : Nat) : Option Nat → Prop
  | none => v = s ∧ lv = 1
  | some u => Adj near u v ∧ ∃ k, lk L u = some k ∧ lv = k + wt zs u v
structure Srch (near : List (List Nat)) (zs : List Int) (s lv : Nat) (St On : List Sp) (L O : Lv) (r : Nat → Nat) (t : Nat) : Prop where
  lenL : L.length = zs.length
  lenO : O.length = zs.length
  sound : ∀ v k, lk L v = some k → Way near zs s v k ∧ k ≤ lv ∧ 1 ≤ k
  st : ∀ v o, (v, o) ∈ St → v < zs.length ∧ Way near zs s v lv ∧ Org near zs s L lv v o
  on : ∀ v o, (v, o) ∈ On → v < zs.length ∧ Way near zs s v (lv + 1) ∧ Org near zs s L (lv + 1) v o
  kept : ∀ u v k, lk L u = some k → Adj near u v → (∃ k', lk L v = some k' ∧ k' ≤ k + wt zs u v) ∨ ((v, some u) ∈ St ∧ lv ≤ k + wt zs u v) ∨ ((v, some u) ∈ On ∧ lv + 1 ≤ k + wt zs u v)
  start : lk L s = some 1 ∨ ((s, none) ∈ St ∧ lv = 1)
  org : ∀ v k, lk L v = some k → r v < t ∧ Org near zs s L k v (lk O v) ∧ ∀ u, lk O v = some u → r u < r v
  pos : 1 ≤ lv
section
variable {near : List (List Nat)} {zs : List Int} {s lv t : Nat} {St On : List Sp} {L O : Lv} {r : Nat → Nat}
theorem Srch.popped {v : Nat} {o : Option Nat} {k : Nat} (h : Srch near zs s lv (St ++ [(v, o)]) On L O r t) (e : lk L v = some k) : Srch near zs s lv St On L O r t := by
  refine ⟨h.lenL, h.lenO, h.sound, fun v o m => h.st v o (List.mem_append_left _ m), h.on, fun u x k' e' a => ?_, ?_, h.org, h.pos⟩
  · rcases h.kept u x k' e' a with z | ⟨m, z⟩ | z
    · exact .inl z
    · rcases List.mem_append.mp m with m | m
      · exact .inr (.inl ⟨m, z⟩)
      · have q := List.mem_singleton.mp m
        cases q
        exact .inl ⟨k, e, by have := (h.sound _ _ e).2.1; omega⟩
    · exact .inr (.inr z)
  · rcases h.start with z | ⟨m, z⟩
    · exact .inl z
    · rcases List.mem_append.mp m with m | m
      · exact .inr ⟨m, z⟩
      · have q := List.mem_singleton.mp m
        cases q
        have := h.sound _ _ e
        exact .inl (by rw [e, show k = 1 by omega])
theorem Org.grow {L' : Lv} {v k : Nat} {o : Option Nat} (g : ∀ u k, lk L u = some k → lk L' u = some k) (h : Org near zs s L k v o) : Org near zs s L' k v o := by
  cases o with
  | none => exact h
  | some u =>
    obtain ⟨a, k', e, z⟩ := h
    exact ⟨a, k', g _ _ e, z⟩
/-- a stop is marked, all its neighbours told off -/
theorem Srch.marked {v : Nat} {o : Option Nat} {l : List Nat} {St' On' : List Sp} (h : Srch near zs s lv (St ++ [(v, o)]) On L O r t) (e : lk L v = none) (hl : near[v]? = some l) (hb : ∀ x, x ∈ l → x < zs.length)
    (e1 : St' = St ++ (l.filter fun x => decide (zs[x]? = zs[v]?)).map fun x => (x, some v)) (e2 : On' = On ++ (l.filter fun x => !decide (zs[x]? = zs[v]?)).map fun x => (x, some v)) :
    Srch near zs s lv St' On' (L.set v (some lv)) (O.set v o) (fun x => if x = v then t else r x) (t + 1) := by
  obtain ⟨hv, wv, ov⟩ := h.st v o (List.mem_append_right _ List.mem_cons_self)
  have vL : v < L.length := by rw [h.lenL]; exact hv
  have vO : v < O.length := by rw [h.lenO]; exact hv
  have g : ∀ u k, lk L u = some k → lk (L.set v (some lv)) u = some k := fun u k q => by
    rw [lk_set vL]
    by_cases z : u = v
    · rw [z, e] at q
      cases q
    · rw [if_neg z, q]
  have gv : lk (L.set v (some lv)) v = some lv := by rw [lk_set vL, if_pos rfl]
  subst e1 e2
  refine ⟨by rw [List.length_set]; exact h.lenL, by rw [List.length_set]; exact h.lenO, ?_, ?_, ?_, ?_, ?_, ?_, h.pos⟩
  · intro u k q
    rw [lk_set vL] at q
    by_cases z : u = v
    · rw [if_pos z] at q
      cases q
      exact ⟨z ▸ wv, Nat.le_refl _, h.pos⟩
    · rw [if_neg z] at q
      exact h.sound u k q
  · intro x y m
    rcases List.mem_append.mp m with m | m
    · obtain ⟨a, b, c⟩ := h.st x y (List.mem_append_left _ m)
      exact ⟨a, b, c.grow g⟩
    · obtain ⟨x', mx, ex⟩ := List.mem_map.mp m
      cases ex
      obtain ⟨m1, m2⟩ := List.mem_filter.mp mx
      have w0 : wt zs v x = 0 := by
        unfold wt
        rw [if_pos (of_decide_eq_true m2).symm]
      have ad : Adj near v x := ⟨l, hl, m1⟩
      have q := Way.step wv ad
      rw [w0] at q
      exact ⟨hb x m1, q, ad, lv, gv, by omega⟩
  · intro x y m
    rcases List.mem_append.mp m with m | m
    · obtain ⟨a, b, c⟩ := h.on x y m
      exact ⟨a, b, c.grow g⟩
    · obtain ⟨x', mx, ex⟩ := List.mem_map.mp m
      cases ex
      obtain ⟨m1, m2⟩ := List.mem_filter.mp mx
      have m3 : ¬ zs[x]? = zs[v]? := by simpa using m2
      have w0 : wt zs v x = 1 := by
        unfold wt
        rw [if_neg (fun z => m3 z.symm)]
      have ad : Adj near v x := ⟨l, hl, m1⟩
      have q := Way.step wv ad
      rw [w0] at q
      exact ⟨hb x m1, q, ad, lv, gv, by omega⟩
  · intro u x k q a
    rw [lk_set vL] at q
    by_cases z : u = v
    · rw [if_pos z] at q
      cases q
      subst z
      obtain ⟨l', hl', mx⟩ := a
      rw [hl] at hl'
      cases hl'
      by_cases c : zs[x]? = zs[u]?
      · refine .inr (.inl ⟨List.mem_append_right _ (List.mem_map.mpr ⟨x, List.mem_filter.mpr ⟨mx, decide_eq_true c⟩, rfl⟩), by omega⟩)
      · refine .inr (.inr ⟨List.mem_append_right _ (List.mem_map.mpr ⟨x, List.mem_filter.mpr ⟨mx, by simpa using c⟩, rfl⟩), ?_⟩)
        unfold wt
        rw [if_neg (fun z => c z.symm)]
        exact Nat.le_refl _
    · rw [if_neg z] at q
      rcases h.kept u x k q a with ⟨k', w, y⟩ | ⟨m, y⟩ | ⟨m, y⟩
      · exact .inl ⟨k', g _ _ w, y⟩
      · rcases List.mem_append.mp m with m | m
        · exact .inr (.inl ⟨List.mem_append_left _ m, y⟩)
        · have q' := List.mem_singleton.mp m
          cases q'
          exact .inl ⟨lv, gv, y⟩
      · exact .inr (.inr ⟨List.mem_append_left _ m, y⟩)
  · rcases h.start with z | ⟨m, z⟩
    · exact .inl (g _ _ z)
    · rcases List.mem_append.mp m with m | m
      · exact .inr ⟨List.mem_append_left _ m, z⟩
      · have q' := List.mem_singleton.mp m
        cases q'
        exact .inl (by rw [gv, z])
  · intro u k q
    rw [lk_set vL] at q
    by_cases z : u = v
    · rw [if_pos z] at q
      cases q
      subst z
      have eo : lk (O.set u o) u = o := by rw [lk_set vO, if_pos rfl]
      refine ⟨by simp, by rw [eo]; exact ov.grow g, fun y ey => ?_⟩
      rw [eo] at ey
      subst ey
      obtain ⟨_, k', ek, _⟩ := ov
      have ne : y ≠ u := fun z => by
        rw [z, e] at ek
        cases ek
      have := (h.org y k' ek).1
      simp [ne, this]
    · rw [if_neg z] at q
      obtain ⟨a, b, c⟩ := h.org u k q
      have eo : lk (O.set v o) u = lk O u := by rw [lk_set vO, if_neg z]
      refine ⟨?_, by rw [eo]; exact b.grow g, fun y ey => ?_⟩
      · show (if u = v then t else r u) < t + 1
        rw [if_neg z]
        omega
      · rw [eo] at ey
        rw [ey] at b
        obtain ⟨_, k', ek, _⟩ := b
        have ne : y ≠ v := fun z => by
          rw [z, e] at ek
          cases ek
        show (if y = v then t else r y) < (if u = v then t else r u)
        rw [if_neg ne, if_neg z]
        exact c y ey
theorem Srch.next (h : Srch near zs s lv [] On L O r t) : Srch near zs s (lv + 1) On [] L O r t := by
  refine ⟨h.lenL, h.lenO, fun v k e => ?_, h.on, fun v o m => by simp at m, fun u v k e a => ?_, ?_, h.org, by omega⟩
  · obtain ⟨a, b, c⟩ := h.sound v k e
    exact ⟨a, by omega, c⟩
  · rcases h.kept u v k e a with z | ⟨m, _⟩ | z
    · exact .inl z
    · simp at m
    · exact .inr (.inl z)
  · rcases h.start with z | ⟨m, _⟩
    · exact .inl z
    · simp at m
theorem Srch.init (hs : s < zs.length) : Srch near zs s 1 [(s, none)] [] (List.replicate zs.length none) (List.replicate zs.length none) (fun _ => 0) 0 := by
  refine ⟨List.length_replicate, List.length_replicate, fun v k e => ?_, fun v o m => ?_, fun v o m => by simp at m, fun u v k e => ?_, .inr ⟨List.mem_cons_self, rfl⟩, fun v k e => ?_, Nat.le_refl 1⟩
  · rw [lk_rep] at e
    cases e
  · have q := List.mem_singleton.mp m
    cases q
    exact ⟨hs, .nil, rfl, rfl⟩
  · rw [lk_rep] at e
    cases e
  · rw [lk_rep] at e
    cases e
theorem Srch.done (h : Srch near zs s lv [] [] L O r t) : IsLevels near zs s L := by
  refine ⟨h.lenL, ?_, fun u v k e a => ?_, fun v k e => ⟨(h.sound v k e).1, (h.sound v k e).2.2⟩⟩
  · rcases h.start with z | ⟨m, _⟩
    · exact z
    · simp at m
  · rcases h.kept u v k e a with z | ⟨m, _⟩ | ⟨m, _⟩
    · exact z
    · simp at m
    · simp at m
end
/-- what a search tells of where ways come from -/
structure IsOrigins (near : List (List Nat)) (zs : List Int) (s : Nat) (L O : Lv) (r : Nat → Nat) (t : Nat) : Prop where
  len : O.length = zs.length
  org : ∀ v k, lk L v = some k → r v < t ∧ Org near zs s L k v (lk O v) ∧ ∀ u, lk O v = some u → r u < r v
/-! how much is left to do -/
def pot : List (List Nat) → Lv → Nat
  | a :: near, none :: L => a.length + 1 + pot near L
  | _ :: near, some _ :: L => pot near L
  | _, _ => 0
theorem pot_set : ∀ {near : List (List Nat)} {L : Lv} {v k : Nat} {l : List Nat}, near[v]? = some l → L[v]? = some none → pot near (L.set v (some k)) + l.length + 1 = pot near L
  | [], _, _, _, _, h, _ => by simp at h
  | _ :: _, [], _, _, _, _, h => by simp at h
  | a :: near, x :: L, 0, k, l, h, e => by
    have h1 : a = l := Option.some.inj h
    have h2 : x = none := Option.some.inj e
    subst h1 h2
    show pot near L + a.length + 1 = a.length + 1 + pot near L
    omega
  | a :: near, x :: L, v + 1, k, l, h, e => by
    have ih := pot_set (near := near) (L := L) (v := v) (k := k) (l := l) h e
    cases x with
    | none =>
      show a.length + 1 + pot near (L.set v (some k)) + l.length + 1 = a.length + 1 + pot near L
      omega
    | some y => exact ih
def tot (near : List (List Nat)) : Nat := (near.map List.length).sum
theorem pot_rep : ∀ (near : List (List Nat)) (n : Nat), near.length = n → pot near (List.replicate n none) = tot near + n
  | [], n, h => by
    subst h
    rfl
  | a :: near, n, h => by
    subst h
    show a.length + 1 + pot near (List.replicate near.length none) = (a.length :: near.map List.length).sum + (near.length + 1)
    rw [pot_rep near _ rfl, List.sum_cons]
    unfold tot
    omega
/-! links -/
abbrev Lk := Int × Int
def LinkOk (n : Nat) (p : Lk) : Prop := (0 ≤ p.1 ∧ p.1 < n) ∧ (0 ≤ p.2 ∧ p.2 < n) ∧ p.1 ≠ p.2
instance (n : Nat) (p : Lk) : Decidable (LinkOk n p) := by unfold LinkOk; exact inferInstance
structure NearOk (n : Nat) (lks : List Lk) (near : List (List Nat)) : Prop where
  len : near.length = n
  adj : ∀ u v, Adj near u v ↔ (((u : Int), (v : Int)) ∈ lks ∨ ((v : Int), (u : Int)) ∈ lks)
  size : tot near = 2 * lks.length
theorem adj_set {near : List (List Nat)} {a x : Nat} {na : List Nat} (h : near[a]? = some na) (u v : Nat) : Adj (near.set a (na ++ [x])) u v ↔ (Adj near u v ∨ (u = a ∧ v = x)) := by
  have ha := (List.getElem?_eq_some_iff.mp h).1
  unfold Adj
  rw [List.getElem?_set]
  by_cases e : a = u
  · subst e
    rw [if_pos rfl, if_pos ha]
    constructor
    · rintro ⟨l, e1, m⟩
      cases e1
      rcases List.mem_append.mp m with m | m
      · exact .inl ⟨na, h, m⟩
      · exact .inr ⟨rfl, List.mem_singleton.mp m⟩
    · rintro (⟨l, e1, m⟩ | ⟨_, rfl⟩)
      · rw [h] at e1
        cases e1
        exact ⟨_, rfl, List.mem_append_left _ m⟩
      · exact ⟨_, rfl, List.mem_append_right _ List.mem_cons_self⟩
  · rw [if_neg e]
    constructor
    · exact fun z => .inl z
    · rintro (z | ⟨z, _⟩)
      · exact z
      · exact absurd z.symm e
theorem tot_set : ∀ {near : List (List Nat)} {a x : Nat} {na : List Nat}, near[a]? = some na → tot (near.set a (na ++ [x])) = tot near + 1
  | [], _, _, _, h => by simp at h
  | b :: near, 0, x, na, h => by
    have e : b = na := Option.some.inj h
    subst e
    show ((b ++ [x]).length :: near.map List.length).sum = (b.length :: near.map List.length).sum + 1
    rw [List.sum_cons, List.sum_cons, List.length_append]
    show b.length + 1 + _ = _
    omega
  | b :: near, a + 1, x, na, h => by
    have ih := tot_set (near := near) (a := a) (x := x) (na := na) h
    unfold tot at ih
    show (b.length :: (near.set a (na ++ [x])).map List.length).sum = (b.length :: near.map List.length).sum + 1
    rw [List.sum_cons, List.sum_cons, ih]
    omega
theorem NearOk.init (n : Nat) : NearOk n [] (List.replicate n []) := by
  refine ⟨List.length_replicate, fun u v => ?_, ?_⟩
  · constructor
    · rintro ⟨l, e, m⟩
      rw [List.getElem?_replicate] at e
      split at e
      · cases e
        simp at m
      · cases e
    · rintro (z | z) <;> simp at z
  · unfold tot
    rw [List.map_replicate]
    show (List.replicate n 0).sum = _
    simp
theorem NearOk.more {n : Nat} {lks : List Lk} {near : List (List Nat)} (h : NearOk n lks near) {a b : Nat} (hab : a ≠ b) {na nb : List Nat} (ea : near[a]? = some na) (eb : near[b]? = some nb) :
    NearOk n (lks ++ [((a : Int), (b : Int))]) ((near.set a (na ++ [b])).set b (nb ++ [a])) := by
  have eb' : (near.set a (na ++ [b]))[b]? = some nb := by
    rw [List.getElem?_set, if_neg hab, eb]
  refine ⟨by rw [List.length_set, List.length_set]; exact h.len, fun u v => ?_, ?_⟩
  · rw [adj_set eb', adj_set ea, h.adj, List.mem_append, List.mem_append, List.mem_singleton, List.mem_singleton]
    constructor
    · rintro (((z | z) | ⟨rfl, rfl⟩) | ⟨rfl, rfl⟩)
      · exact .inl (.inl z)
      · exact .inr (.inl z)
      · exact .inl (.inr rfl)
      · exact .inr (.inr rfl)
    · rintro ((z | z) | (z | z))
      · exact .inl (.inl (.inl z))
      · have q := Prod.mk.inj z
        exact .inl (.inr ⟨by omega, by omega⟩)
      · exact .inl (.inl (.inr z))
      · have q := Prod.mk.inj z
        exact .inr ⟨by omega, by omega⟩
  · rw [tot_set eb', tot_set ea, h.size, List.length_append]
    show _ = 2 * (lks.length + 1)
    omega
end FW
namespace FW
/-- a row of stops from s to g that counts k zones -/
inductive RowTo (near : List (List Nat)) (zs : List Int) (s : Nat) : List Nat → Nat → Nat → Prop
  | one : RowTo near zs s [s] s 1
  | snoc {l : List Nat} {u v k : Nat} : RowTo near zs s l u k → Adj near u v → RowTo near zs s (l ++ [v]) v (k + wt zs u v)
end FW
namespace FW
theorem Way.trans {near : List (List Nat)} {zs : List Int} {s v k : Nat} (h : Way near zs s v k) {u j : Nat} (g : Way near zs v u j) : ∃ i, Way near zs s u i := by
  induction g with
  | nil => exact ⟨k, h⟩
  | step _ a ih =>
    obtain ⟨i, z⟩ := ih
    exact ⟨_, z.step a⟩
theorem Way.back {near : List (List Nat)} {zs : List Int} (sym : ∀ u v, Adj near u v → Adj near v u) {s v k : Nat} (h : Way near zs s v k) : ∃ i, Way near zs v s i := by
  induction h with
  | nil => exact ⟨1, .nil⟩
  | step _ a ih =>
    obtain ⟨i, z⟩ := ih
    exact (Way.nil.step (sym _ _ a)).trans z
theorem NearOk.sym {n : Nat} {lks : List Lk} {near : List (List Nat)} (h : NearOk n lks near) (u v : Nat) (a : Adj near u v) : Adj near v u := (h.adj v u).mpr ((h.adj u v).mp a).symm
/-- the zones of a row's first stops -/
def zsum (zs : List Int) (row : List Nat) : Nat → Nat
  | 0 => 1
  | i + 1 => zsum zs row i + wt zs (row.getD i 0) (row.getD (i + 1) 0)
theorem zsum_app (zs : List Int) (row : List Nat) (v : Nat) : ∀ i, i < row.length → zsum zs (row ++ [v]) i = zsum zs row i
  | 0, _ => rfl
  | i + 1, h => by
    show zsum zs (row ++ [v]) i + wt zs ((row ++ [v]).getD i 0) ((row ++ [v]).getD (i + 1) 0) = zsum zs row i + wt zs (row.getD i 0) (row.getD (i + 1) 0)
    rw [zsum_app zs row v i (by omega)]
    simp only [List.getD_eq_getElem?_getD]
    rw [List.getElem?_append_left (by omega), List.getElem?_append_left h]
structure RowOk (near : List (List Nat)) (zs : List Int) (s : Nat) (row : List Nat) (g k : Nat) : Prop where
  pos : 0 < row.length
  first : row[0]? = some s
  last : row[row.length - 1]? = some g
  adj : ∀ i u v, row[i]? = some u → row[i + 1]? = some v → Adj near u v
  sum : zsum zs row (row.length - 1) = k
theorem RowTo.ok {near : List (List Nat)} {zs : List Int} {s : Nat} {row : List Nat} {g k : Nat} (h : RowTo near zs s row g k) : RowOk near zs s row g k := by
  induction h with
  | one => exact ⟨Nat.zero_lt_one, rfl, rfl, fun i u v h1 h2 => by simp at h2, rfl⟩
  | @snoc l u v k _ a ih =>
    have hp := ih.pos
    have len : (l ++ [v]).length = l.length + 1 := List.length_append
    refine ⟨by omega, by rw [List.getElem?_append_left hp]; exact ih.first, ?_, fun i x y h1 h2 => ?_, ?_⟩
    · rw [len, Nat.add_sub_cancel, List.getElem?_append_right (Nat.le_refl _), Nat.sub_self]
      rfl
    · by_cases hi : i + 1 < l.length
      · rw [List.getElem?_append_left (by omega)] at h1
        rw [List.getElem?_append_left hi] at h2
        exact ih.adj i x y h1 h2
      · have hy := (List.getElem?_eq_some_iff.mp h2).1
        rw [len] at hy
        have e : i = l.length - 1 := by omega
        subst e
        rw [List.getElem?_append_left (by omega), ih.last] at h1
        rw [List.getElem?_append_right (by omega), show l.length - 1 + 1 - l.length = 0 by omega] at h2
        cases h1
        cases h2
        exact a
    · rw [len, Nat.add_sub_cancel]
      obtain ⟨m, hm⟩ : ∃ m, l.length = m + 1 := ⟨l.length - 1, by omega⟩
      rw [hm]
      show zsum zs (l ++ [v]) m + wt zs ((l ++ [v]).getD m 0) ((l ++ [v]).getD (m + 1) 0) = k + wt zs u v
      have e1 : (l ++ [v]).getD m 0 = u := by
        rw [List.getD_eq_getElem?_getD, List.getElem?_append_left (by omega)]
        have := ih.last
        rw [hm] at this
        rw [show m + 1 - 1 = m by omega] at this
        rw [this]
        rfl
      have e2 : (l ++ [v]).getD (m + 1) 0 = v := by
        rw [List.getD_eq_getElem?_getD, List.getElem?_append_right (by omega), hm, Nat.sub_self]
        rfl
      rw [e1, e2, zsum_app zs l v m (by omega)]
      have := ih.sum
      rw [hm, Nat.add_sub_cancel] at this
      rw [this]
theorem RowTo.lt {near : List (List Nat)} {zs : List Int} {s n : Nat} (hs : s < n) (hn : ∀ u v, Adj near u v → v < n) {row : List Nat} {g k : Nat} (h : RowTo near zs s row g k) : ∀ x, x ∈ row → x < n := by
  induction h with
  | one =>
    intro x m
    rw [List.mem_singleton.mp m]
    exact hs
  | snoc _ a ih =>
    intro x m
    rcases List.mem_append.mp m with m | m
    · exact ih x m
    · rw [List.mem_singleton.mp m]
      exact hn _ _ a
theorem RowTo.way {near : List (List Nat)} {zs : List Int} {s : Nat} {row : List Nat} {g k : Nat} (h : RowTo near zs s row g k) : Way near zs s g k := by
  induction h with
  | one => exact .nil
  | snoc _ a ih => exact ih.step a
end FW
namespace FW
open PySem PySem.Spec PyProof.Rows L2
/-! ### the text by places -/
def top (i : Nat) : Stmt := PySem.Challenge.pw_fareweb_k04_whole_fewest_zones.main.body.getD i (.Pass ⟨0, 0, 0, 0⟩)
abbrev sInit : Stmt := inClass (top 6) 0
abbrev sLevels : Stmt := inClass (top 6) 1
abbrev sFewest : Stmt := inClass (top 6) 2
abbrev sWay : Stmt := inClass (top 6) 3
abbrev sCheckStop : Stmt := inClass (top 6) 4
abbrev sSearchGoal : Stmt := inClass (top 6) 5
abbrev sSearch : Stmt := inClass (top 6) 6
abbrev sFill : Stmt := inClass (top 6) 7
abbrev sIsStop : Stmt := top 7
abbrev sNeigh : Stmt := top 8
abbrev sCheckLink : Stmt := top 9
theorem scInit : FnScope ["self", "zones", "links"] ["self", "zones", "links"] (defScope sInit) := ⟨rfl, rfl, rfl, by decide +kernel, rfl, by decide +kernel, by decide +kernel⟩
theorem scLevels : FnScope ["self", "start", "levels", "_"] ["self", "start"] (defScope sLevels) := ⟨rfl, rfl, rfl, by decide +kernel, rfl, by decide +kernel, by decide +kernel⟩
theorem scFewest : FnScope ["self", "start", "goal", "levels", "_"] ["self", "start", "goal"] (defScope sFewest) := ⟨rfl, rfl, rfl, by decide +kernel, rfl, by decide +kernel, by decide +kernel⟩
theorem scWay : FnScope ["self", "start", "goal", "_", "origins", "row"] ["self", "start", "goal"] (defScope sWay) := ⟨rfl, rfl, rfl, by decide +kernel, rfl, by decide +kernel, by decide +kernel⟩
theorem scCheckStop : FnScope ["self", "stop"] ["self", "stop"] (defScope sCheckStop) := ⟨rfl, rfl, rfl, by decide +kernel, rfl, by decide +kernel, by decide +kernel⟩
theorem scSearchGoal : FnScope ["self", "start", "goal", "levels", "origins"] ["self", "start", "goal"] (defScope sSearchGoal) := ⟨rfl, rfl, rfl, by decide +kernel, rfl, by decide +kernel, by decide +kernel⟩
theorem scSearch : FnScope ["self", "start", "levels", "origins", "steps", "level"] ["self", "start"] (defScope sSearch) := ⟨rfl, rfl, rfl, by decide +kernel, rfl, by decide +kernel, by decide +kernel⟩
theorem scFill : FnScope ["self", "level", "entries", "levels", "origins", "steps", "onward", "stop", "origin", "other"] ["self", "level", "entries", "levels", "origins"] (defScope sFill) := ⟨rfl, rfl, rfl, by decide +kernel, rfl, by decide +kernel, by decide +kernel⟩
theorem scIsStop : FnScope ["stop", "count"] ["stop", "count"] (defScope sIsStop) := ⟨rfl, rfl, rfl, by decide +kernel, rfl, by decide +kernel, by decide +kernel⟩
theorem scNeigh : FnScope ["count", "links", "near", "one", "other", "stop"] ["count", "links"] (defScope sNeigh) := ⟨rfl, rfl, rfl, by decide +kernel, rfl, by decide +kernel, by decide +kernel⟩
theorem scCheckLink : FnScope ["one", "other", "count"] ["one", "other", "count"] (defScope sCheckLink) := ⟨rfl, rfl, rfl, by decide +kernel, rfl, by decide +kernel, by decide +kernel⟩
/-! ### data on the heap -/
def optV : Option Nat → V
  | none => .non
  | some k => .int (k : Nat)
theorem optV_non (o : Option Nat) : decide (optV o = V.non) = decide (o = none) := by
  cases o with
  | none => rfl
  | some k => exact decide_eq_decide.mpr ⟨(fun z => nomatch z), (fun z => nomatch z)⟩
inductive All2 {α β : Type} (R : α → β → Prop) : List α → List β → Prop
  | nil : All2 R [] []
  | cons {a : α} {b : β} {as : List α} {bs : List β} : R a b → All2 R as bs → All2 R (a :: as) (b :: bs)
theorem All2.len {α β : Type} {R : α → β → Prop} {as : List α} {bs : List β} (h : All2 R as bs) : as.length = bs.length := by
  induction h with
  | nil => rfl
  | cons _ _ ih => rw [List.length_cons, List.length_cons, ih]
theorem All2.imp {α β : Type} {R S : α → β → Prop} (f : ∀ a b, R a b → S a b) {as : List α} {bs : List β} (h : All2 R as bs) : All2 S as bs := by
  induction h with
  | nil => exact .nil
  | cons r _ ih => exact .cons (f _ _ r) ih
theorem All2.imp_mem {α β : Type} {R S : α → β → Prop} {as : List α} {bs : List β} (h : All2 R as bs) (f : ∀ a b, a ∈ as → R a b → S a b) : All2 S as bs := by
  induction h with
  | nil => exact .nil
  | cons r _ ih => exact .cons (f _ _ List.mem_cons_self r) (ih fun a b m => f a b (List.mem_cons_of_mem _ m))
theorem All2.app {α β : Type} {R : α → β → Prop} {as cs : List α} {bs ds : List β} (h : All2 R as bs) (g : All2 R cs ds) : All2 R (as ++ cs) (bs ++ ds) := by
  induction h with
  | nil => exact g
  | cons r _ ih => exact .cons r ih
theorem All2.one {α β : Type} {R : α → β → Prop} {a : α} {b : β} (r : R a b) : All2 R [a] [b] := .cons r .nil
theorem All2.get {α β : Type} {R : α → β → Prop} {as : List α} {bs : List β} (h : All2 R as bs) {i : Nat} {b : β} (e : bs[i]? = some b) : ∃ a, as[i]? = some a ∧ R a b := by
  induction h generalizing i with
  | nil => simp at e
  | cons r _ ih =>
    cases i with
    | zero =>
      cases e
      exact ⟨_, rfl, r⟩
    | succ i => exact ih (i := i) e
theorem All2.getL {α β : Type} {R : α → β → Prop} {as : List α} {bs : List β} (h : All2 R as bs) {i : Nat} {a : α} (e : as[i]? = some a) : ∃ b, bs[i]? = some b ∧ R a b := by
  induction h generalizing i with
  | nil => simp at e
  | cons r _ ih =>
    cases i with
    | zero =>
      cases e
      exact ⟨_, rfl, r⟩
    | succ i => exact ih (i := i) e
theorem All2.set {α β : Type} {R : α → β → Prop} {as : List α} {bs : List β} (h : All2 R as bs) {i : Nat} {a : α} {b : β} (ea : as[i]? = some a) (r : R a b) : All2 R as (bs.set i b) := by
  induction h generalizing i with
  | nil => simp at ea
  | cons r' h' ih =>
    cases i with
    | zero =>
      cases ea
      exact .cons r h'
    | succ i => exact .cons r' (ih (i := i) ea)
theorem All2.snoc {α β : Type} {R : α → β → Prop} {as : List α} {bs : List β} {b : β} (h : All2 R as (bs ++ [b])) : ∃ as' a, as = as' ++ [a] ∧ All2 R as' bs ∧ R a b := by
  induction bs generalizing as with
  | nil =>
    cases h with
    | cons r t =>
      cases t
      exact ⟨[], _, rfl, .nil, r⟩
  | cons x bs ih =>
    cases h with
    | cons r t =>
      obtain ⟨as', a, e, h', r'⟩ := ih t
      exact ⟨_ :: as', a, by rw [e]; rfl, .cons r h', r'⟩
theorem All2.of_get {α β : Type} {R : α → β → Prop} : ∀ {as : List α} {bs : List β}, as.length = bs.length → (∀ (i : Nat) (a : α) (b : β), as[i]? = some a → bs[i]? = some b → R a b) → All2 R as bs
  | [], [], _, _ => .nil
  | a :: as, b :: bs, h, f => .cons (f 0 a b rfl rfl) (All2.of_get (Nat.succ.inj h) fun i a b e1 e2 => f (i + 1) a b e1 e2)
  | [], _ :: _, h, _ => nomatch h
  | _ :: _, [], h, _ => nomatch h
theorem All2.at {α β : Type} {R : α → β → Prop} {as : List α} {bs : List β} (h : All2 R as bs) {i : Nat} {a : α} {b : β} (e1 : as[i]? = some a) (e2 : bs[i]? = some b) : R a b := by
  obtain ⟨a', e, r⟩ := h.get e2
  rw [e1] at e
  cases e
  exact r
/-- a step: a stop and where it comes from -/
def StepAt (H : Hp) (a : Addr) (p : Sp) : Prop := H a = some (.tup [.int (p.1 : Nat), optV p.2])
def LinkAt (H : Hp) (a : Addr) (p : Lk) : Prop := H a = some (.tup [.int p.1, .int p.2])
def NearAt1 (H : Hp) (a : Addr) (l : List Nat) : Prop := H a = some (.lst (l.map fun (k : Nat) => V.int (k : Nat)))
/-- a list of steps stands at l -/
def Stk (H : Hp) (l : Addr) (ps : List Sp) : Prop := ∃ as : List Addr, H l = some (.lst (as.map V.ref)) ∧ All2 (StepAt H) as ps
def LinksAt (H : Hp) (l : Addr) (lks : List Lk) : Prop := ∃ as : List Addr, H l = some (.lst (as.map V.ref)) ∧ All2 (LinkAt H) as lks
def NearAt (H : Hp) (l : Addr) (near : List (List Nat)) : Prop := ∃ as : List Addr, H l = some (.lst (as.map V.ref)) ∧ All2 (NearAt1 H) as near
theorem Stk.to {H H' : Hp} {l l' : Addr} {ps : List Sp} (h : Stk H l ps) (k : ∀ b xs, H b = some (.tup xs) → H' b = some (.tup xs)) (kl : ∀ as : List Addr, H l = some (.lst (as.map V.ref)) → H' l' = some (.lst (as.map V.ref))) : Stk H' l' ps := by
  obtain ⟨as, e, q⟩ := h
  exact ⟨as, kl as e, q.imp fun a b r => k _ _ r⟩
theorem LinksAt.to {H H' : Hp} {l l' : Addr} {ps : List Lk} (h : LinksAt H l ps) (k : ∀ b xs, H b = some (.tup xs) → H' b = some (.tup xs)) (kl : ∀ as : List Addr, H l = some (.lst (as.map V.ref)) → H' l' = some (.lst (as.map V.ref))) : LinksAt H' l' ps := by
  obtain ⟨as, e, q⟩ := h
  exact ⟨as, kl as e, q.imp fun a b r => k _ _ r⟩
theorem NearAt.to {H H' : Hp} {l : Addr} {near : List (List Nat)} (h : NearAt H l near) (k : Same H H') : NearAt H' l near := by
  obtain ⟨as, e, q⟩ := h
  exact ⟨as, k _ _ e, q.imp fun a b r => k _ _ r⟩
theorem LinksAt.same {H H' : Hp} {l : Addr} {lks : List Lk} (h : LinksAt H l lks) (k : Same H H') : LinksAt H' l lks := h.to (fun b xs e => k _ _ e) fun as e => k _ _ e
theorem same_upd {H : Hp} {p : Addr} {o : HO} (h : H p = none) : Same H (upd H p o) := fun b x e => by
  rw [upd_ne (ne_of_none e h)]
  exact e
theorem NearAt.toL {H H' : Hp} {l : Addr} {near : List (List Nat)} (h : NearAt H l near) (k : ∀ b xs, H b = some (.lst xs) → H' b = some (.lst xs)) : NearAt H' l near := by
  obtain ⟨as, e, q⟩ := h
  exact ⟨as, k _ _ e, q.imp fun a b r => k _ _ r⟩
theorem near_upd {H : Hp} {as : List Addr} {near : List (List Nat)} {a aa : Nat} {na : List Nat} {o : HO} (h : All2 (NearAt1 H) as near) (nd : as.Nodup) (ea : as[a]? = some aa) (x : Nat) (en : near[a]? = some na)
    (eo : o = .lst ((na.map fun (k : Nat) => V.int (k : Nat)) ++ [V.int (x : Nat)])) : All2 (NearAt1 (upd H aa o)) as (near.set a (na ++ [x])) := by
  subst eo
  refine All2.of_get (by rw [List.length_set]; exact h.len) fun i b l e1 e2 => ?_
  rw [List.getElem?_set] at e2
  by_cases ia : a = i
  · subst ia
    rw [if_pos rfl, if_pos (List.getElem?_eq_some_iff.mp en).1] at e2
    cases e2
    have eb : b = aa := Option.some.inj (e1.symm.trans ea)
    subst eb
    show upd H b _ b = _
    rw [upd_same, List.map_append]
    rfl
  · rw [if_neg ia] at e2
    have nb : b ≠ aa := fun z => ia (nd_ix nd ea (by rw [← z]; exact e1))
    show upd H aa _ b = _
    rw [upd_ne nb]
    exact h.at e1 e2
/-- the fields of a web -/
theorem f12 : ¬ (("zones" : Str) = "links") := by decide +kernel
theorem f13 : ¬ (("zones" : Str) = "_near") := by decide +kernel
theorem f23 : ¬ (("links" : Str) = "_near") := by decide +kernel
def wf (zl ll nl : Addr) : List (Str × V) := putF "_near" (.ref nl) (putF "links" (.ref ll) (putF "zones" (.ref zl) []))
theorem wf_zones (zl ll nl : Addr) : (wf zl ll nl).lookup ("zones" : Str) = some (.ref zl) := by
  unfold wf
  rw [lookup_putF, if_neg f13, lookup_putF, if_neg f12, lookup_putF, if_pos rfl]
theorem wf_links (zl ll nl : Addr) : (wf zl ll nl).lookup ("links" : Str) = some (.ref ll) := by
  unfold wf
  rw [lookup_putF, if_neg f23, lookup_putF, if_pos rfl]
theorem wf_near (zl ll nl : Addr) : (wf zl ll nl).lookup ("_near" : Str) = some (.ref nl) := by
  unfold wf
  rw [lookup_putF, if_pos rfl]
theorem wf_no (zl ll nl : Addr) {m : Str} (h1 : ¬ m = "zones") (h2 : ¬ m = "links") (h3 : ¬ m = "_near") : (wf zl ll nl).lookup m = none := by
  unfold wf
  rw [lookup_putF, if_neg h3, lookup_putF, if_neg h2, lookup_putF, if_neg h1]
  all_goals rfl
/-- A WEB stands at p -/
structure WebAt (C : Addr) (H : Hp) (p : Addr) (zs : List Int) (lks : List Lk) (near : List (List Nat)) : Prop where
  ob : ∃ dx zl ll nl, H p = some (.ins C dx (wf zl ll nl)) ∧ H zl = some (.lst (zs.map V.int)) ∧ LinksAt H ll lks ∧ NearAt H nl near
  ok : NearOk zs.length lks near
  lt : ∀ q, q ∈ lks → LinkOk zs.length q
  small : 2 * lks.length + zs.length ≤ 100000
theorem WebAt.same {C p : Addr} {H H' : Hp} {zs : List Int} {lks : List Lk} {near : List (List Nat)} (h : WebAt C H p zs lks near) (k : Same H H') : WebAt C H' p zs lks near := by
  obtain ⟨⟨dx, zl, ll, nl, h1, h2, h3, h4⟩, a, b, c⟩ := h
  exact ⟨⟨dx, zl, ll, nl, k _ _ h1, k _ _ h2, h3.same k, h4.to k⟩, a, b, c⟩
theorem WebAt.near_lt {C p : Addr} {H : Hp} {zs : List Int} {lks : List Lk} {near : List (List Nat)} (h : WebAt C H p zs lks near) {u v : Nat} (a : Adj near u v) : v < zs.length := by
  rcases (h.ok.adj u v).mp a with z | z
  · have := (h.lt _ z).2.1.2
    exact Int.ofNat_lt.mp this
  · have := (h.lt _ z).1.2
    exact Int.ofNat_lt.mp this
/-! ### what the top has written -/
structure ErrT (K : PySem.W.Frag) (mg : Str → Option Value) (nm : Str) (C : Addr) : Prop where
  g : mg nm = some (.ref C)
  x : PySem.W.excIn K C [.type "ValueError", .type "Exception", .type "BaseException", .type "object"] "ValueError.__new__" = true
  k : PySem.W.keepIn K (.ref C) = true
  b : PySem.W.subIn K (.ref C) (.type "BaseException") = some true
  t : PySem.W.typeIn K (.ref C) = some (.type "type")
structure Txt (K : PySem.W.Frag) (mg : Str → Option Value) (C CL CS CN : Addr) : Prop where
  cl : Cls K C
  nZ : NoAttr K C "zones"
  nL : NoAttr K C "links"
  nN : NoAttr K C "_near"
  len : mg "len" = none
  list : mg "list" = none
  range : mg "range" = none
  eL : ErrT K mg "BadLink" CL
  eS : ErrT K mg "BadStop" CS
  eN : ErrT K mg "NoWay" CN
section
variable {P : Program} {w : World} {K : PySem.W.Frag} {mg : Str → Option Value} {base : Heap} {C CL CS CN : Addr}
theorem ErrT.raises {X : Cx} {nm : Str} {C : Addr} (T : ErrT X.K X.mg nm C) : Raises X (.ref C) := raises_own T.b T.t
theorem nd_of {p : Prop} [Decidable p] (e : (!decide p) = true) : ¬ p := fun z => by
  rw [decide_eq_true z] at e
  cases e
theorem d_of {p : Prop} [Decidable p] (e : ¬ (!decide p) = true) : p := by
  by_cases z : p
  · exact z
  · exact absurd (by rw [decide_eq_false z]; rfl) e
/-! ### what is raised: its context stays None, as nothing is handled where it is raised -/
theorem okN {x qual : Str} {st : Stmt} {f : Addr} {fd : FuncData} {N ps : List Str} {k : Nat} {sp : L2.Sp} (F : Fun K x qual st f fd) (S : FnScope N ps (defScope st)) (len : ∀ vs H Q E, sp vs H Q E → vs.length = ps.length)
    (body : ∀ (cdv : Value) (A : Around) (outer : List Env) (s : Shared) (H : Hp) (vs : List V) (Q : VK) (E : XK), Room k (A.deeper (envOfC qual (defScope st) s.heap.objs.size f cdv)) → sp vs H Q E →
      ∃ t, PSs (cxOf (L2N.CX P w) P w K mg base N qual (defScope st) f cdv A outer s H E) (defBody st) t ∧ t { nx := fun _ H' => Q .non H', rt := Q } (L2.start N vs) H) :
    FnOk P w K mg base (L2N.CX P w) (k + 1) f fd ps sp := by
  obtain ⟨_, _, _, _, _, _, cdv, _, _, rfl, at_f, code⟩ := F.ex
  exact fn_of at_f code S len fun A outer s H vs Q E room promised => body cdv A outer s H vs Q E room promised
theorem passN {X : Cx} : Passes (L2N.CX X.prog X.w) X E0 := by
  rintro _ _ _ _ _ _ _ ⟨_, _, _, _, _, _, _, _, _, _, _, _, z⟩
  exact z.elim
theorem pmk_msg {X : Cx} {C : Addr} {nm m : Str} {j : Nat} {p p2 pos : Pos} (T : ErrT X.K X.mg nm C) (hg : Gl X nm) (hdb : (nm == ("__debug__" : Str)) = false := by decide) :
    L2N.PMk X (.Call (.Name nm p) [.Constant (.str m) j p2] [] pos) (fun _ H Q => Q (.ref C) none H) := L2N.pmk_own PySem.F.excBase_ValueError T.x T.g T.k T.raises hg hdb
/-- the same with one argument of any form -/
theorem pmk_one {X : Cx} {C : Addr} {nm : Str} {e : Expr} {ta : TE} {p pos : Pos} (T : ErrT X.K X.mg nm C) (hg : Gl X nm) (he : PE X e ta) (hs : starEach [e] X.env = (false, eval e X.env) :: starEach [] X.env := by rfl)
    (hdb : (nm == ("__debug__" : Str)) = false := by decide) : L2N.PMk X (.Call (.Name nm p) [e] [] pos) (fun σ H Q => ta σ H fun _ H1 => Q (.ref C) none H1) := by
  intro pins st σ H Q inv reading
  refine wpAny_Call_Name_kw (ld_glob inv hg T.g ?_ hdb)
  refine PySem.W.callWith_K (h₀ := X.base) inv.ok.mod.kin T.k ?_ hs (by rfl)
  rw [hs]
  show wpAny _ _ (spliced ((false, eval e X.env) :: backTo pos (starEach [] X.env))) _ _ st
  refine Calls.spliced_cons (thn (he.run pins st σ H _ inv reading) fun made behind ⟨_, _, inv1, _, wish⟩ => ?_)
  refine Calls.spliced_nil ⟨inv1.kIn, ?_⟩
  show wpAny _ _ (call (.ref C) [made]) _ _ _
  obtain ⟨_, _, _, _, _, _, _, _, _, _, _, _, _, _, _, _, _, there, names, none_init, tail⟩ := exc_obj inv1.kIn T.x
  refine wpAny_call_exc_subT PySem.F.excBase_ValueError tail there names none_init (fun heap new is_made => ?_) (by show 1 ≤ sizeLine; rw [sizeLine_eq]; decide)
  exact L2N.mk_of inv1 is_made T.raises wish (inv1.hok.gone is_made.new)
/-! ### _is_stop -/
def spIsStop : L2.Sp := fun vs H Q _ => ∃ a n : Int, vs = [.int a, .int n] ∧ Q (.bl (decide (0 ≤ a ∧ a < n))) H
theorem ok_isStop {f : Addr} {fd : FuncData} (F : Fun K "_is_stop" "_is_stop" sIsStop f fd) : FnOk P w K mg base CX0 1 f fd ["stop", "count"] spIsStop := by
  refine F.ok scIsStop (fun vs H Q E h => ?_) (fun cdv A outer s H vs Q E hr h => ?_)
  · obtain ⟨a, n, rfl, _⟩ := h
    rfl
  · obtain ⟨a, n, rfl, q⟩ := h
    refine ⟨_, pss_one (ps_ret (pe_chain op_le op_lt pe_int (pv 0) (pv 1))), ?_⟩
    refine ⟨_, rfl, _, _, rfl, rfl, _, rfl, ?_⟩
    refine ite2 (fun e => ?_) (fun e => ?_)
    · have h0 : 0 ≤ a := of_decide_eq_true e
      refine ⟨_, rfl, _, _, rfl, rfl, ?_⟩
      have e1 : decide (a < n) = decide (0 ≤ a ∧ a < n) := decide_eq_decide.mpr ⟨fun z => ⟨h0, z⟩, fun z => z.2⟩
      show Q (.bl (decide (a < n))) H
      rw [e1]
      exact q
    · have h0 : ¬ 0 ≤ a := fun z => e (decide_eq_true z)
      have e1 : decide (0 ≤ a ∧ a < n) = false := decide_eq_false fun z => h0 z.1
      rw [e1] at q
      exact q
/-! ### _check_link -/
def spCheckLink (CL : Addr) : L2.Sp := fun vs H Q E => ∃ (a b : Int) (n : Nat), vs = [.int a, .int b, .int n] ∧ n ≤ 100000 ∧ (LinkOk n (a, b) → Q .non H) ∧ (¬ LinkOk n (a, b) → E (.ref CL) none H)
theorem log_small {i : Int} (h0 : 0 ≤ i) (h : i < 100000) : i.natAbs.log2 < 1920 := by
  have h1 : i.natAbs < 2 ^ 1920 := by
    have : i.natAbs < 100000 := by omega
    exact Nat.lt_of_lt_of_le this (by decide +kernel)
  by_cases hz : i.natAbs = 0
  · rw [hz]
    decide +kernel
  · exact (Nat.log2_lt hz).mpr h1
theorem text_le {x y : Str} {m n k : Nat} (hx : x.length ≤ m) (hy : y.length ≤ n) (h : m + n ≤ k) : (x ++ y).length ≤ k := by
  rw [PySem.Str.length_append]
  omega
theorem text_fits {x y : Str} {m n : Nat} (hx : x.length ≤ m) (hy : y.length ≤ n) (h : m + n ≤ 16777216) : (x ++ y).length ≤ sizeLine := by
  rw [sizeLine_eq]
  exact text_le hx hy h
theorem ok_checkLink {f fI : Addr} {fd fdI : FuncData} (F : Fun K "_check_link" "_check_link" sCheckLink f fd) (T : Txt K mg C CL CS CN) (FI : Fun K "_is_stop" "_is_stop" sIsStop fI fdI) (bI : Binds K fdI ["stop", "count"] []) (gI : mg "_is_stop" = some (.ref fI)) :
    FnOk P w K mg base (L2N.CX P w) 2 f fd ["one", "other", "count"] (spCheckLink CL) := by
  have GI : FnOk P w K mg base CX0 1 fI fdI ["stop", "count"] spIsStop := ok_isStop FI
  refine okN F scCheckLink (fun vs H Q E h => ?_) (fun cdv A outer s H vs Q E hr h => ?_)
  · obtain ⟨a, b, n, rfl, _⟩ := h
    rfl
  · obtain ⟨a, b, n, rfl, hn, q1, q2⟩ := h
    refine ⟨_, pss_cons (ps_if (PW.pt (pw_or (pt_not (pt_val (pe_call GI hr (by rfl) gI FI.kp bI .nil pass0 (pa_cons (pv 0) (pa_cons (pv 2) pa_nil)))))
        (pw_or1 (pt_not (pt_val (pe_call GI hr (by rfl) gI FI.kp bI .nil pass0 (pa_cons (pv 1) (pa_cons (pv 2) pa_nil))))))))
        (pss_one (L2N.ps_raise rfl (L2N.takes_of rfl rfl rfl rfl) (pmk_msg T.eL rfl))) pss_nil)
      (pss_one (ps_if (pt_cmpR op_eq (pv 0) (pv 1) (nomark _))
        (pss_one (L2N.ps_raise rfl (L2N.takes_of rfl rfl rfl rfl) (pmk_one T.eL rfl (pe_joined (PJ.cons pe_str (PJ.cons (pe_fmt (pv 0)) (PJ.cons pe_str PJ.nil))))))) pss_nil)), ?_⟩
    refine ⟨_, rfl, _, rfl, a, n, rfl, _, rfl, ?_⟩
    refine ite2 (fun e => ?_) (fun e => ?_)
    · -- one is not there
      have na : ¬ (0 ≤ a ∧ a < n) := nd_of e
      refine iteT ?_
      exact q2 fun z => na z.1
    · have ha : 0 ≤ a ∧ a < n := d_of e
      refine ⟨_, rfl, _, rfl, b, n, rfl, _, rfl, ?_⟩
      refine ite2 (fun e => ?_) (fun e => ?_)
      · have nb : ¬ (0 ≤ b ∧ b < n) := nd_of e
        exact q2 fun z => nb z.2.1
      · have hb : 0 ≤ b ∧ b < n := d_of e
        refine ⟨_, rfl, _, rfl, rfl, _, rfl, ?_⟩
        refine ite2 (fun e => ?_) (fun e => ?_)
        · have eab : a = b := V.int.inj (of_decide_eq_true e)
          have l1 : a.natAbs.log2 < 1920 := log_small ha.1 (by omega)
          refine ⟨_, rfl, ?_⟩
          refine ⟨by rw [sizeLine_eq]; decide +kernel, _, rfl, .inr ⟨a, rfl, l1, ⟨_, rfl, ?_, ?_⟩⟩⟩
          · exact text_fits (m := 100) (by decide +kernel) (int_text_len_1921 l1) (by decide)
          · refine ⟨_, rfl, ?_, ?_⟩
            · exact text_fits (m := 3000) (n := 100) (text_le (m := 100) (by decide +kernel) (int_text_len_1921 l1) (by decide)) (by decide +kernel) (by decide)
            · exact q2 fun z => z.2.2 eab
        · have nab : a ≠ b := fun z => e (decide_eq_true (by rw [z]))
          exact q1 ⟨ha, hb, nab⟩
theorem tYes_if {σ : L2.St} {H : Hp} {A B : Hp → Prop} (h : A H) : tYes σ H (fun b H3 => if b = true then A H3 else B H3) := by
  show (if true = true then A H else B H)
  rw [if_pos rfl]
  exact h
/-! ### _neighbours -/
def spNeigh (CL : Addr) : L2.Sp := fun vs H Q E => ∃ (n : Nat) (l : Addr) (lks : List Lk), vs = [.int n, .ref l] ∧ LinksAt H l lks ∧ 2 * lks.length + n ≤ 100000 ∧
  ((∀ q, q ∈ lks → LinkOk n q) → ∀ (near : List (List Nat)) (H' : Hp) (p : Addr), Same H H' → H p = none → NearAt H' p near → NearOk n lks near → Q (.ref p) H') ∧
  ((∃ q, q ∈ lks ∧ ¬ LinkOk n q) → ∀ H', Same H H' → E (.ref CL) none H')
theorem upd_out {H H' : Hp} {a : Addr} {o : HO} (k : Same H H') (n : H a = none) : Same H (upd H' a o) := fun b x e => by
  rw [upd_ne (ne_of_none e n)]
  exact k b x e
theorem near_small {n m : Nat} {lks : List Lk} {near : List (List Nat)} (h : NearOk n lks near) (hs : 2 * lks.length ≤ m) {a : Nat} {na : List Nat} (e : near[a]? = some na) : na.length ≤ m := by
  have : na.length ≤ tot near := by
    have hm := List.mem_of_getElem? e
    clear e h
    induction near with
    | nil => simp at hm
    | cons b near ih =>
      show na.length ≤ (b.length :: near.map List.length).sum
      rw [List.sum_cons]
      rcases List.mem_cons.mp hm with rfl | hm
      · omega
      · have := ih hm
        unfold tot at this
        omega
  rw [h.size] at this
  omega
theorem small_line {n : Nat} (h : n ≤ 200000) : n < sizeLine := Nat.lt_of_le_of_lt h (by rw [sizeLine_eq]; decide)
theorem ok_neigh {f fI fL : Addr} {fd fdI fdL : FuncData} (F : Fun K "_neighbours" "_neighbours" sNeigh f fd) (T : Txt K mg C CL CS CN) (FI : Fun K "_is_stop" "_is_stop" sIsStop fI fdI) (bI : Binds K fdI ["stop", "count"] []) (gI : mg "_is_stop" = some (.ref fI))
    (FL : Fun K "_check_link" "_check_link" sCheckLink fL fdL) (bL : Binds K fdL ["one", "other", "count"] []) (gL : mg "_check_link" = some (.ref fL)) :
    FnOk P w K mg base (L2N.CX P w) 3 f fd ["count", "links"] (spNeigh CL) := by
  have GL : FnOk P w K mg base (L2N.CX P w) 2 fL fdL ["one", "other", "count"] (spCheckLink CL) := ok_checkLink FL T FI bI gI
  refine okN F scNeigh (fun vs H Q E h => ?_) (fun cdv A outer s H vs Q E hr h => ?_)
  · obtain ⟨n, l, lks, rfl, _⟩ := h
    rfl
  · obtain ⟨n, l, lks, rfl, ⟨asL, hl, hL⟩, hn, q1, q2⟩ := h
    refine ⟨_, pss_cons (ps_setLc (i := 2) (own := [("stop", 5)]) (g := gName 5) (by rfl) scNeigh.nd rfl rfl (sw_true rfl rfl rfl (by decide +kernel))
        (pi_range1 (by rfl) T.range (pa_cons (pv 0) pa_nil)) (blkOk_by (own := [("stop", 5)]) (N := ["count", "links", "near", "one", "other", "stop"]) (sc := defScope sNeigh) (by decide +kernel))
        (fun _ _ _ _ _ => pg_name (i := 5) scNeigh.nd rfl (Or.inl rfl)) (fun _ _ _ _ _ => pts_nil) (fun _ _ _ _ _ => pe_lst pa_nil))
      (pss_cons (ps_for (passes_of rfl) rfl (pi_list (pv 1)) (pg_tup rfl (pgs_cons (pg_name (i := 3) scNeigh.nd rfl (.inl rfl)) (pgs_cons (pg_name (i := 4) scNeigh.nd rfl (.inl rfl)) pgs_nil)))
        (pss_cons (ps_expr (pe_call GL hr (by rfl) gL FL.kp bL .nil (L2N.passes_call (W := fun cls d _ H => E cls d H) (L2N.takes_of rfl rfl rfl rfl) (fun _ _ _ _ h => h)) (pa_cons (pv 3) (pa_cons (pv 4) (pa_cons (pv 0) pa_nil)))))
        (pss_cons (ps_expr (pe_bm PySem.F.plainAttrs_list PySem.F.slot_list_append PySem.F.type_list_append mt_append (pe_ix ix_list (pv 2) (pv 3) (fun _ _ => rfl)) (pa_cons (pv 4) pa_nil)))
        (pss_one (ps_expr (pe_bm PySem.F.plainAttrs_list PySem.F.slot_list_append PySem.F.type_list_append mt_append (pe_ix ix_list (pv 2) (pv 4) (fun _ _ => rfl)) (pa_cons (pv 3) pa_nil)))))))
      (pss_one (ps_ret (pv 2)))), ?_⟩
    -- near = [[] for stop in range(count)]
    refine ⟨_, rfl, n, rfl, by omega, by omega, fun D hD => ?_⟩
    have nDl : l ≠ D := ne_of_none hl hD
    refine lc_range (lo := 0) (n := (n : Int).toNat) (fun i H' => Same H H' ∧ ∃ as : List Addr, H' D = some (.lst (as.map V.ref)) ∧ All2 (NearAt1 H') as (List.replicate i []) ∧ as.Nodup ∧ D ∉ as ∧ ∀ a, a ∈ as → H a = none)
      ⟨same_upd hD, [], upd_same, .nil, List.nodup_nil, by simp, by simp⟩ ?_ ?_
    · rintro i H1 hi ⟨sm, as, eD, hA, nd, nm, hnew⟩
      refine ⟨rfl, ?_⟩
      refine tYes_if ?_
      refine ⟨Nat.zero_le _, fun p hp => ?_⟩
      have hD1 : H1 D = some (.lst (as.map V.ref)) := eD
      have npD : D ≠ p := ne_of_none hD1 hp
      have npa : ∀ a, a ∈ as → a ≠ p := fun a m => by
        obtain ⟨j, hj⟩ := List.getElem?_of_mem m
        obtain ⟨b, _, r⟩ := hA.getL hj
        exact ne_of_none r hp
      have hil : i < n := by omega
      refine ⟨as.map V.ref, by rw [upd_ne npD]; exact eD, small_line (by rw [List.length_map, hA.len, List.length_replicate]; omega), ?_, as ++ [p], ?_, ?_, ?_, ?_, ?_⟩
      · exact upd_out (sm.trans (same_upd hp)) hD
      · rw [upd_same, List.map_append]
        rfl
      · rw [List.replicate_succ']
        refine All2.app (hA.imp_mem fun a b m r => ?_) (All2.one ?_)
        · show upd (upd H1 p _) D _ a = _
          rw [upd_ne (show a ≠ D from fun z => nm (by rw [← z]; exact m)), upd_ne (npa a m)]
          exact r
        · show upd (upd H1 p _) D _ p = _
          rw [upd_ne npD.symm, upd_same]
          rfl
      · refine List.nodup_append.mpr ⟨nd, by simp, fun a m b m2 => ?_⟩
        rw [List.mem_singleton.mp m2]
        exact npa a m
      · intro m
        rcases List.mem_append.mp m with m | m
        · exact nm m
        · exact npD (List.mem_singleton.mp m)
      · intro a m
        rcases List.mem_append.mp m with m | m
        · exact hnew a m
        · rw [List.mem_singleton.mp m]
          exact sm.free hp
    · rintro H1 ⟨sm, as, eD, hA, nd, nm, hnew⟩
      rw [Int.toNat_natCast] at hA
      -- for one, other in links
      refine ⟨_, rfl, l, rfl, ⟨_, SqL.of (sm _ _ hl)⟩, for_list (K := K) (a := l) (xs := asL.map V.ref) (fun i σ H2 => ∃ (y3 y4 : Option V) (near : List (List Nat)), σ = [some (.int n), some (.ref l), some (.ref D), y3, y4, none] ∧ Same H H2 ∧
          H2 D = some (.lst (as.map V.ref)) ∧ All2 (NearAt1 H2) as near ∧ NearOk n (lks.take i) near ∧ (∀ q, q ∈ lks.take i → LinkOk n q))
        ⟨none, none, List.replicate n [], rfl, sm, eD, hA, NearOk.init n, by simp⟩ (fun i σ H2 _ ⟨_, _, _, _, s2, _⟩ => SqL.of (s2 _ _ hl)) ?_ ?_⟩
      · rintro i x σ H2 hi ⟨y3, y4, near, rfl, s2, eD2, hA2, hN, hok⟩
        obtain ⟨a0, ha0, rfl⟩ : ∃ a0, asL[i]? = some a0 ∧ x = V.ref a0 := by
          rw [List.getElem?_map] at hi
          cases e : asL[i]? with
          | none =>
            rw [e] at hi
            cases hi
          | some a0 =>
            rw [e] at hi
            exact ⟨a0, rfl, (Option.some.inj hi).symm⟩
        obtain ⟨q, hq, hqa⟩ := hL.getL ha0
        obtain ⟨u, v⟩ := q
        have hqa2 : H2 a0 = some (.tup [.int u, .int v]) := s2 _ _ hqa
        have hmem : (u, v) ∈ lks := List.mem_of_getElem? hq
        -- one, other = the pair; _check_link(one, other, count)
        refine ⟨a0, _, rfl, SqT.of hqa2, rfl, _, _, rfl, _, _, rfl, rfl, ?_⟩
        refine ⟨_, rfl, _, rfl, _, rfl, u, v, n, rfl, by omega, fun lo => ?_, fun lo => q2 ⟨(u, v), hmem, lo⟩ H2 s2⟩
        obtain ⟨⟨u0, un⟩, ⟨v0, vn⟩, uv⟩ := id lo
        obtain ⟨a, rfl⟩ : ∃ a : Nat, u = (a : Int) := ⟨u.toNat, by have : 0 ≤ u := u0; omega⟩
        obtain ⟨b, rfl⟩ : ∃ b : Nat, v = (b : Int) := ⟨v.toNat, by have : 0 ≤ v := v0; omega⟩
        have han : a < n := by have : (a : Int) < n := un; omega
        have hbn : b < n := by have : (b : Int) < n := vn; omega
        have hab : a ≠ b := fun z => uv (by rw [z])
        obtain ⟨na, ena⟩ : ∃ na, near[a]? = some na := ⟨near[a]'(by rw [hN.len]; exact han), List.getElem?_eq_getElem _⟩
        obtain ⟨nb, enb⟩ : ∃ nb, near[b]? = some nb := ⟨near[b]'(by rw [hN.len]; exact hbn), List.getElem?_eq_getElem _⟩
        obtain ⟨aa, eaa, ra⟩ := hA2.get ena
        obtain ⟨ab, eab, rb⟩ := hA2.get enb
        have naab : ab ≠ aa := fun z => hab (nd_ix nd eaa (by rw [← z]; exact eab))
        have ltk : (lks.take i).length ≤ lks.length := by rw [List.length_take]; omega
        have sa : na.length ≤ 100000 := near_small hN (by omega) ena
        have sb : nb.length ≤ 100000 := near_small hN (by omega) enb
        have nDa : D ≠ aa := fun z => nm (z ▸ List.mem_of_getElem? eaa)
        have nDb : D ≠ ab := fun z => nm (z ▸ List.mem_of_getElem? eab)
        -- near[one].append(other)
        refine ⟨_, rfl, _, rfl, D, _, _, _, rfl, rfl, SqL.of eD2, at_of (j := a) (v := V.ref aa) rfl (by rw [List.getElem?_map, eaa]; rfl), .inl ⟨rfl, _, SqL.of ra⟩, _, rfl, aa, _, _, rfl, rfl, ra, small_line (by rw [List.length_map]; omega), ?_⟩
        have s3 : Same H (upd H2 aa (.lst ((na.map fun (k : Nat) => V.int (k : Nat)) ++ [V.int (b : Nat)]))) := upd_out s2 (hnew _ (List.mem_of_getElem? eaa))
        have hA3 := near_upd hA2 nd eaa b ena rfl
        have enb' : (near.set a (na ++ [b]))[b]? = some nb := by rw [List.getElem?_set, if_neg hab, enb]
        have rb' := hA3.at eab enb'
        -- near[other].append(one)
        refine ⟨_, rfl, _, rfl, D, _, _, _, rfl, rfl, SqL.of (by rw [upd_ne nDa]; exact eD2), at_of (j := b) (v := V.ref ab) rfl (by rw [List.getElem?_map, eab]; rfl), .inl ⟨rfl, _, SqL.of rb'⟩, _, rfl, ab, _, _, rfl, rfl, rb', small_line (by rw [List.length_map]; omega), ?_⟩
        have hA4 := near_upd hA3 nd eab a enb' rfl
        have htk : lks.take (i + 1) = lks.take i ++ [((a : Int), (b : Int))] := by
          rw [List.take_add_one, hq]
          rfl
        refine ⟨_, _, _, rfl, upd_out s3 (hnew _ (List.mem_of_getElem? eab)), by rw [upd_ne nDb, upd_ne nDa]; exact eD2, hA4, ?_, ?_⟩
        · rw [htk]
          exact hN.more hab ena enb
        · rw [htk]
          intro q m
          rcases List.mem_append.mp m with m | m
          · exact hok q m
          · rw [List.mem_singleton.mp m]
            exact lo
      · rintro σ H2 ⟨y3, y4, near, rfl, s2, eD2, hA2, hN, hok⟩
        have hlen : lks.take (asL.map V.ref).length = lks := by
          rw [List.length_map, hL.len, List.take_length]
        rw [hlen] at hN hok
        exact ⟨_, rfl, q1 hok near H2 D s2 hD ⟨as, eD2, hA2⟩ hN⟩
/-! ### Web.__init__ -/
def Kept (H H' : Hp) (p : Addr) : Prop := ∀ b o, H b = some o → b ≠ p → H' b = some o
theorem Kept.of {H H1 H2 : Hp} {p : Addr} (a : Kept H H1 p) (b : Same H1 H2) : Kept H H2 p := fun c o e n => b c o (a c o e n)
theorem Kept.put {H H1 : Hp} {p : Addr} {o : HO} (a : Kept H H1 p) : Kept H (upd H1 p o) p := fun c x e n => by
  rw [upd_ne n]
  exact a c x e n
def spInit (K : PySem.W.Frag) (C CL : Addr) : L2.Sp := fun vs H Q E => ∃ (p dx za la : Addr) (zs : List Int) (lks : List Lk), vs = [.ref p, .ref za, .ref la] ∧ H p = some (.ins C dx []) ∧ SqL K H za (zs.map V.int) ∧ (∀ H', Kept H H' p → SqL K H' za (zs.map V.int)) ∧
  LinksAt H la lks ∧ 2 * lks.length + zs.length ≤ 100000 ∧
  ((∀ q, q ∈ lks → LinkOk zs.length q) → ∀ (near : List (List Nat)) (H' : Hp), Kept H H' p → WebAt C H' p zs lks near → Q .non H') ∧
  ((∃ q, q ∈ lks ∧ ¬ LinkOk zs.length q) → ∀ H', Kept H H' p → E (.ref CL) none H')
theorem ok_init {f fN fI fL : Addr} {fd fdN fdI fdL : FuncData} (F : Fun K "__init__" "Web.__init__" sInit f fd) (T : Txt K mg C CL CS CN) (FI : Fun K "_is_stop" "_is_stop" sIsStop fI fdI) (bI : Binds K fdI ["stop", "count"] []) (gI : mg "_is_stop" = some (.ref fI))
    (FL : Fun K "_check_link" "_check_link" sCheckLink fL fdL) (bL : Binds K fdL ["one", "other", "count"] []) (gL : mg "_check_link" = some (.ref fL)) (FN : Fun K "_neighbours" "_neighbours" sNeigh fN fdN) (bN : Binds K fdN ["count", "links"] []) (gN : mg "_neighbours" = some (.ref fN)) :
    FnOk P w K mg base (L2N.CX P w) 4 f fd ["self", "zones", "links"] (spInit K C CL) := by
  have GN : FnOk P w K mg base (L2N.CX P w) 3 fN fdN ["count", "links"] (spNeigh CL) := ok_neigh FN T FI bI gI FL bL gL
  refine okN F scInit (fun vs H Q E h => ?_) (fun cdv A outer s H vs Q E hr h => ?_)
  · obtain ⟨p, dx, za, la, zs, lks, rfl, _⟩ := h
    rfl
  · obtain ⟨p, dx, za, la, zs, lks, rfl, hp, hz, hzk, hl, hn, q1, q2⟩ := h
    refine ⟨_, pss_cons (ps_fld (pv 0) (pe_callTy call_list_of (by rfl) T.list (by decide +kernel) (pa_cons (pv 1) pa_nil)) rfl)
      (pss_cons (ps_fld (pv 0) (pe_callTy call_list_of (by rfl) T.list (by decide +kernel) (pa_cons (pv 2) pa_nil)) rfl)
      (pss_one (ps_fld (pv 0) (pe_call GN hr (by rfl) gN FN.kp bN .nil (L2N.passes_call (W := fun cls d _ H => E cls d H) (L2N.takes_of rfl rfl rfl rfl) (fun _ _ _ _ h => h))
        (pa_cons (pe_callB call_len_seq (by rfl) T.len PySem.boot_len (pa_cons (pv 1) pa_nil)) (pa_cons (pv 2) pa_nil))) rfl))), ?_⟩
    -- self.zones = list(zones)
    refine ⟨_, rfl, za, _, rfl, .inl hz, fun zl nz => ?_⟩
    have pz : p ≠ zl := ne_of_none hp nz
    have k1 : Kept H (upd H zl (.lst (zs.map V.int))) p := fun b o e n => by rw [upd_ne (ne_of_none e nz)]; exact e
    refine ⟨_, rfl, p, C, dx, [], rfl, by rw [upd_ne pz]; exact hp, T.cl, T.nZ, by show 0 < 1000; decide, ?_⟩
    obtain ⟨H1, e1⟩ : ∃ H1, H1 = upd (upd H zl (.lst (zs.map V.int))) p (.ins C dx (putF "zones" (.ref zl) [])) := ⟨_, rfl⟩
    rw [← e1]
    have k2 : Kept H H1 p := e1 ▸ k1.put
    have hz1 : H1 zl = some (.lst (zs.map V.int)) := by rw [e1, upd_ne pz.symm, upd_same]
    have hp1 : H1 p = some (.ins C dx (putF "zones" (.ref zl) [])) := by rw [e1, upd_same]
    have hl1 : LinksAt H1 la lks := hl.to (fun b xs e => k2 b _ e (ne_of e hp (by intro z; cases z))) (fun as e => k2 la _ e (ne_of e hp (by intro z; cases z)))
    clear e1
    obtain ⟨asL, ela, hLa⟩ := id hl1
    -- self.links = list(links)
    refine ⟨_, rfl, la, _, rfl, .inl (SqL.of ela), fun ll nl => ?_⟩
    have pl : p ≠ ll := ne_of_none hp1 nl
    have zl2 : zl ≠ ll := ne_of_none hz1 nl
    refine ⟨_, rfl, p, C, dx, _, rfl, by rw [upd_ne pl]; exact hp1, T.cl, T.nL, by show 1 < 1000; decide, ?_⟩
    obtain ⟨H2, e2⟩ : ∃ H2, H2 = upd (upd H1 ll (.lst (asL.map V.ref))) p (.ins C dx (putF "links" (.ref ll) (putF "zones" (.ref zl) []))) := ⟨_, rfl⟩
    rw [← e2]
    have k3 : Kept H1 H2 p := e2 ▸ Kept.put fun b o e n => by rw [upd_ne (ne_of_none e nl)]; exact e
    have k4 : Kept H H2 p := fun b o e n => k3 b o (k2 b o e n) n
    have hz2 : H2 zl = some (.lst (zs.map V.int)) := k3 _ _ hz1 pz.symm
    have hp2 : H2 p = some (.ins C dx (putF "links" (.ref ll) (putF "zones" (.ref zl) []))) := by rw [e2, upd_same]
    have hll : H2 ll = some (.lst (asL.map V.ref)) := by rw [e2, upd_ne pl.symm, upd_same]
    have hl2 : LinksAt H2 la lks := hl1.to (fun b xs e => k3 b _ e (ne_of e hp1 (by intro z; cases z))) (fun as e => k3 la _ e (ne_of e hp1 (by intro z; cases z)))
    have hl3 : LinksAt H2 ll lks := ⟨asL, hll, hLa.imp fun a b r => k3 _ _ r (ne_of r hp1 (by intro z; cases z))⟩
    clear e2
    -- self._near = _neighbours(len(zones), links)
    refine ⟨_, rfl, za, _, rfl, .inl (hzk H2 k4), _, rfl, zs.length, la, lks, ?_, hl2, hn, fun ok near H3 nl3 s3 n3 hn3 hok => ?_, fun bad H3 s3 => q2 bad H3 (k4.of s3)⟩
    · rw [List.length_map]
      rfl
    have hp3 := s3 _ _ hp2
    have np : p ≠ nl3 := ne_of_none hp2 n3
    refine ⟨_, rfl, p, C, dx, _, rfl, hp3, T.cl, T.nN, by show 2 < 1000; decide, ?_⟩
    have kk : ∀ b o, H3 b = some o → b ≠ p → upd H3 p (.ins C dx (wf zl ll nl3)) b = some o := fun b o e n => by rw [upd_ne n]; exact e
    refine q1 ok near _ ((k4.of s3).put) ⟨⟨dx, zl, ll, nl3, upd_same, kk _ _ (s3 _ _ hz2) pz.symm, ?_, ?_⟩, hok, ok, hn⟩
    · exact (hl3.same s3).to (fun b xs e => kk b _ e (ne_of e hp3 (by intro z; cases z))) (fun as e => kk _ _ e (ne_of e hp3 (by intro z; cases z)))
    · exact hn3.toL fun b xs e => kk b _ e (ne_of e hp3 (by intro z; cases z))
/-! ### Web._check_stop -/
def spCheckStop (C CS : Addr) : L2.Sp := fun vs H Q E => ∃ (p : Addr) (i : Int) (zs : List Int) (lks : List Lk) (near : List (List Nat)), vs = [.ref p, .int i] ∧ WebAt C H p zs lks near ∧
  ((0 ≤ i ∧ i < zs.length) → Q .non H) ∧ (¬ (0 ≤ i ∧ i < zs.length) → E (.ref CS) none H)
theorem ok_checkStop {f fI : Addr} {fd fdI : FuncData} (F : Fun K "_check_stop" "Web._check_stop" sCheckStop f fd) (T : Txt K mg C CL CS CN) (FI : Fun K "_is_stop" "_is_stop" sIsStop fI fdI) (bI : Binds K fdI ["stop", "count"] []) (gI : mg "_is_stop" = some (.ref fI)) :
    FnOk P w K mg base (L2N.CX P w) 2 f fd ["self", "stop"] (spCheckStop C CS) := by
  have GI : FnOk P w K mg base CX0 1 fI fdI ["stop", "count"] spIsStop := ok_isStop FI
  refine okN F scCheckStop (fun vs H Q E h => ?_) (fun cdv A outer s H vs Q E hr h => ?_)
  · obtain ⟨p, i, zs, lks, near, rfl, _⟩ := h
    rfl
  · obtain ⟨p, i, zs, lks, near, rfl, W, q1, q2⟩ := h
    obtain ⟨⟨dx, zl, ll, nl, h1, h2, h3, ⟨as, h4, hA⟩⟩, ok, _, _⟩ := id W
    refine ⟨_, pss_one (ps_if (pt_not (pt_val (pe_call GI hr (by rfl) gI FI.kp bI .nil pass0 (pa_cons (pv 1) (pa_cons (pe_callB call_len_seq (by rfl) T.len PySem.boot_len (pa_cons (pe_fld (pv 0) rfl) pa_nil)) pa_nil)))))
        (pss_one (L2N.ps_raise rfl (L2N.takes_of rfl rfl rfl rfl) (pmk_msg T.eS rfl))) pss_nil), ?_⟩
    have elen : ((as.map V.ref).length : Int) = zs.length := by rw [List.length_map, hA.len, ok.len]
    refine ⟨_, rfl, _, rfl, p, C, dx, _, _, rfl, h1, T.cl, T.nN, wf_near _ _ _, nl, _, rfl, .inl (SqL.of h4), i, zs.length, by rw [elen]; rfl, _, rfl, ?_⟩
    refine ite2 (fun e => ?_) (fun e => ?_)
    · exact q2 (nd_of e)
    · exact q1 (d_of e)
/-! ### Web._fill_level -/
def Frame (H H' : Hp) (la oa : Addr) : Prop := ∀ b o, H b = some o → b ≠ la → b ≠ oa → H' b = some o
theorem Frame.same {H0 H H' : Hp} {la oa : Addr} (f : Frame H H' la oa) (s : Same H0 H) (n1 : H0 la = none) (n2 : H0 oa = none) : Same H0 H' := fun b o e => f b o (s b o e) (ne_of_none e n1) (ne_of_none e n2)
def spFill (C : Addr) : L2.Sp := fun vs H Q _ => ∃ (p ea la oa : Addr) (lv s t B : Nat) (zs : List Int) (lks : List Lk) (near : List (List Nat)) (S : List Sp) (L O : Lv) (r : Nat → Nat) (H0 : Hp), vs = [.ref p, .int lv, .ref ea, .ref la, .ref oa] ∧
  WebAt C H0 p zs lks near ∧ Same H0 H ∧ H0 la = none ∧ H0 oa = none ∧ la ≠ oa ∧ Stk H ea S ∧ H la = some (.lst (L.map optV)) ∧ H oa = some (.lst (O.map optV)) ∧ Srch near zs s lv S [] L O r t ∧ t + S.length + pot near L ≤ B ∧ B ≤ 150000 ∧
  ∀ (On : List Sp) (L' O' : Lv) (r' : Nat → Nat) (t' : Nat) (H' : Hp) (on : Addr), Frame H H' la oa → H on = none → Stk H' on On → H' la = some (.lst (L'.map optV)) → H' oa = some (.lst (O'.map optV)) → Srch near zs s lv [] On L' O' r' t' →
    t' + On.length + pot near L' ≤ B → (S ≠ [] → On.length + pot near L' < S.length + pot near L) → Q (.ref on) H'
theorem push_step {H : Hp} {l t : Addr} {x y : Nat} {as : List Addr} {ps : List Sp} (hl : H l = some (.lst (as.map V.ref))) (ha : All2 (StepAt H) as ps) (nt : H t = none) :
    Stk (upd (upd H t (.tup [.int (x : Nat), .int (y : Nat)])) l (.lst (as.map V.ref ++ [.ref t]))) l (ps ++ [(x, some y)]) ∧
    (∀ b o, H b = some o → b ≠ l → upd (upd H t (.tup [.int (x : Nat), .int (y : Nat)])) l (.lst (as.map V.ref ++ [.ref t])) b = some o) := by
  have k : ∀ b o, H b = some o → b ≠ l → upd (upd H t (.tup [.int (x : Nat), .int (y : Nat)])) l (.lst (as.map V.ref ++ [.ref t])) b = some o := fun b o e n => by
    rw [upd_ne n, upd_ne (ne_of_none e nt)]
    exact e
  refine ⟨⟨as ++ [t], by rw [upd_same, List.map_append]; rfl, All2.app (ha.imp fun a b r => k _ _ r (ne_of r hl (by intro z; cases z))) (All2.one ?_)⟩, k⟩
  show upd (upd H t _) l _ t = _
  rw [upd_ne (ne_of_none hl nt).symm, upd_same]
  rfl
theorem take_filter {l : List Nat} {i x : Nat} (h : l[i]? = some x) (p : Nat → Bool) (v : Nat) :
    ((l.take (i + 1)).filter p).map (fun x => (x, some v)) = ((l.take i).filter p).map (fun x => (x, some v)) ++ (if p x = true then [(x, some v)] else []) := by
  rw [List.take_add_one, h, List.filter_append, List.map_append]
  by_cases c : p x = true
  · simp [c]
  · simp [c]
theorem filter_two (p : Nat → Bool) : ∀ l : List Nat, (l.filter p).length + (l.filter fun x => !p x).length = l.length
  | [] => rfl
  | a :: l => by
    have ih := filter_two p l
    cases c : p a with
    | true => simp [c]; omega
    | false => simp [c]; omega
theorem ixN_nat {n i : Nat} (h : i < n) : ixN n (i : Int) = some i := by
  unfold ixN
  rw [if_pos (Int.natCast_nonneg i), if_pos (Int.ofNat_lt.mpr h)]
  rfl
theorem ok_fill {f : Addr} {fd : FuncData} (F : Fun K "_fill_level" "Web._fill_level" sFill f fd) (T : Txt K mg C CL CS CN) : FnOk P w K mg base CX0 1 f fd ["self", "level", "entries", "levels", "origins"] (spFill C) := by
  refine F.ok scFill (fun vs H Q E h => ?_) (fun cdv A outer s0 H vs Q E hr h => ?_)
  · obtain ⟨p, ea, la, oa, lv, s, t, B, zs, lks, near, S, L, O, r, H0, rfl, _⟩ := h
    rfl
  · obtain ⟨p, ea, la, oa, lv, s, t, B, zs, lks, near, S, L, O, r, H0, rfl, W, sm0, n0l, n0o, nlo, ⟨asE, hE, hEA⟩, hL, hO, R, hB, hB2, q⟩ := h
    obtain ⟨⟨dx, zl, ll, nl, h1, h2, h3, ⟨asN, h4, hN⟩⟩, ok, _, _⟩ := id W
    refine ⟨_, pss_cons (ps_set (i := 5) scFill.nd rfl (.inl rfl) (pe_callTy call_list_of (by rfl) T.list (by decide +kernel) (pa_cons (pv 2) pa_nil)))
      (pss_cons (ps_set (i := 6) scFill.nd rfl (.inl rfl) (pe_lst pa_nil))
      (pss_cons (ps_while PassesOwn.never (pt_truth (pv 5) (by intro _; rfl))
        (pss_cons (ps_asg (pe_bm0 PySem.F.plainAttrs_list PySem.F.slot_list_pop PySem.F.type_list_pop mt_pop (pv 5)) (pg_tup rfl (pgs_cons (pg_name (i := 7) scFill.nd rfl (.inl rfl)) (pgs_cons (pg_name (i := 8) scFill.nd rfl (.inl rfl)) pgs_nil))))
        (pss_one (ps_if (pt_cmpR op_isN (pe_ix ix_list (pv 3) (pv 7) (fun _ _ => rfl)) pe_non (nomark _))
          (pss_cons (ps_asg (pv 1) (pg_sub (pv 3) (pv 7) set_list))
          (pss_cons (ps_asg (pv 8) (pg_sub (pv 4) (pv 7) set_list))
          (pss_one (ps_for PassesOwn.never rfl (pi_list (pe_ix ix_list (pe_fld (pv 0) rfl) (pv 7) (fun _ _ => rfl))) (pg_name (i := 9) scFill.nd rfl (.inl rfl))
            (pss_one (ps_if (pt_cmpR op_eq (pe_ix ix_list (pe_fld (pv 0) rfl) (pv 9) (fun _ _ => rfl)) (pe_ix ix_list (pe_fld (pv 0) rfl) (pv 7) (fun _ _ => rfl)) (nomark _))
              (pss_one (ps_expr (pe_bm PySem.F.plainAttrs_list PySem.F.slot_list_append PySem.F.type_list_append mt_append (pv 5) (pa_cons (pe_tup (pa_cons (pv 9) (pa_cons (pv 7) pa_nil))) pa_nil))))
              (pss_one (ps_expr (pe_bm PySem.F.plainAttrs_list PySem.F.slot_list_append PySem.F.type_list_append mt_append (pv 6) (pa_cons (pe_tup (pa_cons (pv 9) (pa_cons (pv 7) pa_nil))) pa_nil)))))))))) pss_nil))))
      (pss_one (ps_ret (pv 6))))), ?_⟩
    -- steps = list(entries); onward = []
    refine ⟨_, rfl, ea, _, rfl, .inl (SqL.of hE), fun sl nsl => ?_⟩
    refine ⟨Nat.zero_le _, fun on non => ?_⟩
    have nso : sl ≠ on := ne_of_none (upd_same) non
    obtain ⟨H1, e1⟩ : ∃ H1, H1 = upd (upd H sl (.lst (asE.map V.ref))) on (.lst []) := ⟨_, rfl⟩
    rw [← e1]
    have k1 : Same H H1 := e1 ▸ (same_upd nsl).trans (same_upd non)
    have hs1 : H1 sl = some (.lst (asE.map V.ref)) := by rw [e1, upd_ne nso, upd_same]
    have ho1 : H1 on = some (.lst []) := by rw [e1, upd_same]
    have non0 : H on = none := (same_upd nsl).free non
    clear e1
    have nsl_la : sl ≠ la := (ne_of_none hL nsl).symm
    have nsl_oa : sl ≠ oa := (ne_of_none hO nsl).symm
    have non_la : on ≠ la := (ne_of_none hL non0).symm
    have non_oa : on ≠ oa := (ne_of_none hO non0).symm
    refine ⟨fun m σ H2 => ∃ (S2 On2 : List Sp) (La Oa : Lv) (r2 : Nat → Nat) (t2 : Nat) (y7 y8 y9 : Option V), σ = [some (.ref p), some (.int lv), some (.ref ea), some (.ref la), some (.ref oa), some (.ref sl), some (.ref on), y7, y8, y9] ∧
        m = S2.length + pot near La ∧ Frame H H2 la oa ∧ Stk H2 sl S2 ∧ Stk H2 on On2 ∧ H2 la = some (.lst (La.map optV)) ∧ H2 oa = some (.lst (Oa.map optV)) ∧ Srch near zs s lv S2 On2 La Oa r2 t2 ∧
        t2 + S2.length + On2.length + pot near La ≤ B ∧ (S2.length + On2.length + pot near La < S.length + pot near L ∨ (S2 = S ∧ On2 = [] ∧ La = L)),
      ⟨_, S, [], L, O, r, t, none, none, none, rfl, rfl, fun b o e _ _ => k1 b o e, ⟨asE, hs1, hEA.imp fun a b r => k1 _ _ r⟩, ⟨[], ho1, .nil⟩, k1 _ _ hL, k1 _ _ hO, R, hB, .inr ⟨rfl, rfl, rfl⟩⟩, ?_⟩
    rintro m σ H2 ⟨S2, On2, La, Oa, r2, t2, y7, y8, y9, rfl, rfl, fr, ⟨as2, hs2, hA2⟩, hOn, hL2, hO2, R2, hB3, hd⟩
    refine ⟨_, rfl, _, .inl ⟨_, SqL.of hs2, rfl⟩, ?_⟩
    refine ite2 (fun e => ?_) (fun e => ?_)
    · -- a step is taken off
      obtain ⟨S3, vo, rfl⟩ : ∃ S3 vo, S2 = S3 ++ [vo] := by
        rcases List.eq_nil_or_concat S2 with z | ⟨S3, vo, z⟩
        · subst z
          cases hA2
          exact absurd e (by simp)
        · exact ⟨S3, vo, by rw [z, List.concat_eq_append]⟩
      obtain ⟨v, o⟩ := vo
      obtain ⟨as3, a0, rfl, hA3, ra⟩ := hA2.snoc
      obtain ⟨hv, wv, ov⟩ := R2.st v o (List.mem_append_right _ List.mem_cons_self)
      have hvL : v < La.length := by rw [R2.lenL]; exact hv
      have hvO : v < Oa.length := by rw [R2.lenO]; exact hv
      have epop : ((as3 ++ [a0]).map V.ref)[((as3 ++ [a0]).map V.ref).length - 1]? = some (V.ref a0) := by
        simp
      have edrop : ((as3 ++ [a0]).map V.ref).dropLast = as3.map V.ref := by
        rw [List.map_append]
        exact List.dropLast_concat
      refine ⟨_, fun σ' H' z => z, ?_⟩
      refine ⟨_, rfl, .inl ⟨rfl, _, SqL.of hs2⟩, sl, _, _, rfl, rfl, hs2, epop, ?_⟩
      rw [edrop]
      obtain ⟨H3, e3⟩ : ∃ H3, H3 = upd H2 sl (.lst (as3.map V.ref)) := ⟨_, rfl⟩
      rw [← e3]
      have k3 : ∀ b o, H2 b = some o → b ≠ sl → H3 b = some o := fun b o z n => by rw [e3, upd_ne n]; exact z
      have hs3 : H3 sl = some (.lst (as3.map V.ref)) := by rw [e3, upd_same]
      clear e3
      have kt3 : ∀ b xs, H2 b = some (.tup xs) → H3 b = some (.tup xs) := fun b xs z => k3 b _ z (ne_of z hs2 (by intro z; cases z))
      have fr3 : Frame H H3 la oa := fun b o z n1 n2 => k3 b o (fr b o z n1 n2) (ne_of_none z nsl)
      have hOn3 : Stk H3 on On2 := hOn.to kt3 fun as z => k3 _ _ z nso.symm
      have hL3 := k3 _ _ hL2 nsl_la.symm
      have hO3 := k3 _ _ hO2 nsl_oa.symm
      have sm3 : Same H0 H3 := fr3.same sm0 n0l n0o
      have ra3 : H3 a0 = some (.tup [.int (v : Nat), optV o]) := kt3 _ _ ra
      have gL : (La.map optV)[v]? = some (optV (lk La v)) := by rw [List.getElem?_map, lk_get hvL]; rfl
      -- stop, origin = steps.pop()
      refine ⟨a0, _, rfl, SqT.of ra3, rfl, _, _, rfl, _, _, rfl, rfl, ?_⟩
      -- if levels[stop] is None
      refine ⟨_, rfl, _, rfl, la, _, _, _, rfl, rfl, SqL.of hL3, at_of (j := v) rfl gL, rfl, _, rfl, ?_⟩
      refine ite2 (fun e => ?_) (fun e => ?_)
      · have eN : lk La v = none := of_decide_eq_true ((optV_non _).symm.trans e)
        -- levels[stop] = level; origins[stop] = origin
        refine ⟨_, rfl, _, rfl, _, rfl, la, _, _, v, rfl, rfl, hL3, ixN_nat (by rw [List.length_map]; exact hvL), ?_⟩
        refine ⟨_, rfl, _, rfl, _, rfl, oa, _, _, v, rfl, rfl, by rw [upd_ne nlo.symm]; exact hO3, ixN_nat (by rw [List.length_map]; exact hvO), ?_⟩
        obtain ⟨H4, e4⟩ : ∃ H4, H4 = upd (upd H3 la (.lst ((La.map optV).set v (.int lv)))) oa (.lst ((Oa.map optV).set v (optV o))) := ⟨_, rfl⟩
        rw [← e4]
        have k4 : ∀ b o, H3 b = some o → b ≠ la → b ≠ oa → H4 b = some o := fun b o z n1 n2 => by rw [e4, upd_ne n2, upd_ne n1]; exact z
        have hL4 : H4 la = some (.lst ((La.set v (some lv)).map optV)) := by
          rw [e4, upd_ne nlo, upd_same, List.map_set]
          rfl
        have hO4 : H4 oa = some (.lst ((Oa.set v o).map optV)) := by
          rw [e4, upd_same, List.map_set]
        clear e4
        have fr4 : Frame H H4 la oa := fun b o z n1 n2 => k4 b o (fr3 b o z n1 n2) n1 n2
        have sm4 : Same H0 H4 := fr4.same sm0 n0l n0o
        have kt4 : ∀ b xs, H3 b = some (.tup xs) → H4 b = some (.tup xs) := fun b xs z => k4 b _ z (ne_of z hL3 (by intro z; cases z)) (ne_of z hO3 (by intro z; cases z))
        have hs4 : H4 sl = some (.lst (as3.map V.ref)) := k4 _ _ hs3 nsl_la nsl_oa
        have hA4 : All2 (StepAt H4) as3 S3 := hA3.imp fun a b r => kt4 _ _ (kt3 _ _ r)
        have hOn4 : Stk H4 on On2 := hOn3.to kt4 fun as z => k4 _ _ z non_la non_oa
        -- the neighbours
        obtain ⟨ln, eln⟩ : ∃ ln, near[v]? = some ln := ⟨near[v]'(by rw [ok.len]; exact hv), List.getElem?_eq_getElem _⟩
        obtain ⟨an, ean, rn⟩ := hN.get eln
        have hln : ∀ x, x ∈ ln → x < zs.length := fun x m => W.near_lt ⟨ln, eln, m⟩
        have epot : pot near (La.set v (some lv)) + ln.length + 1 = pot near La := pot_set eln (by rw [lk_get hvL, eN])
        obtain ⟨zv, ezv⟩ : ∃ zv, zs[v]? = some zv := ⟨zs[v], List.getElem?_eq_getElem hv⟩
        have hB4 : S3.length + On2.length + ln.length + 2 ≤ B := by
          rw [List.length_append] at hB3
          have : [(v, o)].length = 1 := rfl
          omega
        have sz : ∀ i, ((ln.take i).filter fun x => decide (zs[x]? = zs[v]?)).length ≤ ln.length := fun i => Nat.le_trans (List.length_filter_le _ _) (by rw [List.length_take]; omega)
        have sz2 : ∀ i, ((ln.take i).filter fun x => !decide (zs[x]? = zs[v]?)).length ≤ ln.length := fun i => Nat.le_trans (List.length_filter_le _ _) (by rw [List.length_take]; omega)
        refine ⟨_, rfl, p, C, dx, _, _, rfl, sm4 _ _ h1, T.cl, T.nN, wf_near _ _ _, _, rfl, nl, _, _, _, rfl, rfl, SqL.of (sm4 _ _ h4), at_of (j := v) rfl (by rw [List.getElem?_map, ean]; rfl), an, rfl, ⟨_, SqL.of (sm4 _ _ rn)⟩,
          for_list (K := K) (a := an) (xs := ln.map fun (k : Nat) => V.int (k : Nat)) (fun i σ H5 => ∃ y9 : Option V, σ = [some (.ref p), some (.int lv), some (.ref ea), some (.ref la), some (.ref oa), some (.ref sl), some (.ref on), some (.int v), some (optV o), y9] ∧
            Frame H H5 la oa ∧ Stk H5 sl (S3 ++ ((ln.take i).filter fun x => decide (zs[x]? = zs[v]?)).map fun x => (x, some v)) ∧ Stk H5 on (On2 ++ ((ln.take i).filter fun x => !decide (zs[x]? = zs[v]?)).map fun x => (x, some v)) ∧
            H5 la = some (.lst ((La.set v (some lv)).map optV)) ∧ H5 oa = some (.lst ((Oa.set v o).map optV)))
          ⟨_, rfl, fr4, by simpa using ⟨as3, hs4, hA4⟩, by simpa using hOn4, hL4, hO4⟩ (fun i σ H5 _ ⟨_, _, f5, _⟩ => SqL.of ((f5.same sm0 n0l n0o) _ _ rn)) ?_ ?_⟩
        · rintro i x σ H5 hi ⟨y9, rfl, f5, ⟨as5, hs5, hA5⟩, ⟨bs5, hb5, hB5⟩, hL5, hO5⟩
          obtain ⟨x, hx, rfl⟩ : ∃ x', ln[i]? = some x' ∧ x = V.int (x' : Nat) := by
            rw [List.getElem?_map] at hi
            cases z : ln[i]? with
            | none =>
              rw [z] at hi
              cases hi
            | some x' =>
              rw [z] at hi
              exact ⟨x', rfl, (Option.some.inj hi).symm⟩
          have hxn := hln x (List.mem_of_getElem? hx)
          obtain ⟨zx, ezx⟩ : ∃ zx, zs[x]? = some zx := ⟨zs[x], List.getElem?_eq_getElem hxn⟩
          have sm5 : Same H0 H5 := f5.same sm0 n0l n0o
          have gz : ∀ (j : Nat) (y : Int), zs[j]? = some y → atI (zs.map V.int) (j : Nat) = some (.int y) := fun j y z => at_of rfl (by rw [List.getElem?_map, z]; rfl)
          have hil : i < ln.length := (List.getElem?_eq_some_iff.mp hx).1
          -- if self.zones[other] == self.zones[stop]
          refine ⟨_, rfl, p, C, dx, _, _, rfl, sm5 _ _ h1, T.cl, T.nZ, wf_zones _ _ _, _, rfl, zl, _, _, _, rfl, rfl, SqL.of (sm5 _ _ h2), gz x zx ezx,
            _, rfl, p, C, dx, _, _, rfl, sm5 _ _ h1, T.cl, T.nZ, wf_zones _ _ _, _, rfl, zl, _, _, _, rfl, rfl, SqL.of (sm5 _ _ h2), gz v zv ezv, rfl, _, rfl, ?_⟩
          have ec : decide (zs[x]? = zs[v]?) = decide (V.int zx = V.int zv) := decide_eq_decide.mpr ⟨fun z => by
            rw [ezx, ezv] at z
            cases z
            rfl, fun z => by
            cases z
            rw [ezx, ezv]⟩
          have lenA : as5.length ≤ 200000 := by
            rw [hA5.len, List.length_append, List.length_map]
            have := sz i
            omega
          have lenB : bs5.length ≤ 200000 := by
            rw [hB5.len, List.length_append, List.length_map]
            have := sz2 i
            omega
          refine ite2 (fun e => ?_) (fun e => ?_)
          · -- in one zone
            have ec2 : decide (zs[x]? = zs[v]?) = true := ec.trans e
            refine ⟨_, rfl, .inl ⟨rfl, _, SqL.of hs5⟩, _, rfl, _, rfl, by show 2 ≤ sizeLine; decide, fun tp ntp => ?_⟩
            obtain ⟨g1, g2⟩ := push_step (x := x) (y := v) hs5 hA5 ntp
            refine ⟨sl, _, _, rfl, rfl, by rw [upd_ne (ne_of_none hs5 ntp)]; exact hs5, small_line (by rw [List.length_map]; exact lenA), ?_⟩
            refine ⟨_, rfl, fun b o z n1 n2 => g2 b o (f5 b o z n1 n2) (ne_of_none z nsl), ?_, ?_, g2 _ _ hL5 nsl_la.symm, g2 _ _ hO5 nsl_oa.symm⟩
            · rw [take_filter hx, if_pos ec2, ← List.append_assoc]
              exact g1
            · rw [take_filter hx, if_neg (by simp [ec2]), List.append_nil]
              exact Stk.to ⟨bs5, hb5, hB5⟩ (fun b xs z => g2 b _ z (ne_of z hs5 (by intro z; cases z))) fun as z => g2 _ _ z nso.symm
          · have ec2 : decide (zs[x]? = zs[v]?) = false := by
              rw [ec]
              cases z : decide (V.int zx = V.int zv) with
              | false => rfl
              | true => exact absurd z e
            refine ⟨_, rfl, .inl ⟨rfl, _, SqL.of hb5⟩, _, rfl, _, rfl, by show 2 ≤ sizeLine; decide, fun tp ntp => ?_⟩
            obtain ⟨g1, g2⟩ := push_step (x := x) (y := v) hb5 hB5 ntp
            refine ⟨on, _, _, rfl, rfl, by rw [upd_ne (ne_of_none hb5 ntp)]; exact hb5, small_line (by rw [List.length_map]; exact lenB), ?_⟩
            refine ⟨_, rfl, fun b o z n1 n2 => g2 b o (f5 b o z n1 n2) (ne_of_none z non0), ?_, ?_, g2 _ _ hL5 non_la.symm, g2 _ _ hO5 non_oa.symm⟩
            · rw [take_filter hx, if_neg (by simp [ec2]), List.append_nil]
              exact Stk.to ⟨as5, hs5, hA5⟩ (fun b xs z => g2 b _ z (ne_of z hb5 (by intro z; cases z))) fun as z => g2 _ _ z nso
            · rw [take_filter hx, if_pos (by simp [ec2]), ← List.append_assoc]
              exact g1
        · rintro σ H5 ⟨y9, rfl, f5, hS5, hO5', hL5, hO5⟩
          rw [List.length_map, List.take_length] at hS5 hO5'
          have ft := filter_two (fun x => decide (zs[x]? = zs[v]?)) ln
          have el : [(v, o)].length = 1 := rfl
          rw [List.length_append, el] at hB3 hd
          refine ⟨_, ?_, _, _, _, _, _, _, _, _, _, rfl, rfl, f5, hS5, hO5', hL5, hO5, R2.marked eN eln hln rfl rfl, ?_, .inl ?_⟩
          · simp only [List.length_append, List.length_map, el]
            omega
          · simp only [List.length_append, List.length_map]
            omega
          · simp only [List.length_append, List.length_map]
            rcases hd with z | ⟨z1, z2, z3⟩
            · omega
            · rw [← z1, ← z3, z2, List.length_append, el]
              show _ + (0 + _) + _ < _
              omega
      · -- it had its level before
        obtain ⟨k, eK⟩ : ∃ k, lk La v = some k := by
          cases z : lk La v with
          | none =>
            rw [z] at e
            exact absurd rfl e
          | some k => exact ⟨k, rfl⟩
        refine ⟨S3.length + pot near La, by rw [List.length_append]; show S3.length + pot near La < S3.length + 1 + pot near La; omega, S3, On2, La, Oa, r2, t2, _, _, _, rfl, rfl, fr3, ⟨as3, hs3, hA3.imp fun a b r => kt3 _ _ r⟩, hOn3, hL3, hO3, R2.popped eK, ?_, .inl ?_⟩
        · rw [List.length_append] at hB3
          have : [(v, o)].length = 1 := rfl
          omega
        · rcases hd with z | ⟨z1, z2, z3⟩
          · rw [List.length_append] at z
            have : [(v, o)].length = 1 := rfl
            omega
          · rw [← z1, z2, z3, List.length_append]
            show S3.length + 0 + pot near L < S3.length + 1 + pot near L
            omega
    · -- no step is left
      have eS : S2 = [] := by
        have : as2 = [] := by
          cases as2 with
          | nil => rfl
          | cons a as => exact absurd rfl e
        subst this
        cases hA2
        rfl
      subst eS
      refine ⟨_, rfl, q On2 La Oa r2 t2 H2 on fr non0 hOn hL2 hO2 R2 (by simpa using hB3) fun ne => ?_⟩
      rcases hd with z | ⟨z, _, _⟩
      · simpa using z
      · exact absurd z.symm ne
/-! ### Web._search -/
def spSearch (C : Addr) : L2.Sp := fun vs H Q _ => ∃ (p : Addr) (s : Nat) (zs : List Int) (lks : List Lk) (near : List (List Nat)), vs = [.ref p, .int s] ∧ s < zs.length ∧ WebAt C H p zs lks near ∧
  ∀ (L O : Lv) (r : Nat → Nat) (t : Nat) (H' : Hp) (tp la oa : Addr), Same H H' → H la = none → H oa = none → la ≠ oa → H' tp = some (.tup [.ref la, .ref oa]) → H' la = some (.lst (L.map optV)) → H' oa = some (.lst (O.map optV)) →
    IsLevels near zs s L → IsOrigins near zs s L O r t → t ≤ 150000 → Q (.ref tp) H'
theorem rep_non (n : Nat) : (List.replicate n [V.non]).flatten = (List.replicate n (none : Option Nat)).map optV := by
  rw [List.flatten_replicate_singleton, List.map_replicate]
  rfl
theorem ok_search {f fF : Addr} {fd fdF : FuncData} (F : Fun K "_search" "Web._search" sSearch f fd) (T : Txt K mg C CL CS CN) (FF : Fun K "_fill_level" "Web._fill_level" sFill fF fdF) (bF : Binds K fdF ["self", "level", "entries", "levels", "origins"] []) (mF : Meth K C "_fill_level" fF) :
    FnOk P w K mg base CX0 2 f fd ["self", "start"] (spSearch C) := by
  have GF : FnOk P w K mg base CX0 1 fF fdF ["self", "level", "entries", "levels", "origins"] (spFill C) := ok_fill FF T
  refine F.ok scSearch (fun vs H Q E h => ?_) (fun cdv A outer s0 H vs Q E hr h => ?_)
  · obtain ⟨p, s, zs, lks, near, rfl, _⟩ := h
    rfl
  · obtain ⟨p, s, zs, lks, near, rfl, hs, W, q⟩ := h
    obtain ⟨⟨dx, zl, ll, nl, h1, h2, h3, ⟨asN, h4, hN⟩⟩, ok, _, hsm⟩ := id W
    have elen : ((asN.map V.ref).length : Int) = zs.length := by rw [List.length_map, hN.len, ok.len]
    refine ⟨_, pss_cons (ps_set (i := 2) scSearch.nd rfl (.inl rfl) (pe_op op_rep (pe_lst (pa_cons pe_non pa_nil)) (pe_callB call_len_seq (by rfl) T.len PySem.boot_len (pa_cons (pe_fld (pv 0) rfl) pa_nil))))
      (pss_cons (ps_set (i := 3) scSearch.nd rfl (.inl rfl) (pe_op op_rep (pe_lst (pa_cons pe_non pa_nil)) (pe_callB call_len_seq (by rfl) T.len PySem.boot_len (pa_cons (pe_fld (pv 0) rfl) pa_nil))))
      (pss_cons (ps_set (i := 4) scSearch.nd rfl (.inl rfl) (pe_lst (pa_cons (pe_tup (pa_cons (pv 1) (pa_cons pe_non pa_nil))) pa_nil)))
      (pss_cons (ps_set (i := 5) scSearch.nd rfl (.inl rfl) pe_int)
      (pss_cons (ps_while PassesOwn.never (pt_truth (pv 4) (by intro _; rfl))
        (pss_cons (ps_aug (i := 5) scSearch.nd rfl (.inl rfl) pe_int ip_add)
        (pss_one (ps_set (i := 4) scSearch.nd rfl (.inl rfl) (pe_meth (pv 0) T.cl mF GF hr bF .nil pass0 (pa_cons (pv 5) (pa_cons (pv 4) (pa_cons (pv 2) (pa_cons (pv 3) pa_nil)))))))))
      (pss_one (ps_ret (pe_tup (pa_cons (pv 2) (pa_cons (pv 3) pa_nil))))))))), ?_⟩
    -- levels = [None] * len(self._near)
    refine ⟨by show 1 ≤ sizeLine; decide, fun q1 n1 => ?_⟩
    have a1 := same_upd (o := .lst [V.non]) n1
    refine ⟨_, rfl, p, C, dx, _, _, rfl, a1 _ _ h1, T.cl, T.nN, wf_near _ _ _, nl, _, rfl, .inl (SqL.of (a1 _ _ h4)), q1, _, _, rfl, rfl, upd_same, by rw [elen]; omega, by rw [elen]; omega, ?_, fun la nla => ?_⟩
    · rw [elen, Int.toNat_natCast]
      show 1 * zs.length ≤ sizeLine
      exact Nat.le_of_lt (small_line (by omega))
    rw [elen, Int.toNat_natCast, rep_non]
    obtain ⟨H1, e1⟩ : ∃ H1, H1 = upd (upd H q1 (.lst [V.non])) la (.lst ((List.replicate zs.length none).map optV)) := ⟨_, rfl⟩
    rw [← e1]
    have s1 : Same H H1 := e1 ▸ a1.trans (same_upd nla)
    have hla1 : H1 la = some (.lst ((List.replicate zs.length none).map optV)) := by rw [e1, upd_same]
    have nla0 : H la = none := a1.free nla
    clear e1
    -- origins = [None] * len(self._near)
    refine ⟨by show 1 ≤ sizeLine; decide, fun q2 n2 => ?_⟩
    have a2 := same_upd (o := .lst [V.non]) n2
    refine ⟨_, rfl, p, C, dx, _, _, rfl, a2 _ _ (s1 _ _ h1), T.cl, T.nN, wf_near _ _ _, nl, _, rfl, .inl (SqL.of (a2 _ _ (s1 _ _ h4))), q2, _, _, rfl, rfl, upd_same, by rw [elen]; omega, by rw [elen]; omega, ?_, fun oa noa => ?_⟩
    · rw [elen, Int.toNat_natCast]
      show 1 * zs.length ≤ sizeLine
      exact Nat.le_of_lt (small_line (by omega))
    rw [elen, Int.toNat_natCast, rep_non]
    obtain ⟨H2, e2⟩ : ∃ H2, H2 = upd (upd H1 q2 (.lst [V.non])) oa (.lst ((List.replicate zs.length none).map optV)) := ⟨_, rfl⟩
    rw [← e2]
    have s2 : Same H1 H2 := e2 ▸ a2.trans (same_upd noa)
    have hoa2 : H2 oa = some (.lst ((List.replicate zs.length none).map optV)) := by rw [e2, upd_same]
    have noa1 : H1 oa = none := a2.free noa
    have noa0 : H oa = none := s1.free noa1
    have nlo : la ≠ oa := ne_of_none hla1 noa1
    have hla2 := s2 _ _ hla1
    clear e2
    -- steps = [(start, None)]; level = 0
    refine ⟨_, rfl, by show 2 ≤ sizeLine; decide, fun tp ntp => ?_⟩
    refine ⟨by show 1 ≤ sizeLine; decide, fun sl nsl => ?_⟩
    obtain ⟨H3, e3⟩ : ∃ H3, H3 = upd (upd H2 tp (.tup [.int s, .non])) sl (.lst [.ref tp]) := ⟨_, rfl⟩
    rw [← e3]
    have s3 : Same H2 H3 := e3 ▸ (same_upd ntp).trans (same_upd nsl)
    have hst : Stk H3 sl [(s, none)] := ⟨[tp], by rw [e3, upd_same]; rfl, All2.one (by
      show H3 tp = _
      rw [e3, upd_ne (ne_of_none upd_same nsl), upd_same]
      rfl)⟩
    clear e3
    have s03 : Same H H3 := (s1.trans s2).trans s3
    have epot : pot near (List.replicate zs.length none) = 2 * lks.length + zs.length := by rw [pot_rep near _ ok.len, ok.size]
    refine ⟨fun m σ H4 => ∃ (S : List Sp) (L O : Lv) (r : Nat → Nat) (t lv : Nat) (st : Addr), σ = [some (.ref p), some (.int s), some (.ref la), some (.ref oa), some (.ref st), some (.int lv)] ∧ m = S.length + pot near L ∧ Same H H4 ∧
        H4 la = some (.lst (L.map optV)) ∧ H4 oa = some (.lst (O.map optV)) ∧ Stk H4 st S ∧ Srch near zs s (lv + 1) S [] L O r t ∧ t + S.length + pot near L ≤ 150000,
      ⟨_, [(s, none)], _, _, _, 0, 0, sl, rfl, rfl, s03, s3 _ _ hla2, s3 _ _ hoa2, hst, Srch.init hs, by rw [epot]; show 0 + 1 + _ ≤ _; omega⟩, ?_⟩
    rintro m σ H4 ⟨S, L, O, r, t, lv, st, rfl, rfl, s4, hL, hO, hS, R, hB⟩
    obtain ⟨asS, hS1, hS2⟩ := id hS
    refine ⟨_, rfl, _, .inl ⟨_, SqL.of hS1, rfl⟩, ?_⟩
    refine ite2 (fun e => ?_) (fun e => ?_)
    · refine ⟨_, fun σ' H' z => z, ?_⟩
      refine ⟨_, rfl, _, _, rfl, rfl, ?_⟩
      have neS : S ≠ [] := fun z => by
        subst z
        cases hS2
        exact absurd e (by simp)
      refine ⟨_, rfl, p, dx, _, rfl, s4 _ _ h1, wf_no _ _ _ (by decide +kernel) (by decide +kernel) (by decide +kernel), _, rfl, _, rfl, _, rfl, _, rfl, ?_⟩
      refine ⟨p, st, la, oa, lv + 1, s, t, 150000, zs, lks, near, S, L, O, r, H, rfl, W, s4, nla0, noa0, nlo, hS, hL, hO, R, hB, Nat.le_refl _, ?_⟩
      intro On L' O' r' t' H' on fr non hOn hL' hO' R' hB' lt
      exact ⟨On.length + pot near L', lt neS, On, L', O', r', t', lv + 1, on, rfl, rfl, fr.same s4 nla0 noa0, hL', hO', hOn, R'.next, hB'⟩
    · have eS : S = [] := by
        cases asS with
        | nil =>
          cases hS2
          rfl
        | cons a as => exact absurd rfl e
      subst eS
      refine ⟨_, rfl, _, rfl, by show 2 ≤ sizeLine; decide, fun tr ntr => ?_⟩
      have s5 := same_upd (o := .tup [V.ref la, V.ref oa]) ntr
      exact q L O r t _ tr la oa (s4.trans s5) nla0 noa0 nlo upd_same (s5 _ _ hL) (s5 _ _ hO) R.done ⟨R.lenO, R.org⟩ (by have : ([] : List Sp).length = 0 := rfl; omega)
/-! ### Web.levels -/
def spLevels (C CS : Addr) : L2.Sp := fun vs H Q E => ∃ (p : Addr) (i : Int) (zs : List Int) (lks : List Lk) (near : List (List Nat)), vs = [.ref p, .int i] ∧ WebAt C H p zs lks near ∧
  (∀ s : Nat, i = s → s < zs.length → ∀ (L : Lv) (H' : Hp) (la : Addr), Same H H' → H la = none → H' la = some (.lst (L.map optV)) → IsLevels near zs s L → Q (.ref la) H') ∧
  (¬ (0 ≤ i ∧ i < zs.length) → E (.ref CS) none H)
theorem ok_levels {f fI fC fS fF : Addr} {fd fdI fdC fdS fdF : FuncData} (F : Fun K "levels" "Web.levels" sLevels f fd) (T : Txt K mg C CL CS CN) (FI : Fun K "_is_stop" "_is_stop" sIsStop fI fdI) (bI : Binds K fdI ["stop", "count"] []) (gI : mg "_is_stop" = some (.ref fI))
    (FC : Fun K "_check_stop" "Web._check_stop" sCheckStop fC fdC) (bC : Binds K fdC ["self", "stop"] []) (mC : Meth K C "_check_stop" fC)
    (FS : Fun K "_search" "Web._search" sSearch fS fdS) (bS : Binds K fdS ["self", "start"] []) (mS : Meth K C "_search" fS)
    (FF : Fun K "_fill_level" "Web._fill_level" sFill fF fdF) (bF : Binds K fdF ["self", "level", "entries", "levels", "origins"] []) (mF : Meth K C "_fill_level" fF) :
    FnOk P w K mg base (L2N.CX P w) 3 f fd ["self", "start"] (spLevels C CS) := by
  have GC : FnOk P w K mg base (L2N.CX P w) 2 fC fdC ["self", "stop"] (spCheckStop C CS) := ok_checkStop FC T FI bI gI
  have GS : FnOk P w K mg base CX0 2 fS fdS ["self", "start"] (spSearch C) := ok_search FS T FF bF mF
  refine okN F scLevels (fun vs H Q E h => ?_) (fun cdv A outer s0 H vs Q E hr h => ?_)
  · obtain ⟨p, i, zs, lks, near, rfl, _⟩ := h
    rfl
  · obtain ⟨p, i, zs, lks, near, rfl, W, q1, q2⟩ := h
    obtain ⟨⟨dx, zl, ll, nl, h1, _⟩, _⟩ := id W
    refine ⟨_, pss_cons (ps_expr (pe_meth (pv 0) T.cl mC GC hr bC .nil (L2N.passes_call (W := fun cls d _ H => E cls d H) (L2N.takes_of rfl rfl rfl rfl) (fun _ _ _ _ h => h)) (pa_cons (pv 1) pa_nil)))
      (pss_cons (ps_asg (pe_meth (pv 0) T.cl mS GS hr bS .nil pass0 (pa_cons (pv 1) pa_nil)) (pg_tup rfl (pgs_cons (pg_name (i := 2) scLevels.nd rfl (.inl rfl)) (pgs_cons (pg_name (i := 3) scLevels.nd rfl (.inl rfl)) pgs_nil))))
      (pss_one (ps_ret (pv 2)))), ?_⟩
    refine ⟨_, rfl, p, dx, _, rfl, h1, wf_no _ _ _ (by decide +kernel) (by decide +kernel) (by decide +kernel), _, rfl, p, i, zs, lks, near, rfl, W, fun hi => ?_, q2⟩
    obtain ⟨s, rfl⟩ : ∃ s : Nat, i = s := ⟨i.toNat, by omega⟩
    refine ⟨_, rfl, p, dx, _, rfl, h1, wf_no _ _ _ (by decide +kernel) (by decide +kernel) (by decide +kernel), _, rfl, p, s, zs, lks, near, rfl, by omega, W, fun L O r t H' tp la oa sm nla noa nlo htp hL hO IL IO ht => ?_⟩
    exact ⟨tp, _, rfl, SqT.of htp, rfl, _, _, rfl, _, _, rfl, rfl, _, rfl, q1 s rfl (by omega) L H' la sm nla hL IL⟩
/-! ### Web._search_goal -/
def Both (i j : Int) (n : Nat) : Prop := (0 ≤ i ∧ i < n) ∧ (0 ≤ j ∧ j < n)
def spSearchGoal (C CS CN : Addr) : L2.Sp := fun vs H Q E => ∃ (p : Addr) (i j : Int) (zs : List Int) (lks : List Lk) (near : List (List Nat)), vs = [.ref p, .int i, .int j] ∧ WebAt C H p zs lks near ∧
  (∀ s g : Nat, i = s → j = g → s < zs.length → g < zs.length → ∀ (L : Lv) (H' : Hp), IsLevels near zs s L → Same H H' → (lk L g = none → E (.ref CN) none H') ∧
    ∀ (O : Lv) (r : Nat → Nat) (t k : Nat) (tp la oa : Addr), lk L g = some k → H la = none → H oa = none → H' tp = some (.tup [.ref la, .ref oa]) → H' la = some (.lst (L.map optV)) → H' oa = some (.lst (O.map optV)) → IsOrigins near zs s L O r t → t ≤ 150000 → Q (.ref tp) H') ∧
  (¬ Both i j zs.length → E (.ref CS) none H)
theorem ok_searchGoal {f fI fC fS fF : Addr} {fd fdI fdC fdS fdF : FuncData} (F : Fun K "_search_goal" "Web._search_goal" sSearchGoal f fd) (T : Txt K mg C CL CS CN) (FI : Fun K "_is_stop" "_is_stop" sIsStop fI fdI) (bI : Binds K fdI ["stop", "count"] []) (gI : mg "_is_stop" = some (.ref fI))
    (FC : Fun K "_check_stop" "Web._check_stop" sCheckStop fC fdC) (bC : Binds K fdC ["self", "stop"] []) (mC : Meth K C "_check_stop" fC)
    (FS : Fun K "_search" "Web._search" sSearch fS fdS) (bS : Binds K fdS ["self", "start"] []) (mS : Meth K C "_search" fS)
    (FF : Fun K "_fill_level" "Web._fill_level" sFill fF fdF) (bF : Binds K fdF ["self", "level", "entries", "levels", "origins"] []) (mF : Meth K C "_fill_level" fF) :
    FnOk P w K mg base (L2N.CX P w) 3 f fd ["self", "start", "goal"] (spSearchGoal C CS CN) := by
  have GC : FnOk P w K mg base (L2N.CX P w) 2 fC fdC ["self", "stop"] (spCheckStop C CS) := ok_checkStop FC T FI bI gI
  have GS : FnOk P w K mg base CX0 2 fS fdS ["self", "start"] (spSearch C) := ok_search FS T FF bF mF
  refine okN F scSearchGoal (fun vs H Q E h => ?_) (fun cdv A outer s0 H vs Q E hr h => ?_)
  · obtain ⟨p, i, j, zs, lks, near, rfl, _⟩ := h
    rfl
  · obtain ⟨p, i, j, zs, lks, near, rfl, W, q1, q2⟩ := h
    obtain ⟨⟨dx, zl, ll, nl, h1, _⟩, _, _, hsm⟩ := id W
    refine ⟨_, pss_cons (ps_expr (pe_meth (pv 0) T.cl mC GC hr bC .nil (L2N.passes_call (W := fun cls d _ H => E cls d H) (L2N.takes_of rfl rfl rfl rfl) (fun _ _ _ _ h => h)) (pa_cons (pv 1) pa_nil)))
      (pss_cons (ps_expr (pe_meth (pv 0) T.cl mC GC hr bC .nil (L2N.passes_call (W := fun cls d _ H => E cls d H) (L2N.takes_of rfl rfl rfl rfl) (fun _ _ _ _ h => h)) (pa_cons (pv 2) pa_nil)))
      (pss_cons (ps_asg (pe_meth (pv 0) T.cl mS GS hr bS .nil pass0 (pa_cons (pv 1) pa_nil)) (pg_tup rfl (pgs_cons (pg_name (i := 3) scSearchGoal.nd rfl (.inl rfl)) (pgs_cons (pg_name (i := 4) scSearchGoal.nd rfl (.inl rfl)) pgs_nil))))
      (pss_cons (ps_if (pt_cmpR op_isN (pe_ix ix_list (pv 3) (pv 2) (fun _ _ => rfl)) pe_non (nomark _))
        (pss_one (L2N.ps_raise rfl (L2N.takes_of rfl rfl rfl rfl) (pmk_one T.eN rfl (pe_joined (PJ.cons pe_str (PJ.cons (pe_fmt (pv 1)) (PJ.cons pe_str (PJ.cons (pe_fmt (pv 2)) PJ.nil)))))))) pss_nil)
      (pss_one (ps_ret (pe_tup (pa_cons (pv 3) (pa_cons (pv 4) pa_nil)))))))), ?_⟩
    have noC := wf_no zl ll nl (m := "_check_stop") (by decide +kernel) (by decide +kernel) (by decide +kernel)
    have noS := wf_no zl ll nl (m := "_search") (by decide +kernel) (by decide +kernel) (by decide +kernel)
    refine ⟨_, rfl, p, dx, _, rfl, h1, noC, _, rfl, p, i, zs, lks, near, rfl, W, fun hi => ?_, fun no => q2 fun b => no b.1⟩
    refine ⟨_, rfl, p, dx, _, rfl, h1, noC, _, rfl, p, j, zs, lks, near, rfl, W, fun hj => ?_, fun no => q2 fun b => no b.2⟩
    obtain ⟨s, rfl⟩ : ∃ s : Nat, i = s := ⟨i.toNat, by omega⟩
    obtain ⟨g, rfl⟩ : ∃ g : Nat, j = g := ⟨j.toNat, by omega⟩
    refine ⟨_, rfl, p, dx, _, rfl, h1, noS, _, rfl, p, s, zs, lks, near, rfl, by omega, W, fun L O r t H' tp la oa sm nla noa nlo htp hL hO IL IO ht => ?_⟩
    refine ⟨tp, _, rfl, SqT.of htp, rfl, _, _, rfl, _, _, rfl, rfl, ?_⟩
    have hgL : g < L.length := by rw [IL.len]; omega
    have gL : atI (L.map optV) (g : Nat) = some (optV (lk L g)) := at_of rfl (by rw [List.getElem?_map, lk_get hgL]; rfl)
    refine ⟨_, rfl, _, rfl, la, _, _, _, rfl, rfl, SqL.of hL, gL, rfl, _, rfl, ?_⟩
    refine ite2 (fun e => ?_) (fun e => ?_)
    · have eN : lk L g = none := of_decide_eq_true ((optV_non _).symm.trans e)
      have l1 : (s : Int).natAbs.log2 < 1920 := log_small (by omega) (by omega)
      have l2 : (g : Int).natAbs.log2 < 1920 := log_small (by omega) (by omega)
      have t1 := int_text_len_1921 l1
      have t2 := int_text_len_1921 l2
      refine ⟨_, rfl, ?_⟩
      refine ⟨by rw [sizeLine_eq]; decide +kernel, _, rfl, .inr ⟨_, rfl, l1, ⟨_, rfl, ?_, ?_⟩⟩⟩
      · exact text_fits (m := 100) (by decide +kernel) t1 (by decide)
      · refine ⟨_, rfl, ?_, ?_⟩
        · exact text_fits (m := 3000) (n := 100) (text_le (m := 100) (by decide +kernel) t1 (by decide)) (by decide +kernel) (by decide)
        · refine ⟨_, rfl, .inr ⟨_, rfl, l2, ⟨_, rfl, ?_, ?_⟩⟩⟩
          · exact text_fits (m := 4000) (text_le (m := 3000) (n := 100) (text_le (m := 100) (by decide +kernel) t1 (by decide)) (by decide +kernel) (by decide)) t2 (by decide)
          · exact (q1 s g rfl rfl (by omega) (by omega) L H' IL sm).1 eN
    · have e2 : ∃ k, lk L g = some k := by
        cases z : lk L g with
        | none =>
          rw [z] at e
          exact absurd rfl e
        | some k => exact ⟨k, rfl⟩
      obtain ⟨k, ek⟩ := e2
      refine ⟨_, rfl, _, rfl, by show 2 ≤ sizeLine; decide, fun tr ntr => ?_⟩
      have s5 := same_upd (o := .tup [V.ref la, V.ref oa]) ntr
      exact (q1 s g rfl rfl (by omega) (by omega) L _ IL (sm.trans s5)).2 O r t k tr la oa ek nla noa upd_same (s5 _ _ hL) (s5 _ _ hO) IO ht
/-! ### Web.fewest -/
def spFewest (C CS CN : Addr) : L2.Sp := fun vs H Q E => ∃ (p : Addr) (i j : Int) (zs : List Int) (lks : List Lk) (near : List (List Nat)), vs = [.ref p, .int i, .int j] ∧ WebAt C H p zs lks near ∧
  (∀ s g : Nat, i = s → j = g → s < zs.length → g < zs.length → ∀ (L : Lv) (H' : Hp), IsLevels near zs s L → Same H H' → (lk L g = none → E (.ref CN) none H') ∧ ∀ k : Nat, lk L g = some k → Q (.int k) H') ∧
  (¬ Both i j zs.length → E (.ref CS) none H)
theorem ok_fewest {f fG fI fC fS fF : Addr} {fd fdG fdI fdC fdS fdF : FuncData} (F : Fun K "fewest" "Web.fewest" sFewest f fd) (T : Txt K mg C CL CS CN) (FI : Fun K "_is_stop" "_is_stop" sIsStop fI fdI) (bI : Binds K fdI ["stop", "count"] []) (gI : mg "_is_stop" = some (.ref fI))
    (FC : Fun K "_check_stop" "Web._check_stop" sCheckStop fC fdC) (bC : Binds K fdC ["self", "stop"] []) (mC : Meth K C "_check_stop" fC)
    (FS : Fun K "_search" "Web._search" sSearch fS fdS) (bS : Binds K fdS ["self", "start"] []) (mS : Meth K C "_search" fS)
    (FF : Fun K "_fill_level" "Web._fill_level" sFill fF fdF) (bF : Binds K fdF ["self", "level", "entries", "levels", "origins"] []) (mF : Meth K C "_fill_level" fF)
    (FG : Fun K "_search_goal" "Web._search_goal" sSearchGoal fG fdG) (bG : Binds K fdG ["self", "start", "goal"] []) (mG : Meth K C "_search_goal" fG) :
    FnOk P w K mg base (L2N.CX P w) 4 f fd ["self", "start", "goal"] (spFewest C CS CN) := by
  have GG : FnOk P w K mg base (L2N.CX P w) 3 fG fdG ["self", "start", "goal"] (spSearchGoal C CS CN) := ok_searchGoal FG T FI bI gI FC bC mC FS bS mS FF bF mF
  refine okN F scFewest (fun vs H Q E h => ?_) (fun cdv A outer s0 H vs Q E hr h => ?_)
  · obtain ⟨p, i, j, zs, lks, near, rfl, _⟩ := h
    rfl
  · obtain ⟨p, i, j, zs, lks, near, rfl, W, q1, q2⟩ := h
    obtain ⟨⟨dx, zl, ll, nl, h1, _⟩, _, _, hsm⟩ := id W
    refine ⟨_, pss_cons (ps_asg (pe_meth (pv 0) T.cl mG GG hr bG .nil (L2N.passes_call (W := fun cls d _ H => E cls d H) (L2N.takes_of rfl rfl rfl rfl) (fun _ _ _ _ h => h)) (pa_cons (pv 1) (pa_cons (pv 2) pa_nil))) (pg_tup rfl (pgs_cons (pg_name (i := 3) scFewest.nd rfl (.inl rfl)) (pgs_cons (pg_name (i := 4) scFewest.nd rfl (.inl rfl)) pgs_nil))))
      (pss_one (ps_ret (pe_ix ix_list (pv 3) (pv 2) (fun _ _ => rfl)))), ?_⟩
    refine ⟨_, rfl, p, dx, _, rfl, h1, wf_no zl ll nl (by decide +kernel) (by decide +kernel) (by decide +kernel), _, rfl, _, rfl, p, i, j, zs, lks, near, rfl, W, fun s g ei ej hs hg L H' IL sm => ⟨fun e => ((q1 s g ei ej hs hg L H' IL sm).1 e), fun O r t k tp la oa ek nla noa htp hL hO IO ht => ?_⟩, q2⟩
    have hgL : g < L.length := by rw [IL.len]; omega
    have gL : atI (L.map optV) j = some (optV (lk L g)) := at_of ej (by rw [List.getElem?_map, lk_get hgL]; rfl)
    refine ⟨tp, _, rfl, SqT.of htp, rfl, _, _, rfl, _, _, rfl, rfl, _, rfl, _, rfl, la, _, _, _, rfl, rfl, SqL.of hL, gL, ?_⟩
    rw [ek]
    exact (q1 s g ei ej hs hg L H' IL sm).2 k ek
/-! ### Web.way -/
def spWay (C CS CN : Addr) : L2.Sp := fun vs H Q E => ∃ (p : Addr) (i j : Int) (zs : List Int) (lks : List Lk) (near : List (List Nat)), vs = [.ref p, .int i, .int j] ∧ WebAt C H p zs lks near ∧
  (∀ s g : Nat, i = s → j = g → s < zs.length → g < zs.length → ∀ (L : Lv) (H' : Hp), IsLevels near zs s L → Same H H' → (lk L g = none → E (.ref CN) none H') ∧
    ∀ (k : Nat) (row : List Nat) (a : Addr), lk L g = some k → H a = none → H' a = some (.lst (row.map fun (x : Nat) => V.int (x : Nat))) → RowTo near zs s row g k → row.length ≤ 150001 → Q (.ref a) H') ∧
  (¬ Both i j zs.length → E (.ref CS) none H)
theorem ok_way {f fG fI fC fS fF : Addr} {fd fdG fdI fdC fdS fdF : FuncData} (F : Fun K "way" "Web.way" sWay f fd) (T : Txt K mg C CL CS CN) (FI : Fun K "_is_stop" "_is_stop" sIsStop fI fdI) (bI : Binds K fdI ["stop", "count"] []) (gI : mg "_is_stop" = some (.ref fI))
    (FC : Fun K "_check_stop" "Web._check_stop" sCheckStop fC fdC) (bC : Binds K fdC ["self", "stop"] []) (mC : Meth K C "_check_stop" fC)
    (FS : Fun K "_search" "Web._search" sSearch fS fdS) (bS : Binds K fdS ["self", "start"] []) (mS : Meth K C "_search" fS)
    (FF : Fun K "_fill_level" "Web._fill_level" sFill fF fdF) (bF : Binds K fdF ["self", "level", "entries", "levels", "origins"] []) (mF : Meth K C "_fill_level" fF)
    (FG : Fun K "_search_goal" "Web._search_goal" sSearchGoal fG fdG) (bG : Binds K fdG ["self", "start", "goal"] []) (mG : Meth K C "_search_goal" fG) :
    FnOk P w K mg base (L2N.CX P w) 4 f fd ["self", "start", "goal"] (spWay C CS CN) := by
  have GG : FnOk P w K mg base (L2N.CX P w) 3 fG fdG ["self", "start", "goal"] (spSearchGoal C CS CN) := ok_searchGoal FG T FI bI gI FC bC mC FS bS mS FF bF mF
  refine okN F scWay (fun vs H Q E h => ?_) (fun cdv A outer s0 H vs Q E hr h => ?_)
  · obtain ⟨p, i, j, zs, lks, near, rfl, _⟩ := h
    rfl
  · obtain ⟨p, i, j, zs, lks, near, rfl, W, q1, q2⟩ := h
    obtain ⟨⟨dx, zl, ll, nl, h1, _⟩, _, _, hsm⟩ := id W
    refine ⟨_, pss_cons (ps_asg (pe_meth (pv 0) T.cl mG GG hr bG .nil (L2N.passes_call (W := fun cls d _ H => E cls d H) (L2N.takes_of rfl rfl rfl rfl) (fun _ _ _ _ h => h)) (pa_cons (pv 1) (pa_cons (pv 2) pa_nil))) (pg_tup rfl (pgs_cons (pg_name (i := 3) scWay.nd rfl (.inl rfl)) (pgs_cons (pg_name (i := 4) scWay.nd rfl (.inl rfl)) pgs_nil))))
      (pss_cons (ps_set (i := 5) scWay.nd rfl (.inl rfl) (pe_lst (pa_cons (pv 2) pa_nil)))
      (pss_cons (ps_while (passes_of rfl) (pt_cmpR op_ne (pe_ix ix_list (pv 5) (pe_un un_neg pe_int) (fun _ _ => rfl)) (pv 1) (nomark _))
        (pss_one (ps_expr (pe_bm PySem.F.plainAttrs_list PySem.F.slot_list_append PySem.F.type_list_append mt_append (pv 5) (pa_cons (pe_ix ix_list (pv 4) (pe_ix ix_list (pv 5) (pe_un un_neg pe_int) (fun _ _ => rfl)) (fun _ _ => rfl)) pa_nil)))))
      (pss_one (ps_ret (pe_revL (pv 5)))))), ?_⟩
    refine ⟨_, rfl, p, dx, _, rfl, h1, wf_no zl ll nl (by decide +kernel) (by decide +kernel) (by decide +kernel), _, rfl, _, rfl, p, i, j, zs, lks, near, rfl, W, fun s g ei ej hs hg L H' IL sm => ⟨fun e => ((q1 s g ei ej hs hg L H' IL sm).1 e), fun O r t k tp la oa ek nla noa htp hL hO IO ht => ?_⟩, q2⟩
    subst ei ej
    refine ⟨tp, _, rfl, SqT.of htp, rfl, _, _, rfl, _, _, rfl, rfl, ?_⟩
    refine ⟨_, rfl, by show 1 ≤ sizeLine; decide, fun rw nrw => ?_⟩
    have sr := same_upd (o := .lst [V.int (g : Nat)]) nrw
    have nrw0 := sm.free nrw
    obtain ⟨rg, _, _⟩ := IO.org g k ek
    refine ⟨fun m σ H2 => ∃ (R suf : List Nat) (c d kc : Nat), σ = [some (.ref p), some (.int s), some (.int g), some (.ref la), some (.ref oa), some (.ref rw)] ∧ m = r c ∧ Same H' H2 ∧ H2 rw = some (.lst ((R ++ [c]).map fun (x : Nat) => V.int (x : Nat))) ∧
        R.reverse = suf ∧ lk L c = some kc ∧ kc + d = k ∧ (∀ l kk, RowTo near zs s l c kk → RowTo near zs s (l ++ suf) g (kk + d)) ∧ R.length + r c ≤ r g,
      ⟨_, [], [], g, 0, k, rfl, rfl, sr, upd_same, rfl, ek, rfl, fun l kk x => by rw [List.append_nil]; exact x, by show 0 + r g ≤ r g; omega⟩, ?_⟩
    rintro m σ H2 ⟨R, suf, c, d, kc, rfl, rfl, s2', hR, hsuf, ec, hd, hrow, hlen⟩
    have alast : atI ((R ++ [c]).map fun (x : Nat) => V.int (x : Nat)) (-1) = some (.int (c : Nat)) := by
      rw [List.map_append]
      exact atI_last _ _
    obtain ⟨rc, oc, lc⟩ := IO.org c kc ec
    refine ⟨_, rfl, 1, rfl, rw, _, _, _, rfl, rfl, SqL.of hR, alast, _, rfl, rfl, _, rfl, ?_⟩
    refine ite2 (fun e => ?_) (fun e => ?_)
    · have nc : c ≠ s := fun z => nd_of e (by rw [z])
      obtain ⟨u, eu⟩ : ∃ u, lk O c = some u := by
        cases z : lk O c with
        | some u => exact ⟨u, rfl⟩
        | none =>
          rw [z] at oc
          exact absurd oc.1 nc
      rw [eu] at oc
      obtain ⟨ad, ku, eku, hku⟩ := oc
      have hcO : c < O.length := lk_lt eu
      have gO : atI (O.map optV) (c : Nat) = some (.int (u : Nat)) := at_of rfl (by rw [List.getElem?_map, lk_get hcO, eu]; rfl)
      have hru := lc u eu
      refine ⟨_, fun σ' H' z => z, ?_⟩
      refine ⟨_, rfl, .inl ⟨rfl, _, SqL.of hR⟩, _, rfl, _, rfl, 1, rfl, rw, _, _, _, rfl, rfl, SqL.of hR, alast, oa, _, _, _, rfl, rfl, SqL.of (s2' _ _ hO), gO, rw, _, _, rfl, rfl, hR, small_line (by rw [List.length_map, List.length_append]; show R.length + 1 ≤ _; omega), ?_⟩
      refine ⟨r u, hru, R ++ [c], c :: suf, u, d + wt zs u c, ku, rfl, rfl, upd_out s2' nrw, ?_, by rw [List.reverse_append, hsuf]; rfl, eku, by omega, fun l kk x => ?_, by rw [List.length_append]; show R.length + 1 + r u ≤ r g; omega⟩
      · rw [upd_same, List.map_append (l₂ := [u])]
        rfl
      · have z := hrow _ _ (RowTo.snoc x ad)
        rw [List.append_assoc] at z
        have e2 : kk + wt zs u c + d = kk + (d + wt zs u c) := by omega
        rw [e2] at z
        exact z
    · have ecs : c = s := by
        have z : V.int (c : Nat) = V.int (s : Nat) := d_of e
        have := V.int.inj z
        omega
      subst ecs
      have k1 : kc = 1 := by
        rw [IL.one] at ec
        cases ec
        rfl
      refine ⟨_, rfl, rw, _, rfl, SqL.of hR, fun a na => ?_⟩
      have s3 := same_upd (o := .lst ((R ++ [c]).map fun (x : Nat) => V.int (x : Nat)).reverse) na
      have er : ((R ++ [c]).map fun (x : Nat) => V.int (x : Nat)).reverse = ((c :: suf).map fun (x : Nat) => V.int (x : Nat)) := by
        rw [← List.map_reverse, List.reverse_append, hsuf]
        rfl
      have z := hrow [c] 1 .one
      have e2 : 1 + d = k := by omega
      rw [e2] at z
      refine (q1 c g rfl rfl hs hg L _ IL (sm.trans (s2'.trans s3))).2 k (c :: suf) a ek (sm.free (s2'.free na)) (by rw [upd_same, er]) z ?_
      have : suf.length = R.length := by rw [← hsuf, List.length_reverse]
      rw [List.length_cons]
      omega
end
end FW
namespace FW
open PySem PySem.Spec PyProof.Rows L2
/-! ### the law's helpers that several laws have -/
abbrev sCell : Stmt := top 11
abbrev sLinksBy : Stmt := top 15
theorem scCell : FnScope ["_law_script", "_law_k"] ["_law_script", "_law_k"] (defScope sCell) := ⟨rfl, rfl, rfl, by decide +kernel, rfl, by decide +kernel, by decide +kernel⟩
def cell (ns : List Int) (k : Nat) : Int := ns.getD k 0
/-- what the law's text asks of the built-ins -/
structure BT (mg : Str → Option Value) : Prop where
  len : mg "len" = none
  list : mg "list" = none
  range : mg "range" = none
  min : mg "min" = none
  int : mg "int" = none
def datO : Option Nat → PyData
  | none => .none
  | some k => .int (k : Nat)
theorem dp_opt {K : PySem.W.Frag} {H : Hp} (o : Option Nat) : Dp K H (optV o) (datO o) := by
  cases o with
  | none => exact .non
  | some k => exact .int _
theorem dps_opt {K : PySem.W.Frag} {H : Hp} : ∀ L : Lv, DpAll K H (L.map optV) (L.map datO)
  | [] => .nil
  | o :: L => .cons (dp_opt o) (dps_opt L)
theorem lay_opt : ∀ L : Lv, PyData.canLayAll0 (L.map datO) = true
  | [] => by simp [PyData.canLayAll0]
  | o :: L => by
    have ih := lay_opt L
    cases o <;> simpa [PyData.canLayAll0, PyData.canLay0, datO] using ih
theorem dep_opt : ∀ L : Lv, PyData.depthAll (L.map datO) = 0
  | [] => by simp [PyData.depthAll]
  | o :: L => by
    have ih := dep_opt L
    cases o <;> simpa [PyData.depthAll, PyData.depth, datO] using ih
theorem shaped_opt (L : Lv) : SeqAt.shaped (.list (L.map datO)) = true := by
  unfold SeqAt.shaped
  rw [Bool.and_eq_true_iff]
  refine ⟨by simpa [PyData.canLay0] using lay_opt L, decide_eq_true ?_⟩
  show PyData.depth (.list (L.map datO)) ≤ 64
  have : PyData.depth (.list (L.map datO)) = PyData.depthAll (L.map datO) + 1 := by simp [PyData.depth]
  rw [this, dep_opt]
  decide
theorem eqv_opt (L : Lv) : PyData.eqv (.list (L.map datO)) (.list (L.map datO)) = true := SeqAt.eqv_refl _ (by simpa [PyData.canLay0] using lay_opt L)
section
variable {P : Program} {w : World} {K : PySem.W.Frag} {mg : Str → Option Value} {base : Heap}
def spCell (K : PySem.W.Frag) : L2.Sp := fun vs H Q _ => ∃ (a : Addr) (ns : List Int) (k : Nat), vs = [.ref a, .int k] ∧ SqL K H a (ns.map V.int) ∧ Q (.int (cell ns k)) H
theorem ok_cell {f : Addr} {fd : FuncData} (F : Fun K "_law_cell_at" "_law_cell_at" sCell f fd) (B : mg "len" = none) : FnOk P w K mg base CX0 1 f fd ["_law_script", "_law_k"] (spCell K) := by
  refine F.ok scCell (fun vs H Q E h => ?_) (fun cdv A outer s H vs Q E hr h => ?_)
  · obtain ⟨a, ns, k, rfl, _⟩ := h
    rfl
  · obtain ⟨a, ns, k, rfl, hS, q⟩ := h
    refine ⟨_, pss_cons (ps_if (pt_cmpR op_lt (pv 1) (pe_callB call_len_seq (by rfl) B PySem.boot_len (pa_cons (pv 0) pa_nil)) (nomark _)) (pss_one (ps_ret (pe_ix ix_list (pv 0) (pv 1) (fun _ _ => rfl)))) pss_nil)
      (pss_one (ps_ret pe_int)), ?_⟩
    refine ⟨_, rfl, _, rfl, a, _, rfl, .inl hS, _, _, rfl, rfl, _, rfl, ?_⟩
    rw [List.length_map]
    refine ite2 (fun e => ?_) (fun e => ?_)
    · have hk : k < ns.length := Int.ofNat_lt.mp (of_decide_eq_true e)
      have eg : ns[k]? = some (cell ns k) := by
        unfold cell
        rw [List.getD_eq_getElem?_getD, List.getElem?_eq_getElem hk]
        rfl
      exact ⟨_, rfl, _, rfl, a, _, _, _, rfl, rfl, hS, at_of (j := k) rfl (by rw [List.getElem?_map, eg]; rfl), q⟩
    · have hk : ns.length ≤ k := by
        have : ¬ ((k : Int) < ns.length) := fun z => e (decide_eq_true z)
        omega
      have eg : cell ns k = 0 := by
        unfold cell
        rw [List.getD_eq_getElem?_getD, List.getElem?_eq_none hk]
        rfl
      rw [eg] at q
      exact q
end
end FW
namespace FW
open PySem PySem.Spec PyProof.Rows L2
abbrev sWhole : Stmt := top 12
abbrev sMany : Stmt := top 13
abbrev sZonesBy : Stmt := top 14
theorem scWhole : FnScope ["_law_found"] ["_law_found"] (defScope sWhole) := ⟨rfl, rfl, rfl, by decide +kernel, rfl, by decide +kernel, by decide +kernel⟩
theorem scMany : FnScope ["_law_cell"] ["_law_cell"] (defScope sMany) := ⟨rfl, rfl, rfl, by decide +kernel, rfl, by decide +kernel, by decide +kernel⟩
theorem scZonesBy : FnScope ["_law_cell", "_law_other", "_law_many_here", "_law_step", "_law_zones", "_law_k"] ["_law_cell", "_law_other", "_law_many_here"] (defScope sZonesBy) := ⟨rfl, rfl, rfl, by decide +kernel, rfl, by decide +kernel, by decide +kernel⟩
theorem scLinksBy : FnScope ["_law_script", "_law_first", "_law_many_here", "_law_links", "_law_k"] ["_law_script", "_law_first", "_law_many_here"] (defScope sLinksBy) := ⟨rfl, rfl, rfl, by decide +kernel, rfl, by decide +kernel, by decide +kernel⟩
section
variable {P : Program} {w : World} {K : PySem.W.Frag} {mg : Str → Option Value} {base : Heap} {C CL CS CN : Addr}
structure LT (mg : Str → Option Value) : Prop where
  len : mg "len" = none
  list : mg "list" = none
  range : mg "range" = none
  min : mg "min" = none
  int : mg "int" = none
  isi : mg "isinstance" = none
  bool : mg "bool" = none
  abs : mg "abs" = none
/-! ### _law_whole -/
def spWhole : L2.Sp := fun vs H Q _ => ∃ i : Int, vs = [.int i] ∧ Q (.bl true) H
theorem ok_whole {f : Addr} {fd : FuncData} (F : Fun K "_law_whole" "_law_whole" sWhole f fd) (T : LT mg) : FnOk P w K mg base CX0 1 f fd ["_law_found"] spWhole := by
  refine F.ok scWhole (fun vs H Q E h => ?_) (fun cdv A outer s H vs Q E hr h => ?_)
  · obtain ⟨i, rfl, _⟩ := h
    rfl
  · obtain ⟨i, rfl, q⟩ := h
    refine ⟨_, pss_one (ps_ret (pe_and (pe_callB call_isi (by rfl) T.isi boot_isinstance (pa_cons (pv 0) (pa_cons (pe_bltn (v := .ty "int") (by rfl) T.int boot_int rfl) pa_nil)))
      (pe_one (pe_not (pe_callB call_isi (by rfl) T.isi boot_isinstance (pa_cons (pv 0) (pa_cons (pe_bltn (v := .ty "bool") (by rfl) T.bool (by decide +kernel) rfl) pa_nil))))))), ?_⟩
    refine ⟨_, rfl, .int i, .ty "int", .type "int", .type "int", true, rfl, .ty _, .base (.int i), kit_ty (by decide +kernel), true, rfl, ?_⟩
    refine iteT ?_
    exact ⟨_, rfl, .int i, .ty "bool", .type "int", .type "bool", false, rfl, .ty _, .base (.int i), kit_ty (by decide +kernel), false, rfl, q⟩
/-! ### _law_many -/
def spMany : L2.Sp := fun vs H Q _ => ∃ c : Int, vs = [.int c] ∧ ∀ n : Nat, 1 ≤ n → n ≤ 60 → Q (.int n) H
theorem ok_many {f : Addr} {fd : FuncData} (F : Fun K "_law_many" "_law_many" sMany f fd) : FnOk P w K mg base CX0 1 f fd ["_law_cell"] spMany := by
  refine F.ok scMany (fun vs H Q E h => ?_) (fun cdv A outer s H vs Q E hr h => ?_)
  · obtain ⟨c, rfl, _⟩ := h
    rfl
  · obtain ⟨c, rfl, q⟩ := h
    have q' : ∀ z : Int, 1 ≤ z → z ≤ 60 → Q (.int z) H := fun z h1 h2 => by
      have e : z = ((z.toNat : Nat) : Int) := by omega
      rw [e]
      exact q z.toNat (by omega) (by omega)
    refine ⟨_, pss_cons (ps_if (pt_cmpR op_eq (pe_op op_mod (pe_op op_fdiv (pv 0) pe_int) pe_int) pe_int (nomark _)) (pss_one (ps_ret (pe_op op_add pe_int (pe_op op_mod (pe_op op_fdiv (pv 0) pe_int) pe_int)))) pss_nil)
      (pss_one (ps_ret (pe_op op_add pe_int (pe_op op_mod (pv 0) pe_int)))), ?_⟩
    refine ⟨_, rfl, _, _, rfl, rfl, ⟨by decide, by decide⟩, _, _, rfl, rfl, by show (0 : Int) < 8; decide, rfl, _, rfl, ?_⟩
    refine ite2 (fun e => ?_) (fun e => ?_)
    · refine ⟨_, rfl, _, _, rfl, rfl, ⟨by decide, by decide⟩, _, _, rfl, rfl, by show (0 : Int) < 51; decide, _, _, rfl, rfl, ?_⟩
      exact q' _ (by omega) (by omega)
    · refine ⟨_, rfl, _, _, rfl, rfl, by show (0 : Int) < 9; decide, _, _, rfl, rfl, ?_⟩
      exact q' _ (by omega) (by omega)
/-! ### _law_zones_by -/
def spZonesBy : L2.Sp := fun vs H Q _ => ∃ (c o : Int) (n : Nat), vs = [.int c, .int o, .int n] ∧ n ≤ 60 ∧ ∀ (zs : List Int) (H' : Hp) (p : Addr), zs.length = n → Same H H' → H p = none → H' p = some (.lst (zs.map V.int)) → Q (.ref p) H'
theorem step7 (i : Int) (h0 : 0 ≤ i) (h : i < 7) (a b c d e f g : Int) : ∃ y : Int, atI [V.int a, .int b, .int c, .int d, .int e, .int f, .int g] i = some (.int y) := by
  obtain ⟨j, rfl⟩ : ∃ j : Nat, i = j := ⟨i.toNat, by omega⟩
  match j, h with
  | 0, _ => exact ⟨a, rfl⟩
  | 1, _ => exact ⟨b, rfl⟩
  | 2, _ => exact ⟨c, rfl⟩
  | 3, _ => exact ⟨d, rfl⟩
  | 4, _ => exact ⟨e, rfl⟩
  | 5, _ => exact ⟨f, rfl⟩
  | 6, _ => exact ⟨g, rfl⟩
  | j + 7, h => omega
theorem ok_zonesBy {f : Addr} {fd : FuncData} (F : Fun K "_law_zones_by" "_law_zones_by" sZonesBy f fd) (T : LT mg) : FnOk P w K mg base CX0 1 f fd ["_law_cell", "_law_other", "_law_many_here"] spZonesBy := by
  refine F.ok scZonesBy (fun vs H Q E h => ?_) (fun cdv A outer s H vs Q E hr h => ?_)
  · obtain ⟨c, o, n, rfl, _⟩ := h
    rfl
  · obtain ⟨c, o, n, rfl, hn, q⟩ := h
    refine ⟨_, pss_cons (ps_set (i := 3) scZonesBy.nd rfl (.inl rfl) (pe_ix ix_list (pe_lst (pa_cons pe_int (pa_cons pe_int (pa_cons pe_int (pa_cons (pe_op op_pow pe_int pe_int) (pa_cons (pe_op op_pow pe_int pe_int) (pa_cons (pe_op op_pow pe_int pe_int) (pa_cons (pe_op op_pow pe_int pe_int) pa_nil))))))))
        (pe_op op_mod (pe_op op_fdiv (pv 1) pe_int) pe_int) (fun _ _ => rfl)))
      (pss_cons (ps_set (i := 4) scZonesBy.nd rfl (.inl rfl) (pe_lst pa_nil))
      (pss_cons (ps_for PassesOwn.never rfl (pi_range1 (by rfl) T.range (pa_cons (pv 2) pa_nil)) (pg_name (i := 5) scZonesBy.nd rfl (.inl rfl))
        (pss_cons (ps_expr (pe_bm PySem.F.plainAttrs_list PySem.F.slot_list_append PySem.F.type_list_append mt_append (pv 4)
          (pa_cons (pe_op op_add (pe_op op_sub (pe_op op_mod (pe_op op_fdiv (pv 1) pe_int) pe_int) pe_int) (pe_op op_mul (pv 3) (pe_op op_mod (pe_op op_add (pv 0) (pe_op op_mul (pv 5) (pe_op op_mod (pv 1) pe_int))) pe_int))) pa_nil)))
        (pss_one (ps_set (i := 0) scZonesBy.nd rfl (.inl rfl) (pe_op op_fdiv (pv 0) pe_int)))))
      (pss_one (ps_ret (pv 4))))), ?_⟩
    have pw : ∀ (i j : Int), 0 ≤ j → j ≤ 1000000 → i.natAbs < 2 ^ 64 → CPow i j := fun i j a b c => ⟨a, b, c⟩
    refine ⟨_, _, rfl, rfl, pw _ _ (by decide) (by decide) (by decide), _, _, rfl, rfl, pw _ _ (by decide) (by decide) (by decide), _, _, rfl, rfl, pw _ _ (by decide) (by decide) (by decide), _, _, rfl, rfl, pw _ _ (by decide) (by decide) (by decide), by show 7 ≤ sizeLine; decide, fun sp nsp => ?_⟩
    obtain ⟨y, ey⟩ := step7 (o / 5 % 7) (by omega) (by omega) 1 2 100 (10 ^ (4 : Int).toNat) (10 ^ (6 : Int).toNat) (2 ^ (32 : Int).toNat) (10 ^ (30 : Int).toNat)
    refine ⟨_, rfl, _, _, rfl, rfl, ⟨by decide, by decide⟩, _, _, rfl, rfl, by show (0 : Int) < 7; decide, sp, _, _, _, rfl, rfl, SqL.of upd_same, ey, ?_⟩
    have a1 := same_upd (o := .lst [V.int 1, .int 2, .int 100, .int (10 ^ (4 : Int).toNat), .int (10 ^ (6 : Int).toNat), .int (2 ^ (32 : Int).toNat), .int (10 ^ (30 : Int).toNat)]) nsp
    refine ⟨Nat.zero_le _, fun zp nzp => ?_⟩
    have a2 := a1.trans (same_upd (o := .lst []) nzp)
    have nz0 : H zp = none := a1.free nzp
    refine ⟨_, rfl, n, rfl, by omega, by omega, for_range (lo := 0) (n := (n : Int).toNat) (fun i σ H2 => ∃ (c' : Int) (y5 : Option V) (zs : List Int), σ = [some (.int c'), some (.int o), some (.int n), some (.int y), some (.ref zp), y5] ∧ Same H H2 ∧ H2 zp = some (.lst (zs.map V.int)) ∧ zs.length = i)
      ⟨c, none, [], rfl, a2, upd_same, rfl⟩ ?_ ?_⟩
    · rintro i σ H2 hi ⟨c', y5, zs, rfl, s2, hz, hl⟩
      refine ⟨_, rfl, .inl ⟨rfl, _, SqL.of hz⟩, _, rfl, _, _, rfl, rfl, ⟨by decide, by decide⟩, _, _, rfl, rfl, by show (0 : Int) < 2001; decide, _, _, rfl, rfl, _, rfl, _, rfl, _, rfl, _, rfl, _, _, rfl, rfl, by show (0 : Int) < 5; decide, _, _, rfl, rfl, ?_, _, _, rfl, rfl, _, _, rfl, rfl, by show (0 : Int) < 5; decide, _, _, rfl, rfl, ?_, _, _, rfl, rfl, zp, _, _, rfl, rfl, hz, small_line (by rw [List.length_map]; omega), ?_⟩
      · exact .inl ⟨by omega, by omega⟩
      · exact .inr ⟨by omega, by omega⟩
      · refine ⟨_, rfl, _, _, rfl, rfl, ⟨by decide, by decide⟩, _, _, zs ++ [_], rfl, upd_out s2 nz0, by rw [upd_same, List.map_append]; rfl, by rw [List.length_append, hl]; rfl⟩
    · rintro σ H2 ⟨c', y5, zs, rfl, s2, hz, hl⟩
      exact ⟨_, rfl, q zs H2 zp (by omega) s2 nz0 hz⟩
/-! ### _law_links_by -/
def spLinksBy (K : PySem.W.Frag) : L2.Sp := fun vs H Q _ => ∃ (a : Addr) (ns : List Int) (n : Nat), vs = [.ref a, .int 5, .int n] ∧ SqL K H a (ns.map V.int) ∧ ns.length ≤ 63 ∧ 1 ≤ n ∧ n ≤ 60 ∧
  ∀ (lks : List Lk) (H' : Hp) (p : Addr), (∀ q, q ∈ lks → LinkOk n q) → lks.length ≤ 1000 → Same H H' → H p = none → LinksAt H' p lks → Q (.ref p) H'
theorem rg5 : ∀ k : Fin 64, RgC 5 (((k.val : Nat) : Int) - 1) 2 ((k.val - 5) / 2) := by
  unfold RgC
  decide +kernel
theorem link_push {H : Hp} {l t : Addr} {x y : Int} {as : List Addr} {ps : List Lk} (hl : H l = some (.lst (as.map V.ref))) (ha : All2 (LinkAt H) as ps) (nt : H t = none) :
    LinksAt (upd (upd H t (.tup [.int x, .int y])) l (.lst (as.map V.ref ++ [.ref t]))) l (ps ++ [(x, y)]) := by
  have k : ∀ b o, H b = some o → b ≠ l → upd (upd H t (.tup [.int x, .int y])) l (.lst (as.map V.ref ++ [.ref t])) b = some o := fun b o e n => by
    rw [upd_ne n, upd_ne (ne_of_none e nt)]
    exact e
  refine ⟨as ++ [t], by rw [upd_same, List.map_append]; rfl, All2.app (ha.imp fun a b r => k _ _ r (ne_of r hl (by intro z; cases z))) (All2.one ?_)⟩
  show upd (upd H t _) l _ t = _
  rw [upd_ne (ne_of_none hl nt).symm, upd_same]
theorem ok_linksBy {f fC : Addr} {fd fdC : FuncData} (F : Fun K "_law_links_by" "_law_links_by" sLinksBy f fd) (T : LT mg) (FC : Fun K "_law_cell_at" "_law_cell_at" sCell fC fdC) (bC : Binds K fdC ["_law_script", "_law_k"] []) (gC : mg "_law_cell_at" = some (.ref fC)) :
    FnOk P w K mg base CX0 2 f fd ["_law_script", "_law_first", "_law_many_here"] (spLinksBy K) := by
  have GC : FnOk P w K mg base CX0 1 fC fdC ["_law_script", "_law_k"] (spCell K) := ok_cell FC T.len
  refine F.ok scLinksBy (fun vs H Q E h => ?_) (fun cdv A outer s H vs Q E hr h => ?_)
  · obtain ⟨a, ns, n, rfl, _⟩ := h
    rfl
  · obtain ⟨a, ns, n, rfl, hS, h63, hn1, hn60, q⟩ := h
    refine ⟨_, pss_cons (ps_set (i := 3) scLinksBy.nd rfl (.inl rfl) (pe_lst pa_nil))
      (pss_cons (ps_for PassesOwn.never rfl (pi_range3 (by rfl) T.range (pa_cons (pv 1) (pa_cons (pe_op op_sub (pe_callB (call_min2 rfl) (by rfl) T.min (by decide +kernel) (pa_cons (pe_callB call_len_seq (by rfl) T.len PySem.boot_len (pa_cons (pv 0) pa_nil)) (pa_cons pe_int pa_nil))) pe_int) (pa_cons pe_int pa_nil))))
          (pg_name (i := 4) scLinksBy.nd rfl (.inl rfl))
        (pss_one (ps_if (pt_cmpR op_ne (pe_op op_mod (pe_ix ix_list (pv 0) (pv 4) (fun _ _ => rfl)) (pv 2)) (pe_op op_mod (pe_ix ix_list (pv 0) (pe_op op_add (pv 4) pe_int) (fun _ _ => rfl)) (pv 2)) (nomark _))
          (pss_one (ps_expr (pe_bm PySem.F.plainAttrs_list PySem.F.slot_list_append PySem.F.type_list_append mt_append (pv 3)
            (pa_cons (pe_tup (pa_cons (pe_op op_mod (pe_ix ix_list (pv 0) (pv 4) (fun _ _ => rfl)) (pv 2)) (pa_cons (pe_op op_mod (pe_ix ix_list (pv 0) (pe_op op_add (pv 4) pe_int) (fun _ _ => rfl)) (pv 2)) pa_nil))) pa_nil)))) pss_nil)))
      (pss_cons (ps_if (pt_cmpR op_eq (pe_op op_mod (pe_op op_add (pe_call GC hr (by rfl) gC FC.kp bC .nil pass0 (pa_cons (pv 0) (pa_cons pe_int pa_nil))) (pe_call GC hr (by rfl) gC FC.kp bC .nil pass0 (pa_cons (pv 0) (pa_cons pe_int pa_nil)))) pe_int) pe_int (nomark _))
          (pss_one (ps_for PassesOwn.never rfl (pi_range1 (by rfl) T.range (pa_cons (pe_op op_sub (pv 2) pe_int) pa_nil)) (pg_name (i := 4) scLinksBy.nd rfl (.inl rfl))
            (pss_one (ps_expr (pe_bm PySem.F.plainAttrs_list PySem.F.slot_list_append PySem.F.type_list_append mt_append (pv 3)
              (pa_cons (pe_tup (pa_cons (pv 4) (pa_cons (pe_op op_add (pv 4) pe_int) pa_nil))) pa_nil)))))) pss_nil)
      (pss_cons (ps_if (PW.pt (pw_and (pt_cmpR op_eq (pe_op op_mod (pe_call GC hr (by rfl) gC FC.kp bC .nil pass0 (pa_cons (pv 0) (pa_cons pe_int pa_nil))) pe_int) pe_int (nomark _)) (pw_and1 (pt_cmpR op_lt (pe_callB call_len_seq (by rfl) T.len PySem.boot_len (pa_cons (pv 3) pa_nil)) pe_int (nomark _)))))
          (pss_one (ps_set (i := 3) scLinksBy.nd rfl (.inl rfl) (pe_op op_cat (pe_op op_cat (pv 3) (pv 3)) (pv 3)))) pss_nil)
      (pss_one (ps_ret (pv 3)))))), ?_⟩
    -- _law_links = []
    refine ⟨Nat.zero_le _, fun l nl => ?_⟩
    have s1 : Same H (upd H l (.lst [])) := same_upd nl
    -- the first loop
    have hrg := rg5 ⟨ns.length, by omega⟩
    have emin : (if (200 : Int) < ((ns.map V.int).length : Int) then (200 : Int) else ((ns.map V.int).length : Int)) - 1 = (ns.length : Int) - 1 := by
      rw [List.length_map, if_neg (by omega)]
    refine ⟨_, rfl, _, rfl, a, _, rfl, .inl (s1.seq hS), _, _, rfl, _, _, rfl, rfl, _, _, _, (ns.length - 5) / 2, rfl, by rw [emin]; exact hrg, ?_⟩
    refine for_rangeC (lo := 5) (c := 2) (n := (ns.length - 5) / 2) (fun i σ H2 => ∃ (y4 : Option V) (lks : List Lk), σ = [some (.ref a), some (.int 5), some (.int n), some (.ref l), y4] ∧ Same H H2 ∧ LinksAt H2 l lks ∧ (∀ q, q ∈ lks → LinkOk n q) ∧ lks.length ≤ i)
      ⟨none, [], rfl, s1, ⟨[], upd_same, .nil⟩, by simp, Nat.le_refl _⟩ ?_ ?_
    · rintro i σ H2 hi ⟨y4, lks, rfl, s2, ⟨as, hl, hA⟩, hok, hlen⟩
      have hk1 : 5 + 2 * i < ns.length := by omega
      have hk2 : 5 + 2 * i + 1 < ns.length := by omega
      obtain ⟨x, ex⟩ : ∃ x, ns[5 + 2 * i]? = some x := ⟨_, List.getElem?_eq_getElem hk1⟩
      obtain ⟨y, ey⟩ : ∃ y, ns[5 + 2 * i + 1]? = some y := ⟨_, List.getElem?_eq_getElem hk2⟩
      have g1 : atI (ns.map V.int) (5 + (i : Nat) * 2) = some (.int x) := at_of (j := 5 + 2 * i) (by omega) (by rw [List.getElem?_map, ex]; rfl)
      have g2 : atI (ns.map V.int) (5 + (i : Nat) * 2 + 1) = some (.int y) := at_of (j := 5 + 2 * i + 1) (by omega) (by rw [List.getElem?_map, ey]; rfl)
      have hS2 := s2.seq hS
      have np : (0 : Int) < n := by omega
      refine ⟨_, rfl, _, rfl, a, _, _, _, rfl, rfl, hS2, g1, _, rfl, _, _, rfl, rfl, np, _, rfl, _, rfl, _, _, rfl, rfl, a, _, _, _, rfl, rfl, hS2, g2, _, rfl, _, _, rfl, rfl, np, rfl, _, rfl, ?_⟩
      refine ite2 (fun e => ?_) (fun e => ?_)
      · have hne : x % n ≠ y % n := fun z => nd_of e (congrArg V.int z)
        refine ⟨_, rfl, .inl ⟨rfl, _, SqL.of hl⟩, _, rfl, _, rfl, a, _, _, _, rfl, rfl, hS2, g1, _, rfl, _, _, rfl, rfl, np, _, rfl, _, rfl, _, _, rfl, rfl, a, _, _, _, rfl, rfl, hS2, g2, _, rfl, _, _, rfl, rfl, np, by show 2 ≤ sizeLine; decide, fun t nt => ?_⟩
        refine ⟨l, _, _, rfl, rfl, by rw [upd_ne (ne_of_none hl nt)]; exact hl, small_line (by rw [List.length_map, hA.len]; omega), ?_⟩
        refine ⟨_, lks ++ [(x % n, y % n)], rfl, upd_out (s2.trans (same_upd nt)) nl, link_push hl hA nt, ?_, by rw [List.length_append]; show lks.length + 1 ≤ i + 1; omega⟩
        intro q m
        rcases List.mem_append.mp m with m | m
        · exact hok q m
        · rw [List.mem_singleton.mp m]
          exact ⟨⟨Int.emod_nonneg _ (by omega), Int.emod_lt_of_pos _ np⟩, ⟨Int.emod_nonneg _ (by omega), Int.emod_lt_of_pos _ np⟩, hne⟩
      · exact ⟨_, lks, rfl, s2, ⟨as, hl, hA⟩, hok, by omega⟩
    · rintro σ H2 ⟨y4, lks, rfl, s2, hL2, hok, hlen⟩
      -- what stands behind the second loop
      have fin : ∀ (y4 : Option V) (lks : List Lk) (H3 : Hp), Same H H3 → LinksAt H3 l lks → (∀ q, q ∈ lks → LinkOk n q) → lks.length ≤ 100 → ∀ D : Ends, D.rt = Q → 
          tSeq (tIfS (tAnd (tTest (tOp rEq (tOp (rI (fun _ j => 0 < j) fun i j => .int (i % j)) (tCall (spCell K) [] E0 (tCons (tVar 0) (tCons (tC (.int 4)) tNil))) (tC (.int 8))) (tC (.int 3))))
            (tTest (tOp (rI0 fun i j => .bl (decide (i < j))) (tCB (fun xs H Q => ∃ p ys, xs = [.ref p] ∧ (SqL K H p ys ∨ SqT K H p ys) ∧ Q (.int ys.length) H) (tCons (tVar 3) tNil)) (tC (.int 60)))))
            (tAsg (tOp rCat (tOp rCat (tVar 3) (tVar 3)) (tVar 3)) (gName 3)) tNext) (tRet (tVar 3)) D [some (.ref a), some (.int 5), some (.int n), some (.ref l), y4] H3 := by
        intro y4 lks H3 s3 hL3 hok3 hlen3 D hD
        obtain ⟨as, hl, hA⟩ := id hL3
        have hlt : as.length = lks.length := hA.len
        have ends : ∀ (p : Addr) (H4 : Hp) (lks' : List Lk), lks'.length ≤ 1000 → (∀ q, q ∈ lks' → LinkOk n q) → Same H H4 → H p = none → LinksAt H4 p lks' → D.rt (.ref p) H4 := fun p H4 lks' h1 h2 h3 h4 h5 => by
          rw [hD]
          exact q lks' H4 p h2 h1 h3 h4 h5
        refine ⟨_, rfl, a, ns, 4, rfl, s3.seq hS, _, _, rfl, rfl, by show (0 : Int) < 8; decide, rfl, _, rfl, ?_⟩
        refine ite2 (fun e => ?_) (fun e => ?_)
        · refine ⟨_, rfl, l, _, rfl, .inl (SqL.of hl), _, _, rfl, rfl, _, rfl, ?_⟩
          refine ite2 (fun e => ?_) (fun e => ?_)
          · refine ⟨_, rfl, _, rfl, l, l, _, _, rfl, rfl, hl, hl, ?_, fun p1 np1 => ?_⟩
            · exact Nat.le_of_lt (small_line (by simp only [List.length_map]; omega))
            refine ⟨_, rfl, p1, l, _, _, rfl, rfl, upd_same, by rw [upd_ne (ne_of_none hl np1)]; exact hl, ?_, fun p2 np2 => ?_⟩
            · exact Nat.le_of_lt (small_line (by simp only [List.length_map, List.length_append]; omega))
            have s4 : Same H3 (upd (upd H3 p1 (.lst (as.map V.ref ++ as.map V.ref))) p2 (.lst (as.map V.ref ++ as.map V.ref ++ as.map V.ref))) := (same_upd np1).trans (same_upd np2)
            have hA4 := hA.imp fun a b r => (show LinkAt (upd (upd H3 p1 (.lst (as.map V.ref ++ as.map V.ref))) p2 (.lst (as.map V.ref ++ as.map V.ref ++ as.map V.ref))) a b from s4 _ _ r)
            refine ⟨_, rfl, ends p2 _ (lks ++ lks ++ lks) (by simp only [List.length_append]; omega) ?_ (s3.trans s4) (s3.free ((same_upd np1).free np2)) ⟨as ++ as ++ as, ?_, (hA4.app hA4).app hA4⟩⟩
            · intro q m
              rcases List.mem_append.mp m with m | m
              · rcases List.mem_append.mp m with m | m
                · exact hok3 q m
                · exact hok3 q m
              · exact hok3 q m
            · rw [upd_same, List.map_append, List.map_append]
          · exact ⟨_, rfl, ends l H3 lks (by omega) hok3 s3 nl hL3⟩
        · exact ⟨_, rfl, ends l H3 lks (by omega) hok3 s3 nl hL3⟩
      refine ⟨_, rfl, a, ns, 0, rfl, s2.seq hS, _, rfl, a, ns, 2, rfl, s2.seq hS, _, _, rfl, rfl, _, _, rfl, rfl, by show (0 : Int) < 3; decide, rfl, _, rfl, ?_⟩
      refine ite2 (fun e => ?_) (fun e => ?_)
      · refine ⟨_, rfl, _, _, rfl, rfl, _, rfl, by omega, by omega, for_range (lo := 0) (n := ((n : Int) - 1).toNat) (fun i σ H3 => ∃ (y4 : Option V) (lks3 : List Lk), σ = [some (.ref a), some (.int 5), some (.int n), some (.ref l), y4] ∧ Same H H3 ∧ LinksAt H3 l lks3 ∧ (∀ q, q ∈ lks3 → LinkOk n q) ∧ lks3.length ≤ 30 + i)
          ⟨y4, lks, rfl, s2, hL2, hok, by omega⟩ ?_ ?_⟩
        · rintro i σ H3 hi ⟨y4, lks3, rfl, s3, ⟨as, hl, hA⟩, hok3, hlen3⟩
          refine ⟨_, rfl, .inl ⟨rfl, _, SqL.of hl⟩, _, rfl, _, rfl, _, _, rfl, rfl, by show 2 ≤ sizeLine; decide, fun t nt => ?_⟩
          refine ⟨l, _, _, rfl, rfl, by rw [upd_ne (ne_of_none hl nt)]; exact hl, small_line (by rw [List.length_map, hA.len]; omega), ?_⟩
          refine ⟨_, lks3 ++ [((0 + (i : Nat) : Int), (0 + (i : Nat) + 1 : Int))], rfl, upd_out (s3.trans (same_upd nt)) nl, link_push hl hA nt, ?_, by rw [List.length_append]; show lks3.length + 1 ≤ 30 + (i + 1); omega⟩
          intro q m
          rcases List.mem_append.mp m with m | m
          · exact hok3 q m
          · rw [List.mem_singleton.mp m]
            exact ⟨⟨by show (0 : Int) ≤ 0 + (i : Nat); omega, by show (0 + (i : Nat) : Int) < n; omega⟩, ⟨by show (0 : Int) ≤ 0 + (i : Nat) + 1; omega, by show (0 + (i : Nat) + 1 : Int) < n; omega⟩, by show (0 + (i : Nat) : Int) ≠ 0 + (i : Nat) + 1; omega⟩
        · rintro σ H3 ⟨y4, lks3, rfl, s3, hL3, hok3, hlen3⟩
          exact fin y4 lks3 H3 s3 hL3 hok3 (by omega) _ rfl
      · exact fin y4 lks H2 s2 hL2 hok (by omega) _ rfl
end
end FW
namespace FW
open PySem PySem.Spec PyProof.Rows L2
abbrev sKept : Stmt := top 16
abbrev sZonesOf : Stmt := top 17
abbrev sLWay : Stmt := top 18
abbrev sLFew : Stmt := top 19
abbrev sLaw : Stmt := top 20
theorem scKept : FnScope ["_law_found", "_law_zones", "_law_links", "_law_start", "_law_one", "_law_other"] ["_law_found", "_law_zones", "_law_links", "_law_start"] (defScope sKept) := ⟨rfl, rfl, rfl, by decide +kernel, rfl, by decide +kernel, by decide +kernel⟩
theorem scZonesOf : FnScope ["_law_row", "_law_zones", "_law_links", "_law_start", "_law_goal", "_law_stop", "_law_count", "_law_k"] ["_law_row", "_law_zones", "_law_links", "_law_start", "_law_goal"] (defScope sZonesOf) := ⟨rfl, rfl, rfl, by decide +kernel, rfl, by decide +kernel, by decide +kernel⟩
theorem scLWay : FnScope ["_law_web", "_law_start", "_law_goal"] ["_law_web", "_law_start", "_law_goal"] (defScope sLWay) := ⟨rfl, rfl, rfl, by decide +kernel, rfl, by decide +kernel, by decide +kernel⟩
theorem scLFew : FnScope ["_law_web", "_law_start", "_law_goal"] ["_law_web", "_law_start", "_law_goal"] (defScope sLFew) := ⟨rfl, rfl, rfl, by decide +kernel, rfl, by decide +kernel, by decide +kernel⟩
theorem scLaw : FnScope ["_law_script", "_law_many_here", "_law_zones", "_law_links", "_law_start", "_law_goals", "_law_web", "_law_found", "_law_goal", "_law_row", "_law_count", "_law_kept_here"] ["_law_script"] (defScope sLaw) := ⟨rfl, rfl, rfl, by decide +kernel, rfl, by decide +kernel, by decide +kernel⟩
/-- what an except clause asks of a class of the program's own -/
structure CatchT (K : PySem.W.Frag) (C : Addr) : Prop where
  hd : PySem.W.hasDictIn K C = true
  self : PySem.W.subIn K (.ref C) (.ref C) = some true
theorem optV_inj {a b : Option Nat} (h : optV a = optV b) : a = b := by
  cases a with
  | none =>
    cases b with
    | none => rfl
    | some k => exact nomatch h
  | some j =>
    cases b with
    | none => exact nomatch h
    | some k =>
      have : (j : Int) = k := V.int.inj h
      rw [show j = k by omega]
theorem scal_opt (a b : Option Nat) : scal (optV a) (optV b) = true := by
  cases a <;> cases b <;> rfl
section
variable {P : Program} {w : World} {K : PySem.W.Frag} {mg : Str → Option Value} {base : Heap} {C CL CS CN : Addr}
theorem opt_some {o : Option Nat} (e : ¬ decide (optV o = V.non) = true) : ∃ k, o = some k := by
  cases o with
  | none => exact absurd rfl e
  | some k => exact ⟨k, rfl⟩
theorem opt_none {o : Option Nat} (e : decide (optV o = V.non) = true) : o = none := by
  cases o with
  | none => rfl
  | some k => exact nomatch (of_decide_eq_true e)
/-! ### the levels are kept by all links -/
def spKept (K : PySem.W.Frag) : L2.Sp := fun vs H Q _ => ∃ (fa za la : Addr) (st : Int) (s : Nat) (L : Lv) (zs : List Int) (lks : List Lk) (near : List (List Nat)), vs = [.ref fa, .ref za, .ref la, .int st] ∧ st = s ∧ H fa = some (.lst (L.map optV)) ∧ SqL K H za (zs.map V.int) ∧ LinksAt H la lks ∧
  IsLevels near zs s L ∧ NearOk zs.length lks near ∧ (∀ q, q ∈ lks → LinkOk zs.length q) ∧ s < zs.length ∧ Q (.bl true) H
theorem ok_kept {f : Addr} {fd : FuncData} (F : Fun K "_law_kept" "_law_kept" sKept f fd) (T : LT mg) : FnOk P w K mg base CX0 1 f fd ["_law_found", "_law_zones", "_law_links", "_law_start"] (spKept K) := by
  refine F.ok scKept (fun vs H Q E h => ?_) (fun cdv A outer s0 H vs Q E hr h => ?_)
  · obtain ⟨fa, za, la, st, s, L, zs, lks, near, rfl, _⟩ := h
    rfl
  · obtain ⟨fa, za, la, st, s, L, zs, lks, near, rfl, est, hF, hZ, ⟨asL, hla, hLA⟩, IL, NO, lok, hs, q⟩ := h
    refine ⟨_, pss_cons (ps_if (PW.pt (pw_or (pt_not (pt_val (pe_callB call_isi (by rfl) T.isi boot_isinstance (pa_cons (pv 0) (pa_cons (pe_bltn (v := .ty "list") (by rfl) T.list (by decide +kernel) rfl) pa_nil)))))
        (pw_or (pt_cmpR op_ne (pe_callB call_len_seq (by rfl) T.len PySem.boot_len (pa_cons (pv 0) pa_nil)) (pe_callB call_len_seq (by rfl) T.len PySem.boot_len (pa_cons (pv 1) pa_nil)) (nomark _))
        (pw_or1 (pt_cmpR op_ne (pe_ix ix_list (pv 0) (pv 3) (fun _ _ => rfl)) pe_int (nomark _)))))) (pss_one (ps_ret pe_bl)) pss_nil)
      (pss_cons (ps_for PassesOwn.never rfl (pi_list (pv 2)) (pg_tup rfl (pgs_cons (pg_name (i := 4) scKept.nd rfl (.inl rfl)) (pgs_cons (pg_name (i := 5) scKept.nd rfl (.inl rfl)) pgs_nil)))
        (pss_one (ps_if (PW.pt (pw_or (pt_cmpR op_isN (pe_ix ix_list (pv 0) (pv 4) (fun _ _ => rfl)) pe_non (nomark _)) (pw_or1 (pt_cmpR op_isN (pe_ix ix_list (pv 0) (pv 5) (fun _ _ => rfl)) pe_non (nomark _)))))
          (pss_one (ps_if (PW.pt (pw_or (pt_cmpR op_notN (pe_ix ix_list (pv 0) (pv 4) (fun _ _ => rfl)) pe_non (nomark _)) (pw_or1 (pt_cmpR op_notN (pe_ix ix_list (pv 0) (pv 5) (fun _ _ => rfl)) pe_non (nomark _))))) (pss_one (ps_ret pe_bl)) pss_nil))
          (pss_one (ps_if (pt_cmpR op_gt (pe_callB call_abs (by rfl) T.abs boot_abs (pa_cons (pe_op op_sub (pe_ix ix_list (pv 0) (pv 4) (fun _ _ => rfl)) (pe_ix ix_list (pv 0) (pv 5) (fun _ _ => rfl))) pa_nil))
            (pe_callTy call_int1 (by rfl) T.int boot_int (pa_cons (pe_cmpR op_ne (pe_ix ix_list (pv 1) (pv 4) (fun _ _ => rfl)) (pe_ix ix_list (pv 1) (pv 5) (fun _ _ => rfl)) (nomark _)) pa_nil)) (nomark _)) (pss_one (ps_ret pe_bl)) pss_nil)))))
      (pss_one (ps_ret pe_bl))), ?_⟩
    have gL : ∀ v, v < zs.length → atI (L.map optV) (v : Nat) = some (optV (lk L v)) := fun v hv => at_of rfl (by rw [List.getElem?_map, lk_get (by rw [IL.len]; exact hv)]; rfl)
    have gZ : ∀ v (hv : v < zs.length), atI (zs.map V.int) (v : Nat) = some (.int zs[v]) := fun v hv => at_of rfl (by rw [List.getElem?_map, List.getElem?_eq_getElem hv]; rfl)
    have gS : atI (L.map optV) st = some (.int 1) := by
      rw [est, gL s hs, IL.one]
      rfl
    refine ⟨_, rfl, .ref fa, .ty "list", .type "list", .type "list", true, rfl, .ty _, .base (.lst hF), kit_ty (by decide +kernel), true, rfl, ?_⟩
    refine iteF ?_
    refine ⟨_, rfl, fa, _, rfl, .inl (SqL.of hF), _, rfl, za, _, rfl, .inl hZ, rfl, _, rfl, ?_⟩
    rw [List.length_map, List.length_map, IL.len]
    refine iteNS rfl ?_
    refine ⟨_, rfl, _, rfl, fa, _, _, _, rfl, rfl, SqL.of hF, gS, rfl, _, rfl, ?_⟩
    refine iteNS rfl ?_
    refine ⟨_, rfl, la, rfl, ⟨_, SqL.of hla⟩, for_list (K := K) (a := la) (xs := asL.map V.ref) (fun i σ H8 => ∃ y4 y5 : Option V, σ = [some (.ref fa), some (.ref za), some (.ref la), some (.int st), y4, y5] ∧ H8 = H)
      ⟨none, none, rfl, rfl⟩ (fun i σ H8 _ ⟨_, _, _, e⟩ => by rw [e]; exact SqL.of hla) ?_ ?_⟩
    · rintro i y σ H8 hi ⟨y4, y5, rfl, rfl⟩
      obtain ⟨a0, ha0, rfl⟩ : ∃ a0, asL[i]? = some a0 ∧ y = V.ref a0 := by
        rw [List.getElem?_map] at hi
        cases e : asL[i]? with
        | none =>
          rw [e] at hi
          cases hi
        | some a0 =>
          rw [e] at hi
          exact ⟨a0, rfl, (Option.some.inj hi).symm⟩
      obtain ⟨⟨u, v⟩, hq, hqa⟩ := hLA.getL ha0
      have hm : (u, v) ∈ lks := List.mem_of_getElem? hq
      obtain ⟨⟨u0, un⟩, ⟨v0, vn⟩, uv⟩ := lok _ hm
      obtain ⟨b1, rfl⟩ : ∃ b1 : Nat, u = (b1 : Int) := ⟨u.toNat, by have : 0 ≤ u := u0; omega⟩
      obtain ⟨b2, rfl⟩ : ∃ b2 : Nat, v = (b2 : Int) := ⟨v.toNat, by have : 0 ≤ v := v0; omega⟩
      have hb1 : b1 < zs.length := Int.ofNat_lt.mp un
      have hb2 : b2 < zs.length := Int.ofNat_lt.mp vn
      have ad1 : Adj near b1 b2 := (NO.adj b1 b2).mpr (.inl hm)
      have ad2 : Adj near b2 b1 := NO.sym _ _ ad1
      have k1 := fun k e => IL.kept b1 b2 k e ad1
      have k2 := fun k e => IL.kept b2 b1 k e ad2
      have hnn : lk L b1 = none ↔ lk L b2 = none := by
        constructor
        · intro z
          cases e : lk L b2 with
          | none => rfl
          | some k =>
            obtain ⟨k', e', _⟩ := k2 k e
            rw [z] at e'
            cases e'
        · intro z
          cases e : lk L b1 with
          | none => rfl
          | some k =>
            obtain ⟨k', e', _⟩ := k1 k e
            rw [z] at e'
            cases e'
      refine ⟨a0, _, rfl, SqT.of hqa, rfl, _, _, rfl, _, _, rfl, rfl, ?_⟩
      refine ⟨_, rfl, _, rfl, fa, _, _, _, rfl, rfl, SqL.of hF, gL b1 hb1, rfl, _, rfl, ?_⟩
      refine ite2 (fun e => ?_) (fun e => ?_)
      · have ea := opt_none e
        have eb := hnn.mp ea
        refine iteT ?_
        refine ⟨_, rfl, _, rfl, fa, _, _, _, rfl, rfl, SqL.of hF, gL b1 hb1, rfl, _, rfl, ?_⟩
        rw [ea]
        refine iteF ?_
        refine ⟨_, rfl, _, rfl, fa, _, _, _, rfl, rfl, SqL.of hF, gL b2 hb2, rfl, _, rfl, ?_⟩
        rw [eb]
        refine iteF ?_
        exact ⟨_, _, rfl, rfl⟩
      · obtain ⟨k, ea⟩ := opt_some e
        obtain ⟨k', eb, hk1⟩ := k1 k ea
        obtain ⟨k'', ea', hk2⟩ := k2 k' eb
        rw [ea] at ea'
        cases ea'
        refine ⟨_, rfl, _, rfl, fa, _, _, _, rfl, rfl, SqL.of hF, gL b2 hb2, rfl, _, rfl, ?_⟩
        rw [eb]
        refine iteF ?_
        refine ⟨_, rfl, _, rfl, fa, _, _, _, rfl, rfl, SqL.of hF, gL b1 hb1, _, rfl, _, rfl, fa, _, _, _, rfl, rfl, SqL.of hF, gL b2 hb2, k, k', by rw [ea]; rfl, by rw [eb]; rfl, _, rfl, ?_⟩
        refine ⟨_, rfl, _, rfl, za, _, _, _, rfl, rfl, hZ, gZ b1 hb1, _, rfl, _, rfl, za, _, _, _, rfl, rfl, hZ, gZ b2 hb2, rfl, .inr ⟨_, rfl, _, _, rfl, rfl, _, rfl, ?_⟩⟩
        have ew : (wt zs b1 b2 : Int) = if (!decide (V.int zs[b1] = V.int zs[b2])) = true then 1 else 0 := by
          unfold wt
          rw [List.getElem?_eq_getElem hb1, List.getElem?_eq_getElem hb2]
          by_cases z : zs[b1] = zs[b2]
          · rw [if_pos (by rw [z]), decide_eq_true (by rw [z])]
            rfl
          · rw [if_neg (fun y => z (Option.some.inj y)), decide_eq_false (fun y => z (V.int.inj y))]
            rfl
        rw [wt_comm zs b2 b1] at hk2
        rw [← ew]
        refine ite2 (fun e => ?_) (fun e => ?_)
        · have z : (wt zs b1 b2 : Int) < if (k : Int) - k' < 0 then -((k : Int) - k') else (k : Int) - k' := of_decide_eq_true e
          exfalso
          split at z <;> omega
        · exact ⟨_, _, rfl, rfl⟩
    · rintro σ H8 ⟨y4, y5, rfl, rfl⟩
      exact q
/-! ### the zones of a row -/
def datL (p : Lk) : PyData := .tuple [.int p.1, .int p.2]
theorem dps_lks {K : PySem.W.Frag} {H : Hp} {as : List Addr} {lks : List Lk} (h : All2 (LinkAt H) as lks) : DpAll K H (as.map V.ref) (lks.map datL) := by
  induction h with
  | nil => exact .nil
  | cons r _ ih => exact .cons (.tup (SqT.of r) (.cons (.int _) (.cons (.int _) .nil))) ih
theorem lay_lks : ∀ l : List Lk, PyData.canLayAll0 (l.map datL) = true
  | [] => by simp [PyData.canLayAll0]
  | p :: l => by
    have ih := lay_lks l
    simpa [PyData.canLayAll0, PyData.canLay0, datL] using ih
theorem dep_lks : ∀ l : List Lk, PyData.depthAll (l.map datL) ≤ 1
  | [] => by simp [PyData.depthAll]
  | p :: l => by
    have ih := dep_lks l
    have e : PyData.depthAll ((p :: l).map datL) = max 1 (PyData.depthAll (l.map datL)) := by simp [PyData.depthAll, PyData.depth, datL]
    rw [e]
    omega
theorem shaped_lks (l : List Lk) : SeqAt.shaped (.list (l.map datL)) = true := by
  unfold SeqAt.shaped
  rw [Bool.and_eq_true_iff]
  refine ⟨by simpa [PyData.canLay0] using lay_lks l, decide_eq_true ?_⟩
  have e : PyData.depth (.list (l.map datL)) = PyData.depthAll (l.map datL) + 1 := by simp [PyData.depth]
  have := dep_lks l
  rw [e]
  omega
theorem shaped_lk (p : Lk) : SeqAt.shaped (datL p) = true := by
  unfold SeqAt.shaped
  rw [Bool.and_eq_true_iff]
  refine ⟨by simp [PyData.canLay0, PyData.canLayAll0, datL], decide_eq_true ?_⟩
  have e : PyData.depth (datL p) = 1 := by simp [PyData.depth, PyData.depthAll, datL]
  rw [e]
  decide
theorem eqv_lk (p q : Lk) : PyData.eqv (datL p) (datL q) = decide (p = q) := by
  obtain ⟨a, b⟩ := p
  obtain ⟨c, d⟩ := q
  have e : PyData.eqv (datL (a, b)) (datL (c, d)) = (a == c && (b == d && true)) := by simp [PyData.eqv, PyData.eqvAll, datL]
  rw [e]
  by_cases h1 : a = c <;> by_cases h2 : b = d <;> simp [h1, h2]
theorem any_lk (l : List Lk) (p : Lk) : ((l.map datL).any fun z => PyData.eqv z (datL p)) = decide (p ∈ l) := by
  induction l with
  | nil => simp
  | cons q l ih =>
    rw [List.map_cons, List.any_cons, ih, eqv_lk]
    by_cases h : p = q
    · subst h
      simp
    · have h' : ¬ q = p := fun z => h z.symm
      simp [h, h']
theorem at_last {xs : List V} {v : V} (h : xs[xs.length - 1]? = some v) : atI xs (-1) = some v := by
  have hl := (List.getElem?_eq_some_iff.mp h).1
  unfold atI ixN
  rw [if_neg (by decide), if_pos (by omega)]
  show xs[(-1 + (xs.length : Int)).toNat]? = some v
  rw [show (-1 + (xs.length : Int)).toNat = xs.length - 1 by omega]
  exact h
theorem wt_int {zs : List Int} {u v : Nat} (hu : u < zs.length) (hv : v < zs.length) : (if (!decide (V.int zs[u] = V.int zs[v])) = true then 1 else 0) = (wt zs u v : Int) := by
  unfold wt
  rw [List.getElem?_eq_getElem hu, List.getElem?_eq_getElem hv]
  by_cases z : zs[u] = zs[v]
  · have e : decide (V.int zs[u] = V.int zs[v]) = true := decide_eq_true (by rw [z])
    have e2 : (if some zs[u] = some zs[v] then 0 else 1) = 0 := if_pos (by rw [z])
    rw [e, e2]
    rfl
  · have e : decide (V.int zs[u] = V.int zs[v]) = false := decide_eq_false (fun y => z (V.int.inj y))
    have e2 : (if some zs[u] = some zs[v] then 0 else 1) = 1 := if_neg (fun y => z (Option.some.inj y))
    rw [e, e2]
    rfl
def spZonesOf (K : PySem.W.Frag) : L2.Sp := fun vs H Q _ => ∃ (ra za la : Addr) (st : Int) (s g k : Nat) (row : List Nat) (zs : List Int) (lks : List Lk) (near : List (List Nat)), vs = [.ref ra, .ref za, .ref la, .int st, .int g] ∧ st = s ∧ H ra = some (.lst (row.map fun (x : Nat) => V.int (x : Nat))) ∧
  SqL K H za (zs.map V.int) ∧ LinksAt H la lks ∧ NearOk zs.length lks near ∧ RowOk near zs s row g k ∧ (∀ x, x ∈ row → x < zs.length) ∧ row.length ≤ 150001 ∧ ∀ H', Same H H' → Q (.int k) H'
theorem ok_zonesOf {f fW : Addr} {fd fdW : FuncData} (F : Fun K "_law_zones_of" "_law_zones_of" sZonesOf f fd) (T : LT mg) (FW : Fun K "_law_whole" "_law_whole" sWhole fW fdW) (bW : Binds K fdW ["_law_found"] []) (gW : mg "_law_whole" = some (.ref fW)) :
    FnOk P w K mg base CX0 2 f fd ["_law_row", "_law_zones", "_law_links", "_law_start", "_law_goal"] (spZonesOf K) := by
  have GW : FnOk P w K mg base CX0 1 fW fdW ["_law_found"] spWhole := ok_whole FW T
  refine F.ok scZonesOf (fun vs H Q E h => ?_) (fun cdv A outer s0 H vs Q E hr h => ?_)
  · obtain ⟨ra, za, la, st, s, g, k, row, zs, lks, near, rfl, _⟩ := h
    rfl
  · obtain ⟨ra, za, la, st, s, g, k, row, zs, lks, near, rfl, est, hR, hZ, hL, NO, RO, hx, hlen, q⟩ := h
    have hu : ∀ {N : List Str} {E : XK}, (cxOf CX0 P w K mg base N "_law_zones_of" (defScope sZonesOf) f cdv A outer s0 H E).nox.A.units + 65 < cLine := by
      have := hr.un
      intro N E
      show (A.deeper _).units + 65 < cLine
      omega
    refine ⟨_, pss_cons (ps_if (PW.pt (pw_or (pt_not (pt_val (pe_callB call_isi (by rfl) T.isi boot_isinstance (pa_cons (pv 0) (pa_cons (pe_bltn (v := .ty "list") (by rfl) T.list (by decide +kernel) rfl) pa_nil)))))
        (pw_or1 (pt_cmpR op_eq (pe_callB call_len_seq (by rfl) T.len PySem.boot_len (pa_cons (pv 0) pa_nil)) pe_int (nomark _))))) (pss_one (ps_ret (pe_un un_neg pe_int))) pss_nil)
      (pss_cons (ps_for PassesOwn.never rfl (pi_list (pv 0)) (pg_name (i := 5) scZonesOf.nd rfl (.inl rfl))
        (pss_one (ps_if (PW.pt (pw_or (pt_not (pt_val (pe_call GW hr (by rfl) gW FW.kp bW .nil pass0 (pa_cons (pv 5) pa_nil)))) (pw_or (pt_cmpR op_lt (pv 5) pe_int (nomark _))
          (pw_or1 (pt_cmpR op_ge (pv 5) (pe_callB call_len_seq (by rfl) T.len PySem.boot_len (pa_cons (pv 1) pa_nil)) (nomark _)))))) (pss_one (ps_ret (pe_un un_neg pe_int))) pss_nil)))
      (pss_cons (ps_if (PW.pt (pw_or (pt_cmpR op_ne (pe_ix ix_list (pv 0) pe_int (fun _ _ => rfl)) (pv 3) (nomark _)) (pw_or1 (pt_cmpR op_ne (pe_ix ix_list (pv 0) (pe_un un_neg pe_int) (fun _ _ => rfl)) (pv 4) (nomark _))))) (pss_one (ps_ret (pe_un un_neg pe_int))) pss_nil)
      (pss_cons (ps_set (i := 6) scZonesOf.nd rfl (.inl rfl) pe_int)
      (pss_cons (ps_for PassesOwn.never rfl (pi_range2 (by rfl) T.range (pa_cons pe_int (pa_cons (pe_callB call_len_seq (by rfl) T.len PySem.boot_len (pa_cons (pv 0) pa_nil)) pa_nil))) (pg_name (i := 7) scZonesOf.nd rfl (.inl rfl))
        (pss_cons (ps_if (PW.pt (pw_and (pt_cmpR (op_notInD hu) (pe_tup (pa_cons (pe_ix ix_list (pv 0) (pe_op op_sub (pv 7) pe_int) (fun _ _ => rfl)) (pa_cons (pe_ix ix_list (pv 0) (pv 7) (fun _ _ => rfl)) pa_nil))) (pv 2) (by rfl))
          (pw_and1 (pt_cmpR (op_notInD hu) (pe_tup (pa_cons (pe_ix ix_list (pv 0) (pv 7) (fun _ _ => rfl)) (pa_cons (pe_ix ix_list (pv 0) (pe_op op_sub (pv 7) pe_int) (fun _ _ => rfl)) pa_nil))) (pv 2) (by rfl))))) (pss_one (ps_ret (pe_un un_neg pe_int))) pss_nil)
        (pss_one (ps_set (i := 6) scZonesOf.nd rfl (.inl rfl) (pe_op op_add (pv 6) (pe_callTy call_int1 (by rfl) T.int boot_int (pa_cons (pe_cmpR op_ne (pe_ix ix_list (pv 1) (pe_ix ix_list (pv 0) (pe_op op_sub (pv 7) pe_int) (fun _ _ => rfl)) (fun _ _ => rfl)) (pe_ix ix_list (pv 1) (pe_ix ix_list (pv 0) (pv 7) (fun _ _ => rfl)) (fun _ _ => rfl)) (nomark _)) pa_nil)))))))
      (pss_one (ps_ret (pv 6))))))), ?_⟩
    have gR : ∀ i x, row[i]? = some x → atI (row.map fun (x : Nat) => V.int (x : Nat)) (i : Nat) = some (.int (x : Nat)) := fun i x e => at_of rfl (by rw [List.getElem?_map, e]; rfl)
    have gZ : ∀ v (hv : v < zs.length), atI (zs.map V.int) (v : Nat) = some (.int zs[v]) := fun v hv => at_of rfl (by rw [List.getElem?_map, List.getElem?_eq_getElem hv]; rfl)
    refine ⟨_, rfl, .ref ra, .ty "list", .type "list", .type "list", true, rfl, .ty _, .base (.lst hR), kit_ty (by decide +kernel), true, rfl, ?_⟩
    refine iteF ?_
    refine ⟨_, rfl, ra, _, rfl, .inl (SqL.of hR), rfl, _, rfl, ?_⟩
    have hpos := RO.pos
    refine ite2 (fun e => ?_) (fun _ => ?_)
    · have z : (((row.map fun (x : Nat) => V.int (x : Nat)).length : Nat) : Int) = 0 := V.int.inj (of_decide_eq_true e)
      rw [List.length_map] at z
      omega
    -- for stop in row
    refine ⟨_, rfl, ra, rfl, ⟨_, SqL.of hR⟩, for_list (K := K) (a := ra) (xs := row.map fun (x : Nat) => V.int (x : Nat)) (fun i σ H8 => ∃ y5 : Option V, σ = [some (.ref ra), some (.ref za), some (.ref la), some (.int st), some (.int g), y5, none, none] ∧ H8 = H)
      ⟨none, rfl, rfl⟩ (fun i σ H8 _ ⟨_, _, e⟩ => by rw [e]; exact SqL.of hR) ?_ ?_⟩
    · rintro i y σ H8 hi ⟨y5, rfl, rfl⟩
      obtain ⟨x, hx', rfl⟩ : ∃ x', row[i]? = some x' ∧ y = V.int (x' : Nat) := by
        rw [List.getElem?_map] at hi
        cases z : row[i]? with
        | none =>
          rw [z] at hi
          cases hi
        | some x' =>
          rw [z] at hi
          exact ⟨x', rfl, (Option.some.inj hi).symm⟩
      have hxn := hx x (List.mem_of_getElem? hx')
      refine ⟨_, rfl, (x : Int), rfl, true, rfl, ?_⟩
      refine iteF ?_
      refine ⟨_, rfl, _, _, rfl, rfl, _, rfl, ?_⟩
      refine ite2 (fun e => ?_) (fun _ => ?_)
      · have : (x : Int) < 0 := of_decide_eq_true e
        omega
      refine ⟨_, rfl, _, rfl, za, _, rfl, .inl hZ, _, _, rfl, rfl, _, rfl, ?_⟩
      rw [List.length_map]
      refine ite2 (fun e => ?_) (fun _ => ?_)
      · have : (zs.length : Int) ≤ x := of_decide_eq_true e
        omega
      exact ⟨_, rfl, rfl⟩
    rintro σ H8 ⟨y5, rfl, rfl⟩
    -- row[0] != start or row[-1] != goal
    have g0 : atI (row.map fun (x : Nat) => V.int (x : Nat)) 0 = some (.int (s : Nat)) := gR 0 s RO.first
    have gl : atI (row.map fun (x : Nat) => V.int (x : Nat)) (-1) = some (.int (g : Nat)) := at_last (by rw [List.length_map, List.getElem?_map, RO.last]; rfl)
    refine ⟨_, rfl, ra, _, _, _, rfl, rfl, SqL.of hR, g0, _, rfl, rfl, _, rfl, ?_⟩
    rw [est]
    refine iteNS rfl ?_
    refine ⟨_, rfl, 1, rfl, ra, _, _, _, rfl, rfl, SqL.of hR, gl, _, rfl, rfl, _, rfl, ?_⟩
    refine iteNS rfl ?_
    -- count = 1; for k in range(1, len(row))
    refine ⟨_, rfl, ra, _, rfl, .inl (SqL.of hR), 1, _, rfl, ⟨by decide, by decide, by omega, by rw [List.length_map]; omega⟩, ?_⟩
    rw [List.length_map]
    refine for_range (lo := 1) (n := ((row.length : Int) - 1).toNat) (fun i σ H2 => ∃ y7 : Option V, σ = [some (.ref ra), some (.ref za), some (.ref la), some (.int s), some (.int g), y5, some (.int (zsum zs row i)), y7] ∧ Same H8 H2)
      ⟨none, rfl, Same.refl _⟩ ?_ ?_
    · rintro i σ H2 hi ⟨y7, rfl, s2⟩
      have hi1 : i < row.length := by omega
      have hi2 : i + 1 < row.length := by omega
      obtain ⟨u, eu⟩ : ∃ u, row[i]? = some u := ⟨_, List.getElem?_eq_getElem hi1⟩
      obtain ⟨v, ev⟩ : ∃ v, row[i + 1]? = some v := ⟨_, List.getElem?_eq_getElem hi2⟩
      have hun := hx u (List.mem_of_getElem? eu)
      have hvn := hx v (List.mem_of_getElem? ev)
      have gu : atI (row.map fun (x : Nat) => V.int (x : Nat)) (1 + (i : Nat) - 1) = some (.int (u : Nat)) := by
        rw [show (1 + ((i : Nat) : Int) - 1) = ((i : Nat) : Int) by omega]
        exact gR i u eu
      have gv : atI (row.map fun (x : Nat) => V.int (x : Nat)) (1 + (i : Nat)) = some (.int (v : Nat)) := by
        rw [show (1 + ((i : Nat) : Int)) = ((i + 1 : Nat) : Int) by omega]
        exact gR (i + 1) v ev
      have ad := (NO.adj u v).mp (RO.adj i u v eu ev)
      have hR2 := s2 _ _ hR
      -- the step behind the test
      have nxt : ∀ H3, Same H8 H3 → ∀ y7 : Option V, y7 = some (.int (1 + (i : Nat))) → ∃ y, ([some (.ref ra), some (.ref za), some (.ref la), some (.int s), some (.int g), y5, some (.int (zsum zs row i)), y7] : L2.St)[1]? = some (some y) ∧ y = .ref za ∧ SqL K H3 za (zs.map V.int) := fun H3 s3 y7 _ => ⟨_, rfl, rfl, s3.seq hZ⟩
      have fin : ∀ H3, Same H8 H3 → ∀ D : Ends, (D.nx = fun σ H2 => ∃ y7 : Option V, σ = [some (.ref ra), some (.ref za), some (.ref la), some (.int s), some (.int g), y5, some (.int (zsum zs row (i + 1))), y7] ∧ Same H8 H2) →
          tAsg (tOp (rI0 fun i j => .int (i + j)) (tVar 6) (tCB (fun xs H Q => (∃ i, xs = [.int i] ∧ Q (.int i) H) ∨ ∃ k, xs = [.bl k] ∧ Q (.int (if k then 1 else 0)) H) (tCons (tOp rNe (tOp (rIxL K) (tVar 1) (tOp (rIxL K) (tVar 0) (tOp (rI0 fun i j => .int (i - j)) (tVar 7) (tC (.int 1))))) (tOp (rIxL K) (tVar 1) (tOp (rIxL K) (tVar 0) (tVar 7)))) tNil))) (gName 6)
            D [some (.ref ra), some (.ref za), some (.ref la), some (.int s), some (.int g), y5, some (.int (zsum zs row i)), some (.int (1 + (i : Nat)))] H3 := by
        intro H3 s3 D hD
        refine ⟨_, rfl, _, rfl, _, rfl, _, rfl, _, _, rfl, rfl, ra, _, _, _, rfl, rfl, SqL.of (s3 _ _ hR), gu, za, _, _, _, rfl, rfl, s3.seq hZ, gZ u hun, _, rfl, _, rfl, _, rfl, ra, _, _, _, rfl, rfl, SqL.of (s3 _ _ hR), gv, za, _, _, _, rfl, rfl, s3.seq hZ, gZ v hvn, rfl, .inr ⟨_, rfl, _, _, rfl, rfl, ?_⟩⟩
        rw [hD]
        refine ⟨some (.int (1 + (i : Nat))), ?_, s3⟩
        have e1 : ((zsum zs row (i + 1) : Nat) : Int) = (zsum zs row i : Nat) + (if (!decide (V.int zs[u] = V.int zs[v])) = true then 1 else 0) := by
          rw [wt_int hun hvn]
          show ((zsum zs row i + wt zs (row.getD i 0) (row.getD (i + 1) 0) : Nat) : Int) = _
          rw [List.getD_eq_getElem?_getD, List.getD_eq_getElem?_getD, eu, ev]
          show ((zsum zs row i + wt zs u v : Nat) : Int) = _
          omega
        rw [e1]
        rfl
      refine ⟨_, rfl, _, rfl, _, _, rfl, rfl, ra, _, _, _, rfl, rfl, SqL.of hR2, gu, _, rfl, _, rfl, ra, _, _, _, rfl, rfl, SqL.of hR2, gv, by show 2 ≤ sizeLine; decide, fun t nt => ?_⟩
      have s3 : Same H8 _ := s2.trans (same_upd (o := .tup [V.int (u : Nat), V.int (v : Nat)]) nt)
      obtain ⟨asL, hla, hLA⟩ := hL.same s3
      refine ⟨_, rfl, datL (u, v), lks.map datL, .tup (SqT.of upd_same) (.cons (.int _) (.cons (.int _) .nil)), .lst (SqL.of hla) (dps_lks hLA), shaped_lk _, shaped_lks _, _, rfl, ?_⟩
      rw [any_lk]
      refine ite2 (fun e => ?_) (fun e => ?_)
      · have nm : ¬ ((u : Int), (v : Int)) ∈ lks := nd_of e
        have m2 : ((v : Int), (u : Int)) ∈ lks := ad.resolve_left nm
        have hR3 := s3 _ _ hR
        refine ⟨_, rfl, _, rfl, ra, _, _, _, rfl, rfl, SqL.of hR3, gv, _, rfl, _, rfl, _, _, rfl, rfl, ra, _, _, _, rfl, rfl, SqL.of hR3, gu, by show 2 ≤ sizeLine; decide, fun t2 nt2 => ?_⟩
        have s4 : Same H8 _ := s3.trans (same_upd (o := .tup [V.int (v : Nat), V.int (u : Nat)]) nt2)
        obtain ⟨asL4, hla4, hLA4⟩ := hL.same s4
        refine ⟨_, rfl, datL (v, u), lks.map datL, .tup (SqT.of upd_same) (.cons (.int _) (.cons (.int _) .nil)), .lst (SqL.of hla4) (dps_lks hLA4), shaped_lk _, shaped_lks _, _, rfl, ?_⟩
        rw [any_lk, decide_eq_true m2]
        refine iteF ?_
        exact fin _ s4 _ rfl
      · refine iteF ?_
        exact fin _ s3 _ rfl
    · rintro σ H2 ⟨y7, rfl, s2⟩
      have e1 : ((row.length : Int) - 1).toNat = row.length - 1 := by omega
      rw [e1, RO.sum]
      exact ⟨_, rfl, q H2 s2⟩
/-! ### the ways, caught where there is none -/
theorem takes0N {X : Cx} : L2N.Takes X (fun _ _ _ _ => False) := by
  rintro _ _ ⟨_, _, _, _, _, _, _, _, _, _, _, _, _, _, _, _, z⟩
  exact z.elim
/-- what a call within a try may let out: whatever the slots hold -/
theorem passTry {X : Cx} {W : WX} (n : Nat) (tk : L2N.Takes X W) (hn : X.N.length = n := by rfl) : Passes (L2N.CX X.prog X.w) X (fun cls d H => ∀ σ : L2.St, σ.length = n → W cls d σ H) :=
  fun _ σ _ _ e s' I c => tk e s' (L2N.XE.of_call I (fun _ _ _ h => h σ (I.len.trans hn)) c)
theorem caught {nm : Str} {C : Addr} (T : ErrT K mg nm C) (c : CatchT K C) : PySem.W.exmOne K (.ref C) (.ref C) = some true := PySem.W.exm_ref T.b c.hd T.t c.self
def spLWay (C : Addr) : L2.Sp := fun vs H Q _ => ∃ (x : Addr) (i j : Int) (s g : Nat) (zs : List Int) (lks : List Lk) (near : List (List Nat)) (L : Lv), vs = [.ref x, .int i, .int j] ∧ i = s ∧ j = g ∧ WebAt C H x zs lks near ∧ s < zs.length ∧ g < zs.length ∧ IsLevels near zs s L ∧
  (lk L g = none → ∀ H', Same H H' → Q .non H') ∧
  ∀ (k : Nat) (row : List Nat) (a : Addr) (H' : Hp), lk L g = some k → Same H H' → H a = none → H' a = some (.lst (row.map fun (x : Nat) => V.int (x : Nat))) → RowTo near zs s row g k → row.length ≤ 150001 → Q (.ref a) H'
theorem ok_lway {f fW : Addr} {fd fdW : FuncData} (F : Fun K "_law_way" "_law_way" sLWay f fd) (T : Txt K mg C CL CS CN) (cN : CatchT K CN) (GW : FnOk P w K mg base (L2N.CX P w) 4 fW fdW ["self", "start", "goal"] (spWay C CS CN)) (bW : Binds K fdW ["self", "start", "goal"] []) (mW : Meth K C "way" fW) :
    FnOk P w K mg base CX0 5 f fd ["_law_web", "_law_start", "_law_goal"] (spLWay C) := by
  refine F.ok scLWay (fun vs H Q E h => ?_) (fun cdv A outer s0 H vs Q E hr h => ?_)
  · obtain ⟨x, i, j, s, g, zs, lks, near, L, rfl, _⟩ := h
    rfl
  · obtain ⟨x, i, j, s, g, zs, lks, near, L, rfl, ei, ej, W, hs, hg, IL, q1, q2⟩ := h
    subst ei ej
    obtain ⟨⟨dx, zl, ll, nl, h1, _⟩, _, _, _⟩ := id W
    refine ⟨_, pss_one (L2N.ps_try_many rfl rfl takes0N (fun W pn xe tk _ => pss_one (ps_ret (pe_meth (pv 0) T.cl mW GW hr bW .nil (passTry 3 tk) (pa_cons (pv 1) (pa_cons (pv 2) pa_nil)))))
      (L2N.HdsOk.cons ⟨rfl, by decide, .inl T.eN.g⟩ (fun a oe cls d pn _ _ => pss_one (ps_ret pe_non)) L2N.HdsOk.nil)), ?_⟩
    refine ⟨_, rfl, x, dx, _, rfl, h1, wf_no zl ll nl (by decide +kernel) (by decide +kernel) (by decide +kernel), _, rfl, _, rfl, x, s, g, zs, lks, near, rfl, W, fun s' g' es eg _ _ L' H' IL' sm => ?_, fun no => absurd ⟨⟨by omega, by omega⟩, ⟨by omega, by omega⟩⟩ no⟩
    have es' : s' = s := by omega
    have eg' : g' = g := by omega
    subst es' eg'
    have eL : L' = L := IL'.unique IL
    subst eL
    exact ⟨fun e σ _ => ⟨true, caught T.eN cN, fun _ a _ => q1 e H' sm, fun z => Bool.noConfusion z⟩, fun k row a ek na ha hrow hlen => q2 k row a H' ek sm na ha hrow hlen⟩
def spLFew (C : Addr) : L2.Sp := fun vs H Q _ => ∃ (x : Addr) (i j : Int) (s g : Nat) (zs : List Int) (lks : List Lk) (near : List (List Nat)) (L : Lv), vs = [.ref x, .int i, .int j] ∧ i = s ∧ j = g ∧ WebAt C H x zs lks near ∧ s < zs.length ∧ g < zs.length ∧ IsLevels near zs s L ∧
  ∀ H', Same H H' → Q (optV (lk L g)) H'
theorem ok_lfew {f fW : Addr} {fd fdW : FuncData} (F : Fun K "_law_fewest" "_law_fewest" sLFew f fd) (T : Txt K mg C CL CS CN) (cN : CatchT K CN) (GW : FnOk P w K mg base (L2N.CX P w) 4 fW fdW ["self", "start", "goal"] (spFewest C CS CN)) (bW : Binds K fdW ["self", "start", "goal"] []) (mW : Meth K C "fewest" fW) :
    FnOk P w K mg base CX0 5 f fd ["_law_web", "_law_start", "_law_goal"] (spLFew C) := by
  refine F.ok scLFew (fun vs H Q E h => ?_) (fun cdv A outer s0 H vs Q E hr h => ?_)
  · obtain ⟨x, i, j, s, g, zs, lks, near, L, rfl, _⟩ := h
    rfl
  · obtain ⟨x, i, j, s, g, zs, lks, near, L, rfl, ei, ej, W, hs, hg, IL, q1⟩ := h
    subst ei ej
    obtain ⟨⟨dx, zl, ll, nl, h1, _⟩, _, _, _⟩ := id W
    refine ⟨_, pss_one (L2N.ps_try_many rfl rfl takes0N (fun W pn xe tk _ => pss_one (ps_ret (pe_meth (pv 0) T.cl mW GW hr bW .nil (passTry 3 tk) (pa_cons (pv 1) (pa_cons (pv 2) pa_nil)))))
      (L2N.HdsOk.cons ⟨rfl, by decide, .inl T.eN.g⟩ (fun a oe cls d pn _ _ => pss_one (ps_ret pe_non)) L2N.HdsOk.nil)), ?_⟩
    refine ⟨_, rfl, x, dx, _, rfl, h1, wf_no zl ll nl (by decide +kernel) (by decide +kernel) (by decide +kernel), _, rfl, _, rfl, x, s, g, zs, lks, near, rfl, W, fun s' g' es eg _ _ L' H' IL' sm => ?_, fun no => absurd ⟨⟨by omega, by omega⟩, ⟨by omega, by omega⟩⟩ no⟩
    have es' : s' = s := by omega
    have eg' : g' = g := by omega
    subst es' eg'
    have eL : L' = L := IL'.unique IL
    subst eL
    refine ⟨fun e σ _ => ⟨true, caught T.eN cN, fun _ a _ => ?_, fun z => Bool.noConfusion z⟩, fun k ek => ?_⟩
    · have := q1 H' sm
      rw [e] at this
      exact this
    · have := q1 H' sm
      rw [ek] at this
      exact this
/-! ### the law -/
def spLaw (K : PySem.W.Frag) : L2.Sp := fun vs H Q _ => ∃ (a : Addr) (ns : List Int), vs = [.ref a] ∧ SqL K H a (ns.map V.int) ∧ ns.length ≤ 63 ∧ ∀ H', Q (.bl true) H'
structure Defs (K : PySem.W.Frag) (mg : Str → Option Value) (C CL CS CN : Addr) (fIn fLe fFe fWa fCS fSG fSe fFi fIs fNe fCL fC fW fM fZ fLk fK fZo fLW fLF : Addr) (dIn dLe dFe dWa dCS dSG dSe dFi dIs dNe dCL dC dW dM dZ dLk dK dZo dLW dLF : FuncData) : Prop where
  T : Txt K mg C CL CS CN
  B : LT mg
  cN : CatchT K CN
  mkW : Mk K C fIn
  gWeb : mg "Web" = some (.ref C)
  In : Fun K "__init__" "Web.__init__" sInit fIn dIn
  bIn : Binds K dIn ["self", "zones", "links"] []
  Le : Fun K "levels" "Web.levels" sLevels fLe dLe
  bLe : Binds K dLe ["self", "start"] []
  mLe : Meth K C "levels" fLe
  Fe : Fun K "fewest" "Web.fewest" sFewest fFe dFe
  bFe : Binds K dFe ["self", "start", "goal"] []
  mFe : Meth K C "fewest" fFe
  Wa : Fun K "way" "Web.way" sWay fWa dWa
  bWa : Binds K dWa ["self", "start", "goal"] []
  mWa : Meth K C "way" fWa
  CSt : Fun K "_check_stop" "Web._check_stop" sCheckStop fCS dCS
  bCS : Binds K dCS ["self", "stop"] []
  mCS : Meth K C "_check_stop" fCS
  SG : Fun K "_search_goal" "Web._search_goal" sSearchGoal fSG dSG
  bSG : Binds K dSG ["self", "start", "goal"] []
  mSG : Meth K C "_search_goal" fSG
  Se : Fun K "_search" "Web._search" sSearch fSe dSe
  bSe : Binds K dSe ["self", "start"] []
  mSe : Meth K C "_search" fSe
  Fi : Fun K "_fill_level" "Web._fill_level" sFill fFi dFi
  bFi : Binds K dFi ["self", "level", "entries", "levels", "origins"] []
  mFi : Meth K C "_fill_level" fFi
  Is : Fun K "_is_stop" "_is_stop" sIsStop fIs dIs
  bIs : Binds K dIs ["stop", "count"] []
  gIs : mg "_is_stop" = some (.ref fIs)
  Ne : Fun K "_neighbours" "_neighbours" sNeigh fNe dNe
  bNe : Binds K dNe ["count", "links"] []
  gNe : mg "_neighbours" = some (.ref fNe)
  ChL : Fun K "_check_link" "_check_link" sCheckLink fCL dCL
  bCL : Binds K dCL ["one", "other", "count"] []
  gCL : mg "_check_link" = some (.ref fCL)
  Ce : Fun K "_law_cell_at" "_law_cell_at" sCell fC dC
  bCe : Binds K dC ["_law_script", "_law_k"] []
  gCe : mg "_law_cell_at" = some (.ref fC)
  Wh : Fun K "_law_whole" "_law_whole" sWhole fW dW
  bWh : Binds K dW ["_law_found"] []
  gWh : mg "_law_whole" = some (.ref fW)
  Ma : Fun K "_law_many" "_law_many" sMany fM dM
  bMa : Binds K dM ["_law_cell"] []
  gMa : mg "_law_many" = some (.ref fM)
  Zo : Fun K "_law_zones_by" "_law_zones_by" sZonesBy fZ dZ
  bZo : Binds K dZ ["_law_cell", "_law_other", "_law_many_here"] []
  gZo : mg "_law_zones_by" = some (.ref fZ)
  Li : Fun K "_law_links_by" "_law_links_by" sLinksBy fLk dLk
  bLi : Binds K dLk ["_law_script", "_law_first", "_law_many_here"] []
  gLi : mg "_law_links_by" = some (.ref fLk)
  Ke : Fun K "_law_kept" "_law_kept" sKept fK dK
  bKe : Binds K dK ["_law_found", "_law_zones", "_law_links", "_law_start"] []
  gKe : mg "_law_kept" = some (.ref fK)
  ZO : Fun K "_law_zones_of" "_law_zones_of" sZonesOf fZo dZo
  bZO : Binds K dZo ["_law_row", "_law_zones", "_law_links", "_law_start", "_law_goal"] []
  gZO : mg "_law_zones_of" = some (.ref fZo)
  LW : Fun K "_law_way" "_law_way" sLWay fLW dLW
  bLW : Binds K dLW ["_law_web", "_law_start", "_law_goal"] []
  gLW : mg "_law_way" = some (.ref fLW)
  LF : Fun K "_law_fewest" "_law_fewest" sLFew fLF dLF
  bLF : Binds K dLF ["_law_web", "_law_start", "_law_goal"] []
  gLF : mg "_law_fewest" = some (.ref fLF)
theorem ok_law {f fIn fLe fFe fWa fCS fSG fSe fFi fIs fNe fCL fC fW fM fZ fLk fK fZo fLW fLF : Addr} {fd dIn dLe dFe dWa dCS dSG dSe dFi dIs dNe dCL dC dW dM dZ dLk dK dZo dLW dLF : FuncData} (F : Fun K "law" "law" sLaw f fd)
    (D : Defs K mg C CL CS CN fIn fLe fFe fWa fCS fSG fSe fFi fIs fNe fCL fC fW fM fZ fLk fK fZo fLW fLF dIn dLe dFe dWa dCS dSG dSe dFi dIs dNe dCL dC dW dM dZ dLk dK dZo dLW dLF) : FnOk P w K mg base CX0 6 f fd ["_law_script"] (spLaw K) := by
  have GI : FnOk P w K mg base (L2N.CX P w) 4 fIn dIn ["self", "zones", "links"] (spInit K C CL) := ok_init D.In D.T D.Is D.bIs D.gIs D.ChL D.bCL D.gCL D.Ne D.bNe D.gNe
  have GLe : FnOk P w K mg base (L2N.CX P w) 3 fLe dLe ["self", "start"] (spLevels C CS) := ok_levels D.Le D.T D.Is D.bIs D.gIs D.CSt D.bCS D.mCS D.Se D.bSe D.mSe D.Fi D.bFi D.mFi
  have GFe : FnOk P w K mg base (L2N.CX P w) 4 fFe dFe ["self", "start", "goal"] (spFewest C CS CN) := ok_fewest D.Fe D.T D.Is D.bIs D.gIs D.CSt D.bCS D.mCS D.Se D.bSe D.mSe D.Fi D.bFi D.mFi D.SG D.bSG D.mSG
  have GWa : FnOk P w K mg base (L2N.CX P w) 4 fWa dWa ["self", "start", "goal"] (spWay C CS CN) := ok_way D.Wa D.T D.Is D.bIs D.gIs D.CSt D.bCS D.mCS D.Se D.bSe D.mSe D.Fi D.bFi D.mFi D.SG D.bSG D.mSG
  have GC : FnOk P w K mg base CX0 1 fC dC ["_law_script", "_law_k"] (spCell K) := ok_cell D.Ce D.B.len
  have GM : FnOk P w K mg base CX0 1 fM dM ["_law_cell"] spMany := ok_many D.Ma
  have GZ : FnOk P w K mg base CX0 1 fZ dZ ["_law_cell", "_law_other", "_law_many_here"] spZonesBy := ok_zonesBy D.Zo D.B
  have GLk : FnOk P w K mg base CX0 2 fLk dLk ["_law_script", "_law_first", "_law_many_here"] (spLinksBy K) := ok_linksBy D.Li D.B D.Ce D.bCe D.gCe
  have GW : FnOk P w K mg base CX0 1 fW dW ["_law_found"] spWhole := ok_whole D.Wh D.B
  have GK : FnOk P w K mg base CX0 1 fK dK ["_law_found", "_law_zones", "_law_links", "_law_start"] (spKept K) := ok_kept D.Ke D.B
  have GZO : FnOk P w K mg base CX0 2 fZo dZo ["_law_row", "_law_zones", "_law_links", "_law_start", "_law_goal"] (spZonesOf K) := ok_zonesOf D.ZO D.B D.Wh D.bWh D.gWh
  have GLW : FnOk P w K mg base CX0 5 fLW dLW ["_law_web", "_law_start", "_law_goal"] (spLWay C) := ok_lway D.LW D.T D.cN GWa D.bWa D.mWa
  have GLF : FnOk P w K mg base CX0 5 fLF dLF ["_law_web", "_law_start", "_law_goal"] (spLFew C) := ok_lfew D.LF D.T D.cN GFe D.bFe D.mFe
  refine F.ok scLaw (fun vs H Q E h => ?_) (fun cdv A outer s H vs Q E hr h => ?_)
  · obtain ⟨a, ns, rfl, _⟩ := h
    rfl
  · obtain ⟨a, ns, rfl, hS, h63, q⟩ := h
    have r1 : Room 1 _ := hr.mono (by decide)
    have r2 : Room 2 _ := hr.mono (by decide)
    have r3 : Room 3 _ := hr.mono (by decide)
    have r4 : Room 4 _ := hr.mono (by decide)
    refine ⟨_, pss_cons (ps_set (i := 1) scLaw.nd rfl (.inl rfl) (pe_call GM r1 (by rfl) D.gMa D.Ma.kp D.bMa .nil pass0 (pa_cons (pe_call GC r1 (by rfl) D.gCe D.Ce.kp D.bCe .nil pass0 (pa_cons (pv 0) (pa_cons pe_int pa_nil))) pa_nil)))
      (pss_cons (ps_set (i := 2) scLaw.nd rfl (.inl rfl) (pe_call GZ r1 (by rfl) D.gZo D.Zo.kp D.bZo .nil pass0 (pa_cons (pe_call GC r1 (by rfl) D.gCe D.Ce.kp D.bCe .nil pass0 (pa_cons (pv 0) (pa_cons pe_int pa_nil))) (pa_cons (pe_call GC r1 (by rfl) D.gCe D.Ce.kp D.bCe .nil pass0 (pa_cons (pv 0) (pa_cons pe_int pa_nil))) (pa_cons (pv 1) pa_nil)))))
      (pss_cons (ps_set (i := 3) scLaw.nd rfl (.inl rfl) (pe_call GLk r2 (by rfl) D.gLi D.Li.kp D.bLi .nil pass0 (pa_cons (pv 0) (pa_cons pe_int (pa_cons (pv 1) pa_nil)))))
      (pss_cons (ps_set (i := 4) scLaw.nd rfl (.inl rfl) (pe_op op_mod (pe_call GC r1 (by rfl) D.gCe D.Ce.kp D.bCe .nil pass0 (pa_cons (pv 0) (pa_cons pe_int pa_nil))) (pv 1)))
      (pss_cons (ps_set (i := 5) scLaw.nd rfl (.inl rfl) (pe_listRg rfl (by rfl) D.B.list (prg_1 (by rfl) D.B.range (pv 1))))
      (C8.pss_cut (ps_if (pt_cmpR op_gt (pv 1) pe_int (nomark _)) (pss_one (ps_set (i := 5) scLaw.nd rfl (.inl rfl) (pe_lst (pa_cons (pe_op op_mod (pe_call GC r1 (by rfl) D.gCe D.Ce.kp D.bCe .nil pass0 (pa_cons (pv 0) (pa_cons pe_int pa_nil))) (pv 1)) pa_nil)))) pss_nil)
      (pss_cons (ps_set (i := 6) scLaw.nd rfl (.inl rfl) (pe_make D.mkW GI hr (by rfl) D.gWeb D.bIn .nil passN (pa_cons (pe_callTy call_list_of (by rfl) D.B.list (by decide +kernel) (pa_cons (pv 2) pa_nil)) (pa_cons (pe_callTy call_list_of (by rfl) D.B.list (by decide +kernel) (pa_cons (pv 3) pa_nil)) pa_nil))))
      (pss_cons (ps_set (i := 7) scLaw.nd rfl (.inl rfl) (pe_meth (pv 6) D.T.cl D.mLe GLe r3 D.bLe .nil passN (pa_cons (pv 4) pa_nil)))
      (pss_cons (ps_if (pt_not (pt_val (pe_call GK r1 (by rfl) D.gKe D.Ke.kp D.bKe .nil pass0 (pa_cons (pv 7) (pa_cons (pv 2) (pa_cons (pv 3) (pa_cons (pv 4) pa_nil))))))) (pss_one (ps_ret pe_bl)) pss_nil)
      (pss_cons (ps_for PassesOwn.never rfl (pi_list (pv 5)) (pg_name (i := 8) scLaw.nd rfl (.inl rfl))
        (pss_cons (ps_set (i := 9) scLaw.nd rfl (.inl rfl) (pe_call GLW hr (by rfl) D.gLW D.LW.kp D.bLW .nil pass0 (pa_cons (pv 6) (pa_cons (pv 4) (pa_cons (pv 8) pa_nil)))))
        (pss_cons (ps_set (i := 10) scLaw.nd rfl (.inl rfl) (pe_call GLF hr (by rfl) D.gLF D.LF.kp D.bLF .nil pass0 (pa_cons (pv 6) (pa_cons (pv 4) (pa_cons (pv 8) pa_nil)))))
        (pss_one (ps_if (pt_cmpR op_isN (pv 9) pe_non (nomark _))
          (pss_one (ps_if (PW.pt (pw_or (pt_cmpR op_notN (pv 10) pe_non (nomark _)) (pw_or1 (pt_cmpR op_notN (pe_ix ix_list (pv 7) (pv 8) (fun _ _ => rfl)) pe_non (nomark _))))) (pss_one (ps_ret pe_bl)) pss_nil))
          (pss_cons (ps_if (PW.pt (pw_or (pt_not (pt_val (pe_call GW r1 (by rfl) D.gWh D.Wh.kp D.bWh .nil pass0 (pa_cons (pv 10) pa_nil)))) (pw_or (pt_not (pt_val (pe_call GW r1 (by rfl) D.gWh D.Wh.kp D.bWh .nil pass0 (pa_cons (pe_ix ix_list (pv 7) (pv 8) (fun _ _ => rfl)) pa_nil))))
              (pw_or1 (pt_cmpR op_ne (pv 10) (pe_ix ix_list (pv 7) (pv 8) (fun _ _ => rfl)) (nomark _)))))) (pss_one (ps_ret pe_bl)) pss_nil)
          (pss_cons (ps_if (pt_cmpR op_ne (pe_call GZO r2 (by rfl) D.gZO D.ZO.kp D.bZO .nil pass0 (pa_cons (pv 9) (pa_cons (pv 2) (pa_cons (pv 3) (pa_cons (pv 4) (pa_cons (pv 8) pa_nil)))))) (pv 10) (nomark _)) (pss_one (ps_ret pe_bl)) pss_nil)
          (pss_cons (ps_set (i := 11) scLaw.nd rfl (.inl rfl) (pe_callTy call_list_of (by rfl) D.B.list (by decide +kernel) (pa_cons (pv 9) pa_nil)))
          (pss_cons (ps_expr (pe_meth (pv 6) D.T.cl D.mWa GWa r4 D.bWa .nil passN (pa_cons (pv 8) (pa_cons (pv 4) pa_nil))))
          (pss_cons (ps_if (pt_cmpR (op_neD hr.units) (pv 9) (pv 11) (nomark _)) (pss_one (ps_ret pe_bl)) pss_nil)
          (pss_cons (ps_expr (pe_bm0 PySem.F.plainAttrs_list PySem.F.slot_list_clear PySem.F.type_list_clear mt_clear (pv 9)))
          (pss_one (ps_if (pt_cmpR op_ne (pe_call GZO r2 (by rfl) D.gZO D.ZO.kp D.bZO .nil pass0 (pa_cons (pe_meth (pv 6) D.T.cl D.mWa GWa r4 D.bWa .nil passN (pa_cons (pv 4) (pa_cons (pv 8) pa_nil))) (pa_cons (pv 2) (pa_cons (pv 3) (pa_cons (pv 4) (pa_cons (pv 8) pa_nil)))))) (pv 10) (nomark _)) (pss_one (ps_ret pe_bl)) pss_nil)))))))))))))
      (pss_one (ps_ret pe_bl))))))))))), ?_⟩
    -- _law_many_here, _law_zones, _law_links, _law_start
    refine ⟨_, rfl, a, ns, 0, rfl, hS, _, rfl, fun n hn1 hn60 => ?_⟩
    refine ⟨_, rfl, a, ns, 1, rfl, hS, _, rfl, a, ns, 2, rfl, hS, _, rfl, _, _, n, rfl, hn60, fun zs H1 za ezs s1 nza hza => ?_⟩
    refine ⟨_, rfl, _, rfl, a, ns, n, rfl, s1.seq hS, h63, hn1, hn60, fun lks H2 la hok hlen s2 nla hla => ?_⟩
    have np : (0 : Int) < n := by omega
    have s12 := s1.trans s2
    refine ⟨_, rfl, a, ns, 3, rfl, s12.seq hS, _, rfl, _, _, rfl, rfl, np, ?_⟩
    obtain ⟨st, est, hst⟩ : ∃ st : Nat, cell ns 3 % n = (st : Int) ∧ st < n := ⟨(cell ns 3 % n).toNat, by have := Int.emod_nonneg (cell ns 3) (show (n : Int) ≠ 0 by omega); omega, by
      have h1 := Int.emod_nonneg (cell ns 3) (show (n : Int) ≠ 0 by omega)
      have h2 := Int.emod_lt_of_pos (cell ns 3) np
      omega⟩
    -- _law_goals
    refine ⟨_, rfl, n, rfl, RgOk.of_le (by decide) (by omega) (by decide) (by omega), fun g1 ng1 => ?_⟩
    have sg1 : Same H2 (upd H2 g1 (.lst (rgV 0 n))) := same_upd ng1
    have erg : rgV 0 (n : Int) = (List.range n).map fun (x : Nat) => V.int (x : Nat) := by
      unfold rgV
      rw [show ((n : Int) - 0).toNat = n by omega]
      refine List.map_congr_left fun x _ => ?_
      rw [Int.zero_add]
    have hg1 : (upd H2 g1 (.lst (rgV 0 n))) g1 = some (.lst ((List.range n).map fun (x : Nat) => V.int (x : Nat))) := by rw [upd_same, erg]
    refine ⟨fun σ H3 => ∃ (ga : Addr) (gs : List Nat), σ = [some (.ref a), some (.int n), some (.ref za), some (.ref la), some (.int (cell ns 3 % n)), some (.ref ga), none, none, none, none, none, none] ∧ Same H2 H3 ∧ H3 ga = some (.lst (gs.map fun (x : Nat) => V.int (x : Nat))) ∧ ∀ g, g ∈ gs → g < n, ?_, ?_⟩
    · refine ⟨_, rfl, _, _, rfl, rfl, _, rfl, ?_⟩
      refine ite2 (fun _ => ?_) (fun _ => ?_)
      · refine ⟨_, rfl, a, ns, 4, rfl, (s12.trans sg1).seq hS, _, rfl, _, _, rfl, rfl, np, by show 1 ≤ sizeLine; decide, fun ga nga => ?_⟩
        obtain ⟨g4, eg4, hg4⟩ : ∃ g4 : Nat, cell ns 4 % n = (g4 : Int) ∧ g4 < n := ⟨(cell ns 4 % n).toNat, by have := Int.emod_nonneg (cell ns 4) (show (n : Int) ≠ 0 by omega); omega, by
          have h1 := Int.emod_nonneg (cell ns 4) (show (n : Int) ≠ 0 by omega)
          have h2 := Int.emod_lt_of_pos (cell ns 4) np
          omega⟩
        refine ⟨ga, [g4], rfl, sg1.trans (same_upd nga), ?_, fun g m => by rw [List.mem_singleton.mp m]; exact hg4⟩
        have e5 : V.int (cell ns 4 % n) = V.int (g4 : Nat) := by rw [eg4]
        rw [upd_same]
        exact congrArg (fun v => some (HO.lst [v])) e5
      · exact ⟨g1, List.range n, rfl, sg1, hg1, fun g m => List.mem_range.mp m⟩
    rintro σ Hg ⟨ga, gs, rfl, sg, hgs, hgn⟩
    -- _law_web = Web(list(_law_zones), list(_law_links))
    have hza2 := sg _ _ (s2 _ _ hza)
    have hlag := hla.same sg
    obtain ⟨asL, hlas, hLA⟩ := id hlag
    refine ⟨_, rfl, za, _, rfl, .inl (SqL.of hza2), fun zc nzc => ?_⟩
    have s3 : Same Hg _ := same_upd (o := .lst (zs.map V.int)) nzc
    refine ⟨_, rfl, la, _, rfl, .inl (SqL.of (s3 _ _ hlas)), fun lc nlc => ?_⟩
    have s4 := s3.trans (same_upd (o := .lst (asL.map V.ref)) nlc)
    have nzl : zc ≠ lc := ne_of_none upd_same nlc
    obtain ⟨H3, e3⟩ : ∃ H3, H3 = upd (upd Hg zc (.lst (zs.map V.int))) lc (.lst (asL.map V.ref)) := ⟨_, rfl⟩
    rw [← e3] at s4 ⊢
    have hzc : H3 zc = some (.lst (zs.map V.int)) := by rw [e3, upd_ne nzl, upd_same]
    have hlc : LinksAt H3 lc lks := ⟨asL, by rw [e3, upd_same], hLA.imp fun a b r => s4 _ _ r⟩
    clear e3 s3
    intro x dx nx ndx nex
    obtain ⟨H4, e4⟩ : ∃ H4, H4 = upd (upd H3 dx (.own x)) x (.ins C dx []) := ⟨_, rfl⟩
    rw [← e4]
    have s5 : Same H3 H4 := e4 ▸ (same_upd ndx).trans (same_upd (by rw [upd_ne nex.symm]; exact nx))
    have hx4 : H4 x = some (.ins C dx []) := by rw [e4, upd_same]
    clear e4
    have lok : ∀ q, q ∈ lks → LinkOk zs.length q := by rw [ezs]; exact hok
    refine ⟨x, dx, zc, lc, zs, lks, rfl, hx4, SqL.of (s5 _ _ hzc), fun H' k => SqL.of (k _ _ (s5 _ _ hzc) (ne_of_none hzc nx)), hlc.same s5, by rw [ezs]; omega, fun _ near H5 kp W => ⟨rfl, ?_⟩, fun ⟨q, m, no⟩ => absurd (lok q m) no⟩
    have s6 : Same H3 H5 := fun b o e => kp b o (s5 b o e) (ne_of_none e nx)
    have s15 : Same Hg H5 := s4.trans s6
    -- _law_found = _law_web.levels(_law_start)
    obtain ⟨⟨dx', zl, ll, nl, hx5, hrest⟩, NO, _, _⟩ := id W
    have noL := wf_no zl ll nl (m := "levels") (by decide +kernel) (by decide +kernel) (by decide +kernel)
    have noW := wf_no zl ll nl (m := "way") (by decide +kernel) (by decide +kernel) (by decide +kernel)
    have hstz : st < zs.length := by rw [ezs]; exact hst
    refine ⟨_, rfl, x, dx', _, rfl, hx5, noL, _, rfl, x, _, zs, lks, near, rfl, W, fun st' est' hst' L H6 fa s7 nfa hfa IL => ?_, fun no => absurd ⟨Int.emod_nonneg _ (by omega), by rw [ezs]; exact Int.emod_lt_of_pos _ np⟩ no⟩
    have est2 : st' = st := Int.ofNat_inj.mp (est'.symm.trans est)
    subst est2
    have s26 : Same Hg H6 := s15.trans s7
    have hza6 := s26 _ _ hza2
    have hla6 := hlag.same s26
    have hgs6 := s26 _ _ hgs
    have W6 := W.same s7
    -- the levels are kept
    refine ⟨_, rfl, _, rfl, _, rfl, _, rfl, fa, za, la, _, st', L, zs, lks, near, rfl, est, hfa, SqL.of hza6, hla6, IL, NO, lok, hstz, true, rfl, ?_⟩
    refine iteF ?_
    -- for goal in goals
    refine ⟨_, rfl, ga, rfl, ⟨_, SqL.of hgs6⟩, for_list (K := K) (a := ga) (xs := gs.map fun (x : Nat) => V.int (x : Nat)) (fun i σ H7 => ∃ y8 y9 y10 y11 : Option V, σ = [some (.ref a), some (.int n), some (.ref za), some (.ref la), some (.int (cell ns 3 % n)), some (.ref ga), some (.ref x), some (.ref fa), y8, y9, y10, y11] ∧ Same H6 H7)
      ⟨none, none, none, none, rfl, Same.refl _⟩ (fun i σ H7 _ ⟨_, _, _, _, _, s8⟩ => SqL.of (s8 _ _ hgs6)) ?_ ?_⟩
    · rintro i y σ H7 hi ⟨y8, y9, y10, y11, rfl, s8⟩
      obtain ⟨g, hg, rfl⟩ : ∃ g, gs[i]? = some g ∧ y = V.int (g : Nat) := by
        rw [List.getElem?_map] at hi
        cases e : gs[i]? with
        | none =>
          rw [e] at hi
          cases hi
        | some g =>
          rw [e] at hi
          exact ⟨g, rfl, (Option.some.inj hi).symm⟩
      have hgz : g < zs.length := by rw [ezs]; exact hgn g (List.mem_of_getElem? hg)
      have gL : atI (L.map optV) (g : Nat) = some (optV (lk L g)) := at_of rfl (by rw [List.getElem?_map, lk_get (by rw [IL.len]; exact hgz)]; rfl)
      have W7 := W6.same s8
      refine ⟨_, rfl, _, rfl, _, rfl, x, _, _, st', g, zs, lks, near, L, rfl, est, rfl, W7, hstz, hgz, IL, fun eN H8 s9 => ?_, fun k row ra H8 ek s9 nra hra hrow hlen => ?_⟩
      · -- no way
        have s10 := s8.trans s9
        refine ⟨_, rfl, _, rfl, _, rfl, x, _, _, st', g, zs, lks, near, L, rfl, est, rfl, W6.same s10, hstz, hgz, IL, fun H9 s11 => ?_⟩
        have s12 := s10.trans s11
        rw [eN] at gL ⊢
        refine ⟨_, rfl, rfl, _, rfl, ?_⟩
        refine iteT ?_
        refine ⟨_, rfl, rfl, _, rfl, ?_⟩
        refine iteF ?_
        refine ⟨_, rfl, _, rfl, fa, _, _, _, rfl, rfl, SqL.of (s12 _ _ hfa), gL, rfl, _, rfl, ?_⟩
        refine iteF ?_
        exact ⟨_, _, _, _, rfl, s12⟩
      · -- a way
        have s10 := s8.trans s9
        refine ⟨_, rfl, _, rfl, _, rfl, x, _, _, st', g, zs, lks, near, L, rfl, est, rfl, W6.same s10, hstz, hgz, IL, fun H9 s11 => ?_⟩
        have s12 := s10.trans s11
        have hra9 := s11 _ _ hra
        rw [ek] at gL ⊢
        have RO := hrow.ok
        have hxr := hrow.lt hstz fun u v ad => W.near_lt ad
        refine ⟨_, rfl, rfl, _, rfl, ?_⟩
        refine iteF ?_
        -- whole(count), whole(found[goal]), count != found[goal]
        refine ⟨_, rfl, (k : Int), rfl, true, rfl, ?_⟩
        refine iteF ?_
        refine ⟨_, rfl, _, rfl, fa, _, _, _, rfl, rfl, SqL.of (s12 _ _ hfa), gL, (k : Int), rfl, true, rfl, ?_⟩
        refine iteF ?_
        refine ⟨_, rfl, _, rfl, _, rfl, fa, _, _, _, rfl, rfl, SqL.of (s12 _ _ hfa), gL, rfl, _, rfl, ?_⟩
        refine iteNS rfl ?_
        -- zones_of(row, ..) != count
        refine ⟨_, rfl, _, rfl, _, rfl, _, rfl, _, rfl, ra, za, la, _, st', g, k, row, zs, lks, near, rfl, est, hra9, SqL.of (s12 _ _ hza6), hla6.same s12, NO, RO, hxr, hlen, fun H10 s13 => ?_⟩
        have s14 := s12.trans s13
        refine ⟨_, rfl, rfl, _, rfl, ?_⟩
        refine iteNS rfl ?_
        -- kept_here = list(row)
        have hra10 := s13 _ _ hra9
        refine ⟨_, rfl, ra, _, rfl, .inl (SqL.of hra10), fun ka nka => ?_⟩
        have s15' := same_upd (o := .lst (row.map fun (x : Nat) => V.int (x : Nat))) nka
        obtain ⟨H11, e11⟩ : ∃ H11, H11 = upd H10 ka (.lst (row.map fun (x : Nat) => V.int (x : Nat))) := ⟨_, rfl⟩
        rw [← e11] at s15' ⊢
        have hka : H11 ka = some (.lst (row.map fun (x : Nat) => V.int (x : Nat))) := by rw [e11, upd_same]
        clear e11
        have s16 := s14.trans s15'
        -- web.way(goal, start)
        refine ⟨_, rfl, x, dx', _, rfl, s16 _ _ (s7 _ _ hx5), noW, _, rfl, _, rfl, x, _, _, zs, lks, near, rfl, W6.same s16, fun g' t' eg' et' _ _ L' H12 IL' s17 => ?_, fun no => absurd ⟨⟨by omega, by omega⟩, ⟨Int.emod_nonneg _ (by omega), by rw [ezs]; exact Int.emod_lt_of_pos _ np⟩⟩ no⟩
        have eg2 : g' = g := by omega
        have et2 : t' = st' := by omega
        subst eg2 et2
        refine ⟨fun eN => ?_, fun k' row' ra' ek' na' hra' hrow' hlen' => ?_⟩
        · obtain ⟨j, wb⟩ := hrow.way.back NO.sym
          obtain ⟨l, el, _⟩ := IL'.min wb
          rw [eN] at el
          cases el
        have s18 := s16.trans s17
        have hra12 := s17 _ _ (s15' _ _ hra10)
        have hka12 := s17 _ _ hka
        -- row != kept_here
        have dr : ∀ H, DpAll K H (row.map fun (x : Nat) => V.int (x : Nat)) ((row.map some).map datO) := fun H => by
          have z := dps_opt (K := K) (H := H) (row.map some)
          rw [List.map_map] at z
          exact z
        refine ⟨_, rfl, _, rfl, _, _, .lst (SqL.of hra12) (dr _), .lst (SqL.of hka12) (dr _), shaped_opt _, shaped_opt _, _, rfl, ?_⟩
        rw [eqv_opt]
        refine iteF ?_
        -- row.clear()
        refine ⟨_, rfl, .inl ⟨rfl, _, SqL.of hra12⟩, ra, _, rfl, rfl, hra12, ?_⟩
        obtain ⟨H13, e13⟩ : ∃ H13, H13 = upd H12 ra (.lst []) := ⟨_, rfl⟩
        rw [← e13]
        have nra6 : H6 ra = none := s8.free nra
        have s19 : Same H6 H13 := e13 ▸ upd_out s18 nra6
        clear e13
        -- zones_of(web.way(start, goal), ..) != count
        refine ⟨_, rfl, x, dx', _, rfl, s19 _ _ (s7 _ _ hx5), noW, _, rfl, _, rfl, x, _, _, zs, lks, near, rfl, W6.same s19, fun t2 g2 et2 eg2 _ _ L2' H14 IL2 s20 => ?_, fun no => absurd ⟨⟨Int.emod_nonneg _ (by omega), by rw [ezs]; exact Int.emod_lt_of_pos _ np⟩, ⟨by omega, by omega⟩⟩ no⟩
        have eg3 : g2 = g' := by omega
        have et3 : t2 = t' := by omega
        subst eg3 et3
        have eL2 : L2' = L := IL2.unique IL
        subst eL2
        refine ⟨fun eN => ?_, fun k2 row2 ra2 ek2 na2 hra2 hrow2 hlen2 => ?_⟩
        · rw [ek] at eN
          cases eN
        have ekk : k2 = k := by
          rw [ek] at ek2
          cases ek2
          rfl
        subst ekk
        have s21 := s19.trans s20
        refine ⟨_, rfl, _, rfl, _, rfl, _, rfl, ra2, za, la, _, t2, g2, k2, row2, zs, lks, near, rfl, est, hra2, SqL.of (s21 _ _ hza6), hla6.same s21, NO, hrow2.ok, hrow2.lt hstz fun u v ad => W.near_lt ad, hlen2, fun H15 s22 => ?_⟩
        refine ⟨_, rfl, rfl, _, rfl, ?_⟩
        refine iteNS rfl ?_
        exact ⟨_, _, _, _, rfl, s21.trans s22⟩
    · rintro σ H7 ⟨y8, y9, y10, y11, rfl, s8⟩
      exact q H7
end
end FW
namespace FW
open PySem PySem.Spec PyProof.Rows L2
theorem all_mk {l : PySem.W.OpenLaw} {w : World} {K : PySem.W.Frag} {h : Heap} {mg : Str → Option Value} {fa C CL CS CN f1 f2 f3 f4 f5 f6 f7 f8 f9 f10 f11 f12 f13 f14 f15 f16 f17 f18 f19 f20 f21 : Addr} (X : K.In h) (G : h.Ns mainGlobals mg) (hfa : mg "law" = some (.ref fa))
    {od1 an1 od2 an2 od3 an3 od4 an4 od5 an5 od6 an6 od7 an7 od8 an8 od9 an9 od10 an10 od11 an11 od12 an12 od13 an13 od14 an14 od15 an15 od16 an16 od17 an17 od18 an18 od19 an19 od20 an20 od21 an21 : Option Addr} {sl1 sl2 sl3 sl4 sl5 sl6 sl7 sl8 sl9 sl10 sl11 sl12 sl13 sl14 sl15 sl16 sl17 sl18 sl19 sl20 sl21 : Array (Option Value)} {oc1 kV1 dc1 pm1 cd1 ct1 oc2 kV2 dc2 pm2 cd2 ct2 oc3 kV3 dc3 pm3 cd3 ct3 oc4 kV4 dc4 pm4 cd4 ct4 oc5 kV5 dc5 pm5 cd5 ct5 oc6 kV6 dc6 pm6 cd6 ct6 oc7 kV7 dc7 pm7 cd7 ct7 oc8 kV8 dc8 pm8 cd8 ct8 oc9 kV9 dc9 pm9 cd9 ct9 oc10 kV10 dc10 pm10 cd10 ct10 oc11 kV11 dc11 pm11 cd11 ct11 oc12 kV12 dc12 pm12 cd12 ct12 oc13 kV13 dc13 pm13 cd13 ct13 oc14 kV14 dc14 pm14 cd14 ct14 oc15 kV15 dc15 pm15 cd15 ct15 oc16 kV16 dc16 pm16 cd16 ct16 oc17 kV17 dc17 pm17 cd17 ct17 oc18 kV18 dc18 pm18 cd18 ct18 oc19 kV19 dc19 pm19 cd19 ct19 oc20 kV20 dc20 pm20 cd20 ct20 oc21 kV21 dc21 pm21 cd21 ct21 : Value}
    (gC : PySem.W.nsIn K mainGlobals "Web" = some (some (.ref C)))
    (pgC : PySem.W.plainGet K C Str.empty = true)
    (hdC : PySem.W.hasDictIn K C = true)
    (poC : PySem.W.plainOver K C = true)
    (saC : PySem.W.findIn K (.ref C) "__setattr__" = some (some (.builtin "object.__setattr__")))
    (mkC : PySem.W.makesIn K C = true)
    (kcC : PySem.W.keepIn K (.ref C) = true)
    (a1 : PySem.W.findIn K (.ref C) "__init__" = some (some (.ref f1)))
    (i1 : PySem.W.isFn K (.ref f1) = true)
    (l1 : K.lookup f1 = some ⟨oc1, od1, .func (PySem.W.fnOf "__init__" "Web.__init__" (defArgs sInit) (defBody sInit) (defScope sInit) .none kV1 dc1 pm1 an1 cd1 ct1), sl1⟩)
    (c1 : PySem.W.codeIn K cd1 "Web.__init__" = true)
    (k1 : PySem.W.keepIn K (.ref f1) = true)
    (a2 : PySem.W.findIn K (.ref C) "levels" = some (some (.ref f2)))
    (i2 : PySem.W.isFn K (.ref f2) = true)
    (l2 : K.lookup f2 = some ⟨oc2, od2, .func (PySem.W.fnOf "levels" "Web.levels" (defArgs sLevels) (defBody sLevels) (defScope sLevels) .none kV2 dc2 pm2 an2 cd2 ct2), sl2⟩)
    (c2 : PySem.W.codeIn K cd2 "Web.levels" = true)
    (k2 : PySem.W.keepIn K (.ref f2) = true)
    (a3 : PySem.W.findIn K (.ref C) "fewest" = some (some (.ref f3)))
    (i3 : PySem.W.isFn K (.ref f3) = true)
    (l3 : K.lookup f3 = some ⟨oc3, od3, .func (PySem.W.fnOf "fewest" "Web.fewest" (defArgs sFewest) (defBody sFewest) (defScope sFewest) .none kV3 dc3 pm3 an3 cd3 ct3), sl3⟩)
    (c3 : PySem.W.codeIn K cd3 "Web.fewest" = true)
    (k3 : PySem.W.keepIn K (.ref f3) = true)
    (a4 : PySem.W.findIn K (.ref C) "way" = some (some (.ref f4)))
    (i4 : PySem.W.isFn K (.ref f4) = true)
    (l4 : K.lookup f4 = some ⟨oc4, od4, .func (PySem.W.fnOf "way" "Web.way" (defArgs sWay) (defBody sWay) (defScope sWay) .none kV4 dc4 pm4 an4 cd4 ct4), sl4⟩)
    (c4 : PySem.W.codeIn K cd4 "Web.way" = true)
    (k4 : PySem.W.keepIn K (.ref f4) = true)
    (a5 : PySem.W.findIn K (.ref C) "_check_stop" = some (some (.ref f5)))
    (i5 : PySem.W.isFn K (.ref f5) = true)
    (l5 : K.lookup f5 = some ⟨oc5, od5, .func (PySem.W.fnOf "_check_stop" "Web._check_stop" (defArgs sCheckStop) (defBody sCheckStop) (defScope sCheckStop) .none kV5 dc5 pm5 an5 cd5 ct5), sl5⟩)
    (c5 : PySem.W.codeIn K cd5 "Web._check_stop" = true)
    (k5 : PySem.W.keepIn K (.ref f5) = true)
    (a6 : PySem.W.findIn K (.ref C) "_search_goal" = some (some (.ref f6)))
    (i6 : PySem.W.isFn K (.ref f6) = true)
    (l6 : K.lookup f6 = some ⟨oc6, od6, .func (PySem.W.fnOf "_search_goal" "Web._search_goal" (defArgs sSearchGoal) (defBody sSearchGoal) (defScope sSearchGoal) .none kV6 dc6 pm6 an6 cd6 ct6), sl6⟩)
    (c6 : PySem.W.codeIn K cd6 "Web._search_goal" = true)
    (k6 : PySem.W.keepIn K (.ref f6) = true)
    (a7 : PySem.W.findIn K (.ref C) "_search" = some (some (.ref f7)))
    (i7 : PySem.W.isFn K (.ref f7) = true)
    (l7 : K.lookup f7 = some ⟨oc7, od7, .func (PySem.W.fnOf "_search" "Web._search" (defArgs sSearch) (defBody sSearch) (defScope sSearch) .none kV7 dc7 pm7 an7 cd7 ct7), sl7⟩)
    (c7 : PySem.W.codeIn K cd7 "Web._search" = true)
    (k7 : PySem.W.keepIn K (.ref f7) = true)
    (a8 : PySem.W.findIn K (.ref C) "_fill_level" = some (some (.ref f8)))
    (i8 : PySem.W.isFn K (.ref f8) = true)
    (l8 : K.lookup f8 = some ⟨oc8, od8, .func (PySem.W.fnOf "_fill_level" "Web._fill_level" (defArgs sFill) (defBody sFill) (defScope sFill) .none kV8 dc8 pm8 an8 cd8 ct8), sl8⟩)
    (c8 : PySem.W.codeIn K cd8 "Web._fill_level" = true)
    (k8 : PySem.W.keepIn K (.ref f8) = true)
    (a9 : PySem.W.nsIn K mainGlobals "_is_stop" = some (some (.ref f9)))
    (l9 : K.lookup f9 = some ⟨oc9, od9, .func (PySem.W.fnOf "_is_stop" "_is_stop" (defArgs sIsStop) (defBody sIsStop) (defScope sIsStop) .none kV9 dc9 pm9 an9 cd9 ct9), sl9⟩)
    (c9 : PySem.W.codeIn K cd9 "_is_stop" = true)
    (k9 : PySem.W.keepIn K (.ref f9) = true)
    (a10 : PySem.W.nsIn K mainGlobals "_neighbours" = some (some (.ref f10)))
    (l10 : K.lookup f10 = some ⟨oc10, od10, .func (PySem.W.fnOf "_neighbours" "_neighbours" (defArgs sNeigh) (defBody sNeigh) (defScope sNeigh) .none kV10 dc10 pm10 an10 cd10 ct10), sl10⟩)
    (c10 : PySem.W.codeIn K cd10 "_neighbours" = true)
    (k10 : PySem.W.keepIn K (.ref f10) = true)
    (a11 : PySem.W.nsIn K mainGlobals "_check_link" = some (some (.ref f11)))
    (l11 : K.lookup f11 = some ⟨oc11, od11, .func (PySem.W.fnOf "_check_link" "_check_link" (defArgs sCheckLink) (defBody sCheckLink) (defScope sCheckLink) .none kV11 dc11 pm11 an11 cd11 ct11), sl11⟩)
    (c11 : PySem.W.codeIn K cd11 "_check_link" = true)
    (k11 : PySem.W.keepIn K (.ref f11) = true)
    (a12 : PySem.W.nsIn K mainGlobals "_law_cell_at" = some (some (.ref f12)))
    (l12 : K.lookup f12 = some ⟨oc12, od12, .func (PySem.W.fnOf "_law_cell_at" "_law_cell_at" (defArgs sCell) (defBody sCell) (defScope sCell) .none kV12 dc12 pm12 an12 cd12 ct12), sl12⟩)
    (c12 : PySem.W.codeIn K cd12 "_law_cell_at" = true)
    (k12 : PySem.W.keepIn K (.ref f12) = true)
    (a13 : PySem.W.nsIn K mainGlobals "_law_whole" = some (some (.ref f13)))
    (l13 : K.lookup f13 = some ⟨oc13, od13, .func (PySem.W.fnOf "_law_whole" "_law_whole" (defArgs sWhole) (defBody sWhole) (defScope sWhole) .none kV13 dc13 pm13 an13 cd13 ct13), sl13⟩)
    (c13 : PySem.W.codeIn K cd13 "_law_whole" = true)
    (k13 : PySem.W.keepIn K (.ref f13) = true)
    (a14 : PySem.W.nsIn K mainGlobals "_law_many" = some (some (.ref f14)))
    (l14 : K.lookup f14 = some ⟨oc14, od14, .func (PySem.W.fnOf "_law_many" "_law_many" (defArgs sMany) (defBody sMany) (defScope sMany) .none kV14 dc14 pm14 an14 cd14 ct14), sl14⟩)
    (c14 : PySem.W.codeIn K cd14 "_law_many" = true)
    (k14 : PySem.W.keepIn K (.ref f14) = true)
    (a15 : PySem.W.nsIn K mainGlobals "_law_zones_by" = some (some (.ref f15)))
    (l15 : K.lookup f15 = some ⟨oc15, od15, .func (PySem.W.fnOf "_law_zones_by" "_law_zones_by" (defArgs sZonesBy) (defBody sZonesBy) (defScope sZonesBy) .none kV15 dc15 pm15 an15 cd15 ct15), sl15⟩)
    (c15 : PySem.W.codeIn K cd15 "_law_zones_by" = true)
    (k15 : PySem.W.keepIn K (.ref f15) = true)
    (a16 : PySem.W.nsIn K mainGlobals "_law_links_by" = some (some (.ref f16)))
    (l16 : K.lookup f16 = some ⟨oc16, od16, .func (PySem.W.fnOf "_law_links_by" "_law_links_by" (defArgs sLinksBy) (defBody sLinksBy) (defScope sLinksBy) .none kV16 dc16 pm16 an16 cd16 ct16), sl16⟩)
    (c16 : PySem.W.codeIn K cd16 "_law_links_by" = true)
    (k16 : PySem.W.keepIn K (.ref f16) = true)
    (a17 : PySem.W.nsIn K mainGlobals "_law_kept" = some (some (.ref f17)))
    (l17 : K.lookup f17 = some ⟨oc17, od17, .func (PySem.W.fnOf "_law_kept" "_law_kept" (defArgs sKept) (defBody sKept) (defScope sKept) .none kV17 dc17 pm17 an17 cd17 ct17), sl17⟩)
    (c17 : PySem.W.codeIn K cd17 "_law_kept" = true)
    (k17 : PySem.W.keepIn K (.ref f17) = true)
    (a18 : PySem.W.nsIn K mainGlobals "_law_zones_of" = some (some (.ref f18)))
    (l18 : K.lookup f18 = some ⟨oc18, od18, .func (PySem.W.fnOf "_law_zones_of" "_law_zones_of" (defArgs sZonesOf) (defBody sZonesOf) (defScope sZonesOf) .none kV18 dc18 pm18 an18 cd18 ct18), sl18⟩)
    (c18 : PySem.W.codeIn K cd18 "_law_zones_of" = true)
    (k18 : PySem.W.keepIn K (.ref f18) = true)
    (a19 : PySem.W.nsIn K mainGlobals "_law_way" = some (some (.ref f19)))
    (l19 : K.lookup f19 = some ⟨oc19, od19, .func (PySem.W.fnOf "_law_way" "_law_way" (defArgs sLWay) (defBody sLWay) (defScope sLWay) .none kV19 dc19 pm19 an19 cd19 ct19), sl19⟩)
    (c19 : PySem.W.codeIn K cd19 "_law_way" = true)
    (k19 : PySem.W.keepIn K (.ref f19) = true)
    (a20 : PySem.W.nsIn K mainGlobals "_law_fewest" = some (some (.ref f20)))
    (l20 : K.lookup f20 = some ⟨oc20, od20, .func (PySem.W.fnOf "_law_fewest" "_law_fewest" (defArgs sLFew) (defBody sLFew) (defScope sLFew) .none kV20 dc20 pm20 an20 cd20 ct20), sl20⟩)
    (c20 : PySem.W.codeIn K cd20 "_law_fewest" = true)
    (k20 : PySem.W.keepIn K (.ref f20) = true)
    (a21 : PySem.W.nsIn K mainGlobals "law" = some (some (.ref f21)))
    (l21 : K.lookup f21 = some ⟨oc21, od21, .func (PySem.W.fnOf "law" "law" (defArgs sLaw) (defBody sLaw) (defScope sLaw) .none kV21 dc21 pm21 an21 cd21 ct21), sl21⟩)
    (c21 : PySem.W.codeIn K cd21 "law" = true)
    (k21 : PySem.W.keepIn K (.ref f21) = true)
    (nC_zones : PySem.W.findIn K (.ref C) "zones" = some none)
    (nC_links : PySem.W.findIn K (.ref C) "links" = some none)
    (nC__near : PySem.W.findIn K (.ref C) "_near" = some none)
    (gCL : PySem.W.nsIn K mainGlobals "BadLink" = some (some (.ref CL)))
    (xCL : PySem.W.excIn K CL [.type "ValueError", .type "Exception", .type "BaseException", .type "object"] "ValueError.__new__" = true)
    (kCL : PySem.W.keepIn K (.ref CL) = true)
    (bCL : PySem.W.subIn K (.ref CL) (.type "BaseException") = some true)
    (tCL : PySem.W.typeIn K (.ref CL) = some (.type "type"))
    (gCS : PySem.W.nsIn K mainGlobals "BadStop" = some (some (.ref CS)))
    (xCS : PySem.W.excIn K CS [.type "ValueError", .type "Exception", .type "BaseException", .type "object"] "ValueError.__new__" = true)
    (kCS : PySem.W.keepIn K (.ref CS) = true)
    (bCS : PySem.W.subIn K (.ref CS) (.type "BaseException") = some true)
    (tCS : PySem.W.typeIn K (.ref CS) = some (.type "type"))
    (gCN : PySem.W.nsIn K mainGlobals "NoWay" = some (some (.ref CN)))
    (xCN : PySem.W.excIn K CN [.type "ValueError", .type "Exception", .type "BaseException", .type "object"] "ValueError.__new__" = true)
    (kCN : PySem.W.keepIn K (.ref CN) = true)
    (bCN : PySem.W.subIn K (.ref CN) (.type "BaseException") = some true)
    (tCN : PySem.W.typeIn K (.ref CN) = some (.type "type"))
    (z_len : PySem.W.nsIn K mainGlobals "len" = some none)
    (z_list : PySem.W.nsIn K mainGlobals "list" = some none)
    (z_range : PySem.W.nsIn K mainGlobals "range" = some none)
    (z_min : PySem.W.nsIn K mainGlobals "min" = some none)
    (z_int : PySem.W.nsIn K mainGlobals "int" = some none)
    (z_isinstance : PySem.W.nsIn K mainGlobals "isinstance" = some none)
    (z_bool : PySem.W.nsIn K mainGlobals "bool" = some none)
    (z_abs : PySem.W.nsIn K mainGlobals "abs" = some none)
    (hdCN : PySem.W.hasDictIn K CN = true)
    (seCN : PySem.W.subIn K (.ref CN) (.ref CN) = some true)
    : ∃ fd : FuncData, (∀ (s : Shared) (v : Value), BindsTo s fd ⟨[v], []⟩ [("_law_script", v)]) ∧ ∀ base : Heap, K.In base → base.Ns mainGlobals mg → FnOk l.prog w K mg base CX0 6 fa fd ["_law_script"] (spLaw K) := by
  have e := hfa.symm.trans (PySem.W.mg_of X G a21)
  cases e
  have F1 := fun_mk (st := sInit) l1 c1 k1
  have b1 := F1.binds (ps := ["self", "zones", "links"]) fun _ _ _ _ _ _ us hl => match us, hl with | [_, _, _], _ => rfl
  have F2 := fun_mk (st := sLevels) l2 c2 k2
  have b2 := F2.binds (ps := ["self", "start"]) fun _ _ _ _ _ _ us hl => match us, hl with | [_, _], _ => rfl
  have F3 := fun_mk (st := sFewest) l3 c3 k3
  have b3 := F3.binds (ps := ["self", "start", "goal"]) fun _ _ _ _ _ _ us hl => match us, hl with | [_, _, _], _ => rfl
  have F4 := fun_mk (st := sWay) l4 c4 k4
  have b4 := F4.binds (ps := ["self", "start", "goal"]) fun _ _ _ _ _ _ us hl => match us, hl with | [_, _, _], _ => rfl
  have F5 := fun_mk (st := sCheckStop) l5 c5 k5
  have b5 := F5.binds (ps := ["self", "stop"]) fun _ _ _ _ _ _ us hl => match us, hl with | [_, _], _ => rfl
  have F6 := fun_mk (st := sSearchGoal) l6 c6 k6
  have b6 := F6.binds (ps := ["self", "start", "goal"]) fun _ _ _ _ _ _ us hl => match us, hl with | [_, _, _], _ => rfl
  have F7 := fun_mk (st := sSearch) l7 c7 k7
  have b7 := F7.binds (ps := ["self", "start"]) fun _ _ _ _ _ _ us hl => match us, hl with | [_, _], _ => rfl
  have F8 := fun_mk (st := sFill) l8 c8 k8
  have b8 := F8.binds (ps := ["self", "level", "entries", "levels", "origins"]) fun _ _ _ _ _ _ us hl => match us, hl with | [_, _, _, _, _], _ => rfl
  have F9 := fun_mk (st := sIsStop) l9 c9 k9
  have b9 := F9.binds (ps := ["stop", "count"]) fun _ _ _ _ _ _ us hl => match us, hl with | [_, _], _ => rfl
  have F10 := fun_mk (st := sNeigh) l10 c10 k10
  have b10 := F10.binds (ps := ["count", "links"]) fun _ _ _ _ _ _ us hl => match us, hl with | [_, _], _ => rfl
  have F11 := fun_mk (st := sCheckLink) l11 c11 k11
  have b11 := F11.binds (ps := ["one", "other", "count"]) fun _ _ _ _ _ _ us hl => match us, hl with | [_, _, _], _ => rfl
  have F12 := fun_mk (st := sCell) l12 c12 k12
  have b12 := F12.binds (ps := ["_law_script", "_law_k"]) fun _ _ _ _ _ _ us hl => match us, hl with | [_, _], _ => rfl
  have F13 := fun_mk (st := sWhole) l13 c13 k13
  have b13 := F13.binds (ps := ["_law_found"]) fun _ _ _ _ _ _ us hl => match us, hl with | [_], _ => rfl
  have F14 := fun_mk (st := sMany) l14 c14 k14
  have b14 := F14.binds (ps := ["_law_cell"]) fun _ _ _ _ _ _ us hl => match us, hl with | [_], _ => rfl
  have F15 := fun_mk (st := sZonesBy) l15 c15 k15
  have b15 := F15.binds (ps := ["_law_cell", "_law_other", "_law_many_here"]) fun _ _ _ _ _ _ us hl => match us, hl with | [_, _, _], _ => rfl
  have F16 := fun_mk (st := sLinksBy) l16 c16 k16
  have b16 := F16.binds (ps := ["_law_script", "_law_first", "_law_many_here"]) fun _ _ _ _ _ _ us hl => match us, hl with | [_, _, _], _ => rfl
  have F17 := fun_mk (st := sKept) l17 c17 k17
  have b17 := F17.binds (ps := ["_law_found", "_law_zones", "_law_links", "_law_start"]) fun _ _ _ _ _ _ us hl => match us, hl with | [_, _, _, _], _ => rfl
  have F18 := fun_mk (st := sZonesOf) l18 c18 k18
  have b18 := F18.binds (ps := ["_law_row", "_law_zones", "_law_links", "_law_start", "_law_goal"]) fun _ _ _ _ _ _ us hl => match us, hl with | [_, _, _, _, _], _ => rfl
  have F19 := fun_mk (st := sLWay) l19 c19 k19
  have b19 := F19.binds (ps := ["_law_web", "_law_start", "_law_goal"]) fun _ _ _ _ _ _ us hl => match us, hl with | [_, _, _], _ => rfl
  have F20 := fun_mk (st := sLFew) l20 c20 k20
  have b20 := F20.binds (ps := ["_law_web", "_law_start", "_law_goal"]) fun _ _ _ _ _ _ us hl => match us, hl with | [_, _, _], _ => rfl
  have F21 := fun_mk (st := sLaw) l21 c21 k21
  have T : Txt K mg C CL CS CN := ⟨⟨pgC, hdC, poC, saC⟩, nC_zones, nC_links, nC__near, PySem.W.mg_none_of X G z_len, PySem.W.mg_none_of X G z_list, PySem.W.mg_none_of X G z_range, ⟨PySem.W.mg_of X G gCL, xCL, kCL, bCL, tCL⟩, ⟨PySem.W.mg_of X G gCS, xCS, kCS, bCS, tCS⟩, ⟨PySem.W.mg_of X G gCN, xCN, kCN, bCN, tCN⟩⟩
  have B : LT mg := ⟨PySem.W.mg_none_of X G z_len, PySem.W.mg_none_of X G z_list, PySem.W.mg_none_of X G z_range, PySem.W.mg_none_of X G z_min, PySem.W.mg_none_of X G z_int, PySem.W.mg_none_of X G z_isinstance, PySem.W.mg_none_of X G z_bool, PySem.W.mg_none_of X G z_abs⟩
  have D : Defs K mg C CL CS CN f1 f2 f3 f4 f5 f6 f7 f8 f9 f10 f11 f12 f13 f14 f15 f16 f17 f18 f19 f20 _ _ _ _ _ _ _ _ _ _ _ _ _ _ _ _ _ _ _ _ := ⟨T, B, ⟨hdCN, seCN⟩, ⟨mkC, a1, i1, kcC⟩, PySem.W.mg_of X G gC, F1, b1, F2, b2, ⟨a2, i2, k2⟩, F3, b3, ⟨a3, i3, k3⟩, F4, b4, ⟨a4, i4, k4⟩, F5, b5, ⟨a5, i5, k5⟩, F6, b6, ⟨a6, i6, k6⟩, F7, b7, ⟨a7, i7, k7⟩, F8, b8, ⟨a8, i8, k8⟩, F9, b9, PySem.W.mg_of X G a9, F10, b10, PySem.W.mg_of X G a10, F11, b11, PySem.W.mg_of X G a11, F12, b12, PySem.W.mg_of X G a12, F13, b13, PySem.W.mg_of X G a13, F14, b14, PySem.W.mg_of X G a14, F15, b15, PySem.W.mg_of X G a15, F16, b16, PySem.W.mg_of X G a16, F17, b17, PySem.W.mg_of X G a17, F18, b18, PySem.W.mg_of X G a18, F19, b19, PySem.W.mg_of X G a19, F20, b20, PySem.W.mg_of X G a20⟩
  exact ⟨PySem.W.fnOf "law" "law" (defArgs sLaw) (defBody sLaw) (defScope sLaw) .none kV21 dc21 pm21 an21 cd21 ct21, fun s v => .of_eq rfl, fun base _ _ => ok_law F21 D⟩
theorem walk {l : PySem.W.OpenLaw} {q : Program} {loose : List Str} {XP : (Str → Option Value) → Heap → Prop} {YP : World → Heap → Prop} {d : DefRec} {K : Params → PySem.W.Frag} (hn : l.most = some 63) (hdf : d.params.defaults = [])
    (hY : ∀ (w : World) (h : Heap), YP w h → (K w.params).In h)
    (F : ∀ (w : World) (mg : Str → Option Value) (fa : Addr) (h : Heap), (K w.params).In h → h.Ns mainGlobals mg → mg d.name = some (.ref fa) →
      ∃ fd : FuncData, (∀ (s : Shared) (u : Value), BindsTo s fd ⟨[u], []⟩ [("_law_script", u)]) ∧ ∀ base : Heap, (K w.params).In base → base.Ns mainGlobals mg → FnOk l.prog w (K w.params) mg base CX0 6 fa fd ["_law_script"] (spLaw (K w.params))) :
    PySem.W.WalkO q loose XP YP l.row.toRowW d [] (fun f vs => PySem.call f vs) :=
  L2.walk_of (n := 63) (k := 6) (x := "_law_script") (CX := fun _ => CX0) (sp := fun w => spLaw (K w.params)) hn (by decide) hdf ⟨rfl, by decide, by decide⟩ hY F (fun _ _ a ns hl _ hS => ⟨a, ns, rfl, hS, hl, fun _ => rfl⟩) fun _ _ _ _ _ z => z
end FW
open PySem PySem.W PyProof.Rows
set_option maxRecDepth 100000 in
set_option maxHeartbeats 0 in
theorem PySem.Challenge.cw_fareweb_k04_whole_fewest_zones_holds : PySem.Challenge.rw_fareweb_k04_whole_fewest_zones.Holds := by
  w_on; o_law; k_head; (case hw => w_witness2)
  k_fill
  refine FW.walk (l := PySem.Challenge.rw_fareweb_k04_whole_fewest_zones) rfl rfl (fun w h Y => PySem.W.kIn_of Y) ?F
  case F =>
    intro w mg fa h KX G hmg
    refine' FW.all_mk KX G hmg ?gC ?pgC ?hdC ?poC ?saC ?mkC ?kcC ?a1 ?i1 ?l1 ?c1 ?k1 ?a2 ?i2 ?l2 ?c2 ?k2 ?a3 ?i3 ?l3 ?c3 ?k3 ?a4 ?i4 ?l4 ?c4 ?k4 ?a5 ?i5 ?l5 ?c5 ?k5 ?a6 ?i6 ?l6 ?c6 ?k6 ?a7 ?i7 ?l7 ?c7 ?k7 ?a8 ?i8 ?l8 ?c8 ?k8 ?a9 ?l9 ?c9 ?k9 ?a10 ?l10 ?c10 ?k10 ?a11 ?l11 ?c11 ?k11 ?a12 ?l12 ?c12 ?k12 ?a13 ?l13 ?c13 ?k13 ?a14 ?l14 ?c14 ?k14 ?a15 ?l15 ?c15 ?k15 ?a16 ?l16 ?c16 ?k16 ?a17 ?l17 ?c17 ?k17 ?a18 ?l18 ?c18 ?k18 ?a19 ?l19 ?c19 ?k19 ?a20 ?l20 ?c20 ?k20 ?a21 ?l21 ?c21 ?k21 ?nC_zones ?nC_links ?nC__near ?gCL ?xCL ?kCL ?bCL ?tCL ?gCS ?xCS ?kCS ?bCS ?tCS ?gCN ?xCN ?kCN ?bCN ?tCN ?z_len ?z_list ?z_range ?z_min ?z_int ?z_isinstance ?z_bool ?z_abs ?hdCN ?seCN
    (case gC => k_is)
    (case pgC => k_is)
    (case hdC => k_is)
    (case poC => k_is)
    (case saC => k_is)
    (case mkC => k_is)
    (case kcC => k_is)
    (case a1 => k_is)
    (case i1 => k_is)
    (case l1 => k_is)
    (case c1 => k_is)
    (case k1 => k_is)
    (case a2 => k_is)
    (case i2 => k_is)
    (case l2 => k_is)
    (case c2 => k_is)
    (case k2 => k_is)
    (case a3 => k_is)
    (case i3 => k_is)
    (case l3 => k_is)
    (case c3 => k_is)
    (case k3 => k_is)
    (case a4 => k_is)
    (case i4 => k_is)
    (case l4 => k_is)
    (case c4 => k_is)
    (case k4 => k_is)
    (case a5 => k_is)
    (case i5 => k_is)
    (case l5 => k_is)
    (case c5 => k_is)
    (case k5 => k_is)
    (case a6 => k_is)
    (case i6 => k_is)
    (case l6 => k_is)
    (case c6 => k_is)
    (case k6 => k_is)
    (case a7 => k_is)
    (case i7 => k_is)
    (case l7 => k_is)
    (case c7 => k_is)
    (case k7 => k_is)
    (case a8 => k_is)
    (case i8 => k_is)
    (case l8 => k_is)
    (case c8 => k_is)
    (case k8 => k_is)
    (case a9 => k_is)
    (case l9 => k_is)
    (case c9 => k_is)
    (case k9 => k_is)
    (case a10 => k_is)
    (case l10 => k_is)
    (case c10 => k_is)
    (case k10 => k_is)
    (case a11 => k_is)
    (case l11 => k_is)
    (case c11 => k_is)
    (case k11 => k_is)
    (case a12 => k_is)
    (case l12 => k_is)
    (case c12 => k_is)
    (case k12 => k_is)
    (case a13 => k_is)
    (case l13 => k_is)
    (case c13 => k_is)
    (case k13 => k_is)
    (case a14 => k_is)
    (case l14 => k_is)
    (case c14 => k_is)
    (case k14 => k_is)
    (case a15 => k_is)
    (case l15 => k_is)
    (case c15 => k_is)
    (case k15 => k_is)
    (case a16 => k_is)
    (case l16 => k_is)
    (case c16 => k_is)
    (case k16 => k_is)
    (case a17 => k_is)
    (case l17 => k_is)
    (case c17 => k_is)
    (case k17 => k_is)
    (case a18 => k_is)
    (case l18 => k_is)
    (case c18 => k_is)
    (case k18 => k_is)
    (case a19 => k_is)
    (case l19 => k_is)
    (case c19 => k_is)
    (case k19 => k_is)
    (case a20 => k_is)
    (case l20 => k_is)
    (case c20 => k_is)
    (case k20 => k_is)
    (case a21 => k_is)
    (case l21 => k_is)
    (case c21 => k_is)
    (case k21 => k_is)
    (case nC_zones => k_is)
    (case nC_links => k_is)
    (case nC__near => k_is)
    (case gCL => k_is)
    (case xCL => k_exc)
    (case kCL => k_is)
    (case bCL => k_is)
    (case tCL => k_is)
    (case gCS => k_is)
    (case xCS => k_exc)
    (case kCS => k_is)
    (case bCS => k_is)
    (case tCS => k_is)
    (case gCN => k_is)
    (case xCN => k_exc)
    (case kCN => k_is)
    (case bCN => k_is)
    (case tCN => k_is)
    (case z_len => k_is)
    (case z_list => k_is)
    (case z_range => k_is)
    (case z_min => k_is)
    (case z_int => k_is)
    (case z_isinstance => k_is)
    (case z_bool => k_is)
    (case z_abs => k_is)
    (case hdCN => k_is)
    (case seCN => k_is)
#print axioms PySem.Challenge.cw_fareweb_k04_whole_fewest_zones_holds
