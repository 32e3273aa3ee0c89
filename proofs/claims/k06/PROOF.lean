import PyProof.Rows.All
import Wide.All
import OpenK.AllK
import Wide.FinOn
import HandS.ForMost
import HandS.Exc
import HandS.TryOnly
import HandS.ExcOwn
import HandS.WordsExc
import HandS.RaiseMore
import HandS.FStr
import HandS.TryMany
import HandS.ExcCtx
import HandS.ExcIs
import HandS.HotCalls
import HandS.Deep
import HandS.SetFor
import HandS.Strs
import HandS.Codes
import KE.RegKIsAll
import HandS.Style
import HandS.IsInst
import HandS.Conv
import KE.DataMinMax
import PySem.Challenge.RW_fareweb_k06_tickets_that_serve
set_option Elab.async false
set_option linter.all false
set_option maxRecDepth 100000
section
set_option autoImplicit false
set_option linter.all false
namespace FT
/-! Tickets: plain mathematics of the least cost. -/
/-! sums -/
def sumR : Nat → (Nat → Int) → Int
  | 0, _ => 0
  | n + 1, f => sumR n f + f n
theorem sumR_le : ∀ (n : Nat) {f g : Nat → Int}, (∀ i, i < n → f i ≤ g i) → sumR n f ≤ sumR n g
  | 0, _, _, _ => Int.le_refl _
  | n + 1, f, g, h => by
    have h1 := sumR_le n (f := f) (g := g) fun i hi => h i (by omega)
    have h2 := h n (by omega)
    show sumR n f + f n ≤ sumR n g + g n
    omega
theorem sumR_congr : ∀ (n : Nat) {f g : Nat → Int}, (∀ i, i < n → f i = g i) → sumR n f = sumR n g
  | 0, _, _, _ => rfl
  | n + 1, f, g, h => by
    show sumR n f + f n = sumR n g + g n
    rw [sumR_congr n (f := f) (g := g) fun i hi => h i (by omega), h n (by omega)]
theorem sumR_add : ∀ (n : Nat) (f g : Nat → Int), sumR n (fun i => f i + g i) = sumR n f + sumR n g
  | 0, _, _ => rfl
  | n + 1, f, g => by
    show sumR n (fun i => f i + g i) + (f n + g n) = sumR n f + f n + (sumR n g + g n)
    rw [sumR_add n f g]
    omega
theorem sumR_zero : ∀ n : Nat, sumR n (fun _ => 0) = 0
  | 0 => rfl
  | n + 1 => by
    show sumR n (fun _ => 0) + 0 = 0
    rw [sumR_zero n]
    rfl
theorem sumR_nonneg (n : Nat) {f : Nat → Int} (h : ∀ i, i < n → 0 ≤ f i) : 0 ≤ sumR n f := by
  have := sumR_le n (f := fun _ => 0) (g := f) h
  rw [sumR_zero] at this
  exact this
theorem sumR_ind : ∀ (n k : Nat) (x : Int), sumR n (fun i => if i = k then x else 0) = if k < n then x else 0
  | 0, k, x => by
    rw [if_neg (by omega)]
    rfl
  | n + 1, k, x => by
    show sumR n (fun i => if i = k then x else 0) + (if n = k then x else 0) = _
    rw [sumR_ind n k x]
    by_cases h : n = k
    · subst h
      rw [if_neg (by omega), if_pos rfl, if_pos (by omega)]
      omega
    · rw [if_neg h]
      by_cases h2 : k < n
      · rw [if_pos h2, if_pos (by omega)]
        omega
      · rw [if_neg h2, if_neg (by omega)]
        rfl
theorem sumR_succ : ∀ (n : Nat) (f : Nat → Int), sumR (n + 1) f = f 0 + sumR n (fun i => f (i + 1))
  | 0, f => by
    show 0 + f 0 = f 0 + 0
    omega
  | n + 1, f => by
    show sumR (n + 1) f + f (n + 1) = f 0 + (sumR n (fun i => f (i + 1)) + f (n + 1))
    rw [sumR_succ n f]
    omega
theorem sum_sumR {α : Type} (f : α → Int) (d : α) : ∀ l : List α, (l.map f).sum = sumR l.length (fun i => f (l.getD i d))
  | [] => rfl
  | a :: l => by
    rw [List.map_cons, List.sum_cons, sum_sumR f d l, List.length_cons, sumR_succ]
    rfl
theorem sum_le {α : Type} {f g : α → Int} : ∀ {l : List α}, (∀ a, a ∈ l → f a ≤ g a) → (l.map f).sum ≤ (l.map g).sum
  | [], _ => Int.le_refl _
  | a :: l, h => by
    rw [List.map_cons, List.map_cons, List.sum_cons, List.sum_cons]
    have h1 := sum_le (l := l) (f := f) (g := g) fun b m => h b (List.mem_cons_of_mem _ m)
    have h2 := h a List.mem_cons_self
    omega
theorem sum_nonneg {α : Type} {f : α → Int} {l : List α} (h : ∀ a, a ∈ l → 0 ≤ f a) : 0 ≤ (l.map f).sum := by
  induction l with
  | nil => exact Int.le_refl _
  | cons a l ih =>
    rw [List.map_cons, List.sum_cons]
    have h1 := ih fun b m => h b (List.mem_cons_of_mem _ m)
    have h2 := h a List.mem_cons_self
    omega
theorem sum_zero {α : Type} : ∀ l : List α, (l.map fun _ => (0 : Int)).sum = 0
  | [] => rfl
  | a :: l => by
    rw [List.map_cons, List.sum_cons, sum_zero l]
    rfl
theorem sum_perm {α : Type} {f : α → Int} {l r : List α} (h : l.Perm r) : (l.map f).sum = (r.map f).sum := by
  induction h with
  | nil => rfl
  | cons x _ ih => rw [List.map_cons, List.map_cons, List.sum_cons, List.sum_cons, ih]
  | swap x y l =>
    simp only [List.map_cons, List.sum_cons]
    omega
  | trans _ _ h1 h2 => exact h1.trans h2
/-! the least of a row's prices for so many zones or for more -/
abbrev Row := List Int
def pr (row : Row) (z : Nat) : Int := row.getD (z - 1) 0
/-- the least of row[z - 1 ..], z from 1 to 5, of five prices -/
def best (row : Row) (z : Nat) : Int :=
  if z = 1 then min (pr row 1) (min (pr row 2) (min (pr row 3) (min (pr row 4) (pr row 5))))
  else if z = 2 then min (pr row 2) (min (pr row 3) (min (pr row 4) (pr row 5)))
  else if z = 3 then min (pr row 3) (min (pr row 4) (pr row 5))
  else if z = 4 then min (pr row 4) (pr row 5)
  else pr row 5
theorem five {z : Nat} (h1 : 1 ≤ z) (h5 : z ≤ 5) : z = 1 ∨ z = 2 ∨ z = 3 ∨ z = 4 ∨ z = 5 := by omega
theorem best_le (row : Row) {z j : Nat} (hz : 1 ≤ z) (hzj : z ≤ j) (hj : j ≤ 5) : best row z ≤ pr row j := by
  unfold best
  rcases five (by omega : 1 ≤ j) hj with rfl | rfl | rfl | rfl | rfl <;> rcases five hz (by omega) with rfl | rfl | rfl | rfl | rfl <;> simp <;> omega
theorem best_at (row : Row) {z : Nat} (hz : 1 ≤ z) (h5 : z ≤ 5) : ∃ j, z ≤ j ∧ j ≤ 5 ∧ best row z = pr row j := by
  have key : ∀ a b : Int, min a b = a ∨ min a b = b := fun a b => by omega
  unfold best
  rcases five hz h5 with rfl | rfl | rfl | rfl | rfl
  · rcases key (pr row 1) (min (pr row 2) (min (pr row 3) (min (pr row 4) (pr row 5)))) with h | h
    · exact ⟨1, by omega, by omega, h⟩
    · rcases key (pr row 2) (min (pr row 3) (min (pr row 4) (pr row 5))) with h2 | h2
      · exact ⟨2, by omega, by omega, h.trans h2⟩
      · rcases key (pr row 3) (min (pr row 4) (pr row 5)) with h3 | h3
        · exact ⟨3, by omega, by omega, (h.trans h2).trans h3⟩
        · rcases key (pr row 4) (pr row 5) with h4 | h4
          · exact ⟨4, by omega, by omega, ((h.trans h2).trans h3).trans h4⟩
          · exact ⟨5, by omega, by omega, ((h.trans h2).trans h3).trans h4⟩
  · rcases key (pr row 2) (min (pr row 3) (min (pr row 4) (pr row 5))) with h2 | h2
    · exact ⟨2, by omega, by omega, h2⟩
    · rcases key (pr row 3) (min (pr row 4) (pr row 5)) with h3 | h3
      · exact ⟨3, by omega, by omega, h2.trans h3⟩
      · rcases key (pr row 4) (pr row 5) with h4 | h4
        · exact ⟨4, by omega, by omega, (h2.trans h3).trans h4⟩
        · exact ⟨5, by omega, by omega, (h2.trans h3).trans h4⟩
  · rcases key (pr row 3) (min (pr row 4) (pr row 5)) with h3 | h3
    · exact ⟨3, by omega, by omega, h3⟩
    · rcases key (pr row 4) (pr row 5) with h4 | h4
      · exact ⟨4, by omega, by omega, h3.trans h4⟩
      · exact ⟨5, by omega, by omega, h3.trans h4⟩
  · rcases key (pr row 4) (pr row 5) with h4 | h4
    · exact ⟨4, by omega, by omega, h4⟩
    · exact ⟨5, by omega, by omega, h4⟩
  · exact ⟨5, by omega, by omega, rfl⟩
/-- a price that is the least of the row's for so many or for more is best -/
theorem best_eq {row : Row} {z : Nat} (hz : 1 ≤ z) (h5 : z ≤ 5) {b : Int} (at_ : ∃ j, z ≤ j ∧ j ≤ 5 ∧ b = pr row j) (le : ∀ j, z ≤ j → j ≤ 5 → b ≤ pr row j) : b = best row z := by
  obtain ⟨j, h1, h2, e⟩ := at_
  obtain ⟨k, k1, k2, e2⟩ := best_at row hz h5
  have a := best_le row hz h1 h2
  have c := le k k1 k2
  omega
structure Tar where
  s : Row
  d : Row
  w : Row
/-- all prices from nought on -/
structure Tar.Ok (T : Tar) : Prop where
  s : ∀ j, 1 ≤ j → j ≤ 5 → 0 ≤ pr T.s j
  d : ∀ j, 1 ≤ j → j ≤ 5 → 0 ≤ pr T.d j
  w : ∀ j, 1 ≤ j → j ≤ 5 → 0 ≤ pr T.w j
theorem best_nonneg {row : Row} (h : ∀ j, 1 ≤ j → j ≤ 5 → 0 ≤ pr row j) {z : Nat} (hz : 1 ≤ z) (h5 : z ≤ 5) : 0 ≤ best row z := by
  obtain ⟨j, h1, h2, e⟩ := best_at row hz h5
  rw [e]
  exact h j (by omega) h2
/-- a ticket for o zones, or none where o is 0 -/
def op (row : Row) (o : Nat) : Int := if o = 0 then 0 else best row o
theorem op_nonneg {row : Row} (h : ∀ j, 1 ≤ j → j ≤ 5 → 0 ≤ pr row j) {o : Nat} (h5 : o ≤ 5) : 0 ≤ op row o := by
  unfold op
  split
  · exact Int.le_refl _
  · exact best_nonneg h (by omega) h5
/-! the least over 0 to 5 -/
def m6 (f : Nat → Int) : Int := min (f 0) (min (f 1) (min (f 2) (min (f 3) (min (f 4) (f 5)))))
theorem m6_le (f : Nat → Int) {i : Nat} (h : i ≤ 5) : m6 f ≤ f i := by
  unfold m6
  have : i = 0 ∨ i = 1 ∨ i = 2 ∨ i = 3 ∨ i = 4 ∨ i = 5 := by omega
  rcases this with rfl | rfl | rfl | rfl | rfl | rfl <;> omega
theorem m6_ge (f : Nat → Int) {x : Int} (h : ∀ i, i ≤ 5 → x ≤ f i) : x ≤ m6 f := by
  unfold m6
  have h0 := h 0 (by omega)
  have h1 := h 1 (by omega)
  have h2 := h 2 (by omega)
  have h3 := h 3 (by omega)
  have h4 := h 4 (by omega)
  have h5 := h 5 (by omega)
  omega
theorem m6_at (f : Nat → Int) : ∃ i, i ≤ 5 ∧ m6 f = f i := by
  have key : ∀ a b : Int, min a b = a ∨ min a b = b := fun a b => by omega
  apply Classical.byContradiction
  intro no
  have h : ∀ i, i ≤ 5 → m6 f + 1 ≤ f i := fun i hi => by
    have a := m6_le f hi
    have b : m6 f ≠ f i := fun e => no ⟨i, hi, e⟩
    omega
  have := m6_ge f h
  omega
theorem m6_mono {f g : Nat → Int} (h : ∀ i, i ≤ 5 → f i ≤ g i) : m6 f ≤ m6 g := m6_ge g fun i hi => Int.le_trans (m6_le f hi) (h i hi)
theorem m6_congr {f g : Nat → Int} (h : ∀ i, i ≤ 5 → f i = g i) : m6 f = m6 g := Int.le_antisymm (m6_mono fun i hi => Int.le_of_eq (h i hi)) (m6_mono fun i hi => Int.le_of_eq (h i hi).symm)
/-! the least cost as a function -/
/-- what a ride of z zones still costs where tickets for h zones are held -/
def need (T : Tar) (h z : Nat) : Int := if z ≤ h then 0 else best T.s z
def restF (T : Tar) (h : Nat) (zs : List Nat) : Int := (zs.map (need T h)).sum
/-- one day beside a week ticket for w zones -/
def dayF (T : Tar) (w : Nat) (zs : List Nat) : Int := m6 fun o => op T.d o + restF T (max w o) zs
def weekF (T : Tar) (w : Nat) (days : List (List Nat)) : Int := op T.w w + (days.map (dayF T w)).sum
def leastF (T : Tar) (days : List (List Nat)) : Int := m6 fun w => weekF T w days
/-- rides of 1 to 5 zones -/
def In5 (days : List (List Nat)) : Prop := ∀ zs, zs ∈ days → ∀ z, z ∈ zs → 1 ≤ z ∧ z ≤ 5
section
variable {T : Tar}
theorem need_nonneg (h : T.Ok) {k z : Nat} (hz : 1 ≤ z ∧ z ≤ 5) : 0 ≤ need T k z := by
  unfold need
  split
  · exact Int.le_refl _
  · exact best_nonneg h.s hz.1 hz.2
theorem rest_nonneg (h : T.Ok) {k : Nat} {zs : List Nat} (hz : ∀ z, z ∈ zs → 1 ≤ z ∧ z ≤ 5) : 0 ≤ restF T k zs := sum_nonneg fun z m => need_nonneg h (hz z m)
theorem dayF_nonneg (h : T.Ok) {w : Nat} {zs : List Nat} (hz : ∀ z, z ∈ zs → 1 ≤ z ∧ z ≤ 5) : 0 ≤ dayF T w zs := m6_ge _ fun o ho => by
  have := op_nonneg h.d ho
  have := rest_nonneg h (k := max w o) hz
  omega
theorem dayF_nil (h : T.Ok) (w : Nat) : dayF T w [] = 0 := by
  refine Int.le_antisymm ?_ (dayF_nonneg h fun z m => by simp at m)
  have := m6_le (fun o => op T.d o + restF T (max w o) []) (i := 0) (by omega)
  exact this
theorem leastF_nonneg (h : T.Ok) {days : List (List Nat)} (hd : In5 days) : 0 ≤ leastF T days := m6_ge _ fun w hw => by
  have h1 := op_nonneg h.w hw
  have h2 : 0 ≤ (days.map (dayF T w)).sum := sum_nonneg fun zs m => dayF_nonneg h (hd zs m)
  show 0 ≤ op T.w w + _
  omega
theorem leastF_empty (h : T.Ok) {days : List (List Nat)} (hd : ∀ zs, zs ∈ days → zs = []) : leastF T days = 0 := by
  have h0 : ∀ w, (days.map (dayF T w)).sum = 0 := fun w => by
    have e : ∀ zs, zs ∈ days → dayF T w zs = (fun _ => (0 : Int)) zs := fun zs m => by rw [hd zs m, dayF_nil h]
    rw [List.map_congr_left e]
    exact sum_zero days
  refine Int.le_antisymm ?_ (leastF_nonneg h fun zs m z mz => by rw [hd zs m] at mz; simp at mz)
  have := m6_le (fun w => weekF T w days) (i := 0) (by omega)
  have e : weekF T 0 days = 0 := by
    unfold weekF
    rw [h0 0]
    rfl
  rw [e] at this
  exact this
/-- the order within a day is no matter -/
theorem dayF_perm {w : Nat} {zs zs' : List Nat} (p : zs.Perm zs') : dayF T w zs = dayF T w zs' := m6_congr fun o _ => by
  unfold restF
  rw [sum_perm p]
/-! one day changed -/
theorem sum_set {α : Type} (g : α → Int) : ∀ {l : List α} {d : Nat} {a b : α}, l[d]? = some a → ((l.set d b).map g).sum = (l.map g).sum - g a + g b
  | [], _, _, _, h => by simp at h
  | x :: l, 0, a, b, h => by
    have e : x = a := Option.some.inj h
    subst e
    show ((b :: l).map g).sum = ((x :: l).map g).sum - g x + g b
    rw [List.map_cons, List.map_cons, List.sum_cons, List.sum_cons]
    omega
  | x :: l, d + 1, a, b, h => by
    have ih := sum_set g (l := l) (d := d) (a := a) (b := b) h
    show ((x :: l.set d b).map g).sum = ((x :: l).map g).sum - g a + g b
    rw [List.map_cons, List.map_cons, List.sum_cons, List.sum_cons, ih]
    omega
theorem least_set_le {days : List (List Nat)} {d : Nat} {zs zs' : List Nat} (e : days[d]? = some zs) {x : Int} (h : ∀ w, w ≤ 5 → dayF T w zs' ≤ dayF T w zs + x) : leastF T (days.set d zs') ≤ leastF T days + x := by
  obtain ⟨w, hw, ew⟩ := m6_at fun w => weekF T w days
  have h1 := m6_le (fun w => weekF T w (days.set d zs')) hw
  have h2 : weekF T w (days.set d zs') ≤ weekF T w days + x := by
    unfold weekF
    rw [sum_set _ e]
    have := h w hw
    omega
  have h3 : leastF T days = weekF T w days := ew
  have h4 : leastF T (days.set d zs') ≤ weekF T w (days.set d zs') := h1
  omega
theorem rest_snoc (h : Nat) (zs : List Nat) (z : Nat) : restF T h (zs ++ [z]) = restF T h zs + need T h z := by
  unfold restF
  rw [List.map_append, List.sum_append, List.map_singleton, List.sum_singleton]
theorem dayF_more (ok : T.Ok) {w : Nat} {zs : List Nat} {z : Nat} (hz : 1 ≤ z ∧ z ≤ 5) : dayF T w zs ≤ dayF T w (zs ++ [z]) := m6_mono fun o _ => by
  rw [rest_snoc]
  have := need_nonneg ok (k := max w o) hz
  omega
theorem dayF_snoc (ok : T.Ok) {w : Nat} {zs : List Nat} {z : Nat} (hz : 1 ≤ z ∧ z ≤ 5) : dayF T w (zs ++ [z]) ≤ dayF T w zs + best T.s z := by
  obtain ⟨o, ho, e⟩ := m6_at fun o => op T.d o + restF T (max w o) zs
  have h1 := m6_le (fun o => op T.d o + restF T (max w o) (zs ++ [z])) ho
  have h2 : need T (max w o) z ≤ best T.s z := by
    have := best_nonneg ok.s hz.1 hz.2
    unfold need
    split
    · exact this
    · exact Int.le_refl _
  have h3 : op T.d o + restF T (max w o) (zs ++ [z]) = op T.d o + restF T (max w o) zs + need T (max w o) z := by
    rw [rest_snoc]
    omega
  have h4 : dayF T w zs = op T.d o + restF T (max w o) zs := e
  have h5 : dayF T w (zs ++ [z]) ≤ op T.d o + restF T (max w o) (zs ++ [z]) := h1
  omega
/-- a ride more costs from nought on, and no more than a single -/
theorem least_more (ok : T.Ok) {days : List (List Nat)} {d : Nat} {zs : List Nat} {z : Nat} (e : days[d]? = some zs) (hz : 1 ≤ z ∧ z ≤ 5) : leastF T days ≤ leastF T (days.set d (zs ++ [z])) := by
  have hd := (List.getElem?_eq_some_iff.mp e).1
  have e2 : (days.set d (zs ++ [z]))[d]? = some (zs ++ [z]) := List.getElem?_set_self hd
  have h := least_set_le (T := T) (zs' := zs) e2 (x := 0) fun w _ => by
    have := dayF_more ok (w := w) (zs := zs) hz
    omega
  rw [List.set_set] at h
  have e3 : days.set d zs = days := by
    obtain ⟨h1, h2⟩ := List.getElem?_eq_some_iff.mp e
    rw [← h2]
    exact List.set_getElem_self h1
  rw [e3] at h
  omega
theorem least_single (ok : T.Ok) {days : List (List Nat)} {d : Nat} {zs : List Nat} {z : Nat} (e : days[d]? = some zs) (hz : 1 ≤ z ∧ z ≤ 5) : leastF T (days.set d (zs ++ [z])) ≤ leastF T days + best T.s z :=
  least_set_le e fun w _ => dayF_snoc ok hz
theorem need_zero {h z : Nat} (e : z ≤ h) : need T h z = 0 := if_pos e
theorem rest_zero {h : Nat} : ∀ {zs : List Nat}, (∀ z, z ∈ zs → z ≤ h) → restF T h zs = 0
  | [], _ => rfl
  | z :: zs, e => by
    unfold restF
    rw [List.map_cons, List.sum_cons, need_zero (e z List.mem_cons_self)]
    have := rest_zero (h := h) (zs := zs) fun y m => e y (List.mem_cons_of_mem _ m)
    unfold restF at this
    rw [this]
    rfl
/-- a day costs no more than a day ticket for its greatest zones -/
theorem dayF_cap (ok : T.Ok) {w m : Nat} {zs : List Nat} (hm : 1 ≤ m ∧ m ≤ 5) (hz : ∀ z, z ∈ zs → z ≤ m) : dayF T w zs ≤ best T.d m := by
  have h := m6_le (fun o => op T.d o + restF T (max w o) zs) hm.2
  have h2 : restF T (max w m) zs = 0 := rest_zero fun z mz => Nat.le_trans (hz z mz) (Nat.le_max_right _ _)
  have h3 : op T.d m = best T.d m := if_neg (by omega)
  have h4 : dayF T w zs ≤ op T.d m + restF T (max w m) zs := h
  omega
theorem least_day_cap (ok : T.Ok) {days : List (List Nat)} {d m : Nat} {zs zs0 : List Nat} (e : days[d]? = some zs0) (h0 : zs0 = []) (hm : 1 ≤ m ∧ m ≤ 5) (hz : ∀ z, z ∈ zs → z ≤ m) : leastF T (days.set d zs) ≤ leastF T days + best T.d m :=
  least_set_le e fun w _ => by
    subst h0
    rw [dayF_nil ok]
    have := dayF_cap ok (w := w) hm hz
    omega
theorem least_week_cap (ok : T.Ok) {days : List (List Nat)} {m : Nat} (hm : 1 ≤ m ∧ m ≤ 5) (hd : In5 days) (hz : ∀ zs, zs ∈ days → ∀ z, z ∈ zs → z ≤ m) : leastF T days ≤ best T.w m := by
  have h := m6_le (fun w => weekF T w days) hm.2
  have h0 : (days.map (dayF T m)).sum ≤ (days.map fun _ => (0 : Int)).sum := sum_le fun zs mz => by
    have h := m6_le (fun o => op T.d o + restF T (max m o) zs) (i := 0) (by omega)
    have h2 : restF T (max m 0) zs = 0 := rest_zero fun z mz' => Nat.le_trans (hz zs mz z mz') (Nat.le_max_left _ _)
    have h3 : op T.d 0 = 0 := rfl
    have h4 : dayF T m zs ≤ op T.d 0 + restF T (max m 0) zs := h
    omega
  have hzero := sum_zero days
  have h3 : op T.w m = best T.w m := if_neg (by omega)
  have h4 : leastF T days ≤ op T.w m + (days.map (dayF T m)).sum := h
  omega
/-! one ride -/
theorem dayF_one (ok : T.Ok) {w z : Nat} (hz : 1 ≤ z ∧ z ≤ 5) (hw : w ≤ 5) : dayF T w [z] = if z ≤ w then 0 else min (best T.s z) (best T.d z) := by
  have rest1 : ∀ h, restF T h [z] = need T h z := fun h => by
    unfold restF
    rw [List.map_singleton, List.sum_singleton]
  have bs := best_nonneg ok.s hz.1 hz.2
  have bd := best_nonneg ok.d hz.1 hz.2
  by_cases c : z ≤ w
  · rw [if_pos c]
    refine Int.le_antisymm ?_ (dayF_nonneg ok fun y m => by rw [List.mem_singleton.mp m]; exact hz)
    have h := m6_le (fun o => op T.d o + restF T (max w o) [z]) (i := 0) (by omega)
    have h2 : restF T (max w 0) [z] = 0 := rest_zero fun y m => by
      rw [List.mem_singleton.mp m]
      exact Nat.le_trans c (Nat.le_max_left _ _)
    have h3 : dayF T w [z] ≤ op T.d 0 + restF T (max w 0) [z] := h
    have h4 : op T.d 0 = 0 := rfl
    omega
  · rw [if_neg c]
    refine Int.le_antisymm ?_ (m6_ge _ fun o ho => ?_)
    · have h := m6_le (fun o => op T.d o + restF T (max w o) [z]) (i := 0) (by omega)
      have h2 := m6_le (fun o => op T.d o + restF T (max w o) [z]) hz.2
      have e1 : restF T (max w 0) [z] = best T.s z := by
        rw [rest1]
        exact if_neg (by omega)
      have e2 : restF T (max w z) [z] = 0 := by
        rw [rest1]
        exact if_pos (Nat.le_max_right _ _)
      have e3 : op T.d z = best T.d z := if_neg (by omega)
      have h3 : dayF T w [z] ≤ op T.d 0 + restF T (max w 0) [z] := h
      have h4 : dayF T w [z] ≤ op T.d z + restF T (max w z) [z] := h2
      have h5 : op T.d 0 = 0 := rfl
      omega
    · rw [rest1]
      by_cases c2 : z ≤ max w o
      · have e1 : need T (max w o) z = 0 := if_pos c2
        have co : z ≤ o := by omega
        have e2 : op T.d o = best T.d o := if_neg (by omega)
        have h1 : best T.d z ≤ best T.d o := by
          obtain ⟨j, a, b, e⟩ := best_at T.d (z := o) (by omega) ho
          rw [e]
          exact best_le T.d hz.1 (by omega) b
        omega
      · have e1 : need T (max w o) z = best T.s z := if_neg c2
        have := op_nonneg ok.d ho
        omega
/-- the charge of a card's one ride -/
theorem least_one (ok : T.Ok) {days : List (List Nat)} {d z : Nat} (hd : ∀ zs, zs ∈ days → zs = []) (h : d < days.length) (hz : 1 ≤ z ∧ z ≤ 5) : leastF T (days.set d [z]) = min (best T.s z) (min (best T.d z) (best T.w z)) := by
  have e : days[d]? = some [] := by
    rw [List.getElem?_eq_getElem h]
    exact congrArg some (hd _ (List.getElem_mem h))
  have h0 : ∀ w, (days.map (dayF T w)).sum = 0 := fun w => by
    have e : ∀ zs, zs ∈ days → dayF T w zs = (fun _ => (0 : Int)) zs := fun zs m => by rw [hd zs m, dayF_nil ok]
    rw [List.map_congr_left e]
    exact sum_zero days
  have wk : ∀ w, w ≤ 5 → weekF T w (days.set d [z]) = op T.w w + if z ≤ w then 0 else min (best T.s z) (best T.d z) := fun w hw => by
    unfold weekF
    rw [sum_set _ e, h0, dayF_nil ok, dayF_one ok hz hw]
    omega
  have bs := best_nonneg ok.s hz.1 hz.2
  have bd := best_nonneg ok.d hz.1 hz.2
  refine Int.le_antisymm ?_ (m6_ge _ fun w hw => ?_)
  · have a := m6_le (fun w => weekF T w (days.set d [z])) (i := 0) (by omega)
    have b := m6_le (fun w => weekF T w (days.set d [z])) hz.2
    have a2 : leastF T (days.set d [z]) ≤ weekF T 0 (days.set d [z]) := a
    have b2 : leastF T (days.set d [z]) ≤ weekF T z (days.set d [z]) := b
    rw [wk 0 (by omega), if_neg (by omega)] at a2
    rw [wk z hz.2, if_pos (Nat.le_refl _)] at b2
    have e0 : op T.w 0 = 0 := rfl
    have e1 : op T.w z = best T.w z := if_neg (by omega)
    omega
  · rw [wk w hw]
    by_cases c : z ≤ w
    · rw [if_pos c]
      have e1 : op T.w w = best T.w w := if_neg (by omega)
      have h1 : best T.w z ≤ best T.w w := by
        obtain ⟨j, a, b, e⟩ := best_at T.w (z := w) (by omega) hw
        rw [e]
        exact best_le T.w hz.1 (by omega) b
      omega
    · rw [if_neg c]
      have := op_nonneg ok.w hw
      omega
/-! tickets that serve cost no less -/
inductive Tk
  | week (z : Nat)
  | day (d z : Nat)
  | single (d i z : Nat)
def Tk.price (T : Tar) : Tk → Int
  | .week z => pr T.w z
  | .day _ z => pr T.d z
  | .single _ _ z => pr T.s z
def Tk.Ok : Tk → Prop
  | .week z => 1 ≤ z ∧ z ≤ 5
  | .day _ z => 1 ≤ z ∧ z ≤ 5
  | .single _ _ z => 1 ≤ z ∧ z ≤ 5
/-- the ticket serves the ride i of the day d, of z zones -/
def Tk.Serves : Tk → Nat → Nat → Nat → Prop
  | .week z', _, _, z => z ≤ z'
  | .day d' z', d, _, z => d = d' ∧ z ≤ z'
  | .single d' i' z', d, i, z => d = d' ∧ i = i' ∧ z ≤ z'
def cost (T : Tar) (ts : List Tk) : Int := (ts.map (Tk.price T)).sum
def AllServed (ts : List Tk) (days : List (List Nat)) : Prop := ∀ d i z zs, days[d]? = some zs → zs[i]? = some z → ∃ t, t ∈ ts ∧ t.Serves d i z
def wC (T : Tar) : Tk → Int
  | .week z => pr T.w z
  | _ => 0
def dC (T : Tar) (d : Nat) : Tk → Int
  | .day d' z => if d = d' then pr T.d z else 0
  | _ => 0
def sC (T : Tar) (d i : Nat) : Tk → Int
  | .single d' i' z => if d = d' then (if i = i' then pr T.s z else 0) else 0
  | _ => 0
theorem Tk.price_nonneg (ok : T.Ok) {t : Tk} (h : t.Ok) : 0 ≤ t.price T := by
  cases t with
  | week z => exact ok.w z h.1 h.2
  | day d z => exact ok.d z h.1 h.2
  | single d i z => exact ok.s z h.1 h.2
theorem wC_nonneg (ok : T.Ok) {t : Tk} (h : t.Ok) : 0 ≤ wC T t := by
  cases t with
  | week z => exact ok.w z h.1 h.2
  | day d z => exact Int.le_refl _
  | single d i z => exact Int.le_refl _
theorem dC_nonneg (ok : T.Ok) {d : Nat} {t : Tk} (h : t.Ok) : 0 ≤ dC T d t := by
  cases t with
  | week z => exact Int.le_refl _
  | day d' z =>
    show 0 ≤ if d = d' then pr T.d z else 0
    split
    · exact ok.d z h.1 h.2
    · exact Int.le_refl _
  | single d i z => exact Int.le_refl _
theorem sC_nonneg (ok : T.Ok) {d i : Nat} {t : Tk} (h : t.Ok) : 0 ≤ sC T d i t := by
  cases t with
  | week z => exact Int.le_refl _
  | day d' z => exact Int.le_refl _
  | single d' i' z =>
    show 0 ≤ if d = d' then (if i = i' then pr T.s z else 0) else 0
    split
    · split
      · exact ok.s z h.1 h.2
      · exact Int.le_refl _
    · exact Int.le_refl _
theorem parts_one (ok : T.Ok) (n : Nat) (len : Nat → Nat) {t : Tk} (h : t.Ok) : wC T t + sumR n (fun d => dC T d t + sumR (len d) (fun i => sC T d i t)) ≤ t.price T := by
  have pn := Tk.price_nonneg ok h
  have z0 : sumR n (fun d => (0 : Int) + sumR (len d) (fun _ => 0)) = 0 := by
    rw [sumR_congr n (g := fun _ => 0) fun d _ => by rw [sumR_zero]; rfl]
    exact sumR_zero n
  cases t with
  | week z =>
    show pr T.w z + sumR n (fun d => (0 : Int) + sumR (len d) (fun _ => 0)) ≤ pr T.w z
    rw [z0]
    omega
  | day d' z =>
    show 0 + sumR n (fun d => (if d = d' then pr T.d z else 0) + sumR (len d) (fun _ => 0)) ≤ pr T.d z
    rw [sumR_congr n (g := fun d => if d = d' then pr T.d z else 0) fun d _ => by rw [sumR_zero, Int.add_zero], sumR_ind]
    have : 0 ≤ pr T.d z := pn
    split <;> omega
  | single d' i' z =>
    have hp : 0 ≤ pr T.s z := pn
    show 0 + sumR n (fun d => 0 + sumR (len d) (fun i => if d = d' then (if i = i' then pr T.s z else 0) else 0)) ≤ pr T.s z
    have h1 := sumR_le n (f := fun d => 0 + sumR (len d) (fun i => if d = d' then (if i = i' then pr T.s z else 0) else 0)) (g := fun d => if d = d' then pr T.s z else 0) fun d _ => by
      show 0 + sumR (len d) (fun i => if d = d' then (if i = i' then pr T.s z else 0) else 0) ≤ _
      by_cases e : d = d'
      · have e2 : sumR (len d) (fun i => if d = d' then (if i = i' then pr T.s z else 0) else 0) = sumR (len d) (fun i => if i = i' then pr T.s z else 0) := sumR_congr _ fun i _ => if_pos e
        rw [e2, sumR_ind, if_pos e]
        split <;> omega
      · have e2 : sumR (len d) (fun i => if d = d' then (if i = i' then pr T.s z else 0) else 0) = sumR (len d) (fun _ => 0) := sumR_congr _ fun i _ => if_neg e
        rw [e2, sumR_zero, if_neg e]
        omega
    rw [sumR_ind] at h1
    split at h1 <;> omega
theorem parts_all (ok : T.Ok) (n : Nat) (len : Nat → Nat) : ∀ ts : List Tk, (∀ t, t ∈ ts → t.Ok) →
    (ts.map (wC T)).sum + sumR n (fun d => (ts.map (dC T d)).sum + sumR (len d) (fun i => (ts.map (sC T d i)).sum)) ≤ cost T ts
  | [], _ => by
    have z0 : sumR n (fun d => (0 : Int) + sumR (len d) (fun _ => 0)) = 0 := by
      rw [sumR_congr n (g := fun _ => 0) fun d _ => by rw [sumR_zero]; rfl]
      exact sumR_zero n
    show 0 + sumR n (fun d => (0 : Int) + sumR (len d) (fun _ => 0)) ≤ 0
    rw [z0]
    omega
  | t :: ts, h => by
    have ih := parts_all ok n len ts fun u m => h u (List.mem_cons_of_mem _ m)
    have h1 := parts_one ok n len (h t List.mem_cons_self)
    have e : sumR n (fun d => ((t :: ts).map (dC T d)).sum + sumR (len d) (fun i => ((t :: ts).map (sC T d i)).sum)) =
        sumR n (fun d => dC T d t + sumR (len d) (fun i => sC T d i t)) + sumR n (fun d => (ts.map (dC T d)).sum + sumR (len d) (fun i => (ts.map (sC T d i)).sum)) := by
      rw [← sumR_add]
      refine sumR_congr n fun d _ => ?_
      have e2 : sumR (len d) (fun i => ((t :: ts).map (sC T d i)).sum) = sumR (len d) (fun i => sC T d i t) + sumR (len d) (fun i => (ts.map (sC T d i)).sum) := by
        rw [← sumR_add]
        exact sumR_congr _ fun i _ => by rw [List.map_cons, List.sum_cons]
      rw [e2, List.map_cons, List.sum_cons]
      omega
    rw [e, List.map_cons, List.sum_cons]
    have e3 : cost T (t :: ts) = t.price T + cost T ts := by
      unfold cost
      rw [List.map_cons, List.sum_cons]
    rw [e3]
    omega
def maxW : List Tk → Nat
  | [] => 0
  | .week z :: r => max z (maxW r)
  | _ :: r => maxW r
def maxD (d : Nat) : List Tk → Nat
  | [] => 0
  | .day d' z :: r => if d = d' then max z (maxD d r) else maxD d r
  | _ :: r => maxD d r
theorem maxW_le : ∀ {ts : List Tk}, (∀ t, t ∈ ts → t.Ok) → maxW ts ≤ 5
  | [], _ => Nat.zero_le _
  | .week z :: r, h => Nat.max_le.mpr ⟨(h _ List.mem_cons_self).2, maxW_le fun t m => h t (List.mem_cons_of_mem _ m)⟩
  | .day _ _ :: r, h => maxW_le (ts := r) fun t m => h t (List.mem_cons_of_mem _ m)
  | .single _ _ _ :: r, h => maxW_le (ts := r) fun t m => h t (List.mem_cons_of_mem _ m)
theorem maxD_le (d : Nat) : ∀ {ts : List Tk}, (∀ t, t ∈ ts → t.Ok) → maxD d ts ≤ 5
  | [], _ => Nat.zero_le _
  | .week _ :: r, h => maxD_le d (ts := r) fun t m => h t (List.mem_cons_of_mem _ m)
  | .day d' z :: r, h => by
    have ih := maxD_le d (ts := r) fun t m => h t (List.mem_cons_of_mem _ m)
    show (if d = d' then max z (maxD d r) else maxD d r) ≤ 5
    split
    · exact Nat.max_le.mpr ⟨(h _ List.mem_cons_self).2, ih⟩
    · exact ih
  | .single _ _ _ :: r, h => maxD_le d (ts := r) fun t m => h t (List.mem_cons_of_mem _ m)
theorem in_maxW {z : Nat} : ∀ {ts : List Tk}, Tk.week z ∈ ts → z ≤ maxW ts
  | [], h => by simp at h
  | .week y :: r, h => by
    rcases List.mem_cons.mp h with e | h
    · cases e
      exact Nat.le_max_left _ _
    · exact Nat.le_trans (in_maxW h) (Nat.le_max_right _ _)
  | .day _ _ :: r, h => by
    rcases List.mem_cons.mp h with e | h
    · cases e
    · exact in_maxW (ts := r) h
  | .single _ _ _ :: r, h => by
    rcases List.mem_cons.mp h with e | h
    · cases e
    · exact in_maxW (ts := r) h
theorem in_maxD {d z : Nat} : ∀ {ts : List Tk}, Tk.day d z ∈ ts → z ≤ maxD d ts
  | [], h => by simp at h
  | .week _ :: r, h => by
    rcases List.mem_cons.mp h with e | h
    · cases e
    · exact in_maxD (ts := r) h
  | .day d' y :: r, h => by
    show z ≤ if d = d' then max y (maxD d r) else maxD d r
    rcases List.mem_cons.mp h with e | h
    · cases e
      rw [if_pos rfl]
      exact Nat.le_max_left _ _
    · have := in_maxD (ts := r) h
      split
      · exact Nat.le_trans this (Nat.le_max_right _ _)
      · exact this
  | .single _ _ _ :: r, h => by
    rcases List.mem_cons.mp h with e | h
    · cases e
    · exact in_maxD (ts := r) h
theorem op_max {row : Row} (hr : ∀ j, 1 ≤ j → j ≤ 5 → 0 ≤ pr row j) {z m : Nat} {x : Int} (hz : 1 ≤ z ∧ z ≤ 5) (hx : 0 ≤ x) (h : op row m ≤ x) : op row (max z m) ≤ pr row z + x := by
  have p0 := hr z hz.1 hz.2
  rcases Nat.le_total z m with c | c
  · rw [Nat.max_eq_right c]
    omega
  · rw [Nat.max_eq_left c]
    have e : op row z = best row z := if_neg (by omega)
    have := best_le row hz.1 (Nat.le_refl z) hz.2
    omega
theorem maxW_cost (ok : T.Ok) : ∀ {ts : List Tk}, (∀ t, t ∈ ts → t.Ok) → op T.w (maxW ts) ≤ (ts.map (wC T)).sum
  | [], _ => Int.le_refl _
  | .week z :: r, h => by
    have hr := fun t m => h t (List.mem_cons_of_mem _ m)
    rw [List.map_cons, List.sum_cons]
    exact op_max ok.w (h _ List.mem_cons_self) (sum_nonneg fun t m => wC_nonneg ok (hr t m)) (maxW_cost ok hr)
  | .day d z :: r, h => by
    rw [List.map_cons, List.sum_cons]
    have := maxW_cost ok (ts := r) fun t m => h t (List.mem_cons_of_mem _ m)
    show op T.w (maxW r) ≤ 0 + _
    omega
  | .single d i z :: r, h => by
    rw [List.map_cons, List.sum_cons]
    have := maxW_cost ok (ts := r) fun t m => h t (List.mem_cons_of_mem _ m)
    show op T.w (maxW r) ≤ 0 + _
    omega
theorem maxD_cost (ok : T.Ok) (d : Nat) : ∀ {ts : List Tk}, (∀ t, t ∈ ts → t.Ok) → op T.d (maxD d ts) ≤ (ts.map (dC T d)).sum
  | [], _ => Int.le_refl _
  | .week z :: r, h => by
    rw [List.map_cons, List.sum_cons]
    have := maxD_cost ok d (ts := r) fun t m => h t (List.mem_cons_of_mem _ m)
    show op T.d (maxD d r) ≤ 0 + _
    omega
  | .day d' z :: r, h => by
    have hr := fun t m => h t (List.mem_cons_of_mem _ m)
    have ih := maxD_cost ok d hr
    rw [List.map_cons, List.sum_cons]
    show op T.d (if d = d' then max z (maxD d r) else maxD d r) ≤ (if d = d' then pr T.d z else 0) + _
    split
    · exact op_max ok.d (h _ List.mem_cons_self) (sum_nonneg fun t m => dC_nonneg ok (hr t m)) ih
    · omega
  | .single d' i z :: r, h => by
    rw [List.map_cons, List.sum_cons]
    have := maxD_cost ok d (ts := r) fun t m => h t (List.mem_cons_of_mem _ m)
    show op T.d (maxD d r) ≤ 0 + _
    omega
theorem mem_sum_le {α : Type} {f : α → Int} {a : α} : ∀ {l : List α}, (∀ b, b ∈ l → 0 ≤ f b) → a ∈ l → f a ≤ (l.map f).sum
  | [], _, m => by simp at m
  | b :: l, h, m => by
    rw [List.map_cons, List.sum_cons]
    rcases List.mem_cons.mp m with e | m
    · rw [← e]
      have := sum_nonneg (f := f) (l := l) fun c mc => h c (List.mem_cons_of_mem _ mc)
      omega
    · have := mem_sum_le (l := l) (fun c mc => h c (List.mem_cons_of_mem _ mc)) m
      have := h b List.mem_cons_self
      omega
/-- any tickets that serve all rides cost no less than the least -/
theorem leastF_le (ok : T.Ok) {days : List (List Nat)} (h5 : In5 days) {ts : List Tk} (hok : ∀ t, t ∈ ts → t.Ok) (hs : AllServed ts days) : leastF T days ≤ cost T ts := by
  have h0 := parts_all ok days.length (fun d => (days.getD d []).length) ts hok
  have hw := maxW_cost ok hok
  have h1 := m6_le (fun w => weekF T w days) (maxW_le hok)
  have h2 : leastF T days ≤ op T.w (maxW ts) + (days.map (dayF T (maxW ts))).sum := h1
  rw [sum_sumR (dayF T (maxW ts)) [] days] at h2
  have h3 := sumR_le days.length (f := fun d => dayF T (maxW ts) (days.getD d [])) (g := fun d => (ts.map (dC T d)).sum + sumR ((days.getD d []).length) (fun i => (ts.map (sC T d i)).sum)) fun d hd => by
    have ed : days[d]? = some (days.getD d []) := by
      rw [List.getD_eq_getElem?_getD, List.getElem?_eq_getElem hd]
      rfl
    have a := m6_le (fun o => op T.d o + restF T (max (maxW ts) o) (days.getD d [])) (maxD_le d hok)
    have a2 : dayF T (maxW ts) (days.getD d []) ≤ op T.d (maxD d ts) + restF T (max (maxW ts) (maxD d ts)) (days.getD d []) := a
    have b := maxD_cost ok d hok
    unfold restF at a2
    rw [sum_sumR (need T (max (maxW ts) (maxD d ts))) 0] at a2
    have c := sumR_le (days.getD d []).length (f := fun i => need T (max (maxW ts) (maxD d ts)) ((days.getD d []).getD i 0)) (g := fun i => (ts.map (sC T d i)).sum) fun i hi => by
      have ei : (days.getD d [])[i]? = some ((days.getD d []).getD i 0) := by
        rw [List.getD_eq_getElem?_getD (l := days.getD d []), List.getElem?_eq_getElem hi]
        rfl
      have sn : 0 ≤ (ts.map (sC T d i)).sum := sum_nonneg fun t m => sC_nonneg ok (hok t m)
      show need T _ _ ≤ _
      unfold need
      split
      · exact sn
      · rename_i nz
        obtain ⟨t, mt, st⟩ := hs d i _ _ ed ei
        cases t with
        | week z' =>
          have : (days.getD d []).getD i 0 ≤ z' := st
          have := in_maxW mt
          exact absurd (Nat.le_trans (by omega : (days.getD d []).getD i 0 ≤ maxW ts) (Nat.le_max_left _ _)) nz
        | day d' z' =>
          obtain ⟨rfl, st⟩ := st
          have := in_maxD mt
          exact absurd (Nat.le_trans (by omega : (days.getD d []).getD i 0 ≤ maxD d ts) (Nat.le_max_right _ _)) nz
        | single d' i' z' =>
          obtain ⟨rfl, rfl, st⟩ := st
          have := mem_sum_le (f := sC T d i) (fun t m => sC_nonneg ok (hok t m)) mt
          have e : sC T d i (.single d i z') = pr T.s z' := by
            show (if d = d then (if i = i then pr T.s z' else 0) else 0) = _
            rw [if_pos rfl, if_pos rfl]
          rw [e] at this
          have hz1 := h5 _ (List.mem_of_getElem? ed) _ (List.mem_of_getElem? ei)
          exact Int.le_trans (best_le T.s hz1.1 st (hok _ mt).2) this
    show dayF T (maxW ts) (days.getD d []) ≤ _
    omega
  omega
end
end FT

end
section
set_option autoImplicit false
set_option linter.all false
namespace FT
/-! Counts of rides by their zones; the cheapest plan: plain mathematics. -/
def cnt (zs : List Nat) : List Nat := (List.range 6).map fun z => zs.count z
theorem cnt_len (zs : List Nat) : (cnt zs).length = 6 := by unfold cnt; rw [List.length_map, List.length_range]
theorem cnt_get {zs : List Nat} {z : Nat} (h : z < 6) : (cnt zs)[z]? = some (zs.count z) := by
  unfold cnt
  rw [List.getElem?_map, List.getElem?_range h]
  rfl
theorem cnt_nil : cnt [] = List.replicate 6 0 := rfl
theorem cnt_snoc {zs : List Nat} {z : Nat} : cnt (zs ++ [z]) = (cnt zs).set z (zs.count z + 1) := by
  apply List.ext_getElem?
  intro i
  rw [List.getElem?_set, cnt_len]
  by_cases hi : i < 6
  · rw [cnt_get hi, List.count_append]
    by_cases e : z = i
    · subst e
      rw [if_pos rfl, if_pos hi, List.count_singleton_self]
    · rw [if_neg e, cnt_get hi, List.count_singleton, if_neg (by simpa using e)]
      rfl
  · rw [List.getElem?_eq_none (by rw [cnt_len]; omega)]
    by_cases e : z = i
    · rw [if_pos e, if_neg (by omega)]
    · rw [if_neg e, List.getElem?_eq_none (by rw [cnt_len]; omega)]
theorem count_le_length (z : Nat) (zs : List Nat) : zs.count z ≤ zs.length := List.count_le_length
section
variable {T : Tar}
theorem need_step {z x : Nat} (hz : 1 ≤ z) (hx : 1 ≤ x) : need T (z - 1) x = need T z x + if x = z then best T.s z else 0 := by
  unfold need
  by_cases e : x = z
  · subst e
    rw [if_neg (by omega), if_pos (Nat.le_refl _), if_pos rfl]
    omega
  · rw [if_neg e]
    by_cases c : x ≤ z
    · rw [if_pos c, if_pos (by omega)]
      omega
    · rw [if_neg c, if_neg (by omega)]
      omega
theorem rest_step {z : Nat} (hz : 1 ≤ z) : ∀ {zs : List Nat}, (∀ x, x ∈ zs → 1 ≤ x ∧ x ≤ 5) → restF T (z - 1) zs = restF T z zs + (zs.count z : Nat) * best T.s z
  | [], _ => by
    show (0 : Int) = 0 + ((0 : Nat) : Int) * _
    simp
  | x :: zs, h => by
    have ih := rest_step hz (zs := zs) fun y m => h y (List.mem_cons_of_mem _ m)
    have e1 : restF T (z - 1) (x :: zs) = need T (z - 1) x + restF T (z - 1) zs := by
      unfold restF
      rw [List.map_cons, List.sum_cons]
    have e2 : restF T z (x :: zs) = need T z x + restF T z zs := by
      unfold restF
      rw [List.map_cons, List.sum_cons]
    rw [e1, e2, ih, need_step hz (h x List.mem_cons_self).1, List.count_cons]
    by_cases e : x = z
    · subst e
      rw [if_pos rfl, if_pos (by simp)]
      rw [Int.natCast_add, Int.add_mul]
      show need T x x + best T.s x + (restF T x zs + _) = need T x x + restF T x zs + (_ + 1 * best T.s x)
      rw [Int.one_mul]
      omega
    · rw [if_neg e, if_neg (by simpa using e)]
      show _ = need T z x + restF T z zs + ((zs.count z + 0 : Nat) : Int) * _
      rw [Nat.add_zero]
      omega
theorem rest_five {zs : List Nat} (h : ∀ x, x ∈ zs → 1 ≤ x ∧ x ≤ 5) : restF T 5 zs = 0 := rest_zero fun x m => (h x m).2
/-- what is least over 0 to 5 is m6 -/
theorem m6_pick {f : Nat → Int} {o : Nat} (ho : o ≤ 5) (h : ∀ i, i ≤ 5 → f o ≤ f i) : f o = m6 f := Int.le_antisymm (m6_ge f h) (m6_le f ho)
/-- the tickets of a plan: zones w of the week's, ds of the days' -/
structure Good (T : Tar) (days : List (List Nat)) (w : Nat) (ds : List Nat) : Prop where
  w5 : w ≤ 5
  len : ds.length = days.length
  at_ : ∀ (i : Nat) (d : Nat) (zs : List Nat), ds[i]? = some d → days[i]? = some zs → d ≤ 5 ∧ op T.d d + restF T (max w d) zs = dayF T w zs
  least : op T.w w + (days.map (dayF T w)).sum = leastF T days
theorem cost_append (ts us : List Tk) : cost T (ts ++ us) = cost T ts + cost T us := by
  unfold cost
  rw [List.map_append, List.sum_append]
theorem cost_one (t : Tk) : cost T [t] = t.price T := by
  unfold cost
  rw [List.map_singleton, List.sum_singleton]
theorem get_snoc {α : Type} {l : List α} {a x : α} {i : Nat} (h : (l ++ [a])[i]? = some x) : l[i]? = some x ∨ (i = l.length ∧ x = a) := by
  rw [List.getElem?_append] at h
  split at h
  · exact .inl h
  · rename_i hi
    have := (List.getElem?_eq_some_iff.mp h).1
    simp at this
    have e : i = l.length := by omega
    subst e
    rw [Nat.sub_self] at h
    cases h
    exact .inr ⟨rfl, rfl⟩
/-- singles for the rides of one day of more than h zones -/
structure SinOk (T : Tar) (d h : Nat) (zs : List Nat) (ts : List Tk) : Prop where
  mem : ∀ t, t ∈ ts → ∃ i k, i < zs.length ∧ t = .single d i k ∧ 1 ≤ k ∧ k ≤ 5
  srv : ∀ i z, zs[i]? = some z → ¬ z ≤ h → ∃ k, Tk.single d i k ∈ ts ∧ z ≤ k
  cost : cost T ts = restF T h zs
  len : ts.length ≤ zs.length
theorem SinOk.nil {d h : Nat} : SinOk T d h [] [] := ⟨fun t m => by simp at m, fun i z e => by simp at e, rfl, Nat.le_refl _⟩
theorem SinOk.skip {d h : Nat} {zs : List Nat} {ts : List Tk} (o : SinOk T d h zs ts) {z : Nat} (c : z ≤ h) : SinOk T d h (zs ++ [z]) ts := by
  refine ⟨fun t m => ?_, fun i x e n => ?_, ?_, ?_⟩
  · obtain ⟨i, k, a, b, c⟩ := o.mem t m
    exact ⟨i, k, by rw [List.length_append]; omega, b, c⟩
  · rcases get_snoc e with e | ⟨_, rfl⟩
    · exact o.srv i x e n
    · exact absurd c n
  · rw [rest_snoc, need_zero c, o.cost]
    omega
  · have := o.len
    rw [List.length_append]
    omega
theorem SinOk.take {d h : Nat} {zs : List Nat} {ts : List Tk} (o : SinOk T d h zs ts) {z k : Nat} (c : ¬ z ≤ h) (hz : 1 ≤ z) (zk : z ≤ k) (k5 : k ≤ 5) (e : pr T.s k = best T.s z) : SinOk T d h (zs ++ [z]) (ts ++ [.single d zs.length k]) := by
  refine ⟨fun t m => ?_, fun i x e' n => ?_, ?_, ?_⟩
  · rcases List.mem_append.mp m with m | m
    · obtain ⟨i, k, a, b, c⟩ := o.mem t m
      exact ⟨i, k, by rw [List.length_append]; omega, b, c⟩
    · exact ⟨zs.length, k, by rw [List.length_append]; simp, List.mem_singleton.mp m, by omega, k5⟩
  · rcases get_snoc e' with e' | ⟨rfl, rfl⟩
    · obtain ⟨k', a, b⟩ := o.srv i x e' n
      exact ⟨k', List.mem_append_left _ a, b⟩
    · exact ⟨k, List.mem_append_right _ (List.mem_singleton.mpr rfl), zk⟩
  · rw [rest_snoc, cost_append, cost_one, o.cost]
    have : need T h z = best T.s z := if_neg c
    rw [this]
    show _ + pr T.s k = _
    rw [e]
  · have := o.len
    rw [List.length_append, List.length_append]
    simp
    omega
def TkIn (days : List (List Nat)) : Tk → Prop
  | .week _ => True
  | .day d _ => d < days.length
  | .single d i _ => ∃ zs, days[d]? = some zs ∧ i < zs.length
/-- the tickets of the first n days -/
structure PlOk (T : Tar) (days : List (List Nat)) (w n : Nat) (ts : List Tk) : Prop where
  mem : ∀ t, t ∈ ts → t.Ok ∧ TkIn days t
  wk : 0 < w → ∃ k, Tk.week k ∈ ts ∧ w ≤ k
  srv : ∀ d i z zs, d < n → days[d]? = some zs → zs[i]? = some z → ∃ t, t ∈ ts ∧ t.Serves d i z
  cost : cost T ts = op T.w w + ((days.take n).map (dayF T w)).sum
  len : ts.length ≤ 1 + ((days.take n).map fun zs => zs.length + 1).sum
theorem PlOk.none {days : List (List Nat)} : PlOk T days 0 0 [] := ⟨fun t m => by simp at m, fun h => absurd h (Nat.lt_irrefl 0), fun d i z zs h => absurd h (Nat.not_lt_zero d), rfl, Nat.zero_le _⟩
theorem PlOk.week {days : List (List Nat)} {w k : Nat} (hw : 0 < w) (wk : w ≤ k) (k5 : k ≤ 5) (e : pr T.w k = best T.w w) : PlOk T days w 0 [.week k] := by
  refine ⟨fun t m => ?_, fun _ => ⟨k, List.mem_singleton.mpr rfl, wk⟩, fun d i z zs h => absurd h (Nat.not_lt_zero d), ?_, Nat.le_refl _⟩
  · rw [List.mem_singleton.mp m]
    exact ⟨⟨by omega, k5⟩, trivial⟩
  · rw [cost_one]
    have : op T.w w = best T.w w := if_neg (by omega)
    rw [this]
    show pr T.w k = best T.w w + 0
    omega
/-- a day more: its ticket, or none, and its singles -/
theorem PlOk.more {days : List (List Nat)} {w n d : Nat} {zs : List Nat} {ts ds us : List Tk} (o : PlOk T days w n ts) (e : days[n]? = some zs) (h1 : ∀ z, z ∈ zs → 1 ≤ z ∧ z ≤ 5) (ed : op T.d d + restF T (max w d) zs = dayF T w zs)
    (hd : (d = 0 ∧ ds = []) ∨ ∃ k, 0 < d ∧ d ≤ k ∧ k ≤ 5 ∧ pr T.d k = best T.d d ∧ ds = [.day n k]) (s : SinOk T n (max w d) zs us) : PlOk T days w (n + 1) (ts ++ ds ++ us) := by
  have hn : n < days.length := (List.getElem?_eq_some_iff.mp e).1
  have et : days.take (n + 1) = days.take n ++ [zs] := by
    rw [List.take_add_one, e]
    rfl
  have cd : FT.cost T ds = op T.d d := by
    rcases hd with ⟨rfl, rfl⟩ | ⟨k, a, b, c, e, rfl⟩
    · rfl
    · rw [cost_one]
      have : op T.d d = best T.d d := if_neg (by omega)
      rw [this, ← e]
      rfl
  have ld : ds.length ≤ 1 := by
    rcases hd with ⟨_, rfl⟩ | ⟨k, _, _, _, _, rfl⟩
    · exact Nat.zero_le _
    · exact Nat.le_refl _
  refine ⟨fun t m => ?_, fun hw => ?_, fun d' i z zs' hl e1 e2 => ?_, ?_, ?_⟩
  · rcases List.mem_append.mp m with m | m
    · rcases List.mem_append.mp m with m | m
      · exact o.mem t m
      · rcases hd with ⟨_, rfl⟩ | ⟨k, a, b, c, e, rfl⟩
        · simp at m
        · rw [List.mem_singleton.mp m]
          exact ⟨⟨by omega, c⟩, hn⟩
    · obtain ⟨i, k, a, rfl, b⟩ := s.mem t m
      exact ⟨b, zs, e, a⟩
  · obtain ⟨k, a, b⟩ := o.wk hw
    exact ⟨k, List.mem_append_left _ (List.mem_append_left _ a), b⟩
  · rcases Nat.lt_succ_iff_lt_or_eq.mp hl with hl | hl
    · obtain ⟨t, a, b⟩ := o.srv d' i z zs' hl e1 e2
      exact ⟨t, List.mem_append_left _ (List.mem_append_left _ a), b⟩
    · subst hl
      rw [e] at e1
      cases e1
      have hz := h1 z (List.mem_of_getElem? e2)
      by_cases c : z ≤ max w d
      · by_cases cw : z ≤ w
        · obtain ⟨k, a, b⟩ := o.wk (by omega)
          exact ⟨_, List.mem_append_left _ (List.mem_append_left _ a), show z ≤ k by omega⟩
        · have zd : z ≤ d := by omega
          rcases hd with ⟨rfl, _⟩ | ⟨k, a, b, _, _, rfl⟩
          · omega
          · exact ⟨_, List.mem_append_left _ (List.mem_append_right _ (List.mem_singleton.mpr rfl)), rfl, show z ≤ k by omega⟩
      · obtain ⟨k, a, b⟩ := s.srv i z e2 c
        exact ⟨_, List.mem_append_right _ a, rfl, rfl, b⟩
  · rw [cost_append, cost_append, o.cost, cd, s.cost, et, List.map_append, List.sum_append, List.map_singleton, List.sum_singleton, ← ed]
    omega
  · have a := o.len
    have b := s.len
    rw [et, List.map_append, List.sum_append, List.map_singleton, List.sum_singleton, List.length_append, List.length_append]
    omega
theorem PlOk.all {days : List (List Nat)} {w : Nat} {ts : List Tk} (o : PlOk T days w days.length ts) : AllServed ts days := fun d i z zs e1 e2 => o.srv d i z zs (List.getElem?_eq_some_iff.mp e1).1 e1 e2
end
end FT

end
namespace FW
open PySem PySem.Spec PyProof.Rows L2
/-! ### the text by places -/
def top (i : Nat) : Stmt := PySem.Challenge.pw_fareweb_k06_tickets_that_serve.main.body.getD i (.Pass ⟨0, 0, 0, 0⟩)
section
variable {P : Program} {w : World} {K : PySem.W.Frag} {mg : Str → Option Value} {base : Heap} {C CL CS CN : Addr}
inductive All2 {α β : Type} (R : α → β → Prop) : List α → List β → Prop
  | nil : All2 R [] []
  | cons {a : α} {b : β} {as : List α} {bs : List β} : R a b → All2 R as bs → All2 R (a :: as) (b :: bs)
theorem All2.len {α β : Type} {R : α → β → Prop} {as : List α} {bs : List β} (h : All2 R as bs) : as.length = bs.length := by
  induction h with
  | nil => rfl
  | cons _ _ ih => rw [List.length_cons, List.length_cons, ih]
theorem All2.imp {α β : Type} {R S : α → β → Prop} (f : ∀ a b, R a b → S a b) {as : List α} {bs : List β} (h : All2 R as bs) : All2 S as bs := by
  induction h with
  | nil => exact .nil
  | cons r _ ih => exact .cons (f _ _ r) ih
theorem All2.imp_mem {α β : Type} {R S : α → β → Prop} {as : List α} {bs : List β} (h : All2 R as bs) (f : ∀ a b, a ∈ as → R a b → S a b) : All2 S as bs := by
  induction h with
  | nil => exact .nil
  | cons r _ ih => exact .cons (f _ _ List.mem_cons_self r) (ih fun a b m => f a b (List.mem_cons_of_mem _ m))
theorem All2.app {α β : Type} {R : α → β → Prop} {as cs : List α} {bs ds : List β} (h : All2 R as bs) (g : All2 R cs ds) : All2 R (as ++ cs) (bs ++ ds) := by
  induction h with
  | nil => exact g
  | cons r _ ih => exact .cons r ih
theorem All2.one {α β : Type} {R : α → β → Prop} {a : α} {b : β} (r : R a b) : All2 R [a] [b] := .cons r .nil
theorem All2.get {α β : Type} {R : α → β → Prop} {as : List α} {bs : List β} (h : All2 R as bs) {i : Nat} {b : β} (e : bs[i]? = some b) : ∃ a, as[i]? = some a ∧ R a b := by
  induction h generalizing i with
  | nil => simp at e
  | cons r _ ih =>
    cases i with
    | zero =>
      cases e
      exact ⟨_, rfl, r⟩
    | succ i => exact ih (i := i) e
theorem All2.getL {α β : Type} {R : α → β → Prop} {as : List α} {bs : List β} (h : All2 R as bs) {i : Nat} {a : α} (e : as[i]? = some a) : ∃ b, bs[i]? = some b ∧ R a b := by
  induction h generalizing i with
  | nil => simp at e
  | cons r _ ih =>
    cases i with
    | zero =>
      cases e
      exact ⟨_, rfl, r⟩
    | succ i => exact ih (i := i) e
theorem All2.set {α β : Type} {R : α → β → Prop} {as : List α} {bs : List β} (h : All2 R as bs) {i : Nat} {a : α} {b : β} (ea : as[i]? = some a) (r : R a b) : All2 R as (bs.set i b) := by
  induction h generalizing i with
  | nil => simp at ea
  | cons r' h' ih =>
    cases i with
    | zero =>
      cases ea
      exact .cons r h'
    | succ i => exact .cons r' (ih (i := i) ea)
theorem All2.snoc {α β : Type} {R : α → β → Prop} {as : List α} {bs : List β} {b : β} (h : All2 R as (bs ++ [b])) : ∃ as' a, as = as' ++ [a] ∧ All2 R as' bs ∧ R a b := by
  induction bs generalizing as with
  | nil =>
    cases h with
    | cons r t =>
      cases t
      exact ⟨[], _, rfl, .nil, r⟩
  | cons x bs ih =>
    cases h with
    | cons r t =>
      obtain ⟨as', a, e, h', r'⟩ := ih t
      exact ⟨_ :: as', a, by rw [e]; rfl, .cons r h', r'⟩
theorem All2.of_get {α β : Type} {R : α → β → Prop} : ∀ {as : List α} {bs : List β}, as.length = bs.length → (∀ (i : Nat) (a : α) (b : β), as[i]? = some a → bs[i]? = some b → R a b) → All2 R as bs
  | [], [], _, _ => .nil
  | a :: as, b :: bs, h, f => .cons (f 0 a b rfl rfl) (All2.of_get (Nat.succ.inj h) fun i a b e1 e2 => f (i + 1) a b e1 e2)
  | [], _ :: _, h, _ => nomatch h
  | _ :: _, [], h, _ => nomatch h
theorem All2.at {α β : Type} {R : α → β → Prop} {as : List α} {bs : List β} (h : All2 R as bs) {i : Nat} {a : α} {b : β} (e1 : as[i]? = some a) (e2 : bs[i]? = some b) : R a b := by
  obtain ⟨a', e, r⟩ := h.get e2
  rw [e1] at e
  cases e
  exact r
theorem same_upd {H : Hp} {p : Addr} {o : HO} (h : H p = none) : Same H (upd H p o) := fun b x e => by
  rw [upd_ne (ne_of_none e h)]
  exact e
structure ErrT (K : PySem.W.Frag) (mg : Str → Option Value) (nm : Str) (C : Addr) : Prop where
  g : mg nm = some (.ref C)
  x : PySem.W.excIn K C [.type "ValueError", .type "Exception", .type "BaseException", .type "object"] "ValueError.__new__" = true
  k : PySem.W.keepIn K (.ref C) = true
  b : PySem.W.subIn K (.ref C) (.type "BaseException") = some true
  t : PySem.W.typeIn K (.ref C) = some (.type "type")
theorem ErrT.raises {X : Cx} {nm : Str} {C : Addr} (T : ErrT X.K X.mg nm C) : Raises X (.ref C) := raises_own T.b T.t
theorem nd_of {p : Prop} [Decidable p] (e : (!decide p) = true) : ¬ p := fun z => by
  rw [decide_eq_true z] at e
  cases e
theorem d_of {p : Prop} [Decidable p] (e : ¬ (!decide p) = true) : p := by
  by_cases z : p
  · exact z
  · exact absurd (by rw [decide_eq_false z]; rfl) e
theorem okN {x qual : Str} {st : Stmt} {f : Addr} {fd : FuncData} {N ps : List Str} {k : Nat} {sp : L2.Sp} (F : Fun K x qual st f fd) (S : FnScope N ps (defScope st)) (len : ∀ vs H Q E, sp vs H Q E → vs.length = ps.length)
    (body : ∀ (cdv : Value) (A : Around) (outer : List Env) (s : Shared) (H : Hp) (vs : List V) (Q : VK) (E : XK), Room k (A.deeper (envOfC qual (defScope st) s.heap.objs.size f cdv)) → sp vs H Q E →
      ∃ t, PSs (cxOf (L2N.CX P w) P w K mg base N qual (defScope st) f cdv A outer s H E) (defBody st) t ∧ t { nx := fun _ H' => Q .non H', rt := Q } (L2.start N vs) H) :
    FnOk P w K mg base (L2N.CX P w) (k + 1) f fd ps sp := by
  obtain ⟨_, _, _, _, _, _, cdv, _, _, rfl, at_f, code⟩ := F.ex
  exact fn_of at_f code S len fun A outer s H vs Q E room promised => body cdv A outer s H vs Q E room promised
theorem passN {X : Cx} : Passes (L2N.CX X.prog X.w) X E0 := by
  rintro _ _ _ _ _ _ _ ⟨_, _, _, _, _, _, _, _, _, _, _, _, z⟩
  exact z.elim
theorem pmk_msg {X : Cx} {C : Addr} {nm m : Str} {j : Nat} {p p2 pos : Pos} (T : ErrT X.K X.mg nm C) (hg : Gl X nm) (hdb : (nm == ("__debug__" : Str)) = false := by decide) :
    L2N.PMk X (.Call (.Name nm p) [.Constant (.str m) j p2] [] pos) (fun _ H Q => Q (.ref C) none H) := L2N.pmk_own PySem.F.excBase_ValueError T.x T.g T.k T.raises hg hdb
/-- the same with one argument of any form -/
theorem pmk_one {X : Cx} {C : Addr} {nm : Str} {e : Expr} {ta : TE} {p pos : Pos} (T : ErrT X.K X.mg nm C) (hg : Gl X nm) (he : PE X e ta) (hs : starEach [e] X.env = (false, eval e X.env) :: starEach [] X.env := by rfl)
    (hdb : (nm == ("__debug__" : Str)) = false := by decide) : L2N.PMk X (.Call (.Name nm p) [e] [] pos) (fun σ H Q => ta σ H fun _ H1 => Q (.ref C) none H1) := by
  intro pins st σ H Q inv reading
  refine wpAny_Call_Name_kw (ld_glob inv hg T.g ?_ hdb)
  refine PySem.W.callWith_K (h₀ := X.base) inv.ok.mod.kin T.k ?_ hs (by rfl)
  rw [hs]
  show wpAny _ _ (spliced ((false, eval e X.env) :: backTo pos (starEach [] X.env))) _ _ st
  refine Calls.spliced_cons (thn (he.run pins st σ H _ inv reading) fun made behind ⟨_, _, inv1, _, wish⟩ => ?_)
  refine Calls.spliced_nil ⟨inv1.kIn, ?_⟩
  show wpAny _ _ (call (.ref C) [made]) _ _ _
  obtain ⟨_, _, _, _, _, _, _, _, _, _, _, _, _, _, _, _, _, there, names, none_init, tail⟩ := exc_obj inv1.kIn T.x
  refine wpAny_call_exc_subT PySem.F.excBase_ValueError tail there names none_init (fun heap new is_made => ?_) (by show 1 ≤ sizeLine; rw [sizeLine_eq]; decide)
  exact L2N.mk_of inv1 is_made T.raises wish (inv1.hok.gone is_made.new)
theorem log_small {i : Int} (h0 : 0 ≤ i) (h : i < 100000) : i.natAbs.log2 < 1920 := by
  have h1 : i.natAbs < 2 ^ 1920 := by
    have : i.natAbs < 100000 := by omega
    exact Nat.lt_of_lt_of_le this (by decide +kernel)
  by_cases hz : i.natAbs = 0
  · rw [hz]
    decide +kernel
  · exact (Nat.log2_lt hz).mpr h1
theorem text_le {x y : Str} {m n k : Nat} (hx : x.length ≤ m) (hy : y.length ≤ n) (h : m + n ≤ k) : (x ++ y).length ≤ k := by
  rw [PySem.Str.length_append]
  omega
theorem text_fits {x y : Str} {m n : Nat} (hx : x.length ≤ m) (hy : y.length ≤ n) (h : m + n ≤ 16777216) : (x ++ y).length ≤ sizeLine := by
  rw [sizeLine_eq]
  exact text_le hx hy h
theorem tYes_if {σ : L2.St} {H : Hp} {A B : Hp → Prop} (h : A H) : tYes σ H (fun b H3 => if b = true then A H3 else B H3) := by
  show (if true = true then A H else B H)
  rw [if_pos rfl]
  exact h
theorem upd_out {H H' : Hp} {a : Addr} {o : HO} (k : Same H H') (n : H a = none) : Same H (upd H' a o) := fun b x e => by
  rw [upd_ne (ne_of_none e n)]
  exact k b x e
theorem small_line {n : Nat} (h : n ≤ 200000) : n < sizeLine := Nat.lt_of_le_of_lt h (by rw [sizeLine_eq]; decide)
def Kept (H H' : Hp) (p : Addr) : Prop := ∀ b o, H b = some o → b ≠ p → H' b = some o
theorem Kept.of {H H1 H2 : Hp} {p : Addr} (a : Kept H H1 p) (b : Same H1 H2) : Kept H H2 p := fun c o e n => b c o (a c o e n)
theorem Kept.put {H H1 : Hp} {p : Addr} {o : HO} (a : Kept H H1 p) : Kept H (upd H1 p o) p := fun c x e n => by
  rw [upd_ne n]
  exact a c x e n
theorem Kept.new {H H1 : Hp} {p b : Addr} (k : Kept H H1 p) (n : H1 b = none) (np : b ≠ p) : H b = none := by
  cases e : H b with
  | none => rfl
  | some o =>
    rw [k b o e np] at n
    cases n
theorem ixN_nat {n i : Nat} (h : i < n) : ixN n (i : Int) = some i := by
  unfold ixN
  rw [if_pos (Int.natCast_nonneg i), if_pos (Int.ofNat_lt.mpr h)]
  rfl
end
end FW

namespace FW
open PySem PySem.Spec PyProof.Rows L2
/-! ### the law's helpers that several laws have -/
abbrev sCell : Stmt := top 25
theorem scCell : FnScope ["_law_script", "_law_k"] ["_law_script", "_law_k"] (defScope sCell) := ⟨rfl, rfl, rfl, by decide +kernel, rfl, by decide +kernel, by decide +kernel⟩
def cell (ns : List Int) (k : Nat) : Int := ns.getD k 0
/-- what the law's text asks of the built-ins -/
structure BT (mg : Str → Option Value) : Prop where
  len : mg "len" = none
  list : mg "list" = none
  range : mg "range" = none
  min : mg "min" = none
  int : mg "int" = none
section
variable {P : Program} {w : World} {K : PySem.W.Frag} {mg : Str → Option Value} {base : Heap}
def spCell (K : PySem.W.Frag) : L2.Sp := fun vs H Q _ => ∃ (a : Addr) (ns : List Int) (k : Nat), vs = [.ref a, .int k] ∧ SqL K H a (ns.map V.int) ∧ Q (.int (cell ns k)) H
theorem ok_cell {f : Addr} {fd : FuncData} (F : Fun K "_law_cell_at" "_law_cell_at" sCell f fd) (B : mg "len" = none) : FnOk P w K mg base CX0 1 f fd ["_law_script", "_law_k"] (spCell K) := by
  refine F.ok scCell (fun vs H Q E h => ?_) (fun cdv A outer s H vs Q E hr h => ?_)
  · obtain ⟨a, ns, k, rfl, _⟩ := h
    rfl
  · obtain ⟨a, ns, k, rfl, hS, q⟩ := h
    refine ⟨_, pss_cons (ps_if (pt_cmpR op_lt (pv 1) (pe_callB call_len_seq (by rfl) B PySem.boot_len (pa_cons (pv 0) pa_nil)) (nomark _)) (pss_one (ps_ret (pe_ix ix_list (pv 0) (pv 1) (fun _ _ => rfl)))) pss_nil)
      (pss_one (ps_ret pe_int)), ?_⟩
    refine ⟨_, rfl, _, rfl, a, _, rfl, .inl hS, _, _, rfl, rfl, _, rfl, ?_⟩
    rw [List.length_map]
    refine ite2 (fun e => ?_) (fun e => ?_)
    · have hk : k < ns.length := Int.ofNat_lt.mp (of_decide_eq_true e)
      have eg : ns[k]? = some (cell ns k) := by
        unfold cell
        rw [List.getD_eq_getElem?_getD, List.getElem?_eq_getElem hk]
        rfl
      exact ⟨_, rfl, _, rfl, a, _, _, _, rfl, rfl, hS, at_of (j := k) rfl (by rw [List.getElem?_map, eg]; rfl), q⟩
    · have hk : ns.length ≤ k := by
        have : ¬ ((k : Int) < ns.length) := fun z => e (decide_eq_true z)
        omega
      have eg : cell ns k = 0 := by
        unfold cell
        rw [List.getD_eq_getElem?_getD, List.getElem?_eq_none hk]
        rfl
      rw [eg] at q
      exact q
end
end FW

namespace FW
open PySem PySem.Spec PyProof.Rows L2
/-! ### tariffs: what the document asks of them, for any form of the program -/
def Five (r : List Int) : Prop := r.length = 5 ∧ ∀ x, x ∈ r → 0 ≤ x
def mn (a b : Int) : Int := if b < a then b else a
theorem mn_lt {a b : Int} (h : b < a) : mn a b = b := if_pos h
theorem mn_ge {a b : Int} (h : ¬ b < a) : mn a b = a := if_neg h
/-- the least price of a row for z zones or for more -/
def lpr (r : List Int) (z : Nat) : Int := (r.drop z).foldl mn (r.getD (z - 1) 0)
theorem foldl_mn_le : ∀ (l : List Int) (a : Int), l.foldl mn a ≤ a ∧ ∀ x, x ∈ l → l.foldl mn a ≤ x
  | [], a => ⟨Int.le_refl _, fun x m => nomatch m⟩
  | b :: l, a => by
    have h := foldl_mn_le l (mn a b)
    have h1 : mn a b ≤ a ∧ mn a b ≤ b := by unfold mn; split <;> omega
    refine ⟨Int.le_trans h.1 h1.1, fun x m => ?_⟩
    rcases List.mem_cons.mp m with rfl | m
    · exact Int.le_trans h.1 h1.2
    · exact h.2 x m
theorem foldl_mn_mem : ∀ (l : List Int) (a : Int), l.foldl mn a = a ∨ l.foldl mn a ∈ l
  | [], a => .inl rfl
  | b :: l, a => by
    rcases foldl_mn_mem l (mn a b) with h | h
    · by_cases c : b < a
      · right
        show l.foldl mn (mn a b) ∈ b :: l
        rw [h]
        unfold mn
        rw [if_pos c]
        exact List.mem_cons_self
      · left
        show l.foldl mn (mn a b) = a
        rw [h]
        unfold mn
        rw [if_neg c]
    · exact .inr (List.mem_cons_of_mem _ h)
/-- what is least of the row's prices from place z - 1 on is lpr -/
theorem lpr_iff {r : List Int} {z : Nat} (h1 : 1 ≤ z) (h2 : z ≤ r.length) (m : Int) : (m ∈ r.drop (z - 1) ∧ ∀ x, x ∈ r.drop (z - 1) → m ≤ x) ↔ m = lpr r z := by
  have hz : z - 1 < r.length := by omega
  have e : r.drop (z - 1) = r.getD (z - 1) 0 :: r.drop z := by
    rw [List.drop_eq_getElem_cons hz, show z - 1 + 1 = z by omega, List.getD_eq_getElem?_getD, List.getElem?_eq_getElem hz]
    rfl
  have hl := foldl_mn_le (r.drop z) (r.getD (z - 1) 0)
  have hm := foldl_mn_mem (r.drop z) (r.getD (z - 1) 0)
  rw [e]
  constructor
  · rintro ⟨m1, m2⟩
    have a1 : m ≤ lpr r z := by
      unfold lpr
      rcases hm with hm | hm
      · rw [hm]
        exact m2 _ List.mem_cons_self
      · exact m2 _ (List.mem_cons_of_mem _ hm)
    have a2 : lpr r z ≤ m := by
      unfold lpr
      rcases List.mem_cons.mp m1 with rfl | m1
      · exact hl.1
      · exact hl.2 _ m1
    exact Int.le_antisymm a1 a2
  · rintro rfl
    unfold lpr
    refine ⟨?_, fun x m => ?_⟩
    · rcases hm with hm | hm
      · rw [hm]
        exact List.mem_cons_self
      · exact List.mem_cons_of_mem _ hm
    · rcases List.mem_cons.mp m with rfl | m
      · exact hl.1
      · exact hl.2 _ m
def RowAt (H : Hp) (a : Addr) (r : List Int) : Prop := H a = some (.lst (r.map V.int))
/-- A TARIFF stands at p: its three fields; no field hides a method -/
structure TarAt (C : Addr) (H : Hp) (p : Addr) (S D W : List Int) : Prop where
  ob : ∃ dx fs a b c, H p = some (.ins C dx fs) ∧ fs.lookup ("singles" : Str) = some (.ref a) ∧ fs.lookup ("days" : Str) = some (.ref b) ∧ fs.lookup ("weeks" : Str) = some (.ref c) ∧
    fs.lookup ("single" : Str) = none ∧ fs.lookup ("day" : Str) = none ∧ fs.lookup ("week" : Str) = none ∧ RowAt H a S ∧ RowAt H b D ∧ RowAt H c W
  ok : Five S ∧ Five D ∧ Five W
theorem TarAt.same {C p : Addr} {H H' : Hp} {S D W : List Int} (h : TarAt C H p S D W) (k : Same H H') : TarAt C H' p S D W := by
  obtain ⟨⟨dx, fs, a, b, c, h1, e1, e2, e3, n1, n2, n3, r1, r2, r3⟩, ok⟩ := h
  exact ⟨⟨dx, fs, a, b, c, k _ _ h1, e1, e2, e3, n1, n2, n3, k _ _ r1, k _ _ r2, k _ _ r3⟩, ok⟩
/-- the tariff leans on objects that are new since H: what becomes of the others is no matter -/
def TStays (C : Addr) (H H' : Hp) (p : Addr) (S D W : List Int) : Prop := ∀ H'' : Hp, (∀ b o, H' b = some o → (H b = none ∨ b = p) → H'' b = some o) → TarAt C H'' p S D W
def spTInit (K : PySem.W.Frag) (C CP : Addr) : L2.Sp := fun vs H Q E => ∃ (p dx sa da wa : Addr) (S D W : List Int), vs = [.ref p, .ref sa, .ref da, .ref wa] ∧ H p = some (.ins C dx []) ∧
  (∀ H', Kept H H' p → SqL K H' sa (S.map V.int) ∧ SqL K H' da (D.map V.int) ∧ SqL K H' wa (W.map V.int)) ∧ S.length ≤ 1000 ∧ D.length ≤ 1000 ∧ W.length ≤ 1000 ∧
  (Five S ∧ Five D ∧ Five W → ∀ H', Kept H H' p → TarAt C H' p S D W → TStays C H H' p S D W → Q .non H') ∧
  (¬ (Five S ∧ Five D ∧ Five W) → ∀ H', Kept H H' p → E (.ref CP) none H')
def rowOf (j : Nat) (S D W : List Int) : List Int := match j with | 0 => S | 1 => D | _ => W
def spPrice (C CZ : Addr) (j : Nat) : L2.Sp := fun vs H Q E => ∃ (p : Addr) (z : Int) (S D W : List Int), vs = [.ref p, .int z] ∧ TarAt C H p S D W ∧
  (1 ≤ z ∧ z ≤ 5 → ∀ H', Same H H' → Q (.int (lpr (rowOf j S D W) z.toNat)) H') ∧ (¬ (1 ≤ z ∧ z ≤ 5) → ∀ H', Same H H' → E (.ref CZ) none H')
end FW

namespace FW
open PySem PySem.Spec PyProof.Rows L2
/-! ### covers: what the document asks of least, for any form of the program -/
theorem lpr_best {r : List Int} (h5 : r.length = 5) {z : Nat} (h1 : 1 ≤ z) (hz : z ≤ 5) : lpr r z = FT.best r z := by
  have key := ((lpr_iff h1 (by omega) (lpr r z)).mpr rfl)
  refine FT.best_eq h1 hz ?_ fun j a b => key.2 _ ?_
  · obtain ⟨i, hi, e⟩ := List.getElem_of_mem key.1
    rw [List.length_drop] at hi
    refine ⟨z + i, by omega, by omega, ?_⟩
    rw [← e, List.getElem_drop]
    unfold FT.pr
    rw [List.getD_eq_getElem?_getD, List.getElem?_eq_getElem (by omega)]
    show r[z - 1 + i] = r[z + i - 1]
    congr 1
    omega
  · unfold FT.pr
    rw [List.getD_eq_getElem?_getD, List.getElem?_eq_getElem (by omega)]
    show r[j - 1] ∈ _
    rw [List.mem_iff_getElem]
    exact ⟨j - z, by rw [List.length_drop]; omega, by rw [List.getElem_drop]; congr 1; omega⟩
theorem five_ok {S D W : List Int} (h : Five S ∧ Five D ∧ Five W) : FT.Tar.Ok ⟨S, D, W⟩ := by
  have key : ∀ r : List Int, Five r → ∀ j, 1 ≤ j → j ≤ 5 → 0 ≤ FT.pr r j := fun r f j a b => by
    unfold FT.pr
    rw [List.getD_eq_getElem?_getD, List.getElem?_eq_getElem (by have := f.1; omega)]
    exact f.2 _ (List.getElem_mem _)
  exact ⟨key S h.1, key D h.2.1, key W h.2.2⟩
/-- a ticket as it is told -/
def TkAt (T : FT.Tar) (H : Hp) (a : Addr) : FT.Tk → Prop
  | .week z => H a = some (.tup [.str "week", .int (z : Nat), .int (FT.pr T.w z)])
  | .day d z => H a = some (.tup [.str "day", .int (d : Nat), .int (z : Nat), .int (FT.pr T.d z)])
  | .single d i z => H a = some (.tup [.str "single", .int (d : Nat), .int (i : Nat), .int (z : Nat), .int (FT.pr T.s z)])
/-- its day and its ride are there -/
def TkIn (days : List (List Nat)) : FT.Tk → Prop
  | .week _ => True
  | .day d _ => d < days.length
  | .single d i _ => ∃ zs, days[d]? = some zs ∧ i < zs.length
def spCovers (C CZ : Addr) : L2.Sp := fun vs H Q E => ∃ (t dl : Addr) (S D W : List Int) (as : List Addr) (dz : List (List Int)), vs = [.ref t, .ref dl] ∧ TarAt C H t S D W ∧
  H dl = some (.lst (as.map V.ref)) ∧ All2 (RowAt H) as dz ∧ dz.length ≤ 50 ∧ (∀ zs, zs ∈ dz → zs.length ≤ 1000) ∧
  (∀ days : List (List Nat), dz = days.map (fun zs => zs.map fun (z : Nat) => (z : Int)) → FT.In5 days → ∀ (H' : Hp) (p tl : Addr) (tas : List Addr) (ts : List FT.Tk), Same H H' → H p = none → H tl = none →
    H' p = some (.tup [.int (FT.leastF ⟨S, D, W⟩ days), .ref tl]) → H' tl = some (.lst (tas.map V.ref)) → All2 (TkAt ⟨S, D, W⟩ H') tas ts → ts.length ≤ 100000 →
    (∀ k, k ∈ ts → k.Ok ∧ TkIn days k) → FT.AllServed ts days → FT.cost ⟨S, D, W⟩ ts = FT.leastF ⟨S, D, W⟩ days → Q (.ref p) H') ∧
  ((∃ zs z, zs ∈ dz ∧ z ∈ zs ∧ ¬ (1 ≤ z ∧ z ≤ 5)) → ∀ H', Same H H' → E (.ref CZ) none H')
end FW

namespace FW
open PySem PySem.Spec PyProof.Rows L2
open PySem.W (dataLt alike alikeAll dataLt_tuple dataLt_int dataLt_all_no AlikeAll readsAll_atA cmpIn_lt iter_listW moved_old argBest_fold)
/-! ### min of a list of tuples that begin with a whole number: one whose first number is least -/
def fst1 : PyData → Int
  | .tuple (.int a :: _) => a
  | _ => 0
def TupI (d : PyData) : Prop := ∃ a r, d = .tuple (.int a :: r)
theorem lt_fst {d e : PyData} (hd : TupI d) (he : TupI e) : (dataLt d e = true → fst1 d ≤ fst1 e) ∧ (dataLt d e = false → fst1 e ≤ fst1 d) := by
  obtain ⟨a, r, rfl⟩ := hd
  obtain ⟨b, s, rfl⟩ := he
  show (_ → a ≤ b) ∧ (_ → b ≤ a)
  by_cases c : a = b
  · exact ⟨fun _ => by omega, fun _ => by omega⟩
  · have al : alike (.int a) (.int b) = true := by simp [alike]
    have ne : PyData.eqv (.int a) (.int b) = false := by simp [PyData.eqv, c]
    have e : dataLt (.tuple (.int a :: r)) (.tuple (.int b :: s)) = decide (a < b) := by
      rw [dataLt_tuple, dataLt_all_no al ne, dataLt_int]
    rw [e]
    exact ⟨fun z => by have := of_decide_eq_true z; omega, fun z => by have := of_decide_eq_false z; omega⟩
theorem fold_fst : ∀ (xs : List PyData) (x : PyData), TupI x → (∀ d, d ∈ xs → TupI d) →
    let m := xs.foldl (fun a y => if dataLt y a then y else a) x
    TupI m ∧ fst1 m ≤ fst1 x ∧ ∀ d, d ∈ xs → fst1 m ≤ fst1 d
  | [], x, hx, _ => ⟨hx, Int.le_refl _, fun d m => nomatch m⟩
  | y :: xs, x, hx, h => by
    have hy := h y List.mem_cons_self
    have hc : TupI (if dataLt y x then y else x) := by split <;> assumption
    have k : fst1 (if dataLt y x then y else x) ≤ fst1 x ∧ fst1 (if dataLt y x then y else x) ≤ fst1 y := by
      have := lt_fst hy hx
      by_cases c : dataLt y x = true
      · rw [if_pos c]
        exact ⟨this.1 c, Int.le_refl _⟩
      · rw [if_neg c]
        exact ⟨Int.le_refl _, this.2 (by simpa using c)⟩
    obtain ⟨a, b, c⟩ := fold_fst xs _ hc fun d m => h d (List.mem_cons_of_mem _ m)
    refine ⟨a, Int.le_trans b k.1, fun d m => ?_⟩
    rcases List.mem_cons.mp m with rfl | m
    · exact Int.le_trans b k.2
    · exact c d m
section
variable {X : Cx}
def rMinD (K : PySem.W.Frag) : List V → Hp → VK → Prop := fun vs H Q => ∃ (a : Addr) (ys : List V) (ds : List PyData), vs = [.ref a] ∧ SqL K H a ys ∧ DpAll K H ys ds ∧ AlikeAll ds ∧ PyData.depthAll ds ≤ 60 ∧ ds ≠ [] ∧ (∀ d, d ∈ ds → TupI d) ∧
  ∀ (i : Nat) (y : V) (d : PyData), ys[i]? = some y → ds[i]? = some d → (∀ e, e ∈ ds → fst1 d ≤ fst1 e) → Q y H
theorem cr_minD (hc : X.calm = true) (hu : X.A.units + 64 < cLine) : CallR X (.builtin "min") (rMinD X.K) := by
  intro pins s σ H vs us Q I r h
  obtain ⟨a, ys, ds, rfl, hs, hd, ha, hdp, hne, ht, q⟩ := h
  obtain ⟨its, rv, hl, _⟩ := I.list hs
  rw [Vals.ref1 r]
  obtain ⟨as, hr⟩ := Dp.readsAll I ds _ its hd rv
  have hr' : ReadsAll s.heap its.toArray.toList ds as := hr
  cases ds with
  | nil => exact absurd rfl hne
  | cons x xs =>
    have hn : its.toArray.size = xs.length + 1 := PySem.W.readsAll_len hr'
    refine call_min_walkH (iter_listW (A := X.A.in1) (I.ok.hd hc) hl.isList fun s₂ e W st hfp hw hk => ?_)
    refine ⟨_, _, _, _, _, _, _, s.heap, _, rfl, W, st, hfp, by omega, hw, hk, cmpIn_lt (A := X.A.in1) hr' ha (by show X.A.units + 1 + _ < _; omega), fun v s' hP m => ?_⟩
    obtain ⟨h', tk, rfl, hk'⟩ := moved_old e rfl m
    have e1 : its.toArray.size - 1 = xs.length := by omega
    have e2 := argBest_fold dataLt PyData.none x xs xs.length (Nat.le_refl _)
    rw [List.take_length] at e2
    rw [e1] at hP
    obtain ⟨_, _, il, _, _⟩ := readsAll_atA hr' _ v hP
    have hv : its[argBest (fun i j => dataLt ((x :: xs).getD i .none) ((x :: xs).getD j .none)) xs.length]? = some v := by
      have := hP
      simpa using this
    have hy : ∃ y, ys[argBest (fun i j => dataLt ((x :: xs).getD i .none) ((x :: xs).getD j .none)) xs.length]? = some y ∧ RelV y v := by
      clear e2 hP m hk' W st hfp hw hk e il q
      generalize argBest (fun i j => dataLt ((x :: xs).getD i .none) ((x :: xs).getD j .none)) xs.length = k at hv
      have hlen := rv.length
      have hk : k < ys.length := by
        have := (List.getElem?_eq_some_iff.mp hv).1
        omega
      obtain ⟨w, ew, rw'⟩ := rv.get (List.getElem?_eq_getElem hk)
      rw [hv] at ew
      cases ew
      exact ⟨_, List.getElem?_eq_getElem hk, rw'⟩
    obtain ⟨y, ey, ry⟩ := hy
    obtain ⟨f1, f2, f3⟩ := fold_fst xs x (ht x List.mem_cons_self) fun d m => ht d (List.mem_cons_of_mem _ m)
    refine ⟨y, H, I.kept hk', ry, q _ y _ ey (List.getElem?_eq_getElem il) fun d md => ?_⟩
    have e3 : (x :: xs)[argBest (fun i j => dataLt ((x :: xs).getD i .none) ((x :: xs).getD j .none)) xs.length]'il = xs.foldl (fun a y => if dataLt y a then y else a) x := by
      rw [← e2.2, List.getD_eq_getElem?_getD, List.getElem?_eq_getElem il]
      rfl
    rw [e3]
    rcases List.mem_cons.mp md with rfl | md
    · exact f2
    · exact f3 d md
end
/-! pairs, and plans -/
section
variable {K : PySem.W.Frag}
def PairAt (H : Hp) (a : Addr) (p : Int × Nat) : Prop := H a = some (.tup [.int p.1, .int (p.2 : Nat)])
def pairD (p : Int × Nat) : PyData := .tuple [.int p.1, .int (p.2 : Nat)]
theorem minP_of {H : Hp} {Q : VK} {a : Addr} {as : List Addr} {ps : List (Int × Nat)} (ha : H a = some (.lst (as.map V.ref))) (h : All2 (PairAt H) as ps) (ne : ps ≠ [])
    (q : ∀ (i : Nat) (t : Addr) (p : Int × Nat), as[i]? = some t → ps[i]? = some p → PairAt H t p → (∀ r, r ∈ ps → p.1 ≤ r.1) → Q (.ref t) H) : rMinD K [.ref a] H Q := by
  refine ⟨a, as.map V.ref, ps.map pairD, rfl, SqL.of ha, ?_, ⟨fun x mx y my => ?_, fun x mx => ?_⟩, ?_, ?_, fun d md => ?_, fun i y d ey ed hle => ?_⟩
  · clear q ne ha
    induction h with
    | nil => exact .nil
    | cons r _ ih => exact .cons (.tup (SqT.of r) (.cons (.int _) (.cons (.int _) .nil))) ih
  · obtain ⟨p, _, rfl⟩ := List.mem_map.mp mx
    obtain ⟨p2, _, rfl⟩ := List.mem_map.mp my
    simp [pairD, alike, alikeAll]
  · obtain ⟨p, _, rfl⟩ := List.mem_map.mp mx
    exact fun z => nomatch z
  · clear q ne ha h
    induction ps with
    | nil => simp [PyData.depthAll]
    | cons p ps ih => simp [PyData.depthAll, pairD, PyData.depth]; omega
  · intro z
    exact ne (List.map_eq_nil_iff.mp z)
  · obtain ⟨p, _, rfl⟩ := List.mem_map.mp md
    exact ⟨_, _, rfl⟩
  · rw [List.getElem?_map] at ey ed
    obtain ⟨t, et, rfl⟩ := Option.map_eq_some_iff.mp ey
    obtain ⟨p, ep, rfl⟩ := Option.map_eq_some_iff.mp ed
    exact q i t p et ep (h.at et ep) fun r mr => hle _ (List.mem_map.mpr ⟨r, mr, rfl⟩)
structure Plan where
  c : Int
  w : Nat
  ds : List Nat
def PlanAt (H : Hp) (a : Addr) (p : Plan) : Prop := ∃ l, H a = some (.tup [.int p.c, .int (p.w : Nat), .ref l]) ∧ H l = some (.lst (p.ds.map fun (k : Nat) => V.int (k : Nat)))
def planD (p : Plan) : PyData := .tuple [.int p.c, .int (p.w : Nat), .list (p.ds.map fun (k : Nat) => PyData.int (k : Nat))]
theorem nats_dp {H : Hp} : ∀ ns : List Nat, DpAll K H (ns.map fun (k : Nat) => V.int (k : Nat)) (ns.map fun (k : Nat) => PyData.int (k : Nat))
  | [] => .nil
  | n :: ns => .cons (.int _) (nats_dp ns)
theorem nats_dep : ∀ ns : List Nat, PyData.depthAll (ns.map fun (k : Nat) => PyData.int (k : Nat)) = 0
  | [] => by simp [PyData.depthAll]
  | n :: ns => by
    have ih := nats_dep ns
    simpa [PyData.depthAll, PyData.depth] using ih
theorem nats_alike : ∀ ns ms : List Nat, alikeAll (ns.map fun (k : Nat) => PyData.int (k : Nat)) (ms.map fun (k : Nat) => PyData.int (k : Nat)) = true
  | [], _ => by simp [alikeAll]
  | _ :: _, [] => by simp [alikeAll]
  | n :: ns, m :: ms => by
    have ih := nats_alike ns ms
    simpa [alikeAll, alike] using ih
theorem min3_of {H : Hp} {Q : VK} {a : Addr} {as : List Addr} {ps : List Plan} (ha : H a = some (.lst (as.map V.ref))) (h : All2 (PlanAt H) as ps) (ne : ps ≠ [])
    (q : ∀ (i : Nat) (t : Addr) (p : Plan), as[i]? = some t → ps[i]? = some p → PlanAt H t p → (∀ r, r ∈ ps → p.c ≤ r.c) → Q (.ref t) H) : rMinD K [.ref a] H Q := by
  refine ⟨a, as.map V.ref, ps.map planD, rfl, SqL.of ha, ?_, ⟨fun x mx y my => ?_, fun x mx => ?_⟩, ?_, ?_, fun d md => ?_, fun i y d ey ed hle => ?_⟩
  · clear q ne ha
    induction h with
    | nil => exact .nil
    | cons r _ ih =>
      obtain ⟨l, r1, r2⟩ := r
      exact .cons (.tup (SqT.of r1) (.cons (.int _) (.cons (.int _) (.cons (.lst (SqL.of r2) (nats_dp _)) .nil)))) ih
  · obtain ⟨p, _, rfl⟩ := List.mem_map.mp mx
    obtain ⟨p2, _, rfl⟩ := List.mem_map.mp my
    have := nats_alike p.ds p2.ds
    simp [planD, alike, alikeAll, this]
  · obtain ⟨p, _, rfl⟩ := List.mem_map.mp mx
    exact fun z => nomatch z
  · clear q ne ha h
    induction ps with
    | nil => simp [PyData.depthAll]
    | cons p ps ih =>
      have := nats_dep p.ds
      simp [PyData.depthAll, planD, PyData.depth, this]
      omega
  · intro z
    exact ne (List.map_eq_nil_iff.mp z)
  · obtain ⟨p, _, rfl⟩ := List.mem_map.mp md
    exact ⟨_, _, rfl⟩
  · rw [List.getElem?_map] at ey ed
    obtain ⟨t, et, rfl⟩ := Option.map_eq_some_iff.mp ey
    obtain ⟨p, ep, rfl⟩ := Option.map_eq_some_iff.mp ed
    exact q i t p et ep (h.at et ep) fun r mr => hle _ (List.mem_map.mpr ⟨r, mr, rfl⟩)
end
end FW

namespace FW
open PySem PySem.Spec PyProof.Rows L2
/-! ### the program's prices -/
abbrev sTInit : Stmt := inClass (top 10) 0
abbrev sTSingle : Stmt := inClass (top 10) 1
abbrev sTDay : Stmt := inClass (top 10) 2
abbrev sTWeek : Stmt := inClass (top 10) 3
abbrev sCheapest : Stmt := top 11
abbrev sCheckZones : Stmt := top 12
abbrev sLeastPrice : Stmt := top 13
abbrev sCheckPrices : Stmt := top 14
theorem scTInit : FnScope ["self", "singles", "days", "weeks", "prices"] ["self", "singles", "days", "weeks"] (defScope sTInit) := ⟨rfl, rfl, rfl, by decide +kernel, rfl, by decide +kernel, by decide +kernel⟩
theorem scTSingle : FnScope ["self", "zones"] ["self", "zones"] (defScope sTSingle) := ⟨rfl, rfl, rfl, by decide +kernel, rfl, by decide +kernel, by decide +kernel⟩
theorem scTDay : FnScope ["self", "zones"] ["self", "zones"] (defScope sTDay) := ⟨rfl, rfl, rfl, by decide +kernel, rfl, by decide +kernel, by decide +kernel⟩
theorem scTWeek : FnScope ["self", "zones"] ["self", "zones"] (defScope sTWeek) := ⟨rfl, rfl, rfl, by decide +kernel, rfl, by decide +kernel, by decide +kernel⟩
theorem scCheapest : FnScope ["prices", "zones", "size"] ["prices", "zones"] (defScope sCheapest) := ⟨rfl, rfl, rfl, by decide +kernel, rfl, by decide +kernel, by decide +kernel⟩
theorem scCheckZones : FnScope ["zones"] ["zones"] (defScope sCheckZones) := ⟨rfl, rfl, rfl, by decide +kernel, rfl, by decide +kernel, by decide +kernel⟩
theorem scLeastPrice : FnScope ["prices", "zones", "price", "_"] ["prices", "zones"] (defScope sLeastPrice) := ⟨rfl, rfl, rfl, by decide +kernel, rfl, by decide +kernel, by decide +kernel⟩
theorem scCheckPrices : FnScope ["prices"] ["prices"] (defScope sCheckPrices) := ⟨rfl, rfl, rfl, by decide +kernel, rfl, by decide +kernel, by decide +kernel⟩
/-- what the top has written for the prices: CP, CZ the two refusals -/
structure PTx (K : PySem.W.Frag) (mg : Str → Option Value) (C CP CZ : Addr) : Prop where
  cl : Cls K C
  nS : NoAttr K C "singles"
  nD : NoAttr K C "days"
  nW : NoAttr K C "weeks"
  len : mg "len" = none
  list : mg "list" = none
  range : mg "range" = none
  min : mg "min" = none
  mz : ∃ t, mg "MOST_ZONES" = some (.int 5 t)
  eP : ErrT K mg "BadPrices" CP
  eZ : ErrT K mg "BadZones" CZ
section
variable {P : Program} {w : World} {K : PySem.W.Frag} {mg : Str → Option Value} {base : Heap} {C CP CZ : Addr}
/-! ### _check_prices -/
def spCheckPrices (K : PySem.W.Frag) (CP : Addr) : L2.Sp := fun vs H Q E => ∃ (a : Addr) (r : List Int), vs = [.ref a] ∧ SqL K H a (r.map V.int) ∧ (Five r → Q .non H) ∧ (¬ Five r → E (.ref CP) none H)
theorem ok_checkPrices {f : Addr} {fd : FuncData} (F : Fun K "_check_prices" "_check_prices" sCheckPrices f fd) (T : PTx K mg C CP CZ) : FnOk P w K mg base (L2N.CX P w) 1 f fd ["prices"] (spCheckPrices K CP) := by
  obtain ⟨mt, mz⟩ := T.mz
  refine okN F scCheckPrices (fun vs H Q E h => ?_) (fun cdv A outer s H vs Q E hr h => ?_)
  · obtain ⟨a, r, rfl, _⟩ := h
    rfl
  · obtain ⟨a, r, rfl, hS, q1, q2⟩ := h
    refine ⟨_, pss_cons (ps_if (pt_cmpR op_ne (pe_callB call_len_seq (by rfl) T.len PySem.boot_len (pa_cons (pv 0) pa_nil)) (pe_glob (v := .int 5) rfl mz ⟨mt, rfl⟩) (nomark _))
        (pss_one (L2N.ps_raise rfl (L2N.takes_of rfl rfl rfl rfl) (pmk_msg T.eP rfl))) pss_nil)
      (pss_one (ps_if (pt_cmpR op_lt (pe_callB (cr_min rfl) (by rfl) T.min (by decide +kernel) (pa_cons (pv 0) pa_nil)) pe_int (nomark _))
        (pss_one (L2N.ps_raise rfl (L2N.takes_of rfl rfl rfl rfl) (pmk_msg T.eP rfl))) pss_nil)), ?_⟩
    refine ⟨_, rfl, a, _, rfl, .inl hS, rfl, _, rfl, ?_⟩
    refine ite2 (fun e => ?_) (fun e => ?_)
    · refine q2 fun z => nd_of e ?_
      rw [List.length_map, z.1]
      rfl
    · have l5 : r.length = 5 := by
        have := V.int.inj (d_of e)
        rw [List.length_map] at this
        omega
      refine ⟨_, rfl, a, r, rfl, hS, by omega, fun m hm hle => ⟨_, _, rfl, rfl, _, rfl, ?_⟩⟩
      refine ite2 (fun e => ?_) (fun e => ?_)
      · have hm0 : m < 0 := of_decide_eq_true e
        exact q2 fun z => by
          have := z.2 m hm
          omega
      · have hm0 : ¬ m < 0 := fun z => e (decide_eq_true z)
        exact q1 ⟨l5, fun x hx => by
          have := hle x hx
          omega⟩
/-! ### check_zones -/
def spCheckZones (CZ : Addr) : L2.Sp := fun vs H Q E => ∃ z : Int, vs = [.int z] ∧ (1 ≤ z ∧ z ≤ 5 → Q .non H) ∧ (¬ (1 ≤ z ∧ z ≤ 5) → E (.ref CZ) none H)
theorem ok_checkZones {f : Addr} {fd : FuncData} (F : Fun K "check_zones" "check_zones" sCheckZones f fd) (T : PTx K mg C CP CZ) : FnOk P w K mg base (L2N.CX P w) 1 f fd ["zones"] (spCheckZones CZ) := by
  obtain ⟨mt, mz⟩ := T.mz
  refine okN F scCheckZones (fun vs H Q E h => ?_) (fun cdv A outer s H vs Q E hr h => ?_)
  · obtain ⟨z, rfl, _⟩ := h
    rfl
  · obtain ⟨z, rfl, q1, q2⟩ := h
    refine ⟨_, pss_one (ps_if (pt_not (pt_chain op_le op_le pe_int (pv 0) (pe_glob (v := .int 5) rfl mz ⟨mt, rfl⟩)))
        (pss_one (L2N.ps_raise rfl (L2N.takes_of rfl rfl rfl rfl) (pmk_msg T.eZ rfl))) pss_nil), ?_⟩
    refine ⟨_, rfl, _, _, rfl, rfl, _, rfl, ?_⟩
    refine ite2 (fun e => ?_) (fun e => ?_)
    · have h1 : 1 ≤ z := of_decide_eq_true e
      refine ⟨_, _, rfl, rfl, _, rfl, ?_⟩
      refine ite2 (fun e => ?_) (fun e => ?_)
      · exact q2 fun y => nd_of e y.2
      · exact q1 ⟨h1, d_of e⟩
    · have h1 : ¬ 1 ≤ z := fun y => e (decide_eq_true y)
      refine ⟨_, rfl, ?_⟩
      refine iteT ?_
      exact q2 fun y => h1 y.1
/-! ### cheapest -/
def spCheapest (K : PySem.W.Frag) : L2.Sp := fun vs H Q _ => ∃ (a : Addr) (r : List Int) (z : Nat), vs = [.ref a, .int z] ∧ SqL K H a (r.map V.int) ∧ (∀ H', Same H H' → SqL K H' a (r.map V.int)) ∧ r.length = 5 ∧ 1 ≤ z ∧ z ≤ 5 ∧
  ∀ (H' : Hp) (p : Addr) (k : Nat), Same H H' → H' p = some (.tup [.int (FT.best r z), .int (k : Nat)]) → z ≤ k → k ≤ 5 → FT.pr r k = FT.best r z → Q (.ref p) H'
theorem ok_cheapest {f : Addr} {fd : FuncData} (F : Fun K "cheapest" "cheapest" sCheapest f fd) (T : PTx K mg C CP CZ) : FnOk P w K mg base CX0 1 f fd ["prices", "zones"] (spCheapest K) := by
  obtain ⟨mt, mz⟩ := T.mz
  refine F.ok scCheapest (fun vs H Q E h => ?_) (fun cdv A outer s H vs Q E hr h => ?_)
  · obtain ⟨a, r, z, rfl, _⟩ := h
    rfl
  · obtain ⟨a, r, z, rfl, hS, hK, h5, h1, hz, q⟩ := h
    refine ⟨_, pss_one (ps_ret (pe_callB (cr_minD rfl hr.units) (by rfl) T.min (by decide +kernel) (pa_cons
      (pe_lc (own := [("size", 2)]) (g := gName 2) (by rfl) scCheapest.nd (pi_range2 (by rfl) T.range (pa_cons (pv 1) (pa_cons (pe_op op_add (pe_glob (v := .int 5) rfl mz ⟨mt, rfl⟩) pe_int) pa_nil)))
        (blkOk_by (own := [("size", 2)]) (N := ["prices", "zones", "size"]) (sc := defScope sCheapest) (by decide +kernel)) (fun _ _ _ _ _ => pg_name (i := 2) scCheapest.nd rfl (Or.inl rfl)) (fun _ _ _ _ _ => pts_nil)
        (fun _ _ _ _ _ => pe_tup (pa_cons (pe_ix (r := rIxL K) ix_list (pv 0) (pe_op op_sub (pv 2) pe_int) (fun _ _ => rfl)) (pa_cons (pv 2) pa_nil)))) pa_nil))), ?_⟩
    refine ⟨_, rfl, _, _, rfl, rfl, z, 6, rfl, ⟨by omega, by omega, by omega, by omega⟩, fun D hD => ?_⟩
    refine lc_range (lo := z) (n := ((6 : Int) - z).toNat) (fun i H' => Same H H' ∧ ∃ as : List Addr, H' D = some (.lst (as.map V.ref)) ∧ All2 (PairAt H') as ((List.range i).map fun j => (FT.pr r (z + j), z + j)))
      ⟨same_upd hD, [], upd_same, .nil⟩ ?_ ?_
    · rintro i H1 hi ⟨sm, as, eD, hA⟩
      refine ⟨rfl, ?_⟩
      refine tYes_if ?_
      have hzi : z + i ≤ 5 := by omega
      have g : atI (r.map V.int) ((z : Int) + i - 1) = some (.int (FT.pr r (z + i))) := by
        refine at_of (j := z + i - 1) (by omega) ?_
        rw [List.getElem?_map, List.getElem?_eq_getElem (by omega)]
        unfold FT.pr
        rw [List.getD_eq_getElem?_getD, List.getElem?_eq_getElem (by omega)]
        rfl
      refine ⟨_, rfl, _, rfl, _, _, rfl, rfl, a, _, _, _, rfl, rfl, hK _ sm, g, _, rfl, by show 2 ≤ sizeLine; decide, fun p np => ?_⟩
      have nDp : D ≠ p := ne_of_none eD np
      refine ⟨as.map V.ref, by rw [upd_ne nDp]; exact eD, small_line (by rw [List.length_map, hA.len, List.length_map, List.length_range]; omega), ?_⟩
      have nas : ∀ b x, PairAt H1 b x → b ≠ p := fun b x hb => ne_of_none hb np
      refine ⟨upd_out (sm.trans (same_upd np)) hD, as ++ [p], by rw [upd_same, List.map_append]; rfl, ?_⟩
      rw [List.range_succ, List.map_append]
      refine All2.app (hA.imp fun b x hb => ?_) (All2.one ?_)
      · show upd (upd H1 p _) D _ b = _
        rw [upd_ne (ne_of hb eD (by intro y; cases y)), upd_ne (nas b x hb)]
        exact hb
      · show upd (upd H1 p _) D _ p = _
        rw [upd_ne nDp.symm, upd_same]
        have e : ((z : Int) + i) = ((z + i : Nat) : Int) := by omega
        rw [e]
    · rintro H1 ⟨sm, as, eD, hA⟩
      refine minP_of eD hA ?_ fun i t p et ep hp hle => ?_
      · intro y
        have := congrArg List.length y
        rw [List.length_map, List.length_range] at this
        simp at this
        omega
      · rw [List.getElem?_map] at ep
        obtain ⟨j, ej, rfl⟩ := Option.map_eq_some_iff.mp ep
        have hj : j < ((6 : Int) - z).toNat := List.mem_range.mp (List.mem_of_getElem? ej)
        have eb : FT.pr r (z + j) = FT.best r z := FT.best_eq h1 hz ⟨z + j, by omega, by omega, rfl⟩ fun k k1 k2 => by
          have := hle (FT.pr r (z + (k - z)), z + (k - z)) (List.mem_map.mpr ⟨k - z, List.mem_range.mpr (by omega), rfl⟩)
          have e2 : z + (k - z) = k := by omega
          rw [e2] at this
          exact this
        refine q H1 t (z + j) sm ?_ (by omega) (by omega) eb
        rw [← eb]
        exact hp
/-! ### _least_price -/
def spLeastPrice (K : PySem.W.Frag) (CZ : Addr) : L2.Sp := fun vs H Q E => ∃ (a : Addr) (r : List Int) (z : Int), vs = [.ref a, .int z] ∧ RowAt H a r ∧ r.length = 5 ∧
  (1 ≤ z ∧ z ≤ 5 → ∀ H', Same H H' → Q (.int (FT.best r z.toNat)) H') ∧ (¬ (1 ≤ z ∧ z ≤ 5) → E (.ref CZ) none H)
theorem ok_leastPrice {f fZ fC : Addr} {fd fdZ fdC : FuncData} (F : Fun K "_least_price" "_least_price" sLeastPrice f fd) (T : PTx K mg C CP CZ)
    (FZ : Fun K "check_zones" "check_zones" sCheckZones fZ fdZ) (bZ : Binds K fdZ ["zones"] []) (gZ : mg "check_zones" = some (.ref fZ))
    (FC : Fun K "cheapest" "cheapest" sCheapest fC fdC) (bC : Binds K fdC ["prices", "zones"] []) (gC : mg "cheapest" = some (.ref fC)) :
    FnOk P w K mg base (L2N.CX P w) 2 f fd ["prices", "zones"] (spLeastPrice K CZ) := by
  have GZ : FnOk P w K mg base (L2N.CX P w) 1 fZ fdZ ["zones"] (spCheckZones CZ) := ok_checkZones FZ T
  have GC : FnOk P w K mg base CX0 1 fC fdC ["prices", "zones"] (spCheapest K) := ok_cheapest FC T
  refine okN F scLeastPrice (fun vs H Q E h => ?_) (fun cdv A outer s H vs Q E hr h => ?_)
  · obtain ⟨a, r, z, rfl, _⟩ := h
    rfl
  · obtain ⟨a, r, z, rfl, hR, h5, q1, q2⟩ := h
    refine ⟨_, pss_cons (ps_expr (pe_call GZ hr (by rfl) gZ FZ.kp bZ .nil (L2N.passes_call (W := fun cls d _ H => E cls d H) (L2N.takes_of rfl rfl rfl rfl) (fun _ _ _ _ h => h)) (pa_cons (pv 1) pa_nil)))
      (pss_cons (ps_asg (pe_call GC hr (by rfl) gC FC.kp bC .nil pass0 (pa_cons (pv 0) (pa_cons (pv 1) pa_nil))) (pg_tup rfl (pgs_cons (pg_name (i := 2) scLeastPrice.nd rfl (.inl rfl)) (pgs_cons (pg_name (i := 3) scLeastPrice.nd rfl (.inl rfl)) pgs_nil))))
      (pss_one (ps_ret (pv 2)))), ?_⟩
    refine ⟨_, rfl, z, rfl, fun hz => ?_, q2⟩
    obtain ⟨k, rfl⟩ : ∃ k : Nat, z = k := ⟨z.toNat, by omega⟩
    refine ⟨_, rfl, _, rfl, a, r, k, rfl, SqL.of hR, fun H' s' => SqL.of (s' _ _ hR), h5, by omega, by omega, fun H' p j sm hp _ _ _ => ?_⟩
    refine ⟨p, _, rfl, SqT.of hp, rfl, _, _, rfl, _, _, rfl, rfl, _, rfl, ?_⟩
    exact q1 hz H' sm
/-! ### Tariff -/
def tf (sa da wa : Addr) : List (Str × V) := putF "weeks" (.ref wa) (putF "days" (.ref da) (putF "singles" (.ref sa) []))
theorem g12 : ¬ (("singles" : Str) = "days") := by decide +kernel
theorem g13 : ¬ (("singles" : Str) = "weeks") := by decide +kernel
theorem g23 : ¬ (("days" : Str) = "weeks") := by decide +kernel
theorem tf_s (sa da wa : Addr) : (tf sa da wa).lookup ("singles" : Str) = some (.ref sa) := by
  unfold tf
  rw [lookup_putF, if_neg g13, lookup_putF, if_neg g12, lookup_putF, if_pos rfl]
theorem tf_d (sa da wa : Addr) : (tf sa da wa).lookup ("days" : Str) = some (.ref da) := by
  unfold tf
  rw [lookup_putF, if_neg g23, lookup_putF, if_pos rfl]
theorem tf_w (sa da wa : Addr) : (tf sa da wa).lookup ("weeks" : Str) = some (.ref wa) := by
  unfold tf
  rw [lookup_putF, if_pos rfl]
theorem tf_no (sa da wa : Addr) {m : Str} (h1 : ¬ m = "singles") (h2 : ¬ m = "days") (h3 : ¬ m = "weeks") : (tf sa da wa).lookup m = none := by
  unfold tf
  rw [lookup_putF, if_neg h3, lookup_putF, if_neg h2, lookup_putF, if_neg h1]
  all_goals rfl
theorem ok_tInit {f fP : Addr} {fd fdP : FuncData} (F : Fun K "__init__" "Tariff.__init__" sTInit f fd) (T : PTx K mg C CP CZ)
    (FP : Fun K "_check_prices" "_check_prices" sCheckPrices fP fdP) (bP : Binds K fdP ["prices"] []) (gP : mg "_check_prices" = some (.ref fP)) :
    FnOk P w K mg base (L2N.CX P w) 2 f fd ["self", "singles", "days", "weeks"] (spTInit K C CP) := by
  have GP : FnOk P w K mg base (L2N.CX P w) 1 fP fdP ["prices"] (spCheckPrices K CP) := ok_checkPrices FP T
  refine okN F scTInit (fun vs H Q E h => ?_) (fun cdv A outer s H vs Q E hr h => ?_)
  · obtain ⟨p, dx, sa, da, wa, S, D, W, rfl, _⟩ := h
    rfl
  · obtain ⟨p, dx, sa, da, wa, S, D, W, rfl, hp, hk, _, _, _, q1, q2⟩ := h
    refine ⟨_, pss_cons (ps_for (passes_of rfl) rfl (pi_tup (pe_tup (pa_cons (pv 1) (pa_cons (pv 2) (pa_cons (pv 3) pa_nil))))) (pg_name (i := 4) scTInit.nd rfl (.inl rfl))
        (pss_one (ps_expr (pe_call GP hr (by rfl) gP FP.kp bP .nil (L2N.passes_call (W := fun cls d _ H => E cls d H) (L2N.takes_of rfl rfl rfl rfl) (fun _ _ _ _ h => h)) (pa_cons (pv 4) pa_nil)))))
      (pss_cons (ps_fld (pv 0) (pe_callTy call_list_of (by rfl) T.list (by decide +kernel) (pa_cons (pv 1) pa_nil)) rfl)
      (pss_cons (ps_fld (pv 0) (pe_callTy call_list_of (by rfl) T.list (by decide +kernel) (pa_cons (pv 2) pa_nil)) rfl)
      (pss_one (ps_fld (pv 0) (pe_callTy call_list_of (by rfl) T.list (by decide +kernel) (pa_cons (pv 3) pa_nil)) rfl)))), ?_⟩
    refine ⟨_, rfl, _, rfl, _, rfl, by show 3 ≤ sizeLine; decide, fun t nt => ?_⟩
    have k0 : Kept H (upd H t (.tup [.ref sa, .ref da, .ref wa])) p := fun b o e n => by rw [upd_ne (ne_of_none e nt)]; exact e
    have pt : p ≠ t := ne_of_none hp nt
    obtain ⟨H0, e0⟩ : ∃ H0, H0 = upd H t (.tup [V.ref sa, .ref da, .ref wa]) := ⟨_, rfl⟩
    have ht : H0 t = some (.tup [.ref sa, .ref da, .ref wa]) := by rw [e0, upd_same]
    have hp0 : H0 p = some (.ins C dx []) := by rw [e0, upd_ne pt]; exact hp
    rw [← e0] at k0
    show ∃ a, _
    rw [← e0]
    obtain ⟨hs0, hd0, hw0⟩ := hk H0 k0
    have bad : ∀ (i : Nat) (r : List Int), [S, D, W][i]? = some r → ¬ Five r → ¬ (Five S ∧ Five D ∧ Five W) := fun i r e nr z => by
      rcases i with _ | _ | _ | i
      · cases e; exact nr z.1
      · cases e; exact nr z.2.1
      · cases e; exact nr z.2.2
      · simp at e
    refine ⟨t, rfl, ⟨_, SqT.of ht⟩, for_tup (K := K) (a := t) (xs := [.ref sa, .ref da, .ref wa]) (fun i σ H' => H' = H0 ∧ (∃ y4 : Option V, σ = [some (.ref p), some (.ref sa), some (.ref da), some (.ref wa), y4]) ∧ ∀ j r, j < i → [S, D, W][j]? = some r → Five r)
      ⟨rfl, ⟨none, rfl⟩, fun j r h => absurd h (Nat.not_lt_zero j)⟩ (fun i σ H' _ h => by rw [h.1]; exact SqT.of ht) ?_ ?_⟩
    · rintro i x σ H' hi ⟨e', ⟨y4, rfl⟩, hf⟩
      have e2 := e'.symm
      subst e2
      obtain ⟨a, r, rfl, er, hS⟩ : ∃ (a : Addr) (r : List Int), x = .ref a ∧ [S, D, W][i]? = some r ∧ SqL K H0 a (r.map V.int) := by
        rcases i with _ | _ | _ | i
        · cases hi; exact ⟨sa, S, rfl, rfl, hs0⟩
        · cases hi; exact ⟨da, D, rfl, rfl, hd0⟩
        · cases hi; exact ⟨wa, W, rfl, rfl, hw0⟩
        · simp at hi
      refine ⟨_, rfl, a, r, rfl, hS, fun f5 => ⟨rfl, ⟨_, rfl⟩, fun j r' hj ej => ?_⟩, fun n5 => q2 (bad i r er n5) H0 k0⟩
      rcases Nat.lt_succ_iff_lt_or_eq.mp hj with h | h
      · exact hf j r' h ej
      · subst h
        rw [er] at ej
        cases ej
        exact f5
    · rintro σ H' ⟨e', ⟨y4, rfl⟩, hf⟩
      have e2 := e'.symm
      subst e2
      have ok : Five S ∧ Five D ∧ Five W := ⟨hf 0 S (by show 0 < 3; decide) rfl, hf 1 D (by show 1 < 3; decide) rfl, hf 2 W (by show 2 < 3; decide) rfl⟩
      -- self.singles = list(singles)
      refine ⟨_, rfl, sa, _, rfl, .inl hs0, fun la nla => ?_⟩
      have pl : p ≠ la := ne_of_none hp0 nla
      refine ⟨_, rfl, p, C, dx, [], rfl, by rw [upd_ne pl]; exact hp0, T.cl, T.nS, by show 0 < 1000; decide, ?_⟩
      obtain ⟨H1, e1⟩ : ∃ H1, H1 = upd (upd H0 la (.lst (S.map V.int))) p (.ins C dx (putF "singles" (.ref la) [])) := ⟨_, rfl⟩
      rw [← e1]
      have k1 : Kept H0 H1 p := e1 ▸ Kept.put fun b o e n => by rw [upd_ne (ne_of_none e nla)]; exact e
      have k1' : Kept H H1 p := fun b o e n => k1 b o (k0 b o e n) n
      have hl1 : RowAt H1 la S := by show H1 la = _; rw [e1, upd_ne pl.symm, upd_same]
      have hp1 : H1 p = some (.ins C dx (putF "singles" (.ref la) [])) := by rw [e1, upd_same]
      clear e1
      obtain ⟨_, hd1, _⟩ := hk H1 k1'
      -- self.days = list(days)
      refine ⟨_, rfl, da, _, rfl, .inl hd1, fun lb nlb => ?_⟩
      have pb : p ≠ lb := ne_of_none hp1 nlb
      refine ⟨_, rfl, p, C, dx, _, rfl, by rw [upd_ne pb]; exact hp1, T.cl, T.nD, by show 1 < 1000; decide, ?_⟩
      obtain ⟨H2, e2⟩ : ∃ H2, H2 = upd (upd H1 lb (.lst (D.map V.int))) p (.ins C dx (putF "days" (.ref lb) (putF "singles" (.ref la) []))) := ⟨_, rfl⟩
      rw [← e2]
      have k2 : Kept H1 H2 p := e2 ▸ Kept.put fun b o e n => by rw [upd_ne (ne_of_none e nlb)]; exact e
      have k2' : Kept H H2 p := fun b o e n => k2 b o (k1' b o e n) n
      have hl2 : RowAt H2 la S := k2 _ _ hl1 pl.symm
      have hb2 : RowAt H2 lb D := by show H2 lb = _; rw [e2, upd_ne pb.symm, upd_same]
      have hp2 : H2 p = some (.ins C dx (putF "days" (.ref lb) (putF "singles" (.ref la) []))) := by rw [e2, upd_same]
      clear e2
      obtain ⟨_, _, hw2⟩ := hk H2 k2'
      -- self.weeks = list(weeks)
      refine ⟨_, rfl, wa, _, rfl, .inl hw2, fun lc nlc => ?_⟩
      have pc : p ≠ lc := ne_of_none hp2 nlc
      refine ⟨_, rfl, p, C, dx, _, rfl, by rw [upd_ne pc]; exact hp2, T.cl, T.nW, by show 2 < 1000; decide, ?_⟩
      obtain ⟨H3, e3⟩ : ∃ H3, H3 = upd (upd H2 lc (.lst (W.map V.int))) p (.ins C dx (tf la lb lc)) := ⟨_, rfl⟩
      have k3 : Kept H2 H3 p := e3 ▸ Kept.put fun b o e n => by rw [upd_ne (ne_of_none e nlc)]; exact e
      have k3' : Kept H H3 p := fun b o e n => k3 b o (k2' b o e n) n
      have hl3 : RowAt H3 la S := k3 _ _ hl2 pl.symm
      have hb3 : RowAt H3 lb D := k3 _ _ hb2 pb.symm
      have hc3 : RowAt H3 lc W := by show H3 lc = _; rw [e3, upd_ne pc.symm, upd_same]
      have hp3 : H3 p = some (.ins C dx (tf la lb lc)) := by rw [e3, upd_same]
      have stays : TStays C H H3 p S D W := fun H'' keep => ⟨⟨dx, _, la, lb, lc, keep _ _ hp3 (.inr rfl), tf_s _ _ _, tf_d _ _ _, tf_w _ _ _, tf_no _ _ _ (by decide +kernel) (by decide +kernel) (by decide +kernel),
        tf_no _ _ _ (by decide +kernel) (by decide +kernel) (by decide +kernel), tf_no _ _ _ (by decide +kernel) (by decide +kernel) (by decide +kernel), keep _ _ hl3 (.inl (k0.new nla pl.symm)), keep _ _ hb3 (.inl (k1'.new nlb pb.symm)), keep _ _ hc3 (.inl (k2'.new nlc pc.symm))⟩, ok⟩
      have fin := q1 ok H3 k3' (stays H3 fun b o e _ => e) stays
      rw [e3] at fin
      exact fin
/-! ### Tariff.single, day, week -/
theorem ok_tSingle {f fL fZ fC : Addr} {fd fdL fdZ fdC : FuncData} (F : Fun K "single" "Tariff.single" sTSingle f fd) (T : PTx K mg C CP CZ)
    (FZ : Fun K "check_zones" "check_zones" sCheckZones fZ fdZ) (bZ : Binds K fdZ ["zones"] []) (gZ : mg "check_zones" = some (.ref fZ))
    (FC : Fun K "cheapest" "cheapest" sCheapest fC fdC) (bC : Binds K fdC ["prices", "zones"] []) (gC : mg "cheapest" = some (.ref fC))
    (FL : Fun K "_least_price" "_least_price" sLeastPrice fL fdL) (bL : Binds K fdL ["prices", "zones"] []) (gL : mg "_least_price" = some (.ref fL)) :
    FnOk P w K mg base (L2N.CX P w) 3 f fd ["self", "zones"] (spPrice C CZ 0) := by
  have GL : FnOk P w K mg base (L2N.CX P w) 2 fL fdL ["prices", "zones"] (spLeastPrice K CZ) := ok_leastPrice FL T FZ bZ gZ FC bC gC
  refine okN F scTSingle (fun vs H Q E h => ?_) (fun cdv A outer s H vs Q E hr h => ?_)
  · obtain ⟨p, z, S, D, W, rfl, _⟩ := h
    rfl
  · obtain ⟨p, z, S, D, W, rfl, TA, q1, q2⟩ := h
    obtain ⟨⟨dx, fs, sa, da, wa, hp, e1, e2, e3, _, _, _, r1, r2, r3⟩, o1, o2, o3⟩ := TA
    refine ⟨_, pss_one (ps_ret (pe_call GL hr (by rfl) gL FL.kp bL .nil (L2N.passes_call (W := fun cls d _ H => E cls d H) (L2N.takes_of rfl rfl rfl rfl) (fun _ _ _ _ h => h)) (pa_cons (pe_fld (pv 0) rfl) (pa_cons (pv 1) pa_nil)))), ?_⟩
    refine ⟨_, rfl, p, C, dx, _, _, rfl, hp, T.cl, T.nS, e1, _, rfl, _, S, z, rfl, r1, o1.1, fun hz H' sm => ?_, fun no => q2 no H fun _ _ e => e⟩
    have fin := q1 hz H' sm
    rw [lpr_best (show (rowOf 0 S D W).length = 5 from o1.1) (by omega) (by omega)] at fin
    exact fin
theorem ok_tDay {f fL fZ fC : Addr} {fd fdL fdZ fdC : FuncData} (F : Fun K "day" "Tariff.day" sTDay f fd) (T : PTx K mg C CP CZ)
    (FZ : Fun K "check_zones" "check_zones" sCheckZones fZ fdZ) (bZ : Binds K fdZ ["zones"] []) (gZ : mg "check_zones" = some (.ref fZ))
    (FC : Fun K "cheapest" "cheapest" sCheapest fC fdC) (bC : Binds K fdC ["prices", "zones"] []) (gC : mg "cheapest" = some (.ref fC))
    (FL : Fun K "_least_price" "_least_price" sLeastPrice fL fdL) (bL : Binds K fdL ["prices", "zones"] []) (gL : mg "_least_price" = some (.ref fL)) :
    FnOk P w K mg base (L2N.CX P w) 3 f fd ["self", "zones"] (spPrice C CZ 1) := by
  have GL : FnOk P w K mg base (L2N.CX P w) 2 fL fdL ["prices", "zones"] (spLeastPrice K CZ) := ok_leastPrice FL T FZ bZ gZ FC bC gC
  refine okN F scTDay (fun vs H Q E h => ?_) (fun cdv A outer s H vs Q E hr h => ?_)
  · obtain ⟨p, z, S, D, W, rfl, _⟩ := h
    rfl
  · obtain ⟨p, z, S, D, W, rfl, TA, q1, q2⟩ := h
    obtain ⟨⟨dx, fs, sa, da, wa, hp, e1, e2, e3, _, _, _, r1, r2, r3⟩, o1, o2, o3⟩ := TA
    refine ⟨_, pss_one (ps_ret (pe_call GL hr (by rfl) gL FL.kp bL .nil (L2N.passes_call (W := fun cls d _ H => E cls d H) (L2N.takes_of rfl rfl rfl rfl) (fun _ _ _ _ h => h)) (pa_cons (pe_fld (pv 0) rfl) (pa_cons (pv 1) pa_nil)))), ?_⟩
    refine ⟨_, rfl, p, C, dx, _, _, rfl, hp, T.cl, T.nD, e2, _, rfl, _, D, z, rfl, r2, o2.1, fun hz H' sm => ?_, fun no => q2 no H fun _ _ e => e⟩
    have fin := q1 hz H' sm
    rw [lpr_best (show (rowOf 1 S D W).length = 5 from o2.1) (by omega) (by omega)] at fin
    exact fin
theorem ok_tWeek {f fL fZ fC : Addr} {fd fdL fdZ fdC : FuncData} (F : Fun K "week" "Tariff.week" sTWeek f fd) (T : PTx K mg C CP CZ)
    (FZ : Fun K "check_zones" "check_zones" sCheckZones fZ fdZ) (bZ : Binds K fdZ ["zones"] []) (gZ : mg "check_zones" = some (.ref fZ))
    (FC : Fun K "cheapest" "cheapest" sCheapest fC fdC) (bC : Binds K fdC ["prices", "zones"] []) (gC : mg "cheapest" = some (.ref fC))
    (FL : Fun K "_least_price" "_least_price" sLeastPrice fL fdL) (bL : Binds K fdL ["prices", "zones"] []) (gL : mg "_least_price" = some (.ref fL)) :
    FnOk P w K mg base (L2N.CX P w) 3 f fd ["self", "zones"] (spPrice C CZ 2) := by
  have GL : FnOk P w K mg base (L2N.CX P w) 2 fL fdL ["prices", "zones"] (spLeastPrice K CZ) := ok_leastPrice FL T FZ bZ gZ FC bC gC
  refine okN F scTWeek (fun vs H Q E h => ?_) (fun cdv A outer s H vs Q E hr h => ?_)
  · obtain ⟨p, z, S, D, W, rfl, _⟩ := h
    rfl
  · obtain ⟨p, z, S, D, W, rfl, TA, q1, q2⟩ := h
    obtain ⟨⟨dx, fs, sa, da, wa, hp, e1, e2, e3, _, _, _, r1, r2, r3⟩, o1, o2, o3⟩ := TA
    refine ⟨_, pss_one (ps_ret (pe_call GL hr (by rfl) gL FL.kp bL .nil (L2N.passes_call (W := fun cls d _ H => E cls d H) (L2N.takes_of rfl rfl rfl rfl) (fun _ _ _ _ h => h)) (pa_cons (pe_fld (pv 0) rfl) (pa_cons (pv 1) pa_nil)))), ?_⟩
    refine ⟨_, rfl, p, C, dx, _, _, rfl, hp, T.cl, T.nW, e3, _, rfl, _, W, z, rfl, r3, o3.1, fun hz H' sm => ?_, fun no => q2 no H fun _ _ e => e⟩
    have fin := q1 hz H' sm
    rw [lpr_best (show (rowOf 2 S D W).length = 5 from o3.1) (by omega) (by omega)] at fin
    exact fin
end
end FW

namespace FW
open PySem PySem.Spec PyProof.Rows L2
/-! ### the program's covers: counts, plans -/
abbrev sLeastOf : Stmt := top 16
abbrev sCountRides : Stmt := top 17
abbrev sPlan : Stmt := top 18
abbrev sBySize : Stmt := top 19
abbrev sAbove : Stmt := top 20
abbrev sDayPlan : Stmt := top 21
abbrev sPlanTickets : Stmt := top 22
abbrev sSingleTickets : Stmt := top 23
theorem scCountRides : FnScope ["rides", "counts", "zones"] ["rides"] (defScope sCountRides) := ⟨rfl, rfl, rfl, by decide +kernel, rfl, by decide +kernel, by decide +kernel⟩
theorem scBySize : FnScope ["prices", "least_prices", "zones", "price", "_"] ["prices"] (defScope sBySize) := ⟨rfl, rfl, rfl, by decide +kernel, rfl, by decide +kernel, by decide +kernel⟩
theorem scAbove : FnScope ["single_prices", "counts", "costs", "zones"] ["single_prices", "counts"] (defScope sAbove) := ⟨rfl, rfl, rfl, by decide +kernel, rfl, by decide +kernel, by decide +kernel⟩
theorem scDayPlan : FnScope ["day_prices", "costs_above", "week_size", "day_size"] ["day_prices", "costs_above", "week_size"] (defScope sDayPlan) := ⟨rfl, rfl, rfl, by decide +kernel, rfl, by decide +kernel, by decide +kernel⟩
theorem scPlan : FnScope ["tariff", "counts", "single_prices", "day_prices", "week_prices", "costs_above", "plans", "week_size", "day_plans", "cost", "day_counts", "costs", "day_cost", "_", "day_size"] ["tariff", "counts"] (defScope sPlan) := ⟨rfl, rfl, rfl, by decide +kernel, rfl, by decide +kernel, by decide +kernel⟩
structure CTx (K : PySem.W.Frag) (mg : Str → Option Value) (C CP CZ : Addr) : Prop where
  P : PTx K mg C CP CZ
  sum : mg "sum" = none
  enum : mg "enumerate" = none
  max : mg "max" = none
def NatsAt (H : Hp) (a : Addr) (l : List Nat) : Prop := H a = some (.lst (l.map fun (k : Nat) => V.int (k : Nat)))
/-- six numbers -/
def six (f : Nat → Int) : List V := ((List.range 6).map f).map V.int
theorem six_len (f : Nat → Int) : (six f).length = 6 := by unfold six; rw [List.length_map, List.length_map, List.length_range]
theorem six_at (f : Nat → Int) {i : Nat} (h : i < 6) : atI (six f) (i : Int) = some (.int (f i)) := at_of rfl (by
  unfold six
  rw [List.getElem?_map, List.getElem?_map, List.getElem?_range h]
  rfl)
theorem six_congr {f g : Nat → Int} (h : ∀ i, i < 6 → f i = g i) : six f = six g := by
  unfold six
  rw [List.map_congr_left fun i m => h i (List.mem_range.mp m)]
theorem six_set (f g : Nat → Int) {k : Nat} {x : Int} (hx : g k = x) (h : ∀ i, i < 6 → i ≠ k → f i = g i) (hk : k < 6) : (six f).set k (.int x) = six g := by
  apply List.ext_getElem?
  intro i
  rw [List.getElem?_set, six_len]
  by_cases hi : i < 6
  · have e : (six g)[i]? = some (.int (g i)) := by
      unfold six
      rw [List.getElem?_map, List.getElem?_map, List.getElem?_range hi]
      rfl
    have e2 : (six f)[i]? = some (.int (f i)) := by
      unfold six
      rw [List.getElem?_map, List.getElem?_map, List.getElem?_range hi]
      rfl
    by_cases c : k = i
    · subst c
      rw [if_pos rfl, if_pos hi, e, hx]
    · rw [if_neg c, e, e2, h i hi fun z => c z.symm]
  · rw [List.getElem?_eq_none (l := six g) (by rw [six_len]; omega)]
    by_cases c : k = i
    · exact absurd (c ▸ hk) hi
    · rw [if_neg c, List.getElem?_eq_none (by rw [six_len]; omega)]
section
variable {X : Cx}
theorem get_list : PGet X (rIxL X.K) := by
  intro pins s σ H x y v u Q I rx ry h
  obtain ⟨p, xs, i, z, rfl, rfl, hq, he, q⟩ := h
  cases rx
  obtain ⟨t, rfl⟩ := ry
  obtain ⟨its, r, pl, hz⟩ := I.list hq
  obtain ⟨j, h1, h2, h3, h4, h5⟩ := atI_get he
  obtain ⟨w, ew, rw'⟩ := r.get h2
  have hl := r.length
  have hn := line63
  have fin : EP X pins σ Q w s := ⟨z, H, I, rw', q⟩
  by_cases h0 : 0 ≤ i
  · have hj : i.toNat = j := by
      rw [seqIndex_of h0 h5] at h1
      exact Option.some.inj h1
    exact wpAny_getItem_list pl.isList h0 (by omega) (by rw [hj]; simpa using ew) fin
  · have hj : (i + (its.toArray.size : Int)).toNat = j := by
      rw [seqIndex_neg (by omega) h4] at h1
      rw [List.size_toArray, ← hl]
      exact Option.some.inj h1
    exact wpAny_getItem_list_neg pl.isList (by omega) (by rw [List.size_toArray] <;> omega) (by omega) (by rw [hj]; simpa using ew) fin
end
section
variable {P : Program} {w : World} {K : PySem.W.Frag} {mg : Str → Option Value} {base : Heap} {C CP CZ : Addr}
/-! ### _count_rides -/
def spCountRides (K : PySem.W.Frag) : L2.Sp := fun vs H Q _ => ∃ (a : Addr) (zs : List Nat), vs = [.ref a] ∧ NatsAt H a zs ∧ (∀ z, z ∈ zs → z ≤ 5) ∧
  ∀ (H' : Hp) (p : Addr), Same H H' → H p = none → NatsAt H' p (FT.cnt zs) → Q (.ref p) H'
theorem ok_countRides {f : Addr} {fd : FuncData} (F : Fun K "_count_rides" "_count_rides" sCountRides f fd) (T : CTx K mg C CP CZ) : FnOk P w K mg base CX0 1 f fd ["rides"] (spCountRides K) := by
  obtain ⟨mt, mz⟩ := T.P.mz
  refine F.ok scCountRides (fun vs H Q E h => ?_) (fun cdv A outer s H vs Q E hr h => ?_)
  · obtain ⟨a, zs, rfl, _⟩ := h
    rfl
  · obtain ⟨a, zs, rfl, hA, h5, q⟩ := h
    refine ⟨_, pss_cons (ps_set (i := 1) scCountRides.nd rfl (.inl rfl) (pe_op op_rep (pe_lst (pa_cons pe_int pa_nil)) (pe_op op_add (pe_glob (v := .int 5) rfl mz ⟨mt, rfl⟩) pe_int)))
      (pss_cons (ps_for PassesOwn.never rfl (pi_list (pv 0)) (pg_name (i := 2) scCountRides.nd rfl (.inl rfl)) (pss_one (ps_augS (pv 1) (pv 2) get_list pe_int ip_add set_list)))
      (pss_one (ps_ret (pv 1)))), ?_⟩
    refine ⟨by show 1 ≤ sizeLine; decide, fun l nl => ?_⟩
    refine ⟨_, _, rfl, rfl, l, _, _, rfl, rfl, upd_same, by decide, by decide, by show 1 * 6 ≤ sizeLine; decide, fun p np => ?_⟩
    have s1 : Same H (upd (upd H l (.lst [V.int 0])) p (.lst (List.replicate ((5 : Int) + 1).toNat [V.int 0]).flatten)) := (same_upd nl).trans (same_upd np)
    have npH : H p = none := (same_upd nl).free np
    refine ⟨_, rfl, a, rfl, ⟨_, SqL.of (s1 _ _ hA)⟩, for_list (K := K) (a := a) (xs := zs.map fun (k : Nat) => V.int (k : Nat)) (fun i σ H2 => ∃ y2 : Option V, σ = [some (.ref a), some (.ref p), y2] ∧ Same H H2 ∧ NatsAt H2 p (FT.cnt (zs.take i)))
      ⟨none, rfl, s1, ?_⟩ (fun i σ H2 _ ⟨_, _, s2, _⟩ => SqL.of (s2 _ _ hA)) ?_ ?_⟩
    · show upd _ p _ p = _
      rw [upd_same]
      rfl
    · rintro i x σ H2 hi ⟨y2, rfl, s2, hp⟩
      obtain ⟨z, ez, rfl⟩ : ∃ z, zs[i]? = some z ∧ x = V.int (z : Nat) := by
        rw [List.getElem?_map] at hi
        obtain ⟨z, e, e2⟩ := Option.map_eq_some_iff.mp hi
        exact ⟨z, e, e2.symm⟩
      have hz : z < 6 := by
        have := h5 z (List.mem_of_getElem? ez)
        omega
      have lenC : ((FT.cnt (zs.take i)).map fun (k : Nat) => V.int (k : Nat)).length = 6 := by rw [List.length_map, FT.cnt_len]
      have g : atI ((FT.cnt (zs.take i)).map fun (k : Nat) => V.int (k : Nat)) (z : Nat) = some (.int ((zs.take i).count z : Nat)) := at_of rfl (by rw [List.getElem?_map, FT.cnt_get hz]; rfl)
      refine ⟨_, rfl, _, rfl, p, _, _, _, rfl, rfl, SqL.of hp, g, _, _, rfl, rfl, p, _, _, z, rfl, rfl, hp, by rw [lenC]; exact ixN_nat hz, ?_⟩
      refine ⟨_, rfl, upd_out s2 npH, ?_⟩
      show upd H2 p _ p = _
      rw [upd_same, List.take_add_one, ez]
      show some (HO.lst _) = some (.lst ((FT.cnt (zs.take i ++ [z])).map _))
      rw [FT.cnt_snoc, List.map_set]
      rfl
    · rintro σ H2 ⟨y2, rfl, s2, hp⟩
      rw [List.length_map, List.take_length] at hp
      exact ⟨_, rfl, q H2 p s2 npH hp⟩
def CountsAt (H : Hp) (l : Addr) (days : List (List Nat)) : Prop := ∃ as : List Addr, H l = some (.lst (as.map V.ref)) ∧ All2 (NatsAt H) as (days.map FT.cnt)
/-! ### _prices_by_size -/
def spBySize (K : PySem.W.Frag) : L2.Sp := fun vs H Q _ => ∃ (a : Addr) (r : List Int), vs = [.ref a] ∧ RowAt H a r ∧ r.length = 5 ∧ ∀ (H' : Hp) (p : Addr), Same H H' → H p = none → H' p = some (.lst (six (FT.op r))) → Q (.ref p) H'
theorem ok_bySize {f fC : Addr} {fd fdC : FuncData} (F : Fun K "_prices_by_size" "_prices_by_size" sBySize f fd) (T : CTx K mg C CP CZ)
    (FC : Fun K "cheapest" "cheapest" sCheapest fC fdC) (bC : Binds K fdC ["prices", "zones"] []) (gC : mg "cheapest" = some (.ref fC)) : FnOk P w K mg base CX0 2 f fd ["prices"] (spBySize K) := by
  have GC : FnOk P w K mg base CX0 1 fC fdC ["prices", "zones"] (spCheapest K) := ok_cheapest FC T.P
  obtain ⟨mt, mz⟩ := T.P.mz
  refine F.ok scBySize (fun vs H Q E h => ?_) (fun cdv A outer s H vs Q E hr h => ?_)
  · obtain ⟨a, r, rfl, _⟩ := h
    rfl
  · obtain ⟨a, r, rfl, hR, h5, q⟩ := h
    refine ⟨_, pss_cons (ps_set (i := 1) scBySize.nd rfl (.inl rfl) (pe_lst (pa_cons pe_int pa_nil)))
      (pss_cons (ps_for PassesOwn.never rfl (pi_range2 (by rfl) T.P.range (pa_cons pe_int (pa_cons (pe_op op_add (pe_glob (v := .int 5) rfl mz ⟨mt, rfl⟩) pe_int) pa_nil))) (pg_name (i := 2) scBySize.nd rfl (.inl rfl))
        (pss_cons (ps_asg (pe_call GC hr (by rfl) gC FC.kp bC .nil pass0 (pa_cons (pv 0) (pa_cons (pv 2) pa_nil))) (pg_tup rfl (pgs_cons (pg_name (i := 3) scBySize.nd rfl (.inl rfl)) (pgs_cons (pg_name (i := 4) scBySize.nd rfl (.inl rfl)) pgs_nil))))
        (pss_one (ps_expr (pe_bm PySem.F.plainAttrs_list PySem.F.slot_list_append PySem.F.type_list_append mt_append (pv 1) (pa_cons (pv 3) pa_nil))))))
      (pss_one (ps_ret (pv 1)))), ?_⟩
    refine ⟨by show 1 ≤ sizeLine; decide, fun p np => ?_⟩
    refine ⟨_, _, rfl, rfl, 1, 6, rfl, ⟨by decide, by decide, by decide, by decide⟩, for_range (lo := 1) (n := ((6 : Int) - 1).toNat) (fun i σ H2 => ∃ y2 y3 y4 : Option V, σ = [some (.ref a), some (.ref p), y2, y3, y4] ∧ Same H H2 ∧ H2 p = some (.lst (((List.range (i + 1)).map (FT.op r)).map V.int)))
      ⟨none, none, none, rfl, same_upd np, by rw [upd_same]; rfl⟩ ?_ ?_⟩
    · rintro i σ H2 hi ⟨y2, y3, y4, rfl, s2, hp⟩
      have hi5 : i < 5 := hi
      have e1 : (1 : Int) + i = ((i + 1 : Nat) : Int) := by omega
      rw [e1]
      refine ⟨_, rfl, _, rfl, a, r, i + 1, rfl, SqL.of (s2 _ _ hR), fun H' s' => SqL.of (s' _ _ (s2 _ _ hR)), h5, by omega, by omega, fun H3 t k s3 ht _ _ _ => ?_⟩
      refine ⟨t, _, rfl, SqT.of ht, rfl, _, _, rfl, _, _, rfl, rfl, ?_⟩
      have hp3 := s3 _ _ hp
      refine ⟨_, rfl, .inl ⟨rfl, _, SqL.of hp3⟩, _, rfl, p, _, _, rfl, rfl, hp3, small_line (by rw [List.length_map, List.length_map, List.length_range]; omega), ?_⟩
      refine ⟨_, _, _, rfl, upd_out (s2.trans s3) np, ?_⟩
      rw [upd_same, List.range_succ (n := i + 1), List.map_append, List.map_append]
      have e2 : FT.op r (i + 1) = FT.best r (i + 1) := if_neg (by omega)
      show _ = some (HO.lst (_ ++ [V.int (FT.op r (i + 1))]))
      rw [e2]
    · rintro σ H2 ⟨y2, y3, y4, rfl, s2, hp⟩
      exact ⟨_, rfl, q H2 p s2 np hp⟩
/-! ### _costs_above -/
def spAbove (K : PySem.W.Frag) : L2.Sp := fun vs H Q _ => ∃ (a c : Addr) (T : FT.Tar) (zs : List Nat), vs = [.ref a, .ref c] ∧ H a = some (.lst (six (FT.op T.s))) ∧ NatsAt H c (FT.cnt zs) ∧ (∀ z, z ∈ zs → 1 ≤ z ∧ z ≤ 5) ∧ zs.length ≤ 100000 ∧
  ∀ (H' : Hp) (p : Addr), Same H H' → H p = none → H' p = some (.lst (six fun k => FT.restF T k zs)) → Q (.ref p) H'
theorem ok_above {f : Addr} {fd : FuncData} (F : Fun K "_costs_above" "_costs_above" sAbove f fd) (T : CTx K mg C CP CZ) : FnOk P w K mg base CX0 1 f fd ["single_prices", "counts"] (spAbove K) := by
  obtain ⟨mt, mz⟩ := T.P.mz
  refine F.ok scAbove (fun vs H Q E h => ?_) (fun cdv A outer s H vs Q E hr h => ?_)
  · obtain ⟨a, c, T, zs, rfl, _⟩ := h
    rfl
  · obtain ⟨a, c, TT, zs, rfl, hA, hC, h5, hl, q⟩ := h
    refine ⟨_, pss_cons (ps_set (i := 2) scAbove.nd rfl (.inl rfl) (pe_op op_rep (pe_lst (pa_cons pe_int pa_nil)) (pe_op op_add (pe_glob (v := .int 5) rfl mz ⟨mt, rfl⟩) pe_int)))
      (pss_cons (ps_for PassesOwn.never rfl (pi_range3 (by rfl) T.P.range (pa_cons (pe_glob (v := .int 5) rfl mz ⟨mt, rfl⟩) (pa_cons pe_int (pa_cons (pe_un un_neg pe_int) pa_nil)))) (pg_name (i := 3) scAbove.nd rfl (.inl rfl))
        (pss_one (ps_asg (pe_op op_add (pe_ix ix_list (pv 2) (pv 3) (fun _ _ => rfl)) (pe_op op_mul (pe_ix ix_list (pv 1) (pv 3) (fun _ _ => rfl)) (pe_ix ix_list (pv 0) (pv 3) (fun _ _ => rfl)))) (pg_sub (pv 2) (pe_op op_sub (pv 3) pe_int) set_list))))
      (pss_one (ps_ret (pv 2)))), ?_⟩
    refine ⟨by show 1 ≤ sizeLine; decide, fun l nl => ?_⟩
    refine ⟨_, _, rfl, rfl, l, _, _, rfl, rfl, upd_same, by decide, by decide, by show 1 * 6 ≤ sizeLine; decide, fun p np => ?_⟩
    have s1 : Same H (upd (upd H l (.lst [V.int 0])) p (.lst (List.replicate ((5 : Int) + 1).toNat [V.int 0]).flatten)) := (same_upd nl).trans (same_upd np)
    have npH : H p = none := (same_upd nl).free np
    refine ⟨1, rfl, 5, 0, -1, 5, rfl, RgC.neg (i := 5) (j := 0) (by decide) (by decide) (by decide) (by decide), for_rangeC (lo := 5) (c := -1) (n := 5) (fun i σ H2 => ∃ y3 : Option V, σ = [some (.ref a), some (.ref c), some (.ref p), y3] ∧ Same H H2 ∧ H2 p = some (.lst (six fun k => if 5 - i ≤ k then FT.restF TT k zs else 0)))
      ⟨none, rfl, s1, ?_⟩ ?_ ?_⟩
    · rw [upd_same]
      have e5 := FT.rest_five (T := TT) h5
      show some (HO.lst [V.int 0, .int 0, .int 0, .int 0, .int 0, .int 0]) = some (.lst [V.int 0, .int 0, .int 0, .int 0, .int 0, .int (FT.restF TT 5 zs)])
      rw [e5]
    · rintro i σ H2 hi ⟨y3, rfl, s2, hp⟩
      have e1 : (5 : Int) + (i : Nat) * -1 = ((5 - i : Nat) : Int) := by omega
      rw [e1]
      have hz : 5 - i < 6 := by omega
      have gC : atI ((FT.cnt zs).map fun (k : Nat) => V.int (k : Nat)) ((5 - i : Nat) : Int) = some (.int (zs.count (5 - i) : Nat)) := at_of rfl (by rw [List.getElem?_map, FT.cnt_get hz]; rfl)
      have hc := FT.count_le_length (5 - i) zs
      refine ⟨_, rfl, _, rfl, p, _, _, _, rfl, rfl, SqL.of hp, six_at _ hz, _, rfl, _, rfl, c, _, _, _, rfl, rfl, SqL.of (s2 _ _ hC), gC, _, rfl, _, rfl, a, _, _, _, rfl, rfl, SqL.of (s2 _ _ hA), six_at _ hz, ?_⟩
      refine ⟨_, _, rfl, rfl, .inl ⟨by omega, by omega⟩, _, _, rfl, rfl, _, rfl, _, rfl, _, _, rfl, rfl, p, _, _, 5 - i - 1, rfl, rfl, hp, ?_, ?_⟩
      · rw [six_len, show ((5 - i : Nat) : Int) - 1 = ((5 - i - 1 : Nat) : Int) by omega]
        exact ixN_nat (by omega)
      · refine ⟨_, rfl, upd_out s2 npH, ?_⟩
        rw [upd_same, six_set _ (fun k => if 5 - (i + 1) ≤ k then FT.restF TT k zs else 0) ?_ ?_ (by omega)]
        · have e2 : FT.op TT.s (5 - i) = FT.best TT.s (5 - i) := if_neg (by omega)
          rw [if_pos (by omega), if_pos (by omega), e2]
          exact FT.rest_step (by omega) h5
        · intro j hj nj
          by_cases g : 5 - i ≤ j
          · rw [if_pos g, if_pos (by omega)]
          · rw [if_neg g, if_neg (by omega)]
    · rintro σ H2 ⟨y3, rfl, s2, hp⟩
      refine ⟨_, rfl, q H2 p s2 npH ?_⟩
      rw [hp]
      exact congrArg (fun x => some (HO.lst x)) (six_congr fun i _ => if_pos (by omega))
/-! ### _cheapest_day_plan -/
def spDayPlan (K : PySem.W.Frag) : L2.Sp := fun vs H Q _ => ∃ (a c : Addr) (w : Nat) (f g : Nat → Int), vs = [.ref a, .ref c, .int w] ∧ H a = some (.lst (six f)) ∧ H c = some (.lst (six g)) ∧ w ≤ 5 ∧
  ∀ (H' : Hp) (p : Addr) (o : Nat), Same H H' → H p = none → PairAt H' p (FT.m6 fun o => f o + g (max w o), o) → o ≤ 5 → f o + g (max w o) = (FT.m6 fun o => f o + g (max w o)) → Q (.ref p) H'
theorem ok_dayPlan {f : Addr} {fd : FuncData} (F : Fun K "_cheapest_day_plan" "_cheapest_day_plan" sDayPlan f fd) (T : CTx K mg C CP CZ) : FnOk P w K mg base CX0 1 f fd ["day_prices", "costs_above", "week_size"] (spDayPlan K) := by
  obtain ⟨mt, mz⟩ := T.P.mz
  refine F.ok scDayPlan (fun vs H Q E h => ?_) (fun cdv A outer s H vs Q E hr h => ?_)
  · obtain ⟨a, c, w, f, g, rfl, _⟩ := h
    rfl
  · obtain ⟨a, c, wz, f, g, rfl, hA, hC, hw, q⟩ := h
    refine ⟨_, pss_one (ps_ret (pe_callB (cr_minD rfl hr.units) (by rfl) T.P.min (by decide +kernel) (pa_cons
      (pe_lc (own := [("day_size", 3)]) (g := gName 3) (by rfl) scDayPlan.nd (pi_range1 (by rfl) T.P.range (pa_cons (pe_op op_add (pe_glob (v := .int 5) rfl mz ⟨mt, rfl⟩) pe_int) pa_nil))
        (blkOk_by (own := [("day_size", 3)]) (N := ["day_prices", "costs_above", "week_size", "day_size"]) (sc := defScope sDayPlan) (by decide +kernel)) (fun _ _ _ _ _ => pg_name (i := 3) scDayPlan.nd rfl (Or.inl rfl)) (fun _ _ _ _ _ => pts_nil)
        (fun _ _ _ _ _ => pe_tup (pa_cons (pe_op op_add (pe_ix (r := rIxL K) ix_list (pv 0) (pv 3) (fun _ _ => rfl)) (pe_ix (r := rIxL K) ix_list (pv 1) (pe_callB (call_max2 rfl) (by rfl) T.max (by decide +kernel) (pa_cons (pv 3) (pa_cons (pv 2) pa_nil))) (fun _ _ => rfl))) (pa_cons (pv 3) pa_nil)))) pa_nil))), ?_⟩
    refine ⟨_, _, rfl, rfl, 6, rfl, by decide, by decide, fun D hD => ?_⟩
    refine lc_range (lo := 0) (n := (6 : Int).toNat) (fun i H' => Same H H' ∧ ∃ as : List Addr, H' D = some (.lst (as.map V.ref)) ∧ All2 (PairAt H') as ((List.range i).map fun o => (f o + g (max wz o), o)) ∧ ∀ b, b ∈ as → H b = none)
      ⟨same_upd hD, [], upd_same, .nil, by simp⟩ ?_ ?_
    · rintro i H1 hi ⟨sm, as, eD, hA2, hn⟩
      have hi6 : i < 6 := hi
      refine ⟨rfl, ?_⟩
      refine tYes_if ?_
      have e0 : (0 : Int) + (i : Nat) = (i : Nat) := by omega
      rw [e0]
      have em : (if (wz : Int) > (i : Nat) then (wz : Int) else (i : Nat)) = ((max wz i : Nat) : Int) := by
        by_cases c : i < wz
        · rw [if_pos (by omega), Nat.max_eq_left (by omega)]
        · rw [if_neg (by omega), Nat.max_eq_right (by omega)]
      have gM : atI (six g) (if (wz : Int) > (i : Nat) then (wz : Int) else (i : Nat)) = some (.int (g (max wz i))) := by
        rw [em]
        exact six_at g (by omega)
      refine ⟨_, rfl, _, rfl, a, _, _, _, rfl, rfl, SqL.of (sm _ _ hA), six_at _ hi6, _, rfl, _, rfl, _, rfl, _, _, rfl, c, _, _, _, rfl, rfl, SqL.of (sm _ _ hC), gM, _, _, rfl, rfl, _, rfl, by show 2 ≤ sizeLine; decide, fun p np => ?_⟩
      have nDp : D ≠ p := ne_of_none eD np
      refine ⟨as.map V.ref, by rw [upd_ne nDp]; exact eD, small_line (by rw [List.length_map, hA2.len, List.length_map, List.length_range]; omega), ?_⟩
      refine ⟨upd_out (sm.trans (same_upd np)) hD, as ++ [p], by rw [upd_same, List.map_append]; rfl, ?_, fun b m => ?_⟩
      · rw [List.range_succ, List.map_append]
        refine All2.app (hA2.imp fun b x hb => ?_) (All2.one ?_)
        · show upd (upd H1 p _) D _ b = _
          rw [upd_ne (ne_of hb eD (by intro y; cases y)), upd_ne (ne_of_none hb np)]
          exact hb
        · show upd (upd H1 p _) D _ p = _
          rw [upd_ne nDp.symm, upd_same]
      · rcases List.mem_append.mp m with m | m
        · exact hn b m
        · rw [List.mem_singleton.mp m]
          exact sm.free np
    · rintro H1 ⟨sm, as, eD, hA2, hn⟩
      refine minP_of eD hA2 (fun y => nomatch y) fun i t p et ep hp hle => ?_
      rw [List.getElem?_map] at ep
      obtain ⟨o, eo, rfl⟩ := Option.map_eq_some_iff.mp ep
      have ho : o < 6 := List.mem_range.mp (List.mem_of_getElem? eo)
      have eb : f o + g (max wz o) = FT.m6 fun o => f o + g (max wz o) := FT.m6_pick (f := fun o => f o + g (max wz o)) (by omega) fun k hk =>
        hle (f k + g (max wz k), k) (List.mem_map.mpr ⟨k, List.mem_range.mpr (by show k < 6; omega), rfl⟩)
      refine q H1 t o sm (hn t (List.mem_of_getElem? et)) ?_ (by omega) eb
      rw [← eb]
      exact hp
end
end FW

namespace FW
open PySem PySem.Spec PyProof.Rows L2
section
variable {P : Program} {w : World} {K : PySem.W.Frag} {mg : Str → Option Value} {base : Heap} {C CP CZ : Addr}
/-! ### _cheapest_plan -/
def SixAt (H : Hp) (a : Addr) (f : Nat → Int) : Prop := H a = some (.lst (six f))
def DsOk (T : FT.Tar) (days : List (List Nat)) (j : Nat) (ds : List Nat) : Prop := ds.length = days.length ∧ ∀ (k d : Nat) (zs : List Nat), ds[k]? = some d → days[k]? = some zs → d ≤ 5 ∧ FT.op T.d d + FT.restF T (max j d) zs = FT.dayF T j zs
def QsOk (T : FT.Tar) (days : List (List Nat)) (j : Nat) (qs : List (Int × Nat)) : Prop := ∀ (k : Nat) (q : Int × Nat) (zs : List Nat), qs[k]? = some q → days[k]? = some zs → q.1 = FT.dayF T j zs ∧ q.2 ≤ 5 ∧ FT.op T.d q.2 + FT.restF T (max j q.2) zs = FT.dayF T j zs
theorem map_item {α : Type} {f : α → V} {l : List α} {i : Nat} {x : V} (h : (l.map f)[i]? = some x) : ∃ a, l[i]? = some a ∧ x = f a := by
  rw [List.getElem?_map] at h
  obtain ⟨a, e, e2⟩ := Option.map_eq_some_iff.mp h
  exact ⟨a, e, e2.symm⟩
theorem take_snoc {α : Type} {l : List α} {i : Nat} {x : α} (h : l[i]? = some x) : l.take (i + 1) = l.take i ++ [x] := by
  rw [List.take_add_one, h]
  rfl
def spPlan (K : PySem.W.Frag) (C : Addr) : L2.Sp := fun vs H Q _ => ∃ (t cl : Addr) (S D W : List Int) (days : List (List Nat)), vs = [.ref t, .ref cl] ∧ TarAt C H t S D W ∧ CountsAt H cl days ∧ FT.In5 days ∧ days.length ≤ 1000 ∧ (∀ zs, zs ∈ days → zs.length ≤ 100000) ∧
  ∀ (H' : Hp) (p l : Addr) (w : Nat) (ds : List Nat), Same H H' → H' p = some (.tup [.int (FT.leastF ⟨S, D, W⟩ days), .int (w : Nat), .ref l]) → NatsAt H' l ds → FT.Good ⟨S, D, W⟩ days w ds → Q (.ref p) H'
theorem ok_plan {f fB fA fD fC : Addr} {fd fdB fdA fdD fdC : FuncData} (F : Fun K "_cheapest_plan" "_cheapest_plan" sPlan f fd) (T : CTx K mg C CP CZ)
    (FB : Fun K "_prices_by_size" "_prices_by_size" sBySize fB fdB) (bB : Binds K fdB ["prices"] []) (gB : mg "_prices_by_size" = some (.ref fB))
    (FA : Fun K "_costs_above" "_costs_above" sAbove fA fdA) (bA : Binds K fdA ["single_prices", "counts"] []) (gA : mg "_costs_above" = some (.ref fA))
    (FD : Fun K "_cheapest_day_plan" "_cheapest_day_plan" sDayPlan fD fdD) (bD : Binds K fdD ["day_prices", "costs_above", "week_size"] []) (gD : mg "_cheapest_day_plan" = some (.ref fD))
    (FC : Fun K "cheapest" "cheapest" sCheapest fC fdC) (bC : Binds K fdC ["prices", "zones"] []) (gC : mg "cheapest" = some (.ref fC)) :
    FnOk P w K mg base CX0 3 f fd ["tariff", "counts"] (spPlan K C) := by
  have GB : FnOk P w K mg base CX0 2 fB fdB ["prices"] (spBySize K) := ok_bySize FB T FC bC gC
  have GA : FnOk P w K mg base CX0 1 fA fdA ["single_prices", "counts"] (spAbove K) := ok_above FA T
  have GD : FnOk P w K mg base CX0 1 fD fdD ["day_prices", "costs_above", "week_size"] (spDayPlan K) := ok_dayPlan FD T
  obtain ⟨mt, mz⟩ := T.P.mz
  refine F.ok scPlan (fun vs H Q E h => ?_) (fun cdv A outer s H vs Q E hr h => ?_)
  · obtain ⟨t, cl, S, D, W, days, rfl, _⟩ := h
    rfl
  · obtain ⟨t, cl, S, D, W, days, rfl, TA, ⟨cas, hcl, hCA⟩, h5, hdl, hzl, q⟩ := h
    obtain ⟨⟨dx, fs, sa, da, wa, hp, e1, e2, e3, _, _, _, r1, r2, r3⟩, o1, o2, o3⟩ := TA
    have hr1 := hr.mono (show 1 ≤ 2 by decide)
    refine ⟨_, pss_cons (ps_set (i := 2) scPlan.nd rfl (.inr rfl) (pe_call GB hr (by rfl) gB FB.kp bB .nil pass0 (pa_cons (pe_fld (pv 0) rfl) pa_nil)))
      (pss_cons (ps_set (i := 3) scPlan.nd rfl (.inr rfl) (pe_call GB hr (by rfl) gB FB.kp bB .nil pass0 (pa_cons (pe_fld (pv 0) rfl) pa_nil)))
      (pss_cons (ps_set (i := 4) scPlan.nd rfl (.inl rfl) (pe_call GB hr (by rfl) gB FB.kp bB .nil pass0 (pa_cons (pe_fld (pv 0) rfl) pa_nil)))
      (pss_cons (ps_setLc (i := 5) (own := [("day_counts", 10)]) (g := gName 10) (by rfl) scPlan.nd rfl rfl (sw_true rfl rfl rfl (by decide +kernel)) (pi_list (pv 1))
        (blkOk_by (own := [("day_counts", 10)]) (N := ["tariff", "counts", "single_prices", "day_prices", "week_prices", "costs_above", "plans", "week_size", "day_plans", "cost", "day_counts", "costs", "day_cost", "_", "day_size"]) (sc := defScope sPlan) (by decide +kernel))
        (fun _ _ _ _ _ => pg_name (i := 10) scPlan.nd rfl (Or.inl rfl)) (fun _ _ _ _ _ => pts_nil)
        (fun _ _ _ _ _ => pe_call GA hr1 (by rfl) gA FA.kp bA .nil pass0 (pa_cons (pv 2) (pa_cons (pv 10) pa_nil))))
      (pss_cons (ps_set (i := 6) scPlan.nd rfl (.inl rfl) (pe_lst pa_nil))
      (pss_cons (ps_for PassesOwn.never rfl (pi_range1 (by rfl) T.P.range (pa_cons (pe_op op_add (pe_glob (v := .int 5) rfl mz ⟨mt, rfl⟩) pe_int) pa_nil)) (pg_name (i := 7) scPlan.nd rfl (.inr rfl))
        (pss_cons (ps_setLc (i := 8) (own := [("costs", 11)]) (g := gName 11) (by rfl) scPlan.nd rfl rfl (sw_true rfl rfl rfl (by decide +kernel)) (pi_list (pv 5))
          (blkOk_by (own := [("costs", 11)]) (N := ["tariff", "counts", "single_prices", "day_prices", "week_prices", "costs_above", "plans", "week_size", "day_plans", "cost", "day_counts", "costs", "day_cost", "_", "day_size"]) (sc := defScope sPlan) (by decide +kernel))
          (fun _ _ _ _ _ => pg_name (i := 11) scPlan.nd rfl (Or.inl rfl)) (fun _ _ _ _ _ => pts_nil)
          (fun _ _ _ _ _ => pe_call GD hr1 (by rfl) gD FD.kp bD .nil pass0 (pa_cons (pv 3) (pa_cons (pv 11) (pa_cons (pv 7) pa_nil)))))
        (pss_cons (ps_set (i := 9) scPlan.nd rfl (.inl rfl) (pe_op op_add (pe_ix ix_list (pv 4) (pv 7) (fun _ _ => rfl)) (pe_callB (cr_sum rfl) (by rfl) T.sum (by decide +kernel) (pa_cons
          (pe_lc (own := [("day_cost", 12), ("_", 13)]) (g := gTup K 2 (gCons (gName 12) (gCons (gName 13) gNil))) (by rfl) scPlan.nd (pi_list (pv 8))
            (blkOk_by (own := [("day_cost", 12), ("_", 13)]) (N := ["tariff", "counts", "single_prices", "day_prices", "week_prices", "costs_above", "plans", "week_size", "day_plans", "cost", "day_counts", "costs", "day_cost", "_", "day_size"]) (sc := defScope sPlan) (by decide +kernel))
            (fun _ _ _ _ _ => pg_tup rfl (pgs_cons (pg_name (i := 12) scPlan.nd rfl (Or.inl rfl)) (pgs_cons (pg_name (i := 13) scPlan.nd rfl (Or.inl rfl)) pgs_nil))) (fun _ _ _ _ _ => pts_nil) (fun _ _ _ _ _ => pv 12)) pa_nil))))
        (pss_one (ps_expr (pe_bm PySem.F.plainAttrs_list PySem.F.slot_list_append PySem.F.type_list_append mt_append (pv 6) (pa_cons (pe_tup (pa_cons (pv 9) (pa_cons (pv 7) (pa_cons
          (pe_lc (own := [("_", 13), ("day_size", 14)]) (g := gTup K 2 (gCons (gName 13) (gCons (gName 14) gNil))) (by rfl) scPlan.nd (pi_list (pv 8))
            (blkOk_by (own := [("_", 13), ("day_size", 14)]) (N := ["tariff", "counts", "single_prices", "day_prices", "week_prices", "costs_above", "plans", "week_size", "day_plans", "cost", "day_counts", "costs", "day_cost", "_", "day_size"]) (sc := defScope sPlan) (by decide +kernel))
            (fun _ _ _ _ _ => pg_tup rfl (pgs_cons (pg_name (i := 13) scPlan.nd rfl (Or.inl rfl)) (pgs_cons (pg_name (i := 14) scPlan.nd rfl (Or.inl rfl)) pgs_nil))) (fun _ _ _ _ _ => pts_nil) (fun _ _ _ _ _ => pv 14)) pa_nil)))) pa_nil)))))))
      (pss_one (ps_ret (pe_callB (cr_minD rfl hr.units) (by rfl) T.P.min (by decide +kernel) (pa_cons (pv 6) pa_nil))))))))), ?_⟩
    -- the three rows of prices
    refine ⟨_, rfl, t, C, dx, _, _, rfl, hp, T.P.cl, T.P.nS, e1, sa, S, rfl, r1, o1.1, fun H1 sp s1 nsp hsp => ?_⟩
    refine ⟨_, rfl, t, C, dx, _, _, rfl, s1 _ _ hp, T.P.cl, T.P.nD, e2, da, D, rfl, s1 _ _ r2, o2.1, fun H2 dp s2 ndp hdp => ?_⟩
    have s12 := s1.trans s2
    refine ⟨_, rfl, t, C, dx, _, _, rfl, s12 _ _ hp, T.P.cl, T.P.nW, e3, wa, W, rfl, s12 _ _ r3, o3.1, fun H3 wp s3 nwp hwp => ?_⟩
    have s13 := s12.trans s3
    have hsp3 : H3 sp = some (.lst (six (FT.op S))) := (s2.trans s3) _ _ hsp
    have hdp3 : H3 dp = some (.lst (six (FT.op D))) := s3 _ _ hdp
    have hcl3 := s13 _ _ hcl
    have hCA3 : All2 (NatsAt H3) cas (days.map FT.cnt) := hCA.imp fun a b r => s13 _ _ r
    -- costs_above
    refine ⟨_, rfl, cl, rfl, ⟨_, SqL.of hcl3⟩, fun DL nDL => lc_list (K := K) (a := cl) (xs := cas.map V.ref) (fun i H' => Same H3 H' ∧ ∃ xs : List Addr, H' DL = some (.lst (xs.map V.ref)) ∧ All2 (SixAt H') xs ((days.take i).map fun zs k => FT.restF ⟨S, D, W⟩ k zs))
      ⟨same_upd nDL, [], upd_same, .nil⟩ (fun i H' _ ⟨s', _⟩ => SqL.of (s' _ _ hcl3)) ?_ ?_⟩
    · rintro i y H' hi ⟨s', xs, hx, hX⟩
      obtain ⟨ca, eca, rfl⟩ := map_item hi
      obtain ⟨c, ec, hc⟩ := hCA3.getL eca
      rw [List.getElem?_map] at ec
      obtain ⟨zs, ez, rfl⟩ := Option.map_eq_some_iff.mp ec
      refine ⟨rfl, ?_⟩
      refine tYes_if ?_
      have mz := List.mem_of_getElem? ez
      refine ⟨_, rfl, _, rfl, sp, ca, ⟨S, D, W⟩, zs, rfl, s' _ _ hsp3, s' _ _ hc, h5 zs mz, hzl zs mz, fun H4 p s4 np hp4 => ?_⟩
      have nDp : DL ≠ p := ne_of_none hx np
      refine ⟨xs.map V.ref, s4 _ _ hx, small_line (by rw [List.length_map, hX.len, List.length_map, List.length_take]; omega), upd_out (s'.trans s4) nDL, xs ++ [p], by rw [upd_same, List.map_append]; rfl, ?_⟩
      rw [take_snoc ez, List.map_append]
      refine All2.app (hX.imp fun b x hb => ?_) (All2.one ?_)
      · show upd H4 DL _ b = _
        have nb : b ≠ DL := fun z => by
          subst z
          unfold SixAt at hb
          rw [hx] at hb
          have := HO.lst.inj (Option.some.inj hb)
          have e6 := congrArg (fun l => l[0]?) this
          cases xs with
          | nil => simp [six] at this
          | cons x0 xs => simp [six] at e6
        rw [upd_ne nb]
        exact s4 _ _ hb
      · show upd H4 DL _ p = _
        rw [upd_ne nDp.symm]
        exact hp4
    rintro H4 ⟨s4, xs, hDL, hX⟩
    rw [List.length_map, hCA.len, List.length_map, List.take_length] at hX
    -- plans = []
    refine ⟨Nat.zero_le _, fun pl npl => ?_⟩
    refine ⟨_, _, rfl, rfl, 6, rfl, by decide, by decide, for_range (lo := 0) (n := (6 : Int).toNat) (fun i σ H5 => ∃ y7 y8 y9 : Option V, σ = [some (.ref t), some (.ref cl), some (.ref sp), some (.ref dp), some (.ref wp), some (.ref DL), some (.ref pl), y7, y8, y9, none, none, none, none, none] ∧ Same H4 H5 ∧
        ∃ (as : List Addr) (ps : List Plan), H5 pl = some (.lst (as.map V.ref)) ∧ All2 (PlanAt H5) as ps ∧ ps.length = i ∧ ∀ (j : Nat) (p : Plan), ps[j]? = some p → p.w = j ∧ p.c = FT.weekF ⟨S, D, W⟩ j days ∧ DsOk ⟨S, D, W⟩ days j p.ds)
      ⟨none, none, none, rfl, same_upd npl, [], [], upd_same, .nil, rfl, fun j p e => by simp at e⟩ ?_ ?_⟩
    · rintro i σ H5 hi ⟨y7, y8, y9, rfl, s5, as, ps, hpl, hP, hlen, hps⟩
      have hi6 : i < 6 := hi
      have e0 : (0 : Int) + (i : Nat) = (i : Nat) := by omega
      rw [e0]
      have hDL5 := s5 _ _ hDL
      -- day_plans
      refine ⟨_, rfl, DL, rfl, ⟨_, SqL.of hDL5⟩, fun E1 nE => lc_list (K := K) (a := DL) (xs := xs.map V.ref) (fun k H' => Same H5 H' ∧ ∃ (ts : List Addr) (qs : List (Int × Nat)), H' E1 = some (.lst (ts.map V.ref)) ∧ All2 (PairAt H') ts qs ∧ qs.length = k ∧ QsOk ⟨S, D, W⟩ days i qs)
        ⟨same_upd nE, [], [], upd_same, .nil, rfl, fun k q zs e => by simp at e⟩ (fun k H' _ ⟨s', _⟩ => SqL.of (s' _ _ hDL5)) ?_ ?_⟩
      · rintro k y H' hk ⟨s', ts, qs, hE, hT, hql, hq⟩
        obtain ⟨xa, exa, rfl⟩ := map_item hk
        obtain ⟨g, eg, hg⟩ := hX.getL exa
        rw [List.getElem?_map] at eg
        obtain ⟨zs, ez, rfl⟩ := Option.map_eq_some_iff.mp eg
        refine ⟨rfl, ?_⟩
        refine tYes_if ?_
        refine ⟨_, rfl, _, rfl, _, rfl, dp, xa, i, FT.op D, fun k => FT.restF ⟨S, D, W⟩ k zs, rfl, (s4.trans (s5.trans s')) _ _ hdp3, (s5.trans s') _ _ hg, by omega, fun H6 p o s6 np hp6 ho eo => ?_⟩
        have nEp : E1 ≠ p := ne_of_none hE np
        have hkd : k < days.length := (List.getElem?_eq_some_iff.mp ez).1
        refine ⟨ts.map V.ref, s6 _ _ hE, small_line (by rw [List.length_map, hT.len]; omega), upd_out (s'.trans s6) nE, ts ++ [p], qs ++ [(FT.dayF ⟨S, D, W⟩ i zs, o)], by rw [upd_same, List.map_append]; rfl, ?_, by rw [List.length_append, hql]; rfl, ?_⟩
        · refine All2.app (hT.imp fun b x hb => ?_) (All2.one ?_)
          · show upd H6 E1 _ b = _
            rw [upd_ne (ne_of hb hE (by intro z; cases z))]
            exact s6 _ _ hb
          · show upd H6 E1 _ p = _
            rw [upd_ne nEp.symm]
            exact hp6
        · intro k' q' zs' e1 e2
          rw [List.getElem?_append] at e1
          split at e1
          · exact hq k' q' zs' e1 e2
          · rename_i hk'
            have ek : k' = k := by
              have := (List.getElem?_eq_some_iff.mp e1).1
              simp at this
              omega
            subst ek
            rw [hql, Nat.sub_self] at e1
            cases e1
            rw [ez] at e2
            cases e2
            exact ⟨rfl, ho, eo⟩
      rintro H6 ⟨s6, ts, qs, hE, hT, hql, hq⟩
      rw [List.length_map, hX.len, List.length_map] at hql
      have s46 := s4.trans (s5.trans s6)
      -- cost
      refine ⟨_, rfl, _, rfl, wp, _, _, _, rfl, rfl, SqL.of (s46 _ _ hwp), six_at _ hi6, ?_⟩
      refine ⟨_, rfl, E1, rfl, ⟨_, SqL.of hE⟩, fun F1 nF => lc_list (K := K) (a := E1) (xs := ts.map V.ref) (fun k H' => Same H6 H' ∧ H' F1 = some (.lst (((qs.take k).map (·.1)).map V.int)))
        ⟨same_upd nF, upd_same⟩ (fun k H' _ ⟨s', _⟩ => SqL.of (s' _ _ hE)) ?_ ?_⟩
      · rintro k y H' hk ⟨s', hF⟩
        obtain ⟨ta, eta, rfl⟩ := map_item hk
        obtain ⟨qq, eq, hqa⟩ := hT.getL eta
        refine ⟨ta, _, rfl, SqT.of (s' _ _ hqa), rfl, _, _, rfl, _, _, rfl, rfl, rfl, ?_⟩
        refine tYes_if ?_
        refine ⟨_, rfl, _, hF, small_line (by rw [List.length_map, List.length_map, List.length_take]; omega), upd_out s' nF, ?_⟩
        rw [upd_same, take_snoc eq, List.map_append, List.map_append]
        rfl
      rintro H7 ⟨s7, hF⟩
      rw [List.length_map, hT.len, List.take_length] at hF
      have esum : (qs.map (·.1)).sum = (days.map (FT.dayF ⟨S, D, W⟩ i)).sum := by
        congr 1
        apply List.ext_getElem?
        intro k
        rw [List.getElem?_map, List.getElem?_map]
        by_cases hk : k < days.length
        · have a1 : qs[k]? = some (qs[k]'(by omega)) := List.getElem?_eq_getElem _
          have a2 : days[k]? = some days[k] := List.getElem?_eq_getElem _
          rw [a1, a2]
          exact congrArg some (hq k _ _ a1 a2).1
        · rw [List.getElem?_eq_none (by omega), List.getElem?_eq_none (by omega)]
          rfl
      refine ⟨F1, _, rfl, SqL.of hF, _, _, rfl, rfl, ?_⟩
      rw [esum]
      -- plans.append
      have s57 := s6.trans s7
      have hpl7 := s57 _ _ hpl
      refine ⟨_, rfl, .inl ⟨rfl, _, SqL.of hpl7⟩, ?_⟩
      refine ⟨_, rfl, _, rfl, _, rfl, E1, rfl, ⟨_, SqL.of (s7 _ _ hE)⟩, fun G1 nG => lc_list (K := K) (a := E1) (xs := ts.map V.ref) (fun k H' => Same H7 H' ∧ H' G1 = some (.lst (((qs.take k).map (·.2)).map fun (k : Nat) => V.int (k : Nat))))
        ⟨same_upd nG, upd_same⟩ (fun k H' _ ⟨s', _⟩ => SqL.of (s' _ _ (s7 _ _ hE))) ?_ ?_⟩
      · rintro k y H' hk ⟨s', hG⟩
        obtain ⟨ta, eta, rfl⟩ := map_item hk
        obtain ⟨qq, eq, hqa⟩ := hT.getL eta
        refine ⟨ta, _, rfl, SqT.of (s' _ _ (s7 _ _ hqa)), rfl, _, _, rfl, _, _, rfl, rfl, rfl, ?_⟩
        refine tYes_if ?_
        refine ⟨_, rfl, _, hG, small_line (by rw [List.length_map, List.length_map, List.length_take]; omega), upd_out s' nG, ?_⟩
        rw [upd_same, take_snoc eq, List.map_append, List.map_append]
        rfl
      rintro H8 ⟨s8, hG⟩
      rw [List.length_map, hT.len, List.take_length] at hG
      refine ⟨by show 3 ≤ sizeLine; decide, fun p np => ?_⟩
      have hpl8 := s8 _ _ hpl7
      have npl : pl ≠ p := ne_of_none hpl8 np
      refine ⟨pl, _, _, rfl, rfl, by rw [upd_ne npl]; exact hpl8, small_line (by rw [List.length_map, hP.len]; omega), ?_⟩
      have s58 := s57.trans s8
      have npl4 : H4 pl = none := by assumption
      refine ⟨_, _, _, rfl, upd_out (s5.trans (s58.trans (same_upd np))) npl4, as ++ [p], ps ++ [⟨FT.weekF ⟨S, D, W⟩ i days, i, qs.map (·.2)⟩], by rw [upd_same, List.map_append]; rfl, ?_, by rw [List.length_append, hlen]; rfl, ?_⟩
      · have k8 : ∀ b o, H5 b = some o → b ≠ pl → upd (upd H8 p (.tup [V.int (FT.op W i + (days.map (FT.dayF ⟨S, D, W⟩ i)).sum), .int (i : Nat), .ref G1])) pl (.lst (as.map V.ref ++ [V.ref p])) b = some o := fun b o e n => by
          rw [upd_ne n, upd_ne (ne_of_none (s58 _ _ e) np)]
          exact s58 _ _ e
        refine All2.app (hP.imp_mem fun b x mb hb => ?_) (All2.one ?_)
        · obtain ⟨l, b1, b2⟩ := hb
          refine ⟨l, k8 _ _ b1 (ne_of b1 hpl (by intro z; cases z)), ?_⟩
          have nl : l ≠ pl := fun z => by
            subst z
            rw [hpl] at b2
            have := HO.lst.inj (Option.some.inj b2)
            have e6 := congrArg (fun l => l[0]?) this
            cases as with
            | nil => exact absurd mb (by simp)
            | cons x0 xs => 
              cases hd : x.ds with
              | nil => rw [hd] at this; simp at this
              | cons d0 ds => rw [hd] at e6; simp at e6
          exact k8 _ _ b2 nl
        · refine ⟨G1, ?_, ?_⟩
          · show upd _ pl _ p = _
            rw [upd_ne npl.symm, upd_same]
            rfl
          · show upd _ pl _ G1 = _
            have nG8 : G1 ≠ pl := fun z => by
              subst z
              rw [hpl7] at nG
              cases nG
            rw [upd_ne nG8, upd_ne (ne_of_none hG np)]
            exact hG
      · intro j p' e
        rw [List.getElem?_append] at e
        split at e
        · exact hps j p' e
        · rename_i hj
          have ej : j = i := by
            have := (List.getElem?_eq_some_iff.mp e).1
            simp at this
            omega
          subst ej
          rw [hlen, Nat.sub_self] at e
          cases e
          refine ⟨rfl, rfl, by rw [List.length_map, hql], fun k d zs e1 e2 => ?_⟩
          rw [List.getElem?_map] at e1
          obtain ⟨q', eq', rfl⟩ := Option.map_eq_some_iff.mp e1
          exact (hq k q' zs eq' e2).2
    · rintro σ H5 ⟨y7, y8, y9, rfl, s5, as, ps, hpl, hP, hlen, hps⟩
      have hlen6 : ps.length = 6 := hlen
      refine ⟨_, rfl, min3_of hpl hP (fun z => by rw [z] at hlen6; cases hlen6) fun i t' p et ep hp hle => ?_⟩
      obtain ⟨l, hp1, hp2⟩ := hp
      obtain ⟨ew, ec, ed⟩ := hps i p ep
      have hi : i < 6 := by rw [← hlen6]; exact (List.getElem?_eq_some_iff.mp ep).1
      have em : FT.weekF ⟨S, D, W⟩ i days = FT.leastF ⟨S, D, W⟩ days := FT.m6_pick (f := fun w => FT.weekF ⟨S, D, W⟩ w days) (by omega) fun j hj => by
        have e6 : ps[j]? = some (ps[j]'(by omega)) := List.getElem?_eq_getElem _
        have := hle _ (List.mem_of_getElem? e6)
        rw [ec, (hps j _ e6).2.1] at this
        exact this
      rw [ew] at hp1
      rw [ec, em] at hp1
      exact q H5 t' l i p.ds (s13.trans (s4.trans s5)) hp1 hp2 ⟨by omega, ed.1, ed.2, em⟩
end
end FW

namespace FW
open PySem PySem.Spec PyProof.Rows L2
theorem scSingleTickets : FnScope ["tariff", "day", "rides", "served", "tickets", "ride", "zones", "price", "size"] ["tariff", "day", "rides", "served"] (defScope sSingleTickets) := ⟨rfl, rfl, rfl, by decide +kernel, rfl, by decide +kernel, by decide +kernel⟩
theorem scPlanTickets : FnScope ["tariff", "days", "week_size", "day_sizes", "tickets", "price", "size", "day", "rides"] ["tariff", "days", "week_size", "day_sizes"] (defScope sPlanTickets) := ⟨rfl, rfl, rfl, by decide +kernel, rfl, by decide +kernel, by decide +kernel⟩
theorem scLeastOf : FnScope ["tariff", "days", "rides", "zones", "cost", "week_size", "day_sizes"] ["tariff", "days"] (defScope sLeastOf) := ⟨rfl, rfl, rfl, by decide +kernel, rfl, by decide +kernel, by decide +kernel⟩
theorem for_enum {K : PySem.W.Frag} {a : Addr} {xs : List V} {g : TG} {tb : TS} {D : Ends} {σ : L2.St} {H : Hp} (Pv : Nat → L2.St → Hp → Prop) (h0 : Pv 0 σ H) (hl : ∀ i σ H, i ≤ xs.length → Pv i σ H → SqL K H a xs)
    (hs : ∀ i x T σ H, xs[i]? = some x → Pv i σ H → H T = none → g (.ref T) σ (upd H T (.tup [.int (i : Nat), x])) fun σ2 H2 => tb { D with nx := Pv (i + 1), ct := Pv (i + 1), bk := D.nx } σ2 H2) (hd : ∀ σ H, Pv xs.length σ H → D.nx σ H) :
    ∃ W : Nat → Nat → L2.St → Hp → Prop, (∃ m, W 0 m σ H) ∧ ∀ i m σ H, W i m σ H →
      ((Ite K a).stop i H ∧ D.nx σ H) ∨ ((Ite K a).go i H ∧ ∃ N : L2.St → Hp → Prop, (∀ σ' H', N σ' H' → ∃ m', m' < m ∧ W (i + 1) m' σ' H') ∧ ∀ x H', (Ite K a).yld i H x H' → g x σ H' fun σ2 H2 => tb { D with nx := N, ct := N, bk := D.nx } σ2 H2) := by
  refine ⟨fun i m σ H => m = xs.length - i ∧ i ≤ xs.length ∧ Pv i σ H, ⟨xs.length, by simp, Nat.zero_le _, h0⟩, ?_⟩
  rintro i m σ H ⟨rfl, hi, p⟩
  have q := hl i σ H hi p
  by_cases hlt : i < xs.length
  · refine .inr ⟨⟨xs, xs[i], q, by simp [hlt]⟩, Pv (i + 1), fun σ' H' p' => ⟨xs.length - (i + 1), by omega, rfl, hlt, p'⟩, fun x H' y => ?_⟩
    obtain ⟨T, x', rfl, nT, rfl, y⟩ := y
    exact hs i x' T σ H (y xs q) p nT
  · have e : i = xs.length := by omega
    subst e
    exact .inl ⟨⟨xs, q, Nat.le_refl _⟩, hd σ H p⟩
theorem tkin {days : List (List Nat)} {k : FT.Tk} (h : FT.TkIn days k) : TkIn days k := by cases k <;> exact h
theorem tkAt_same {T : FT.Tar} {H H' : Hp} {a : Addr} {k : FT.Tk} (h : TkAt T H a k) (s : Same H H') : TkAt T H' a k := by cases k <;> exact s _ _ h
theorem tkAt_keep {T : FT.Tar} {H H' : Hp} {a : Addr} {k : FT.Tk} (h : TkAt T H a k) (s : ∀ b xs, H b = some (.tup xs) → H' b = some (.tup xs)) : TkAt T H' a k := by cases k <;> exact s _ _ h
section
variable {P : Program} {w : World} {K : PySem.W.Frag} {mg : Str → Option Value} {base : Heap} {C CP CZ : Addr}
/-! ### _single_tickets -/
def spSingleTickets (K : PySem.W.Frag) (C : Addr) : L2.Sp := fun vs H Q _ => ∃ (t ra : Addr) (d h : Nat) (S D W : List Int) (zs : List Nat), vs = [.ref t, .int d, .ref ra, .int h] ∧ TarAt C H t S D W ∧ NatsAt H ra zs ∧ (∀ z, z ∈ zs → 1 ≤ z ∧ z ≤ 5) ∧ zs.length ≤ 100000 ∧
  ∀ (H' : Hp) (p : Addr) (tas : List Addr) (ts : List FT.Tk), Same H H' → H p = none → H' p = some (.lst (tas.map V.ref)) → All2 (TkAt ⟨S, D, W⟩ H') tas ts → FT.SinOk ⟨S, D, W⟩ d h zs ts → Q (.ref p) H'
theorem ok_singleTickets {f fC : Addr} {fd fdC : FuncData} (F : Fun K "_single_tickets" "_single_tickets" sSingleTickets f fd) (T : CTx K mg C CP CZ)
    (FC : Fun K "cheapest" "cheapest" sCheapest fC fdC) (bC : Binds K fdC ["prices", "zones"] []) (gC : mg "cheapest" = some (.ref fC)) : FnOk P w K mg base CX0 2 f fd ["tariff", "day", "rides", "served"] (spSingleTickets K C) := by
  have GC : FnOk P w K mg base CX0 1 fC fdC ["prices", "zones"] (spCheapest K) := ok_cheapest FC T.P
  refine F.ok scSingleTickets (fun vs H Q E h => ?_) (fun cdv A outer s H vs Q E hr h => ?_)
  · obtain ⟨t, ra, d, h', S, D, W, zs, rfl, _⟩ := h
    rfl
  · obtain ⟨t, ra, d, hh, S, D, W, zs, rfl, TA, hR, h5, hl, q⟩ := h
    obtain ⟨⟨dx, fs, sa, da, wa, hp, e1, e2, e3, _, _, _, r1, r2, r3⟩, o1, o2, o3⟩ := TA
    refine ⟨_, pss_cons (ps_set (i := 4) scSingleTickets.nd rfl (.inl rfl) (pe_lst pa_nil))
      (pss_cons (ps_for PassesOwn.never rfl (pi_enum (by rfl) T.enum (pa_cons (pv 2) pa_nil)) (pg_tup rfl (pgs_cons (pg_name (i := 5) scSingleTickets.nd rfl (.inl rfl)) (pgs_cons (pg_name (i := 6) scSingleTickets.nd rfl (.inl rfl)) pgs_nil)))
        (pss_one (ps_if (pt_cmpR op_gt (pv 6) (pv 3) (nomark _))
          (pss_cons (ps_asg (pe_call GC hr (by rfl) gC FC.kp bC .nil pass0 (pa_cons (pe_fld (pv 0) rfl) (pa_cons (pv 6) pa_nil))) (pg_tup rfl (pgs_cons (pg_name (i := 7) scSingleTickets.nd rfl (.inl rfl)) (pgs_cons (pg_name (i := 8) scSingleTickets.nd rfl (.inl rfl)) pgs_nil))))
          (pss_one (ps_expr (pe_bm PySem.F.plainAttrs_list PySem.F.slot_list_append PySem.F.type_list_append mt_append (pv 4) (pa_cons (pe_tup (pa_cons pe_str (pa_cons (pv 1) (pa_cons (pv 5) (pa_cons (pv 8) (pa_cons (pv 7) pa_nil)))))) pa_nil))))) pss_nil)))
      (pss_one (ps_ret (pv 4)))), ?_⟩
    refine ⟨Nat.zero_le _, fun l nl => ?_⟩
    have s1 := same_upd (o := .lst []) nl
    refine ⟨_, rfl, ra, _, rfl, SqL.of (s1 _ _ hR), for_enum (K := K) (a := ra) (xs := zs.map fun (k : Nat) => V.int (k : Nat)) (fun i σ H2 => ∃ y5 y6 y7 y8 : Option V, σ = [some (.ref t), some (.int d), some (.ref ra), some (.int hh), some (.ref l), y5, y6, y7, y8] ∧ Same H H2 ∧
        ∃ (tas : List Addr) (ts : List FT.Tk), H2 l = some (.lst (tas.map V.ref)) ∧ All2 (TkAt ⟨S, D, W⟩ H2) tas ts ∧ FT.SinOk ⟨S, D, W⟩ d hh (zs.take i) ts)
      ⟨none, none, none, none, rfl, s1, [], [], upd_same, .nil, .nil⟩ (fun i σ H2 _ ⟨_, _, _, _, _, s2, _⟩ => SqL.of (s2 _ _ hR)) ?_ ?_⟩
    · rintro i x T0 σ H2 hi ⟨y5, y6, y7, y8, rfl, s2, tas, ts, hl2, hT, ho⟩ nT
      obtain ⟨z, ez, rfl⟩ := map_item hi
      have hz := h5 z (List.mem_of_getElem? ez)
      have hil : i < zs.length := (List.getElem?_eq_some_iff.mp ez).1
      have lt : (zs.take i).length = i := by rw [List.length_take]; omega
      obtain ⟨H3, e3'⟩ : ∃ H3, H3 = upd H2 T0 (.tup [.int (i : Nat), V.int (z : Nat)]) := ⟨_, rfl⟩
      have s3 : Same H2 H3 := e3' ▸ same_upd nT
      have hT0 : H3 T0 = some (.tup [.int (i : Nat), V.int (z : Nat)]) := by rw [e3', upd_same]
      rw [← e3']
      clear e3'
      have hl3 := s3 _ _ hl2
      have hT3 : All2 (TkAt ⟨S, D, W⟩ H3) tas ts := hT.imp fun a b r => tkAt_same r s3
      have s23 := s2.trans s3
      refine ⟨T0, _, rfl, SqT.of hT0, rfl, _, _, rfl, _, _, rfl, rfl, ?_⟩
      refine ⟨_, rfl, _, rfl, _, _, rfl, rfl, _, rfl, ?_⟩
      refine ite2 (fun e => ?_) (fun e => ?_)
      · have hgt : ¬ z ≤ hh := by
          have := of_decide_eq_true e
          omega
        refine ⟨_, rfl, t, C, dx, _, _, rfl, s23 _ _ hp, T.P.cl, T.P.nS, e1, _, rfl, sa, S, z, rfl, SqL.of (s23 _ _ r1), fun H' s' => SqL.of (s' _ _ (s23 _ _ r1)), o1.1, hz.1, hz.2, fun H4 p k s4 hp4 zk k5 ek => ?_⟩
        refine ⟨p, _, rfl, SqT.of hp4, rfl, _, _, rfl, _, _, rfl, rfl, ?_⟩
        have hl4 := s4 _ _ hl3
        refine ⟨_, rfl, .inl ⟨rfl, _, SqL.of hl4⟩, ?_⟩
        refine ⟨_, rfl, _, rfl, _, rfl, _, rfl, by show 5 ≤ sizeLine; decide, fun p2 np2 => ?_⟩
        have nlp : l ≠ p2 := ne_of_none hl4 np2
        refine ⟨l, _, _, rfl, rfl, by rw [upd_ne nlp]; exact hl4, small_line (by rw [List.length_map, hT.len]; have := ho.len; rw [lt] at this; omega), ?_⟩
        refine ⟨_, _, _, _, rfl, upd_out (s23.trans (s4.trans (same_upd np2))) nl, tas ++ [p2], ts ++ [.single d i k], by rw [upd_same, List.map_append]; rfl, ?_, ?_⟩
        · refine All2.app (hT3.imp fun b x hb => tkAt_keep hb fun c xs hc => ?_) (All2.one ?_)
          · rw [upd_ne (ne_of hc hl3 (by intro z; cases z)), upd_ne (ne_of_none (s4 _ _ hc) np2)]
            exact s4 _ _ hc
          · show upd _ l _ p2 = _
            rw [upd_ne nlp.symm, upd_same]
            show some (HO.tup [_, _, _, V.int (k : Nat), V.int (FT.best S z)]) = _
            rw [← ek]
        · have := ho.take hgt hz.1 zk k5 ek
          rw [lt] at this
          rw [take_snoc ez]
          exact this
      · have hle : z ≤ hh := by
          have : ¬ (z : Int) > hh := fun c => e (decide_eq_true c)
          omega
        refine ⟨_, _, _, _, rfl, s23, tas, ts, hl3, hT3, ?_⟩
        rw [take_snoc ez]
        exact ho.skip hle
    · rintro σ H2 ⟨y5, y6, y7, y8, rfl, s2, tas, ts, hl2, hT, ho⟩
      rw [List.length_map, List.take_length] at ho
      exact ⟨_, rfl, q H2 l tas ts s2 nl hl2 hT ho⟩
/-! ### _plan_tickets -/
theorem max_cast (a b : Nat) : (if ((b : Nat) : Int) > (a : Nat) then ((b : Nat) : Int) else (a : Nat)) = ((max a b : Nat) : Int) := by
  by_cases c : a < b
  · rw [if_pos (by omega), Nat.max_eq_right (by omega)]
  · rw [if_neg (by omega), Nat.max_eq_left (by omega)]
theorem sum_bound {days : List (List Nat)} (n : Nat) (h : ∀ zs, zs ∈ days → zs.length ≤ n) : ∀ k, ((days.take k).map fun zs => zs.length + 1).sum ≤ days.length * (n + 1) := by
  induction days with
  | nil => intro k; rw [List.take_nil]; exact Nat.zero_le _
  | cons zs days ih =>
    intro k
    cases k with
    | zero => exact Nat.zero_le _
    | succ k =>
      have a := ih (fun z m => h z (List.mem_cons_of_mem _ m)) k
      have b := h zs List.mem_cons_self
      rw [List.take_succ_cons, List.map_cons, List.sum_cons, List.length_cons, Nat.add_mul]
      omega
def spPlanTickets (K : PySem.W.Frag) (C : Addr) : L2.Sp := fun vs H Q _ => ∃ (t dl sl : Addr) (w : Nat) (S D W : List Int) (as : List Addr) (days : List (List Nat)) (ds : List Nat), vs = [.ref t, .ref dl, .int w, .ref sl] ∧ TarAt C H t S D W ∧
  H dl = some (.lst (as.map V.ref)) ∧ All2 (NatsAt H) as days ∧ NatsAt H sl ds ∧ FT.Good ⟨S, D, W⟩ days w ds ∧ FT.In5 days ∧ days.length * 1001 ≤ 1001000 ∧ (∀ zs, zs ∈ days → zs.length ≤ 1000) ∧
  ∀ (H' : Hp) (p : Addr) (tas : List Addr) (ts : List FT.Tk), Same H H' → H p = none → H' p = some (.lst (tas.map V.ref)) → All2 (TkAt ⟨S, D, W⟩ H') tas ts → FT.PlOk ⟨S, D, W⟩ days w days.length ts → Q (.ref p) H'
theorem ok_planTickets {f fS fC : Addr} {fd fdS fdC : FuncData} (F : Fun K "_plan_tickets" "_plan_tickets" sPlanTickets f fd) (T : CTx K mg C CP CZ)
    (FS : Fun K "_single_tickets" "_single_tickets" sSingleTickets fS fdS) (bS : Binds K fdS ["tariff", "day", "rides", "served"] []) (gS : mg "_single_tickets" = some (.ref fS))
    (FC : Fun K "cheapest" "cheapest" sCheapest fC fdC) (bC : Binds K fdC ["prices", "zones"] []) (gC : mg "cheapest" = some (.ref fC)) : FnOk P w K mg base CX0 3 f fd ["tariff", "days", "week_size", "day_sizes"] (spPlanTickets K C) := by
  have GC : FnOk P w K mg base CX0 1 fC fdC ["prices", "zones"] (spCheapest K) := ok_cheapest FC T.P
  have GS : FnOk P w K mg base CX0 2 fS fdS ["tariff", "day", "rides", "served"] (spSingleTickets K C) := ok_singleTickets FS T FC bC gC
  refine F.ok scPlanTickets (fun vs H Q E h => ?_) (fun cdv A outer s H vs Q E hr h => ?_)
  · obtain ⟨t, dl, sl, w, S, D, W, as, days, ds, rfl, _⟩ := h
    rfl
  · obtain ⟨t, dl, sl, wz, S, D, W, as, days, ds, rfl, TA, hdl, hA, hsl, good, h5, hdn, hzl, q⟩ := h
    obtain ⟨⟨dx, fs, sa, da, wa, hp, e1, e2, e3, _, _, _, r1, r2, r3⟩, o1, o2, o3⟩ := id TA
    have hr1 := hr.mono (show 1 ≤ 2 by decide)
    refine ⟨_, pss_cons (ps_set (i := 4) scPlanTickets.nd rfl (.inl rfl) (pe_lst pa_nil))
      (C8.pss_cut (ps_if (pt_cmpR op_gt (pv 2) pe_int (nomark _))
          (pss_cons (ps_asg (pe_call GC hr1 (by rfl) gC FC.kp bC .nil pass0 (pa_cons (pe_fld (pv 0) rfl) (pa_cons (pv 2) pa_nil))) (pg_tup rfl (pgs_cons (pg_name (i := 5) scPlanTickets.nd rfl (.inl rfl)) (pgs_cons (pg_name (i := 6) scPlanTickets.nd rfl (.inl rfl)) pgs_nil))))
          (pss_one (ps_expr (pe_bm PySem.F.plainAttrs_list PySem.F.slot_list_append PySem.F.type_list_append mt_append (pv 4) (pa_cons (pe_tup (pa_cons pe_str (pa_cons (pv 6) (pa_cons (pv 5) pa_nil)))) pa_nil))))) pss_nil)
      (pss_cons (ps_for PassesOwn.never rfl (pi_enum (by rfl) T.enum (pa_cons (pv 1) pa_nil)) (pg_tup rfl (pgs_cons (pg_name (i := 7) scPlanTickets.nd rfl (.inl rfl)) (pgs_cons (pg_name (i := 8) scPlanTickets.nd rfl (.inl rfl)) pgs_nil)))
        (C8.pss_cut (ps_if (pt_cmpR op_gt (pe_ix ix_list (pv 3) (pv 7) (fun _ _ => rfl)) pe_int (nomark _))
          (pss_cons (ps_asg (pe_call GC hr1 (by rfl) gC FC.kp bC .nil pass0 (pa_cons (pe_fld (pv 0) rfl) (pa_cons (pe_ix ix_list (pv 3) (pv 7) (fun _ _ => rfl)) pa_nil))) (pg_tup rfl (pgs_cons (pg_name (i := 5) scPlanTickets.nd rfl (.inl rfl)) (pgs_cons (pg_name (i := 6) scPlanTickets.nd rfl (.inl rfl)) pgs_nil))))
          (pss_one (ps_expr (pe_bm PySem.F.plainAttrs_list PySem.F.slot_list_append PySem.F.type_list_append mt_append (pv 4) (pa_cons (pe_tup (pa_cons pe_str (pa_cons (pv 7) (pa_cons (pv 6) (pa_cons (pv 5) pa_nil))))) pa_nil))))) pss_nil)
        (pss_one (ps_expr (pe_bm PySem.F.plainAttrs_list PySem.F.slot_list_extend PySem.F.type_list_extend mt_extend (pv 4) (pa_cons (pe_call GS hr (by rfl) gS FS.kp bS .nil pass0 (pa_cons (pv 0) (pa_cons (pv 7) (pa_cons (pv 8) (pa_cons
          (pe_callB (call_max2 rfl) (by rfl) T.max (by decide +kernel) (pa_cons (pv 2) (pa_cons (pe_ix ix_list (pv 3) (pv 7) (fun _ _ => rfl)) pa_nil))) pa_nil))))) pa_nil))))))
      (pss_one (ps_ret (pv 4))))), ?_⟩
    refine ⟨Nat.zero_le _, fun l nl => ?_⟩
    have s1 := same_upd (o := .lst []) nl
    -- the week's ticket
    refine ⟨fun σ H2 => ∃ y5 y6 : Option V, σ = [some (.ref t), some (.ref dl), some (.int wz), some (.ref sl), some (.ref l), y5, y6, none, none] ∧ Same H H2 ∧
        ∃ (tas : List Addr) (ts : List FT.Tk), H2 l = some (.lst (tas.map V.ref)) ∧ All2 (TkAt ⟨S, D, W⟩ H2) tas ts ∧ FT.PlOk ⟨S, D, W⟩ days wz 0 ts, ?_, ?_⟩
    · refine ⟨_, rfl, _, _, rfl, rfl, _, rfl, ?_⟩
      refine ite2 (fun e => ?_) (fun e => ?_)
      · have hw : 0 < wz := by
          have := of_decide_eq_true e
          omega
        refine ⟨_, rfl, t, C, dx, _, _, rfl, s1 _ _ hp, T.P.cl, T.P.nW, e3, _, rfl, wa, W, wz, rfl, SqL.of (s1 _ _ r3), fun H' s' => SqL.of (s' _ _ (s1 _ _ r3)), o3.1, hw, good.w5, fun H4 p k s4 hp4 zk k5 ek => ?_⟩
        refine ⟨p, _, rfl, SqT.of hp4, rfl, _, _, rfl, _, _, rfl, rfl, ?_⟩
        have hl4 : H4 l = some (.lst []) := s4 _ _ upd_same
        refine ⟨_, rfl, .inl ⟨rfl, _, SqL.of hl4⟩, ?_⟩
        refine ⟨_, rfl, _, rfl, by show 3 ≤ sizeLine; decide, fun p2 np2 => ?_⟩
        have nlp : l ≠ p2 := ne_of_none hl4 np2
        refine ⟨l, _, _, rfl, rfl, by rw [upd_ne nlp]; exact hl4, by show 0 < sizeLine; decide, ?_⟩
        refine ⟨_, _, rfl, upd_out (s1.trans (s4.trans (same_upd np2))) nl, [p2], [.week k], by rw [upd_same]; rfl, All2.one ?_, .week hw zk k5 ek⟩
        show upd _ l _ p2 = _
        rw [upd_ne nlp.symm, upd_same]
        show some (HO.tup [_, V.int (k : Nat), V.int (FT.best W wz)]) = _
        rw [← ek]
      · have hw : wz = 0 := by
          have : ¬ (wz : Int) > 0 := fun c => e (decide_eq_true c)
          omega
        subst hw
        exact ⟨_, _, rfl, s1, [], [], upd_same, .nil, .none⟩
    rintro σ H2 ⟨y5, y6, rfl, s2, tas0, ts0, hl2, hT2, ho2⟩
    -- the days
    refine ⟨_, rfl, dl, _, rfl, SqL.of (s2 _ _ hdl), for_enum (K := K) (a := dl) (xs := as.map V.ref) (fun i σ H2 => ∃ y5 y6 y7 y8 : Option V, σ = [some (.ref t), some (.ref dl), some (.int wz), some (.ref sl), some (.ref l), y5, y6, y7, y8] ∧ Same H H2 ∧
        ∃ (tas : List Addr) (ts : List FT.Tk), H2 l = some (.lst (tas.map V.ref)) ∧ All2 (TkAt ⟨S, D, W⟩ H2) tas ts ∧ FT.PlOk ⟨S, D, W⟩ days wz i ts)
      ⟨_, _, none, none, rfl, s2, tas0, ts0, hl2, hT2, ho2⟩ (fun i σ H2 _ ⟨_, _, _, _, _, s2, _⟩ => SqL.of (s2 _ _ hdl)) ?_ ?_⟩
    · clear hl2 hT2 ho2 s2
      rintro i x T0 σ H2 hi ⟨y5, y6, y7, y8, rfl, s2, tas, ts, hl2, hT, ho⟩ nT
      obtain ⟨za, ea, rfl⟩ := map_item hi
      obtain ⟨zs, ez, hz⟩ := hA.getL ea
      have mz := List.mem_of_getElem? ez
      have hil : i < days.length := (List.getElem?_eq_some_iff.mp ez).1
      have hid : i < ds.length := by rw [good.len]; exact hil
      obtain ⟨d, ed⟩ : ∃ d, ds[i]? = some d := ⟨_, List.getElem?_eq_getElem hid⟩
      obtain ⟨d5, hday⟩ := good.at_ i d zs ed ez
      have gd : atI (ds.map fun (k : Nat) => V.int (k : Nat)) ((i : Nat) : Int) = some (.int (d : Nat)) := at_of rfl (by rw [List.getElem?_map, ed]; rfl)
      obtain ⟨H3, e3'⟩ : ∃ H3, H3 = upd H2 T0 (.tup [.int (i : Nat), V.ref za]) := ⟨_, rfl⟩
      have s3 : Same H2 H3 := e3' ▸ same_upd nT
      have hT0 : H3 T0 = some (.tup [.int (i : Nat), V.ref za]) := by rw [e3', upd_same]
      rw [← e3']
      clear e3'
      have hl3 := s3 _ _ hl2
      have hT3 : All2 (TkAt ⟨S, D, W⟩ H3) tas ts := hT.imp fun a b r => tkAt_same r s3
      have s23 := s2.trans s3
      have lenT : ts.length ≤ 1002000 := by
        have a := ho.len
        have b := sum_bound 1000 hzl i
        omega
      refine ⟨T0, _, rfl, SqT.of hT0, rfl, _, _, rfl, _, _, rfl, rfl, ?_⟩
      -- the day's ticket
      refine ⟨fun σ H4 => ∃ y5 y6 : Option V, σ = [some (.ref t), some (.ref dl), some (.int wz), some (.ref sl), some (.ref l), y5, y6, some (.int (i : Nat)), some (.ref za)] ∧ Same H H4 ∧
        ∃ (tas2 : List Addr) (us : List FT.Tk), H4 l = some (.lst (tas2.map V.ref)) ∧ All2 (TkAt ⟨S, D, W⟩ H4) tas2 (ts ++ us) ∧ ((d = 0 ∧ us = []) ∨ ∃ k, 0 < d ∧ d ≤ k ∧ k ≤ 5 ∧ FT.pr D k = FT.best D d ∧ us = [.day i k]), ?_, ?_⟩
      · refine ⟨_, rfl, _, rfl, sl, _, _, _, rfl, rfl, SqL.of (s23 _ _ hsl), gd, _, _, rfl, rfl, _, rfl, ?_⟩
        refine ite2 (fun e => ?_) (fun e => ?_)
        · have hd : 0 < d := by
            have := of_decide_eq_true e
            omega
          refine ⟨_, rfl, t, C, dx, _, _, rfl, s23 _ _ hp, T.P.cl, T.P.nD, e2, _, rfl, _, rfl, sl, _, _, _, rfl, rfl, SqL.of (s23 _ _ hsl), gd, da, D, d, rfl, SqL.of (s23 _ _ r2), fun H' s' => SqL.of (s' _ _ (s23 _ _ r2)), o2.1, hd, d5, fun H4 p k s4 hp4 zk k5 ek => ?_⟩
          refine ⟨p, _, rfl, SqT.of hp4, rfl, _, _, rfl, _, _, rfl, rfl, ?_⟩
          have hl4 := s4 _ _ hl3
          refine ⟨_, rfl, .inl ⟨rfl, _, SqL.of hl4⟩, ?_⟩
          refine ⟨_, rfl, _, rfl, _, rfl, by show 4 ≤ sizeLine; decide, fun p2 np2 => ?_⟩
          have nlp : l ≠ p2 := ne_of_none hl4 np2
          refine ⟨l, _, _, rfl, rfl, by rw [upd_ne nlp]; exact hl4, by rw [List.length_map, hT.len, sizeLine_eq]; omega, ?_⟩
          refine ⟨_, _, rfl, upd_out (s23.trans (s4.trans (same_upd np2))) nl, tas ++ [p2], [.day i k], by rw [upd_same, List.map_append]; rfl, ?_, .inr ⟨k, hd, zk, k5, ek, rfl⟩⟩
          refine All2.app (hT3.imp fun b x hb => tkAt_keep hb fun c xs hc => ?_) (All2.one ?_)
          · rw [upd_ne (ne_of hc hl3 (by intro z; cases z)), upd_ne (ne_of_none (s4 _ _ hc) np2)]
            exact s4 _ _ hc
          · show upd _ l _ p2 = _
            rw [upd_ne nlp.symm, upd_same]
            show some (HO.tup [_, _, V.int (k : Nat), V.int (FT.best D d)]) = _
            rw [← ek]
        · have hd : d = 0 := by
            have : ¬ (d : Int) > 0 := fun c => e (decide_eq_true c)
            omega
          exact ⟨_, _, rfl, s23, tas, [], hl3, by rw [List.append_nil]; exact hT3, .inl ⟨hd, rfl⟩⟩
      rintro σ H4 ⟨y5', y6', rfl, s4, tas2, us, hl4, hT4, hus⟩
      -- the singles
      have lus : us.length ≤ 1 := by
        rcases hus with ⟨_, rfl⟩ | ⟨k, _, _, _, _, rfl⟩
        · exact Nat.zero_le _
        · exact Nat.le_refl _
      refine ⟨_, rfl, .inl ⟨rfl, _, SqL.of hl4⟩, ?_⟩
      refine ⟨_, rfl, _, rfl, _, rfl, _, rfl, _, rfl, _, rfl, sl, _, _, _, rfl, rfl, SqL.of (s4 _ _ hsl), gd, _, _, rfl, t, za, i, max wz d, S, D, W, zs, ?_, TA.same s4, s4 _ _ hz, h5 zs mz, Nat.le_trans (hzl zs mz) (by decide), fun H5 p vas vs s5 np hp5 hV hS => ?_⟩
      · rw [max_cast]
        rfl
      have hl5 := s5 _ _ hl4
      have lv := hS.len
      have lz := hzl zs mz
      refine ⟨l, p, _, _, rfl, rfl, hl5, hp5, by rw [List.length_map, List.length_map, hT4.len, hV.len, List.length_append, sizeLine_eq]; omega, ?_⟩
      refine ⟨_, _, _, _, rfl, upd_out (s4.trans s5) nl, tas2 ++ vas, ts ++ us ++ vs, by rw [upd_same, List.map_append], ?_, ho.more ez (h5 zs mz) hday hus hS⟩
      refine All2.app (hT4.imp fun b x hb => tkAt_keep hb fun c xs hc => ?_) (hV.imp fun b x hb => tkAt_keep hb fun c xs hc => ?_)
      · rw [upd_ne (ne_of hc hl4 (by intro z; cases z))]
        exact s5 _ _ hc
      · rw [upd_ne (ne_of hc hl5 (by intro z; cases z))]
        exact hc
    · rintro σ H3 ⟨y5, y6, y7, y8, rfl, s3, tas, ts, hl3, hT, ho⟩
      rw [List.length_map, hA.len] at ho
      exact ⟨_, rfl, q H3 l tas ts s3 nl hl3 hT ho⟩
end
end FW

namespace FW
open PySem PySem.Spec PyProof.Rows L2
section
variable {P : Program} {w : World} {K : PySem.W.Frag} {mg : Str → Option Value} {base : Heap} {C CP CZ : Addr}
/-! ### least -/
theorem nats_ints (zs : List Nat) : (zs.map fun (z : Nat) => (z : Int)).map V.int = zs.map fun (k : Nat) => V.int (k : Nat) := by
  rw [List.map_map]
  rfl
theorem to_nats {dz : List (List Int)} (h : ∀ zs, zs ∈ dz → ∀ z, z ∈ zs → 1 ≤ z ∧ z ≤ 5) : ∃ days : List (List Nat), dz = days.map (fun zs => zs.map fun (z : Nat) => (z : Int)) ∧ FT.In5 days := by
  refine ⟨dz.map fun zs => zs.map Int.toNat, ?_, fun zs m z mz => ?_⟩
  · rw [List.map_map]
    refine (List.map_id dz).symm.trans (List.map_congr_left fun zs m => ?_)
    show zs = (zs.map Int.toNat).map _
    rw [List.map_map]
    refine (List.map_id zs).symm.trans (List.map_congr_left fun z mz => ?_)
    have := h zs m z mz
    show z = ((z.toNat : Nat) : Int)
    omega
  · obtain ⟨ys, my, rfl⟩ := List.mem_map.mp m
    obtain ⟨y, myy, rfl⟩ := List.mem_map.mp mz
    have := h ys my y myy
    omega
theorem ok_leastOf {f fZ fK fP fT fB fA fD fS fC : Addr} {fd fdZ fdK fdP fdT fdB fdA fdD fdS fdC : FuncData} (F : Fun K "least" "least" sLeastOf f fd) (T : CTx K mg C CP CZ)
    (FZ : Fun K "check_zones" "check_zones" sCheckZones fZ fdZ) (bZ : Binds K fdZ ["zones"] []) (gZ : mg "check_zones" = some (.ref fZ))
    (FK : Fun K "_count_rides" "_count_rides" sCountRides fK fdK) (bK : Binds K fdK ["rides"] []) (gK : mg "_count_rides" = some (.ref fK))
    (FP : Fun K "_cheapest_plan" "_cheapest_plan" sPlan fP fdP) (bP : Binds K fdP ["tariff", "counts"] []) (gP : mg "_cheapest_plan" = some (.ref fP))
    (FT' : Fun K "_plan_tickets" "_plan_tickets" sPlanTickets fT fdT) (bT : Binds K fdT ["tariff", "days", "week_size", "day_sizes"] []) (gT : mg "_plan_tickets" = some (.ref fT))
    (FB : Fun K "_prices_by_size" "_prices_by_size" sBySize fB fdB) (bB : Binds K fdB ["prices"] []) (gB : mg "_prices_by_size" = some (.ref fB))
    (FA : Fun K "_costs_above" "_costs_above" sAbove fA fdA) (bA : Binds K fdA ["single_prices", "counts"] []) (gA : mg "_costs_above" = some (.ref fA))
    (FD : Fun K "_cheapest_day_plan" "_cheapest_day_plan" sDayPlan fD fdD) (bD : Binds K fdD ["day_prices", "costs_above", "week_size"] []) (gD : mg "_cheapest_day_plan" = some (.ref fD))
    (FS : Fun K "_single_tickets" "_single_tickets" sSingleTickets fS fdS) (bS : Binds K fdS ["tariff", "day", "rides", "served"] []) (gS : mg "_single_tickets" = some (.ref fS))
    (FC : Fun K "cheapest" "cheapest" sCheapest fC fdC) (bC : Binds K fdC ["prices", "zones"] []) (gC : mg "cheapest" = some (.ref fC)) :
    FnOk P w K mg base (L2N.CX P w) 4 f fd ["tariff", "days"] (spCovers C CZ) := by
  have GZ : FnOk P w K mg base (L2N.CX P w) 1 fZ fdZ ["zones"] (spCheckZones CZ) := ok_checkZones FZ T.P
  have GK : FnOk P w K mg base CX0 1 fK fdK ["rides"] (spCountRides K) := ok_countRides FK T
  have GP : FnOk P w K mg base CX0 3 fP fdP ["tariff", "counts"] (spPlan K C) := ok_plan FP T FB bB gB FA bA gA FD bD gD FC bC gC
  have GT : FnOk P w K mg base CX0 3 fT fdT ["tariff", "days", "week_size", "day_sizes"] (spPlanTickets K C) := ok_planTickets FT' T FS bS gS FC bC gC
  refine okN F scLeastOf (fun vs H Q E h => ?_) (fun cdv A outer s H vs Q E hr h => ?_)
  · obtain ⟨t, dl, S, D, W, as, dz, rfl, _⟩ := h
    rfl
  · obtain ⟨t, dl, S, D, W, as, dz, rfl, TA, hdl, hA, hn, hzl, q1, q2⟩ := h
    have hr1 := hr.mono (show 1 ≤ 3 by decide)
    refine ⟨_, pss_cons (ps_for (passes_of rfl) rfl (pi_list (pv 1)) (pg_name (i := 2) scLeastOf.nd rfl (.inl rfl))
        (pss_one (ps_for (passes_of rfl) rfl (pi_list (pv 2)) (pg_name (i := 3) scLeastOf.nd rfl (.inl rfl))
          (pss_one (ps_expr (pe_call GZ hr1 (by rfl) gZ FZ.kp bZ .nil (L2N.passes_call (W := fun cls d _ H => E cls d H) (L2N.takes_of rfl rfl rfl rfl) (fun _ _ _ _ h => h)) (pa_cons (pv 3) pa_nil)))))))
      (pss_cons (ps_asg (pe_call GP hr (by rfl) gP FP.kp bP .nil pass0 (pa_cons (pv 0) (pa_cons
          (pe_lc (own := [("rides", 2)]) (g := gName 2) (by rfl) scLeastOf.nd (pi_list (pv 1)) (blkOk_by (own := [("rides", 2)]) (N := ["tariff", "days", "rides", "zones", "cost", "week_size", "day_sizes"]) (sc := defScope sLeastOf) (by decide +kernel))
            (fun _ _ _ _ _ => pg_name (i := 2) scLeastOf.nd rfl (Or.inl rfl)) (fun _ _ _ _ _ => pts_nil) (fun _ _ _ _ _ => pe_call GK hr1 (by rfl) gK FK.kp bK .nil pass0 (pa_cons (pv 2) pa_nil))) pa_nil)))
        (pg_tup rfl (pgs_cons (pg_name (i := 4) scLeastOf.nd rfl (.inl rfl)) (pgs_cons (pg_name (i := 5) scLeastOf.nd rfl (.inl rfl)) (pgs_cons (pg_name (i := 6) scLeastOf.nd rfl (.inl rfl)) pgs_nil)))))
      (pss_one (ps_ret (pe_tup (pa_cons (pv 4) (pa_cons (pe_call GT hr (by rfl) gT FT'.kp bT .nil pass0 (pa_cons (pv 0) (pa_cons (pv 1) (pa_cons (pv 5) (pa_cons (pv 6) pa_nil))))) pa_nil)))))), ?_⟩
    -- each ride's zones are from 1 to 5
    refine ⟨_, rfl, dl, rfl, ⟨_, SqL.of hdl⟩, for_list (K := K) (a := dl) (xs := as.map V.ref) (fun i σ H2 => H2 = H ∧ (∃ y2 y3 : Option V, σ = [some (.ref t), some (.ref dl), y2, y3, none, none, none]) ∧ ∀ zs, zs ∈ dz.take i → ∀ z, z ∈ zs → 1 ≤ z ∧ z ≤ 5)
      ⟨rfl, ⟨none, none, rfl⟩, by simp⟩ (fun i σ H2 _ ⟨e, _⟩ => by rw [e]; exact SqL.of hdl) ?_ ?_⟩
    · rintro i x σ H2 hi ⟨eH, ⟨y2, y3, rfl⟩, hz⟩
      have eH2 := eH.symm
      subst eH2
      obtain ⟨za, ea, rfl⟩ := map_item hi
      obtain ⟨zs, ez, hza⟩ := hA.getL ea
      refine ⟨_, rfl, za, rfl, ⟨_, SqL.of hza⟩, for_list (K := K) (a := za) (xs := zs.map V.int) (fun j σ H2 => H2 = H ∧ (∃ y3 : Option V, σ = [some (.ref t), some (.ref dl), some (.ref za), y3, none, none, none]) ∧ ∀ z, z ∈ zs.take j → 1 ≤ z ∧ z ≤ 5)
        ⟨rfl, ⟨y3, rfl⟩, by simp⟩ (fun i σ H2 _ ⟨e, _⟩ => by rw [e]; exact SqL.of hza) ?_ ?_⟩
      · rintro j x σ H2 hj ⟨eH, ⟨y3, rfl⟩, hz2⟩
        have eH2 := eH.symm
        subst eH2
        obtain ⟨z, ezz, rfl⟩ := map_item hj
        refine ⟨_, rfl, z, rfl, fun ok => ⟨rfl, ⟨_, rfl⟩, fun y m => ?_⟩, fun no => q2 ⟨zs, z, List.mem_of_getElem? ez, List.mem_of_getElem? ezz, no⟩ H fun _ _ e => e⟩
        rw [take_snoc ezz] at m
        rcases List.mem_append.mp m with m | m
        · exact hz2 y m
        · rw [List.mem_singleton.mp m]
          exact ok
      · rintro σ H2 ⟨eH, ⟨y3, rfl⟩, hz2⟩
        have eH2 := eH.symm
        subst eH2
        rw [List.length_map, List.take_length] at hz2
        refine ⟨rfl, ⟨_, _, rfl⟩, fun ys m => ?_⟩
        rw [take_snoc ez] at m
        rcases List.mem_append.mp m with m | m
        · exact hz ys m
        · rw [List.mem_singleton.mp m]
          exact hz2
    rintro σ H2 ⟨eH, ⟨y2, y3, rfl⟩, hz⟩
    have eH2 := eH.symm
    subst eH2
    rw [List.length_map, hA.len, List.take_length] at hz
    obtain ⟨days, rfl, h5⟩ := to_nats hz
    have hA' : All2 (NatsAt H) as days := All2.of_get (by rw [hA.len, List.length_map]) fun i a b e1 e2 => by
      have := hA.at (i := i) e1 (by rw [List.getElem?_map, e2]; rfl)
      unfold RowAt at this
      rw [nats_ints] at this
      exact this
    have hn' : days.length ≤ 50 := by rw [List.length_map] at hn; exact hn
    have hzl' : ∀ zs, zs ∈ days → zs.length ≤ 1000 := fun zs m => by
      have := hzl _ (List.mem_map.mpr ⟨zs, m, rfl⟩)
      rw [List.length_map] at this
      exact this
    -- the counts
    refine ⟨_, rfl, ?_⟩
    refine ⟨_, rfl, dl, rfl, ⟨_, SqL.of hdl⟩, fun E1 nE => lc_list (K := K) (a := dl) (xs := as.map V.ref) (fun i H' => Same H H' ∧ ∃ cs : List Addr, H' E1 = some (.lst (cs.map V.ref)) ∧ All2 (NatsAt H') cs ((days.take i).map FT.cnt) ∧ E1 ∉ cs)
      ⟨same_upd nE, [], upd_same, .nil, by simp⟩ (fun i H' _ ⟨s', _⟩ => SqL.of (s' _ _ hdl)) ?_ ?_⟩
    · rintro i y H' hi ⟨s', cs, hE, hC, nEc⟩
      obtain ⟨za, ea, rfl⟩ := map_item hi
      obtain ⟨zs, ez, hza⟩ := hA'.getL ea
      refine ⟨rfl, ?_⟩
      refine tYes_if ?_
      refine ⟨_, rfl, za, zs, rfl, s' _ _ hza, fun z m => (h5 zs (List.mem_of_getElem? ez) z m).2, fun H3 p s3 np hp => ?_⟩
      have hE3 := s3 _ _ hE
      have nEp : E1 ≠ p := ne_of_none hE np
      refine ⟨cs.map V.ref, hE3, small_line (by rw [List.length_map, hC.len, List.length_map, List.length_take]; omega), upd_out (s'.trans s3) nE, cs ++ [p], by rw [upd_same, List.map_append]; rfl, ?_, fun m => ?_⟩
      · rw [take_snoc ez, List.map_append]
        refine All2.app (hC.imp_mem fun b x mb hb => ?_) (All2.one ?_)
        · show upd H3 E1 _ b = _
          rw [upd_ne (show b ≠ E1 from fun z => nEc (by rw [← z]; exact mb))]
          exact s3 _ _ hb
        · show upd H3 E1 _ p = _
          rw [upd_ne nEp.symm]
          exact hp
      · rcases List.mem_append.mp m with m | m
        · exact nEc m
        · exact nEp (List.mem_singleton.mp m)
    rintro H3 ⟨s3, cs, hE, hC, _⟩
    rw [List.length_map, hA'.len, List.take_length] at hC
    refine ⟨t, E1, S, D, W, days, rfl, TA.same s3, ⟨cs, hE, hC⟩, h5, by omega, fun zs m => Nat.le_trans (hzl' zs m) (by decide), fun H4 p l wz ds s4 hp hl good => ?_⟩
    refine ⟨p, _, rfl, SqT.of hp, rfl, _, _, rfl, _, _, rfl, _, _, rfl, rfl, ?_⟩
    have s34 := s3.trans s4
    refine ⟨_, rfl, ?_⟩
    refine ⟨_, rfl, _, rfl, _, rfl, _, rfl, t, dl, l, wz, S, D, W, as, days, ds, rfl, TA.same s34, s34 _ _ hdl, hA'.imp fun a b r => s34 _ _ r, hl, good, h5, by omega, hzl', fun H5 tl tas ts s5 ntl htl hT ho => ?_⟩
    refine ⟨by show 2 ≤ sizeLine; decide, fun r nr => ?_⟩
    have s35 := s34.trans s5
    have sr := same_upd (o := .tup [V.int (FT.leastF ⟨S, D, W⟩ days), .ref tl]) nr
    refine q1 days rfl h5 _ r tl tas ts (s35.trans sr) (s35.free nr) (s34.free ntl) upd_same (sr _ _ htl) (hT.imp fun a b h => tkAt_same h sr) ?_ (fun k m => ⟨(ho.mem k m).1, tkin (ho.mem k m).2⟩) ho.all ?_
    · have a := ho.len
      have b := sum_bound 1000 hzl' days.length
      omega
    · have := ho.cost
      rw [List.take_length, good.least] at this
      exact this
end
end FW

namespace FW
open PySem PySem.Spec PyProof.Rows L2
abbrev sRows : Stmt := top 27
abbrev sDays : Stmt := top 28
theorem scRows : FnScope ["_law_script", "_law_most", "_law_rows_here", "_law_sort", "_law_k"] ["_law_script"] (defScope sRows) := ⟨rfl, rfl, rfl, by decide +kernel, rfl, by decide +kernel, by decide +kernel⟩
theorem scDays : FnScope ["_law_script", "_law_many", "_law_days_here", "_law_cell", "_law_number", "_law_k"] ["_law_script"] (defScope sDays) := ⟨rfl, rfl, rfl, by decide +kernel, rfl, by decide +kernel, by decide +kernel⟩
def RowsAt (H : Hp) (l : Addr) (as : List Addr) (rs : List (List Int)) : Prop := H l = some (.lst (as.map V.ref)) ∧ All2 (RowAt H) as rs
def DayAt (H : Hp) (a : Addr) (zs : List Nat) : Prop := H a = some (.lst (zs.map fun (z : Nat) => V.int (z : Nat)))
def DaysAt (H : Hp) (l : Addr) (as : List Addr) (days : List (List Nat)) : Prop := H l = some (.lst (as.map V.ref)) ∧ All2 (DayAt H) as days
section
variable {P : Program} {w : World} {K : PySem.W.Frag} {mg : Str → Option Value} {base : Heap}
/-! ### _law_rows -/
def spRows (K : PySem.W.Frag) : L2.Sp := fun vs H Q _ => ∃ (a : Addr) (ns : List Int), vs = [.ref a] ∧ SqL K H a (ns.map V.int) ∧
  ∀ (H' : Hp) (ra : Addr) (as : List Addr) (rs : List (List Int)), Same H H' → H ra = none → RowsAt H' ra as rs → rs.length = 3 → (∀ r, r ∈ rs → Five r) → as.Nodup → (∀ b, b ∈ as → b ≠ ra ∧ H b = none) → Q (.ref ra) H'
theorem pick3 (i : Int) (h0 : 0 ≤ i) (h : i < 3) (a b c : Int) : ∃ y : Int, atI [V.int a, .int b, .int c] i = some (.int y) ∧ (y = a ∨ y = b ∨ y = c) := by
  rcases (show i = 0 ∨ i = 1 ∨ i = 2 by omega) with rfl | rfl | rfl
  · exact ⟨a, rfl, .inl rfl⟩
  · exact ⟨b, rfl, .inr (.inl rfl)⟩
  · exact ⟨c, rfl, .inr (.inr rfl)⟩
theorem ok_rows {f fC : Addr} {fd fdC : FuncData} (F : Fun K "_law_rows" "_law_rows" sRows f fd) (gR : mg "range" = none) (gL : mg "len" = none) (FC : Fun K "_law_cell_at" "_law_cell_at" sCell fC fdC) (bC : Binds K fdC ["_law_script", "_law_k"] []) (gC : mg "_law_cell_at" = some (.ref fC)) :
    FnOk P w K mg base CX0 2 f fd ["_law_script"] (spRows K) := by
  have GC : FnOk P w K mg base CX0 1 fC fdC ["_law_script", "_law_k"] (spCell K) := ok_cell FC gL
  refine F.ok scRows (fun vs H Q E h => ?_) (fun cdv A outer s H vs Q E hr h => ?_)
  · obtain ⟨a, ns, rfl, _⟩ := h
    rfl
  · obtain ⟨a, ns, rfl, hS, q⟩ := h
    refine ⟨_, C8.pss_cut (ps_set (i := 1) scRows.nd rfl (.inr rfl) (pe_ix ix_list (pe_lst (pa_cons pe_int (pa_cons pe_int (pa_cons (pe_op op_pow pe_int pe_int) pa_nil)))) (pe_op op_mod (pe_op op_fdiv (pe_call GC hr (by rfl) gC FC.kp bC .nil pass0 (pa_cons (pv 0) (pa_cons pe_int pa_nil))) pe_int) pe_int) (fun _ _ => rfl)))
      (pss_cons (ps_set (i := 2) scRows.nd rfl (.inl rfl) (pe_lst pa_nil))
      (C8.pss_cut (ps_for PassesOwn.never rfl (pi_range1 (by rfl) gR (pa_cons pe_int pa_nil)) (pg_name (i := 3) scRows.nd rfl (.inr rfl))
        (pss_one (ps_expr (pe_bm PySem.F.plainAttrs_list PySem.F.slot_list_append PySem.F.type_list_append mt_append (pv 2) (pa_cons
          (pe_lc (own := [("_law_k", 4)]) (g := gName 4) (by rfl) scRows.nd (pi_range1 (by rfl) gR (pa_cons pe_int pa_nil)) (blkOk_by (own := [("_law_k", 4)]) (N := ["_law_script", "_law_most", "_law_rows_here", "_law_sort", "_law_k"]) (sc := defScope sRows) (by decide +kernel)) (fun _ _ _ _ _ => pg_name (i := 4) scRows.nd rfl (Or.inl rfl)) (fun _ _ _ _ _ => pts_nil)
            (fun _ _ _ _ _ => pe_op op_mod (pe_call GC hr (by rfl) gC FC.kp bC .nil pass0 (pa_cons (pv 0) (pa_cons (pe_op op_add (pe_op op_add pe_int (pe_op op_mul pe_int (pv 3))) (pv 4)) pa_nil))) (pv 1))) pa_nil)))))
      (pss_one (ps_ret (pv 2))))), ?_⟩
    -- _law_most
    refine ⟨fun σ H1 => Same H H1 ∧ ∃ m : Int, 0 < m ∧ σ = [some (.ref a), some (.int m), none, none, none], ?_, ?_⟩
    · refine ⟨_, _, rfl, rfl, ⟨by decide, by decide, by decide⟩, by show 3 ≤ sizeLine; decide, fun p np => ?_⟩
      have sp := same_upd (o := .lst [V.int 1000, .int 7, .int (10 ^ (12 : Int).toNat)]) np
      obtain ⟨y, ey, hy⟩ := pick3 (cell ns 0 / 16 % 3) (by omega) (by omega) 1000 7 (10 ^ (12 : Int).toNat)
      refine ⟨_, rfl, a, ns, 0, rfl, sp.seq hS, _, _, rfl, rfl, ⟨by decide, by decide⟩, _, _, rfl, rfl, by show (0 : Int) < 3; decide, p, _, _, _, rfl, rfl, SqL.of upd_same, ey, sp, y, ?_, rfl⟩
      rcases hy with rfl | rfl | rfl
      · decide
      · decide
      · decide
    rintro σ H1 ⟨s1, m, hm, rfl⟩
    refine ⟨Nat.zero_le _, fun ra nra => ?_⟩
    refine ⟨fun σ H3 => ∃ (y4 : Option V) (as : List Addr) (rs : List (List Int)), σ = [some (.ref a), some (.int m), some (.ref ra), y4, none] ∧ Same H1 H3 ∧ RowsAt H3 ra as rs ∧ rs.length = 3 ∧ (∀ r, r ∈ rs → Five r) ∧ as.Nodup ∧ ∀ b, b ∈ as → b ≠ ra ∧ H1 b = none, ?_, ?_⟩
    · refine ⟨3, rfl, by decide, by decide, for_range (lo := 0) (n := 3) (fun i σ H3 => ∃ (y4 : Option V) (as : List Addr) (rs : List (List Int)), σ = [some (.ref a), some (.int m), some (.ref ra), y4, none] ∧ Same H1 H3 ∧ RowsAt H3 ra as rs ∧ rs.length = i ∧ (∀ r, r ∈ rs → Five r) ∧ as.Nodup ∧ ∀ b, b ∈ as → b ≠ ra ∧ H1 b = none)
        ⟨none, [], [], rfl, same_upd nra, ⟨upd_same, .nil⟩, rfl, by simp, List.nodup_nil, by simp⟩ ?_ (fun σ H3 h => h)⟩
      rintro i σ H3 hi ⟨y4, as, rs, rfl, s3, ⟨hra, hA⟩, hl, hf, nd, hnew⟩
      refine ⟨_, rfl, .inl ⟨rfl, _, SqL.of hra⟩, 5, rfl, by decide, by decide, fun d hd => ?_⟩
      have nrd : ra ≠ d := ne_of_none hra hd
      refine lc_range (lo := 0) (n := 5) (fun j H' => (∀ b o, H3 b = some o → H' b = some o) ∧ ∃ r : List Int, H' d = some (.lst (r.map V.int)) ∧ r.length = j ∧ ∀ x, x ∈ r → 0 ≤ x) ⟨same_upd hd, [], upd_same, rfl, by simp⟩ ?_ ?_
      · rintro j H' hj ⟨s', r, hr', hlr, hpos⟩
        refine ⟨rfl, ?_⟩
        refine tYes_if ?_
        refine ⟨_, rfl, _, rfl, _, _, rfl, rfl, .inl ⟨by omega, by omega⟩, _, _, rfl, rfl, _, rfl, _, _, rfl, rfl, a, ns, 3 + 5 * i + j, ?_, (s1.trans (s3.trans s')).seq hS, _, rfl, _, _, rfl, rfl, hm, r.map V.int, hr', small_line (by rw [List.length_map]; omega), upd_out s' hd, r ++ [cell ns (3 + 5 * i + j) % m], by rw [upd_same, List.map_append]; rfl, by rw [List.length_append, hlr]; rfl, fun x mx => ?_⟩
        · show [V.ref a, V.int (3 + 5 * (0 + (i : Nat)) + (0 + (j : Nat)))] = [V.ref a, V.int ((3 + 5 * i + j : Nat) : Int)]
          rw [show ((3 + 5 * i + j : Nat) : Int) = 3 + 5 * (0 + (i : Nat)) + (0 + (j : Nat)) by omega]
        · rcases List.mem_append.mp mx with mx | mx
          · exact hpos x mx
          · rw [List.mem_singleton.mp mx]
            exact Int.emod_nonneg _ (by omega)
      · rintro H' ⟨s', r, hr', hlr, hpos⟩
        have hra' := s' _ _ hra
        refine ⟨ra, _, _, rfl, rfl, hra', small_line (by rw [List.length_map, hA.len]; omega), ?_⟩
        refine ⟨_, as ++ [d], rs ++ [r], rfl, upd_out (s3.trans s') nra, ⟨by rw [upd_same, List.map_append]; rfl, ?_⟩, by rw [List.length_append, hl]; rfl, fun x mx => ?_, ?_, fun b mb => ?_⟩
        · refine All2.app (hA.imp_mem fun b x mb rb => ?_) (All2.one ?_)
          · show upd H' ra _ b = _
            rw [upd_ne (hnew b mb).1]
            exact s' _ _ rb
          · show upd H' ra _ d = _
            rw [upd_ne nrd.symm]
            exact hr'
        · rcases List.mem_append.mp mx with mx | mx
          · exact hf x mx
          · rw [List.mem_singleton.mp mx]
            exact ⟨hlr, hpos⟩
        · refine List.nodup_append.mpr ⟨nd, by simp, fun b mb c mc => ?_⟩
          rw [List.mem_singleton.mp mc]
          obtain ⟨j, hj⟩ := List.getElem?_of_mem mb
          obtain ⟨b', _, rb⟩ := hA.getL hj
          exact ne_of_none rb hd
        · rcases List.mem_append.mp mb with mb | mb
          · exact hnew b mb
          · rw [List.mem_singleton.mp mb]
            exact ⟨nrd.symm, s3.free hd⟩
    rintro σ H3 ⟨y4, as, rs, rfl, s3, hR, hl3, hf, nd, hnew⟩
    exact ⟨_, rfl, q H3 ra as rs (s1.trans s3) (s1.free nra) hR hl3 hf nd fun b mb => ⟨(hnew b mb).1, s1.free (hnew b mb).2⟩⟩
/-! ### _law_days -/
theorem cutV_map {α : Type} (f : α → V) (xs : List α) (lo hi : Option Int) : ∃ ys : List α, cutV (xs.map f) lo hi = ys.map f ∧ ys.length ≤ xs.length := by
  refine ⟨(xs.drop (HT.sIx xs.length 0 lo)).take (HT.sIx xs.length xs.length hi - HT.sIx xs.length 0 lo), ?_, ?_⟩
  · unfold cutV
    rw [List.length_map, List.map_take, List.map_drop]
  · rw [List.length_take, List.length_drop]
    omega
theorem days_push {H : Hp} {as : List Addr} {days : List (List Nat)} {i : Nat} {a : Addr} {zs : List Nat} {z : Nat} {o : HO} (h : All2 (DayAt H) as days) (nd : as.Nodup) (ea : as[i]? = some a) (eo : o = .lst ((zs.map fun (z : Nat) => V.int (z : Nat)) ++ [V.int (z : Nat)])) :
    All2 (DayAt (upd H a o)) as (days.set i (zs ++ [z])) := by
  subst eo
  refine All2.of_get (by rw [List.length_set]; exact h.len) fun j b l e1 e2 => ?_
  rw [List.getElem?_set] at e2
  by_cases ij : i = j
  · subst ij
    have hl : i < days.length := by rw [← h.len]; exact (List.getElem?_eq_some_iff.mp ea).1
    rw [if_pos rfl, if_pos hl] at e2
    cases e2
    have eb : b = a := Option.some.inj (e1.symm.trans ea)
    subst eb
    show upd H b _ b = _
    rw [upd_same, List.map_append]
    rfl
  · rw [if_neg ij] at e2
    have nb : b ≠ a := fun z => ij (nd_ix nd ea (by rw [← z]; exact e1))
    show upd H a _ b = _
    rw [upd_ne nb]
    exact h.at e1 e2
/-- rides of 1 to 5 zones -/
def In5 (days : List (List Nat)) : Prop := ∀ zs, zs ∈ days → ∀ z, z ∈ zs → 1 ≤ z ∧ z ≤ 5
theorem in5_push {days : List (List Nat)} {i : Nat} {zs : List Nat} {z : Nat} (h : In5 days) (e : days[i]? = some zs) (hz : 1 ≤ z ∧ z ≤ 5) : In5 (days.set i (zs ++ [z])) := fun l ml y my => by
  rcases List.mem_or_eq_of_mem_set ml with ml | rfl
  · exact h l ml y my
  · rcases List.mem_append.mp my with my | my
    · exact h zs (List.mem_of_getElem? e) y my
    · rw [List.mem_singleton.mp my]
      exact hz
def Short (n : Nat) (days : List (List Nat)) : Prop := ∀ zs, zs ∈ days → zs.length ≤ n
theorem short_push {days : List (List Nat)} {i n : Nat} {zs : List Nat} {z : Nat} (h : Short n days) (e : days[i]? = some zs) : Short (n + 1) (days.set i (zs ++ [z])) := fun l ml => by
  rcases List.mem_or_eq_of_mem_set ml with ml | rfl
  · exact Nat.le_succ_of_le (h l ml)
  · rw [List.length_append]
    exact Nat.succ_le_succ (h zs (List.mem_of_getElem? e))
/-- the days under way: n of them, of at most k rides each -/
def DayJ (H1 H : Hp) (dl : Addr) (as : List Addr) (n k : Nat) : Prop := Same H1 H ∧ H dl = some (.lst (as.map V.ref)) ∧ ∃ days : List (List Nat), All2 (DayAt H) as days ∧ days.length = n ∧ In5 days ∧ Short k days
theorem DayJ.same {H1 H H' : Hp} {dl : Addr} {as : List Addr} {n k : Nat} (h : DayJ H1 H dl as n k) (s : Same H H') : DayJ H1 H' dl as n k := by
  obtain ⟨a, b, days, c, d⟩ := h
  exact ⟨a.trans s, s _ _ b, days, c.imp fun x y e => s _ _ e, d⟩
theorem DayJ.mono {H1 H : Hp} {dl : Addr} {as : List Addr} {n k m : Nat} (h : DayJ H1 H dl as n k) (l : k ≤ m) : DayJ H1 H dl as n m := by
  obtain ⟨a, b, days, c, d, e, f⟩ := h
  exact ⟨a, b, days, c, d, e, fun zs mz => Nat.le_trans (f zs mz) l⟩
theorem pick16 (i : Int) (h0 : 0 ≤ i) (h : i < 16) : ∃ y : Nat, atI [V.int 0, .int 1, .int 1, .int 2, .int 1, .int 2, .int 3, .int 1, .int 4, .int 1, .int 5, .int 2, .int 6, .int 1, .int 7, .int 2] i = some (.int y) ∧ y ≤ 7 := by
  rcases (show i = 0 ∨ i = 1 ∨ i = 2 ∨ i = 3 ∨ i = 4 ∨ i = 5 ∨ i = 6 ∨ i = 7 ∨ i = 8 ∨ i = 9 ∨ i = 10 ∨ i = 11 ∨ i = 12 ∨ i = 13 ∨ i = 14 ∨ i = 15 by omega) with rfl | rfl | rfl | rfl | rfl | rfl | rfl | rfl | rfl | rfl | rfl | rfl | rfl | rfl | rfl | rfl
  · exact ⟨0, rfl, by decide⟩
  · exact ⟨1, rfl, by decide⟩
  · exact ⟨1, rfl, by decide⟩
  · exact ⟨2, rfl, by decide⟩
  · exact ⟨1, rfl, by decide⟩
  · exact ⟨2, rfl, by decide⟩
  · exact ⟨3, rfl, by decide⟩
  · exact ⟨1, rfl, by decide⟩
  · exact ⟨4, rfl, by decide⟩
  · exact ⟨1, rfl, by decide⟩
  · exact ⟨5, rfl, by decide⟩
  · exact ⟨2, rfl, by decide⟩
  · exact ⟨6, rfl, by decide⟩
  · exact ⟨1, rfl, by decide⟩
  · exact ⟨7, rfl, by decide⟩
  · exact ⟨2, rfl, by decide⟩
theorem pick5 (i : Int) (h0 : 0 ≤ i) (h : i < 5) : ∃ y : Nat, atI [V.int 2, .int 3, .int 5, .int 9, .int 82] i = some (.int y) := by
  rcases (show i = 0 ∨ i = 1 ∨ i = 2 ∨ i = 3 ∨ i = 4 by omega) with rfl | rfl | rfl | rfl | rfl
  · exact ⟨2, rfl⟩
  · exact ⟨3, rfl⟩
  · exact ⟨5, rfl⟩
  · exact ⟨9, rfl⟩
  · exact ⟨82, rfl⟩
def spDays (K : PySem.W.Frag) : L2.Sp := fun vs H Q _ => ∃ (a : Addr) (ns : List Int), vs = [.ref a] ∧ SqL K H a (ns.map V.int) ∧ ns.length ≤ 63 ∧
  ∀ (H' : Hp) (dl : Addr) (as : List Addr) (days : List (List Nat)), Same H H' → H dl = none → DaysAt H' dl as days → days.length ≤ 7 → In5 days → Short 103 days → as.Nodup → (∀ b, b ∈ as → b ≠ dl ∧ H b = none) → Q (.ref dl) H'
theorem ok_days {f fC : Addr} {fd fdC : FuncData} (F : Fun K "_law_days" "_law_days" sDays f fd) (gR : mg "range" = none) (gL : mg "len" = none) (FC : Fun K "_law_cell_at" "_law_cell_at" sCell fC fdC) (bC : Binds K fdC ["_law_script", "_law_k"] []) (gC : mg "_law_cell_at" = some (.ref fC)) :
    FnOk P w K mg base CX0 2 f fd ["_law_script"] (spDays K) := by
  have GC : FnOk P w K mg base CX0 1 fC fdC ["_law_script", "_law_k"] (spCell K) := ok_cell FC gL
  refine F.ok scDays (fun vs H Q E h => ?_) (fun cdv A outer s H vs Q E hr h => ?_)
  · obtain ⟨a, ns, rfl, _⟩ := h
    rfl
  · obtain ⟨a, ns, rfl, hS, h63, q⟩ := h
    refine ⟨_, C8.pss_cut (ps_set (i := 1) scDays.nd rfl (.inl rfl) (pe_ix ix_list (pe_lst (pa_cons pe_int (pa_cons pe_int (pa_cons pe_int (pa_cons pe_int (pa_cons pe_int (pa_cons pe_int (pa_cons pe_int (pa_cons pe_int (pa_cons pe_int (pa_cons pe_int (pa_cons pe_int (pa_cons pe_int (pa_cons pe_int (pa_cons pe_int (pa_cons pe_int (pa_cons pe_int pa_nil))))))))))))))))) (pe_op op_mod (pe_call GC hr (by rfl) gC FC.kp bC .nil pass0 (pa_cons (pv 0) (pa_cons pe_int pa_nil))) pe_int) (fun _ _ => rfl)))
      (pss_cons (ps_setLc (i := 2) (own := [("_law_k", 5)]) (g := gName 5) (by rfl) scDays.nd rfl rfl (sw_true rfl rfl rfl (by decide +kernel)) (pi_range1 (by rfl) gR (pa_cons (pv 1) pa_nil)) (blkOk_by (own := [("_law_k", 5)]) (N := ["_law_script", "_law_many", "_law_days_here", "_law_cell", "_law_number", "_law_k"]) (sc := defScope sDays) (by decide +kernel)) (fun _ _ _ _ _ => pg_name (i := 5) scDays.nd rfl (Or.inl rfl)) (fun _ _ _ _ _ => pts_nil) (fun _ _ _ _ _ => pe_lst pa_nil))
      (C8.pss_cut (ps_if (pt_cmpR op_gt (pv 1) pe_int (nomark _))
        (C8.pss_cut (ps_for PassesOwn.never rfl (pi_list (pe_slice sl_list (pv 0) (po_some pe_int) (po_some (pe_op op_add pe_int (pe_ix ix_list (pe_lst (pa_cons pe_int (pa_cons pe_int (pa_cons pe_int (pa_cons pe_int (pa_cons pe_int pa_nil)))))) (pe_op op_mod (pe_call GC hr (by rfl) gC FC.kp bC .nil pass0 (pa_cons (pv 0) (pa_cons pe_int pa_nil))) pe_int) (fun _ _ => rfl)))))) (pg_name (i := 3) scDays.nd rfl (.inl rfl))
          (pss_one (ps_expr (pe_bm PySem.F.plainAttrs_list PySem.F.slot_list_append PySem.F.type_list_append mt_append (pe_ix ix_list (pv 2) (pe_op op_mod (pe_op op_mod (pv 3) pe_int) (pv 1)) (fun _ _ => rfl)) (pa_cons (pe_op op_add pe_int (pe_op op_mod (pe_op op_fdiv (pv 3) pe_int) pe_int)) pa_nil)))))
        (pss_one (ps_if (pt_cmpR op_eq (pe_op op_mod (pe_op op_fdiv (pe_call GC hr (by rfl) gC FC.kp bC .nil pass0 (pa_cons (pv 0) (pa_cons pe_int pa_nil))) pe_int) pe_int) pe_int (nomark _))
          (pss_cons (ps_set (i := 4) scDays.nd rfl (.inl rfl) (pe_call GC hr (by rfl) gC FC.kp bC .nil pass0 (pa_cons (pv 0) (pa_cons pe_int pa_nil))))
          (pss_one (ps_for PassesOwn.never rfl (pi_range1 (by rfl) gR (pa_cons pe_int pa_nil)) (pg_name (i := 5) scDays.nd rfl (.inl rfl))
            (pss_cons (ps_expr (pe_bm PySem.F.plainAttrs_list PySem.F.slot_list_append PySem.F.type_list_append mt_append (pe_ix ix_list (pv 2) pe_int (fun _ _ => rfl)) (pa_cons (pe_op op_add pe_int (pe_op op_mod (pe_op op_add (pv 4) (pv 5)) pe_int)) pa_nil)))
            (pss_one (ps_set (i := 4) scDays.nd rfl (.inl rfl) (pe_op op_fdiv (pv 4) pe_int))))))) pss_nil))) pss_nil)
      (pss_one (ps_ret (pv 2))))), ?_⟩
    -- _law_many
    refine ⟨fun σ H1 => Same H H1 ∧ ∃ n : Nat, n ≤ 7 ∧ σ = [some (.ref a), some (.int n), none, none, none, none], ?_, ?_⟩
    · refine ⟨by show 16 ≤ sizeLine; decide, fun p np => ?_⟩
      have sp := same_upd (o := .lst [V.int 0, .int 1, .int 1, .int 2, .int 1, .int 2, .int 3, .int 1, .int 4, .int 1, .int 5, .int 2, .int 6, .int 1, .int 7, .int 2]) np
      obtain ⟨y, ey, hy⟩ := pick16 (cell ns 0 % 16) (by omega) (by omega)
      exact ⟨_, rfl, a, ns, 0, rfl, sp.seq hS, _, _, rfl, rfl, by show (0 : Int) < 16; decide, p, _, _, _, rfl, rfl, SqL.of upd_same, ey, sp, y, hy, rfl⟩
    rintro σ H1 ⟨s1, n, hn, rfl⟩
    -- the days, all of them empty
    refine ⟨_, rfl, n, rfl, by omega, by omega, fun dl ndl => ?_⟩
    refine lc_range (lo := 0) (n := (n : Int).toNat) (fun i H' => Same H1 H' ∧ ∃ as : List Addr, H' dl = some (.lst (as.map V.ref)) ∧ All2 (DayAt H') as (List.replicate i []) ∧ as.Nodup ∧ ∀ b, b ∈ as → b ≠ dl ∧ H1 b = none)
      ⟨same_upd ndl, [], upd_same, .nil, List.nodup_nil, by simp⟩ ?_ ?_
    · rintro i H' hi ⟨sm, as, eD, hA, nd, hnew⟩
      refine ⟨rfl, ?_⟩
      refine tYes_if ?_
      refine ⟨Nat.zero_le _, fun p hp => ?_⟩
      have npD : dl ≠ p := ne_of_none eD hp
      have npa : ∀ b, b ∈ as → b ≠ p := fun b m => by
        obtain ⟨j, hj⟩ := List.getElem?_of_mem m
        obtain ⟨_, _, r⟩ := hA.getL hj
        exact ne_of_none r hp
      refine ⟨as.map V.ref, by rw [upd_ne npD]; exact eD, small_line (by rw [List.length_map, hA.len, List.length_replicate]; omega), upd_out (sm.trans (same_upd hp)) ndl, as ++ [p], by rw [upd_same, List.map_append]; rfl, ?_, ?_, fun b m => ?_⟩
      · rw [List.replicate_succ']
        refine All2.app (hA.imp_mem fun b r m e => ?_) (All2.one ?_)
        · show upd (upd H' p _) dl _ b = _
          rw [upd_ne (hnew b m).1, upd_ne (npa b m)]
          exact e
        · show upd (upd H' p _) dl _ p = _
          rw [upd_ne npD.symm, upd_same]
          rfl
      · refine List.nodup_append.mpr ⟨nd, by simp, fun b m c m2 => ?_⟩
        rw [List.mem_singleton.mp m2]
        exact npa b m
      · rcases List.mem_append.mp m with m | m
        · exact hnew b m
        · rw [List.mem_singleton.mp m]
          exact ⟨npD.symm, sm.free hp⟩
    rintro H2 ⟨s2, as, eD, hA, nd, hnew⟩
    rw [Int.toNat_natCast] at hA
    have s12 := s1.trans s2
    have lA : as.length = n := by rw [hA.len, List.length_replicate]
    have J0 : DayJ H1 H2 dl as n 0 := ⟨s2, eD, _, hA, by rw [List.length_replicate], fun zs m => by rw [(List.mem_replicate.mp m).2]; intro z mz; exact absurd mz (by simp), fun zs m => by rw [(List.mem_replicate.mp m).2]; exact Nat.le_refl _⟩
    have hnew1 : ∀ b, b ∈ as → b ≠ dl ∧ H1 b = none := hnew
    refine ⟨fun σ H' => ∃ y3 y4 y5 : Option V, σ = [some (.ref a), some (.int n), some (.ref dl), y3, y4, y5] ∧ DayJ H1 H' dl as n 103, ?_, ?_⟩
    · refine ⟨_, rfl, _, _, rfl, rfl, _, rfl, ?_⟩
      refine ite2 (fun e => ?_) (fun e => ?_)
      · have n0 : 0 < n := by
          have : (0 : Int) < n := of_decide_eq_true e
          omega
        have nI : (0 : Int) < n := by omega
        refine ⟨fun σ H' => ∃ y3 : Option V, σ = [some (.ref a), some (.int n), some (.ref dl), y3, none, none] ∧ DayJ H1 H' dl as n 63, ?_, ?_⟩
        · refine ⟨_, rfl, 18, rfl, by show 5 ≤ sizeLine; decide, fun p np => ?_⟩
          have sp := same_upd (o := .lst [V.int 2, .int 3, .int 5, .int 9, .int 82]) np
          obtain ⟨y, ey⟩ := pick5 (cell ns 2 % 5) (by omega) (by omega)
          have J1 : DayJ H1 _ dl as n 0 := J0.same sp
          refine ⟨_, rfl, a, ns, 2, rfl, (s12.trans sp).seq hS, _, _, rfl, rfl, by show (0 : Int) < 5; decide, p, _, _, _, rfl, rfl, SqL.of upd_same, ey, _, _, rfl, rfl, _, rfl, a, _, rfl, (s12.trans sp).seq hS, fun c nc => ?_⟩
          obtain ⟨ms, ems, lms⟩ := cutV_map V.int ns (some 18) (some (18 + (y : Int)))
          rw [ems]
          have sc := same_upd (o := .lst (ms.map V.int)) nc
          have J2 := J1.same sc
          refine ⟨c, rfl, ⟨_, SqL.of upd_same⟩, for_list (K := K) (a := c) (xs := ms.map V.int) (fun i σ H' => ∃ y3 : Option V, σ = [some (.ref a), some (.int n), some (.ref dl), y3, none, none] ∧ DayJ H1 H' dl as n i ∧ H' c = some (.lst (ms.map V.int)) ∧ c ∉ as)
            ⟨none, rfl, J2, upd_same, fun m => ?_⟩ (fun i σ H' _ ⟨_, _, _, hc, _⟩ => SqL.of hc) ?_ ?_⟩
          · obtain ⟨j, hj⟩ := List.getElem?_of_mem m
            obtain ⟨_, _, days, hA', _⟩ := J1
            obtain ⟨zs, _, r⟩ := hA'.getL hj
            rw [DayAt, nc] at r
            cases r
          · rintro i v σ H' hi ⟨y3, rfl, J, hc, nca⟩
            obtain ⟨x, hx, rfl⟩ : ∃ x, ms[i]? = some x ∧ v = V.int x := by
              rw [List.getElem?_map] at hi
              cases e : ms[i]? with
              | none =>
                rw [e] at hi
                cases hi
              | some x =>
                rw [e] at hi
                exact ⟨x, rfl, (Option.some.inj hi).symm⟩
            have i0 : 0 ≤ x % 7 % n := Int.emod_nonneg _ (by omega)
            have i1 : x % 7 % n < n := Int.emod_lt_of_pos _ nI
            obtain ⟨j, ej⟩ : ∃ j : Nat, x % 7 % n = j := ⟨(x % 7 % n).toNat, by omega⟩
            have z0 : 0 ≤ x / 7 % 5 := by omega
            have z1 : x / 7 % 5 < 5 := by omega
            obtain ⟨z, ez⟩ : ∃ z : Nat, 1 + x / 7 % 5 = z := ⟨(1 + x / 7 % 5).toNat, by omega⟩
            have hi63 : i < 63 := by
              have := (List.getElem?_eq_some_iff.mp hx).1
              omega
            obtain ⟨sJ, eJ, days, hJ, lJ, fJ, kJ⟩ := J
            obtain ⟨zs, ezs⟩ : ∃ zs, days[j]? = some zs := ⟨days[j]'(by omega), List.getElem?_eq_getElem _⟩
            obtain ⟨b, eb, hb⟩ := hJ.get ezs
            have mb := List.mem_of_getElem? eb
            have g : atI (as.map V.ref) (x % 7 % n) = some (.ref b) := at_of (j := j) ej (by rw [List.getElem?_map, eb]; rfl)
            have lz : zs.length ≤ i := kJ zs (List.mem_of_getElem? ezs)
            refine ⟨_, rfl, _, rfl, _, _, rfl, rfl, by show (0 : Int) < 7; decide, _, rfl, _, _, rfl, rfl, nI, dl, _, _, _, rfl, rfl, SqL.of eJ, g, .inl ⟨rfl, _, SqL.of hb⟩, _, rfl, _, _, rfl, rfl, ⟨by decide, by decide⟩, _, _, rfl, rfl, by show (0 : Int) < 5; decide, _, _, rfl, rfl, b, _, _, rfl, rfl, hb, small_line (by rw [List.length_map]; omega), ?_⟩
            refine ⟨_, rfl, ⟨upd_out sJ (hnew1 b mb).2, by rw [upd_ne (hnew1 b mb).1.symm]; exact eJ, _, days_push (z := z) hJ nd eb (by rw [← ez]), by rw [List.length_set]; exact lJ, in5_push fJ ezs (by omega), short_push kJ ezs⟩, ?_, nca⟩
            rw [upd_ne (show c ≠ b from fun h => nca (by rw [h]; exact mb))]
            exact hc
          · rintro σ H' ⟨y3, rfl, J, _⟩
            rw [List.length_map] at J
            exact ⟨y3, rfl, J.mono (by omega)⟩
        rintro σ H3 ⟨y3, rfl, J⟩
        refine ⟨_, rfl, a, ns, 0, rfl, (s1.trans J.1).seq hS, _, _, rfl, rfl, ⟨by decide, by decide⟩, _, _, rfl, rfl, by show (0 : Int) < 8; decide, rfl, _, rfl, ?_⟩
        refine ite2 (fun _ => ?_) (fun _ => ?_)
        · refine ⟨_, rfl, a, ns, 1, rfl, (s1.trans J.1).seq hS, ?_⟩
          refine ⟨40, rfl, by decide, by decide, for_range (lo := 0) (n := 40) (fun i σ H' => ∃ (m : Int) (y5 : Option V), σ = [some (.ref a), some (.int n), some (.ref dl), y3, some (.int m), y5] ∧ DayJ H1 H' dl as n (63 + i)) ⟨_, none, rfl, J⟩ ?_ ?_⟩
          · rintro i σ H' hi ⟨m, y5, rfl, sJ, eJ, days, hJ, lJ, fJ, kJ⟩
            obtain ⟨zs, ezs⟩ : ∃ zs, days[0]? = some zs := ⟨days[0]'(by omega), List.getElem?_eq_getElem _⟩
            obtain ⟨b, eb, hb⟩ := hJ.get ezs
            have mb := List.mem_of_getElem? eb
            have g : atI (as.map V.ref) 0 = some (.ref b) := at_of (j := 0) rfl (by rw [List.getElem?_map, eb]; rfl)
            have lz : zs.length ≤ 63 + i := kJ zs (List.mem_of_getElem? ezs)
            have z0 : 0 ≤ (m + (0 + (i : Nat))) % 5 := by omega
            have z1 : (m + (0 + (i : Nat))) % 5 < 5 := by omega
            obtain ⟨z, ez⟩ : ∃ z : Nat, 1 + (m + (0 + (i : Nat))) % 5 = z := ⟨(1 + (m + (0 + (i : Nat))) % 5).toNat, by omega⟩
            refine ⟨_, rfl, dl, _, _, _, rfl, rfl, SqL.of eJ, g, .inl ⟨rfl, _, SqL.of hb⟩, _, rfl, _, rfl, _, _, rfl, rfl, _, _, rfl, rfl, by show (0 : Int) < 5; decide, _, _, rfl, rfl, b, _, _, rfl, rfl, hb, small_line (by rw [List.length_map]; omega), ?_⟩
            exact ⟨_, rfl, _, _, rfl, rfl, ⟨by decide, by decide⟩, _, _, rfl, upd_out sJ (hnew1 b mb).2, by rw [upd_ne (hnew1 b mb).1.symm]; exact eJ, _, days_push (z := z) hJ nd eb (by rw [← ez]), by rw [List.length_set]; exact lJ, in5_push fJ ezs (by omega), short_push kJ ezs⟩
          · rintro σ H' ⟨m, y5, rfl, J'⟩
            exact ⟨_, _, _, rfl, J'⟩
        · exact ⟨_, _, _, rfl, J.mono (by decide)⟩
      · exact ⟨_, _, _, rfl, J0.mono (by decide)⟩
    rintro σ H3 ⟨y3, y4, y5, rfl, s3, e3, days, h3, l3, f3, k3⟩
    exact ⟨_, rfl, q H3 dl as days (s1.trans s3) (s1.free ndl) ⟨e3, h3⟩ (by omega) f3 k3 nd fun b mb => ⟨(hnew1 b mb).1, s1.free (hnew1 b mb).2⟩⟩
end
end FW

namespace FW
open PySem PySem.Spec PyProof.Rows L2
/-! ### lists of ints as data -/
section
variable {K : PySem.W.Frag}
theorem dps_ints {H : Hp} : ∀ ns : List Int, DpAll K H (ns.map V.int) (ns.map PyData.int)
  | [] => .nil
  | n :: ns => .cons (.int n) (dps_ints ns)
theorem lay_ints : ∀ ns : List Int, PyData.canLayAll0 (ns.map PyData.int) = true
  | [] => by simp [PyData.canLayAll0]
  | n :: ns => by
    have ih := lay_ints ns
    simpa [PyData.canLayAll0, PyData.canLay0] using ih
theorem dep_ints : ∀ ns : List Int, PyData.depthAll (ns.map PyData.int) = 0
  | [] => by simp [PyData.depthAll]
  | n :: ns => by
    have ih := dep_ints ns
    simpa [PyData.depthAll, PyData.depth] using ih
theorem shaped_ints (ns : List Int) : SeqAt.shaped (.list (ns.map PyData.int)) = true := by
  unfold SeqAt.shaped
  rw [Bool.and_eq_true_iff]
  refine ⟨by simpa [PyData.canLay0] using lay_ints ns, decide_eq_true ?_⟩
  have e : PyData.depth (.list (ns.map PyData.int)) = PyData.depthAll (ns.map PyData.int) + 1 := by simp [PyData.depth]
  rw [e, dep_ints]
  decide
theorem eqv_ints (ns : List Int) : PyData.eqv (.list (ns.map PyData.int)) (.list (ns.map PyData.int)) = true := SeqAt.eqv_refl _ (by simpa [PyData.canLay0] using lay_ints ns)
end
end FW

namespace FW
open PySem PySem.Spec PyProof.Rows L2
/-! ### a refusal that is handled is handed to a def, which asks what kind it is -/
section
variable {P : Program} {w : World} {K : PySem.W.Frag} {mg : Str → Option Value} {base : Heap}
/-- what a def is told of the refusal that is handled: its place, its class, its dict -/
abbrev SpE := Addr → Value → Option Addr → List V → Hp → VK → Prop
structure FnE (P : Program) (w : World) (K : PySem.W.Frag) (mg : Str → Option Value) (base : Heap) (k : Nat) (f : Addr) (fd : FuncData) (ps : List Str) (sp : SpE) : Prop where
  len : ∀ a cls d vs H Q, sp a cls d vs H Q → vs.length = ps.length
  run : ∀ (A : Around) (outer : List Env) (s : Shared) (H : Hp) (args : Args) (us : List Value) (vs : List V) (Q : VK) (a : Addr) (oe : Obj) (cls : Value) (d : Option Addr),
    L2H.RoomH k A → L2N.Zn cls d oe → (∃ fl, oe.data = .fields fl) → L2H.PinOk outer H s (a, oe) → Env0 P w K mg base A outer s H → BindsTo s fd args (ps.zip us) → Vals vs us → sp a cls d vs H Q →
    codeAny (model P w) A (.call (.ref f) args) (CR CX0 outer P w H s Q E0) s
theorem okE {x qual : Str} {st : Stmt} {f : Addr} {fd : FuncData} {N ps : List Str} {k : Nat} {sp : SpE} (F : Fun K x qual st f fd) (S : FnScope N ps (defScope st)) (len : ∀ a cls d vs H Q, sp a cls d vs H Q → vs.length = ps.length)
    (body : ∀ (cdv : Value) (A : Around) (outer : List Env) (s : Shared) (H : Hp) (vs : List V) (Q : VK) (a : Addr) (oe : Obj) (cls : Value) (d : Option Addr), L2H.RoomH k (A.deeper (envOfC qual (defScope st) s.heap.objs.size f cdv)) →
      L2N.Zn cls d oe → (∃ fl, oe.data = .fields fl) → sp a cls d vs H Q →
      ∃ t, PSs (L2H.cxH CX0 P w K mg base N qual (defScope st) f cdv A outer s H E0 (a, oe)) (defBody st) t ∧ t { nx := fun _ H' => Q .non H', rt := Q } (L2.start N vs) H) :
    FnE P w K mg base (k + 1) f fd ps sp := by
  obtain ⟨_, _, _, _, _, _, cdv, _, _, rfl, at_f, code⟩ := F.ex
  constructor
  · exact len
  intro A outer s H args us vs Q a oe cls d room zn flds pin env0 binds vals promised
  have count := len _ _ _ _ _ _ promised
  have kept_in : K.In s.heap := env0.mod.kin.keeps fun b o there => (env0.bs b o there).1
  have no_limit : s.heap.NoLimit := env0.mod.nolimit.keeps fun b o there => (env0.bs b o there).1
  have kinds : ∀ y ∈ ps.zip us, (defScope st).names.lookup y.1 = some .local ∨ ((defScope st).names.lookup y.1 = some .cell ∧ ((cellsFrom (s.heap.objs.size + 1) (defScope st).names []).lookup y.1).isSome = true) := by
    rintro ⟨n, v⟩ both
    rcases S.par n (List.of_mem_zip both).1 with is_local | is_cell
    · exact .inl is_local
    · exact .inr ⟨is_cell, PySem.W.cellsFrom_some _ _ _ (.inl is_cell)⟩
  refine codeAny_call_function room.depth (kept_in _ _ at_f) rfl S.co S.gen rfl (PySem.W.codeRec_of kept_in code) (binds _ _ _ _ ?_)
  refine wpAny_newFunctionEnv_cells S.kind kinds fun env is_env made begun => ?_
  subst is_env
  refine ⟨no_limit.keeps begun.toInCall.keep, codeAny_func ?_⟩
  obtain ⟨t, term, reading⟩ := body cdv A outer s H vs Q a oe cls d (room.deeper _) zn flds promised
  have inv : Inv (L2H.cxH CX0 P w K mg base N qual (defScope st) f cdv A outer s H E0 (a, oe)) [] (L2.start N vs) H made := L2H.inv_startH S pin env0 count vals begun
  refine wpAny_mono (term.run [] made (L2.start N vs) H _ inv reading) (fun flow behind told => ?_) fun _ _ told => told
  have leave : ∀ {σ' : L2.St} {H' : Hp} {v : V} {u : Value}, Inv (L2H.cxH CX0 P w K mg base N qual (defScope st) f cdv A outer s H E0 (a, oe)) [] σ' H' behind → RelV v u → Q v H' → CE outer P w H s Q u behind := by
    intro σ' H' v u inv' rel wish
    exact ⟨v, H', inv'.os, inv'.bare, inv'.base, inv'.hok, rel, wish⟩
  match flow, told with
  | .ret u, ⟨v, σ', H', inv', rel, wish⟩ => exact leave inv' rel wish
  | .next, ⟨σ', H', inv', wish⟩ => exact leave (v := V.non) (u := Value.none) inv' rfl wish
  | .brk, ⟨_, _, _, no⟩ => exact no.elim
  | .cont, ⟨_, _, _, no⟩ => exact no.elim
/-- f(e) within an except suite, e the refusal -/
theorem pe_callE {X : Cx} {k : Nat} {f a : Addr} {fd : FuncData} {ps : List Str} {sp : SpE} {x : Str} {q pos : Pos} {e : Expr} {t : TA} {oe : Obj} {cls : Value} {d : Option Addr} {pn : List (Addr × Obj)} (F : FnE X.prog X.w X.K X.mg X.base k f fd ps sp) (hr : L2H.RoomH k X.A)
    (hz : L2N.Zn cls d oe) (hf : ∃ fl, oe.data = .fields fl) (hg : Gl X x) (hm : X.mg x = some (.ref f)) (hk : PySem.W.keepIn X.K (.ref f) = true) (hb : Binds X.K fd ps [])
    (ha : PA (X.suite a ((a, oe) :: pn)) [e] t) (hdb : (x == ("__debug__" : Str)) = false := by decide) (he : starEach [e] (X.suite a ((a, oe) :: pn)).env = (false, eval e (X.suite a ((a, oe) :: pn)).env) :: starEach [] (X.suite a ((a, oe) :: pn)).env := by rfl)
    (hpl : (backTo pos (starEach [] (X.suite a ((a, oe) :: pn)).env)).any (·.1) = false := by rfl) : PE (X.suite a ((a, oe) :: pn)) (.Call (.Name x q) [e] [] pos) (fun σ H Q => t σ H fun vs H1 => sp a cls d vs H1 Q) := by
  constructor
  intro pins s σ H Q inv reading
  refine wpAny_Call_Name_kw (ld_glob inv hg hm ?_ hdb)
  refine PySem.W.callWith_K (h₀ := X.base) inv.ok.mod.kin hk (thn (ha.run pos pins s σ H _ inv reading) fun us behind ⟨vs, H1, inv1, rel, promised⟩ => ⟨inv1.kIn, ?_⟩) he hpl
  have count : us.length = ps.length := by
    rw [← rel.length]
    exact F.len _ _ _ _ _ _ promised
  have binds := hb behind us inv1.kIn (by rw [List.append_nil]; exact count)
  rw [List.append_nil] at binds
  obtain ⟨there, free, not_local, not_frame, no_cell⟩ := inv1.pin (a, oe) (List.mem_append_left _ List.mem_cons_self)
  have pin : L2H.PinOk (X.suite a ((a, oe) :: pn)).stack H1 behind (a, oe) := ⟨there, free, fun is_in => (List.mem_cons.mp (inv1.stkSub a is_in)).elim not_local not_frame, no_cell⟩
  refine wpAny_call (codeAny_mono (F.run _ _ behind H1 ⟨us, []⟩ us vs Q a oe cls d ⟨hr.dp, hr.un⟩ hz hf pin inv1.env0 binds rel promised) fun result after told => ?_)
  match result, told with
  | .error _, no => exact no.elim
  | .ok (.ret _), told => exact inv1.after told
  | .ok .next, no => exact no.elim
  | .ok .brk, no => exact no.elim
  | .ok .cont, no => exact no.elim
/-- isinstance(e, c), e the refusal that such a def was handed -/
theorem call_isP {X : Cx} {a : Addr} {oe : Obj} {cls : Value} {d : Option Addr} (hp : (a, oe) ∈ X.pn) (hz : Zc cls d oe) (hf : ∃ fl, oe.data = .fields fl) :
    CallR X (.builtin "isinstance") (fun xs H Q => ∃ (D : Addr) (c : V) (cv : Value) (b : Bool), cls = .ref D ∧ d = none ∧ ExcC X.K D ∧ xs = [.ref a, c] ∧ (∀ u, RelV c u → u = cv) ∧ PySem.W.kitOne X.K (.ref D) cv = some b ∧ Q (.bl b) H) := by
  intro pins s σ H xs us Q inv vals reading
  obtain ⟨D, c, cv, b, rfl, rfl, C, rfl, only, answer, wish⟩ := reading
  obtain ⟨there, _⟩ := inv.pin (a, oe) (List.mem_append_left _ hp)
  obtain ⟨oc, od, data, slots⟩ := oe
  obtain ⟨fl, is_fl⟩ := hf
  obtain ⟨is_cls, is_dict⟩ := hz
  dsimp only at is_cls is_dict is_fl
  subst is_cls is_dict is_fl
  cases vals with
  | cons rx more =>
    cases more with
    | cons rc none_more =>
      cases none_more
      cases rx
      obtain rfl := only _ rc
      have stands : PySem.W.InstAt s.heap a _ D none := ⟨there, rfl, rfl, trivial⟩
      exact PySem.W.kia_one (PySem.W.handS_kitx_exc C.hg C.hk C.hs C.hd C.ha C.hn C.ht C.hm) inv.kIn stands answer (fun z => nomatch z) fun tk => ⟨.bl b, H, inv.kept (t' := tk) fun _ _ z => z, rfl, wish⟩
/-- xs.count(y), flat items -/
theorem countP_eqU {y : V} : ∀ {xs : List V} {us : List Value}, Vals xs us → xs.all flatV = true → us.countP (eqU y) = xs.countP fun z => eqV z y
  | _, _, .nil, _ => rfl
  | x :: xs, u :: us, .cons r t, f => by
    rw [List.all_cons, Bool.and_eq_true] at f
    rw [List.countP_cons, List.countP_cons, countP_eqU t f.2, eqU_of r f.1]
theorem mt_countF {X : Cx} : MtR X "list.count" (fun x xs H Q => ∃ (p : Addr) (ys : List V) (y : V), x = .ref p ∧ xs = [y] ∧ SqL X.K H p ys ∧ flatV y = true ∧ ys.all flatV = true ∧ Q (.int (ys.countP fun z => eqV z y : Nat)) H) := by
  intro pins s σ H x xs v us Q inv rx rxs reading
  obtain ⟨p, ys, y, rfl, rfl, list, flat_y, flat_ys, wish⟩ := reading
  cases rx
  obtain ⟨uy, rfl, ry⟩ := rxs.one
  focus
    obtain ⟨items, vals, ⟨⟨_, dd, _, sl⟩, n, there, is_list, _, is_data⟩, _⟩ := inv.list list
    simp only at is_list is_data
    subst is_list is_data
    have counted := countP_eqU (y := y) vals flat_ys
    refine call_meets PySem.F.slot_list_count ⟨_, there, rfl⟩ PySem.F.entry_list_count (PySem.F.args_list_count_2 _ _) (SeqAt.list_countAt p items.toArray n dd sl uy (eqU y))
      ⟨there, fun u is_in => mem_eqAt ry flat_y vals flat_ys u (by simpa using is_in), .int (ys.countP fun z => eqV z y : Nat), H, inv.tok _, ⟨s.toks, ?_⟩, wish⟩
    rw [← counted]
/-- the class at D is the j-th of the six kinds, and no other -/
structure KindT (K : PySem.W.Frag) (c0 c1 c2 c3 c4 c5 D : Addr) (j : Nat) : Prop where
  ex : ExcC K D
  k0 : PySem.W.kitOne K (.ref D) (.ref c0) = some (decide (j = 0))
  k1 : PySem.W.kitOne K (.ref D) (.ref c1) = some (decide (j = 1))
  k2 : PySem.W.kitOne K (.ref D) (.ref c2) = some (decide (j = 2))
  k3 : PySem.W.kitOne K (.ref D) (.ref c3) = some (decide (j = 3))
  k4 : PySem.W.kitOne K (.ref D) (.ref c4) = some (decide (j = 4))
  k5 : PySem.W.kitOne K (.ref D) (.ref c5) = some (decide (j = 5))
  kv : PySem.W.kitOne K (.ref D) (.type "ValueError") = some true
  lt : j < 6
structure KG (mg : Str → Option Value) (c0 c1 c2 c3 c4 c5 : Addr) : Prop where
  g0 : mg "BadLink" = some (.ref c0)
  g1 : mg "BadStop" = some (.ref c1)
  g2 : mg "NoWay" = some (.ref c2)
  g3 : mg "BadPrices" = some (.ref c3)
  g4 : mg "BadZones" = some (.ref c4)
  g5 : mg "PastDay" = some (.ref c5)
  isi : mg "isinstance" = none
  ve : mg "ValueError" = none
end
end FW

namespace FW
open PySem PySem.Spec PyProof.Rows L2
/-! ### refusals that are taken -/
/-- the program's own class CF takes refusals of the class C -/
structure CatchF (K : PySem.W.Frag) (CF C : Addr) : Prop where
  b : PySem.W.subIn K (.ref CF) (.type "BaseException") = some true
  hd : PySem.W.hasDictIn K CF = true
  t : PySem.W.typeIn K (.ref CF) = some (.type "type")
  sub : PySem.W.subIn K (.ref C) (.ref CF) = some true
section
variable {P : Program} {w : World} {K : PySem.W.Frag} {mg : Str → Option Value} {base : Heap} {C CF : Addr}
theorem takes0N {X : Cx} : L2N.Takes X (fun _ _ _ _ => False) := by
  rintro _ _ ⟨_, _, _, _, _, _, _, _, _, _, _, _, _, _, _, _, z⟩
  exact z.elim
theorem passTry {X : Cx} {W : WX} (n : Nat) (tk : L2N.Takes X W) (hn : X.N.length = n := by rfl) : Passes (L2N.CX X.prog X.w) X (fun cls d H => ∀ σ : L2.St, σ.length = n → W cls d σ H) :=
  fun _ σ _ _ e s' I c => tk e s' (L2N.XE.of_call I (fun _ _ _ h => h σ (I.len.trans hn)) c)
theorem caughtF (c : CatchF K CF C) : PySem.W.exmOne K (.ref C) (.ref CF) = some true := PySem.W.exm_ref c.b c.hd c.t c.sub
theorem roomH {k j : Nat} {A : Around} (r : Room k A) (h : j ≤ k) : L2H.RoomH j A := L2H.roomH_of (r.mono h)
theorem made_new {C x dx : Addr} {H : Hp} (nx : H x = none) (ndx : H dx = none) (nex : dx ≠ x) : ∃ H1, H1 = upd (upd H dx (.own x)) x (.ins C dx []) ∧ Same H H1 ∧ H1 x = some (.ins C dx []) := by
  refine ⟨_, rfl, (same_upd ndx).trans (same_upd ?_), upd_same⟩
  rw [upd_ne nex.symm]
  exact nx
end
end FW

namespace FW
open PySem PySem.Spec PyProof.Rows L2
abbrev sWhole : Stmt := top 26
abbrev sShaped : Stmt := top 29
abbrev sServes : Stmt := top 30
abbrev sServed : Stmt := top 31
abbrev sGood : Stmt := top 32
theorem scWhole : FnScope ["_law_found"] ["_law_found"] (defScope sWhole) := ⟨rfl, rfl, rfl, by decide +kernel, rfl, by decide +kernel, by decide +kernel⟩
theorem scShaped : FnScope ["_law_ticket", "_law_rows_here", "_law_days_here", "_law_part", "_law_sort"] ["_law_ticket", "_law_rows_here", "_law_days_here"] (defScope sShaped) := ⟨rfl, rfl, rfl, by decide +kernel, rfl, by decide +kernel, by decide +kernel⟩
theorem scServes : FnScope ["_law_ticket", "_law_day", "_law_ride", "_law_zones"] ["_law_ticket", "_law_day", "_law_ride", "_law_zones"] (defScope sServes) := ⟨rfl, rfl, rfl, by decide +kernel, rfl, by decide +kernel, by decide +kernel⟩
theorem scServed : FnScope ["_law_tickets", "_law_day", "_law_ride", "_law_zones", "_law_ticket"] ["_law_tickets", "_law_day", "_law_ride", "_law_zones"] (defScope sServed) := ⟨rfl, rfl, rfl, by decide +kernel, rfl, by decide +kernel, by decide +kernel⟩
theorem scGood : FnScope ["_law_found", "_law_rows_here", "_law_days_here", "_law_cost", "_law_ticket", "_law_day", "_law_ride"] ["_law_found", "_law_rows_here", "_law_days_here"] (defScope sGood) := ⟨rfl, rfl, rfl, by decide +kernel, rfl, by decide +kernel, by decide +kernel⟩
theorem row_at {r : List Int} (f : Five r) {o : Nat} (h1 : 1 ≤ o) (h5 : o ≤ 5) : atI (r.map V.int) ((o : Int) - 1) = some (.int (FT.pr r o)) := by
  have hl : o - 1 < r.length := by rw [f.1]; omega
  refine at_of (j := o - 1) (by omega) ?_
  rw [List.getElem?_map]
  unfold FT.pr
  rw [List.getD_eq_getElem?_getD, List.getElem?_eq_getElem hl]
  rfl
/-- what a ticket as it is told shows -/
theorem tk_facts {T : FT.Tar} (tok : T.Ok) {H : Hp} {t : Addr} {k : FT.Tk} (h : TkAt T H t k) (ok : k.Ok) {days : List (List Nat)} (hin : TkIn days k) :
    ∃ (nm : Str) (xs : List V) (ns : List Int) (so z : Nat), H t = some (.tup xs) ∧ xs = .str nm :: ns.map V.int ∧ xs.length = 5 - so ∧ so ≤ 2 ∧ (∀ n, n ∈ ns → 0 ≤ n) ∧ 1 ≤ z ∧ z ≤ 5 ∧ atI xs 0 = some (.str nm) ∧ atI xs (-2) = some (.int (z : Nat)) ∧
      atI xs (-1) = some (.int (FT.pr (rowOf so T.s T.d T.w) z)) ∧ atI [V.str "single", V.str "day", V.str "week"] (so : Nat) = some (.str nm) ∧
      (so < 2 → ∃ d : Nat, atI xs 1 = some (.int (d : Nat)) ∧ d < days.length ∧ (so = 0 → ∃ (i : Nat) (zs : List Nat), atI xs 2 = some (.int (i : Nat)) ∧ days[d]? = some zs ∧ i < zs.length)) := by
  cases k with
  | week z =>
    have hp := tok.w z ok.1 ok.2
    refine ⟨"week", _, [(z : Nat), FT.pr T.w z], 2, z, h, rfl, rfl, by decide, ?_, ok.1, ok.2, rfl, rfl, rfl, rfl, fun z => by omega⟩
    intro n m
    simp only [List.mem_cons, List.not_mem_nil, or_false] at m
    rcases m with rfl | rfl
    · omega
    · exact hp
  | day d z =>
    have hp := tok.d z ok.1 ok.2
    refine ⟨"day", _, [(d : Nat), (z : Nat), FT.pr T.d z], 1, z, h, rfl, rfl, by decide, ?_, ok.1, ok.2, rfl, rfl, rfl, rfl, fun _ => ⟨d, rfl, hin, fun z => by omega⟩⟩
    intro n m
    simp only [List.mem_cons, List.not_mem_nil, or_false] at m
    rcases m with rfl | rfl | rfl
    · omega
    · omega
    · exact hp
  | single d i z =>
    have hp := tok.s z ok.1 ok.2
    obtain ⟨zs, ez, hi⟩ := hin
    refine ⟨"single", _, [(d : Nat), (i : Nat), (z : Nat), FT.pr T.s z], 0, z, h, rfl, rfl, by decide, ?_, ok.1, ok.2, rfl, rfl, rfl, rfl, fun _ => ⟨d, rfl, (List.getElem?_eq_some_iff.mp ez).1, fun _ => ⟨i, zs, rfl, ez, hi⟩⟩⟩
    intro n m
    simp only [List.mem_cons, List.not_mem_nil, or_false] at m
    rcases m with rfl | rfl | rfl | rfl
    · omega
    · omega
    · omega
    · exact hp
section
variable {P : Program} {w : World} {K : PySem.W.Frag} {mg : Str → Option Value} {base : Heap}
structure LT (mg : Str → Option Value) : Prop where
  len : mg "len" = none
  list : mg "list" = none
  range : mg "range" = none
  int : mg "int" = none
  isi : mg "isinstance" = none
  bool : mg "bool" = none
  tuple : mg "tuple" = none
/-! ### _law_whole -/
def spWhole : L2.Sp := fun vs H Q _ => ∃ i : Int, vs = [.int i] ∧ Q (.bl true) H
theorem ok_whole {f : Addr} {fd : FuncData} (F : Fun K "_law_whole" "_law_whole" sWhole f fd) (T : LT mg) : FnOk P w K mg base CX0 1 f fd ["_law_found"] spWhole := by
  refine F.ok scWhole (fun vs H Q E h => ?_) (fun cdv A outer s H vs Q E hr h => ?_)
  · obtain ⟨i, rfl, _⟩ := h
    rfl
  · obtain ⟨i, rfl, q⟩ := h
    refine ⟨_, pss_one (ps_ret (pe_and (pe_callB call_isi (by rfl) T.isi boot_isinstance (pa_cons (pv 0) (pa_cons (pe_bltn (v := .ty "int") (by rfl) T.int boot_int rfl) pa_nil)))
      (pe_one (pe_not (pe_callB call_isi (by rfl) T.isi boot_isinstance (pa_cons (pv 0) (pa_cons (pe_bltn (v := .ty "bool") (by rfl) T.bool (by decide +kernel) rfl) pa_nil))))))), ?_⟩
    refine ⟨_, rfl, .int i, .ty "int", .type "int", .type "int", true, rfl, .ty _, .base (.int i), kit_ty (by decide +kernel), true, rfl, ?_⟩
    refine iteT ?_
    exact ⟨_, rfl, .int i, .ty "bool", .type "int", .type "bool", false, rfl, .ty _, .base (.int i), kit_ty (by decide +kernel), false, rfl, q⟩
/-! ### _law_shaped -/
def spShaped : L2.Sp := fun vs H Q _ => ∃ (t ra dl : Addr) (as bs : List Addr) (S D W : List Int) (days : List (List Nat)) (k : FT.Tk), vs = [.ref t, .ref ra, .ref dl] ∧ RowsAt H ra as [S, D, W] ∧ (Five S ∧ Five D ∧ Five W) ∧ DaysAt H dl bs days ∧
  TkAt ⟨S, D, W⟩ H t k ∧ k.Ok ∧ TkIn days k ∧ ∀ H', Same H H' → Q (.bl true) H'
theorem ok_shaped {f fW : Addr} {fd fdW : FuncData} (F : Fun K "_law_shaped" "_law_shaped" sShaped f fd) (B : LT mg) (FW : Fun K "_law_whole" "_law_whole" sWhole fW fdW) (bW : Binds K fdW ["_law_found"] []) (gW : mg "_law_whole" = some (.ref fW)) :
    FnOk P w K mg base CX0 2 f fd ["_law_ticket", "_law_rows_here", "_law_days_here"] spShaped := by
  have GW : FnOk P w K mg base CX0 1 fW fdW ["_law_found"] spWhole := ok_whole FW B
  refine F.ok scShaped (fun vs H Q E h => ?_) (fun cdv A outer s H vs Q E hr h => ?_)
  · obtain ⟨t, ra, dl, as, bs, S, D, W, days, k, rfl, _⟩ := h
    rfl
  · obtain ⟨t, ra, dl, as, bs, S, D, W, days, k, rfl, ⟨hra, hA⟩, f3, ⟨hdl, hB⟩, hk, kok, kin, q⟩ := h
    refine ⟨_, pss_cons (ps_if (PW.pt (pw_or (pt_not (pt_val (pe_callB call_isi (by rfl) B.isi boot_isinstance (pa_cons (pv 0) (pa_cons (pe_bltn (v := .ty "tuple") (by rfl) B.tuple (by decide +kernel) rfl) pa_nil)))))
        (pw_or (pt_cmpR op_lt (pe_callB call_len_seq (by rfl) B.len PySem.boot_len (pa_cons (pv 0) pa_nil)) pe_int (nomark _)) (pw_or1 (pt_cmpR op_gt (pe_callB call_len_seq (by rfl) B.len PySem.boot_len (pa_cons (pv 0) pa_nil)) pe_int (nomark _)))))) (pss_one (ps_ret pe_bl)) pss_nil)
      (pss_cons (ps_for PassesOwn.never rfl (pi_tup (pe_slice sl_tup (pv 0) (po_some pe_int) po_none)) (pg_name (i := 3) scShaped.nd rfl (.inl rfl))
        (pss_one (ps_if (PW.pt (pw_or (pt_not (pt_val (pe_call GW hr (by rfl) gW FW.kp bW .nil pass0 (pa_cons (pv 3) pa_nil)))) (pw_or1 (pt_cmpR op_lt (pv 3) pe_int (nomark _))))) (pss_one (ps_ret pe_bl)) pss_nil)))
      (C8.pss_cut (ps_set (i := 4) scShaped.nd rfl (.inl rfl) (pe_op op_sub pe_int (pe_callB call_len_seq (by rfl) B.len PySem.boot_len (pa_cons (pv 0) pa_nil))))
      (pss_cons (ps_if (PW.pt (pw_or (pt_cmpR op_ne (pe_ix ix_tup (pv 0) pe_int (fun _ _ => rfl)) (pe_ix ix_list (pe_lst (pa_cons pe_str (pa_cons pe_str (pa_cons pe_str pa_nil)))) (pv 4) (fun _ _ => rfl)) (nomark _))
          (pw_or (pt_cmpR op_lt (pe_ix ix_tup (pv 0) (pe_un un_neg pe_int) (fun _ _ => rfl)) pe_int (nomark _)) (pw_or1 (pt_cmpR op_gt (pe_ix ix_tup (pv 0) (pe_un un_neg pe_int) (fun _ _ => rfl)) pe_int (nomark _)))))) (pss_one (ps_ret pe_bl)) pss_nil)
      (pss_cons (ps_if (pt_cmpR op_ne (pe_ix ix_tup (pv 0) (pe_un un_neg pe_int) (fun _ _ => rfl)) (pe_ix ix_list (pe_ix ix_list (pv 1) (pv 4) (fun _ _ => rfl)) (pe_op op_sub (pe_ix ix_tup (pv 0) (pe_un un_neg pe_int) (fun _ _ => rfl)) pe_int) (fun _ _ => rfl)) (nomark _)) (pss_one (ps_ret pe_bl)) pss_nil)
      (pss_cons (ps_if (PW.pt (pw_and (pt_cmpR op_lt (pv 4) pe_int (nomark _)) (pw_and1 (pt_cmpR op_ge (pe_ix ix_tup (pv 0) pe_int (fun _ _ => rfl)) (pe_callB call_len_seq (by rfl) B.len PySem.boot_len (pa_cons (pv 2) pa_nil)) (nomark _))))) (pss_one (ps_ret pe_bl)) pss_nil)
      (pss_one (ps_ret (pe_or (pe_cmpR op_gt (pv 4) pe_int (nomark _)) (pe_one (pe_cmpR op_lt (pe_ix ix_tup (pv 0) pe_int (fun _ _ => rfl)) (pe_callB call_len_seq (by rfl) B.len PySem.boot_len (pa_cons (pe_ix ix_list (pv 2) (pe_ix ix_tup (pv 0) pe_int (fun _ _ => rfl)) (fun _ _ => rfl)) pa_nil)) (nomark _))))))))))), ?_⟩
    obtain ⟨nm, xs, ns, so, z, ht, exs, lxs, hso, hns, z1, z5, g0, gz, gp, gn, gd⟩ := tk_facts (five_ok f3) hk kok kin
    have hlx : 3 ≤ xs.length ∧ xs.length ≤ 5 := by
      clear gd
      omega
    obtain ⟨aj, rj, eaj, hj, fj, ej⟩ : ∃ aj rj, atI (as.map V.ref) (so : Nat) = some (.ref aj) ∧ RowAt H aj rj ∧ Five rj ∧ rj = rowOf so S D W := by
      obtain ⟨a0, a1, a2, rfl⟩ : ∃ x y z, as = [x, y, z] := by
        have := hA.len
        match as, this with
        | [x, y, z], _ => exact ⟨x, y, z, rfl⟩
      rcases (show so = 0 ∨ so = 1 ∨ so = 2 by omega) with rfl | rfl | rfl
      · exact ⟨a0, S, rfl, hA.at (i := 0) rfl rfl, f3.1, rfl⟩
      · exact ⟨a1, D, rfl, hA.at (i := 1) rfl rfl, f3.2.1, rfl⟩
      · exact ⟨a2, W, rfl, hA.at (i := 2) rfl rfl, f3.2.2, rfl⟩
    refine ⟨_, rfl, .ref t, .ty "tuple", .type "tuple", .type "tuple", true, rfl, .ty _, .base (.tup ht), kit_ty (by decide +kernel), true, rfl, ?_⟩
    refine iteF ?_
    refine ⟨_, rfl, t, _, rfl, .inr (SqT.of ht), _, _, rfl, rfl, _, rfl, ?_⟩
    refine ite2 (fun e => absurd (of_decide_eq_true e) (by omega)) (fun _ => ?_)
    refine ⟨_, rfl, t, _, rfl, .inr (SqT.of ht), _, _, rfl, rfl, _, rfl, ?_⟩
    refine ite2 (fun e => absurd (of_decide_eq_true e) (by omega)) (fun _ => ?_)
    -- for _law_part in _law_ticket[1:]
    refine ⟨_, rfl, 1, rfl, t, xs, rfl, SqT.of ht, ?_, fun p np => ?_⟩
    · intro z
      have e1 : HT.sIx xs.length 0 (some (1 : Int)) = 1 := by
        unfold HT.sIx
        simp only []
        rw [if_neg (by omega)]
        show min ((1 : Int).toNat) xs.length = 1
        have : (1 : Int).toNat = 1 := rfl
        omega
      rw [e1] at z
      omega
    have ecut : cutV xs (some 1) none = ns.map V.int := by
      have e1 : HT.sIx xs.length 0 (some (1 : Int)) = 1 := by
        unfold HT.sIx
        simp only []
        rw [if_neg (by omega)]
        show min ((1 : Int).toNat) xs.length = 1
        have : (1 : Int).toNat = 1 := rfl
        omega
      have e2 : HT.sIx xs.length xs.length none = xs.length := rfl
      unfold cutV
      rw [e1, e2, exs]
      exact List.take_of_length_le (by simp)
    rw [ecut]
    have sp := same_upd (o := .tup (ns.map V.int)) np
    refine ⟨p, rfl, ⟨_, SqT.of upd_same⟩, for_tup (K := K) (a := p) (xs := ns.map V.int) (fun i σ H' => ∃ y3 : Option V, σ = [some (.ref t), some (.ref ra), some (.ref dl), y3, none] ∧ H' = upd H p (.tup (ns.map V.int))) ⟨none, rfl, rfl⟩ (fun i σ H' _ ⟨_, _, e⟩ => by rw [e]; exact SqT.of upd_same) ?_ ?_⟩
    · rintro i v σ H' hi ⟨y3, rfl, rfl⟩
      obtain ⟨x, hx, rfl⟩ : ∃ x, ns[i]? = some x ∧ v = V.int x := by
        rw [List.getElem?_map] at hi
        cases e : ns[i]? with
        | none =>
          rw [e] at hi
          cases hi
        | some x =>
          rw [e] at hi
          exact ⟨x, rfl, (Option.some.inj hi).symm⟩
      have hx0 := hns x (List.mem_of_getElem? hx)
      refine ⟨_, rfl, x, rfl, true, rfl, ?_⟩
      refine iteF ?_
      refine ⟨_, rfl, _, _, rfl, rfl, _, rfl, ?_⟩
      refine ite2 (fun e => absurd (of_decide_eq_true e) (by omega)) (fun _ => ?_)
      exact ⟨_, rfl, rfl⟩
    rintro σ H' ⟨y3, rfl, rfl⟩
    have ht' := sp _ _ ht
    have hra' := sp _ _ hra
    have hdl' := sp _ _ hdl
    -- _law_sort
    have e5 : (5 : Int) - (xs.length : Nat) = (so : Nat) := by
      clear gd
      omega
    refine ⟨fun σ H1 => H1 = upd H p (.tup (ns.map V.int)) ∧ σ = [some (.ref t), some (.ref ra), some (.ref dl), y3, some (.int (so : Nat))], ⟨_, rfl, t, _, rfl, .inr (SqT.of ht'), _, _, rfl, rfl, rfl, by rw [← e5]; rfl⟩, ?_⟩
    rintro σ H1 ⟨rfl, rfl⟩
    -- its name, its zones
    refine ⟨_, rfl, t, _, _, _, rfl, rfl, SqT.of ht', g0, by show 3 ≤ sizeLine; decide, fun c nc => ?_⟩
    have sc := same_upd (o := .lst [V.str "single", V.str "day", V.str "week"]) nc
    have sq := sp.trans sc
    refine ⟨_, rfl, c, _, _, _, rfl, rfl, SqL.of upd_same, gn, rfl, _, rfl, ?_⟩
    refine iteNS rfl ?_
    have ht2 := sc _ _ ht'
    have hra2 := sc _ _ hra'
    have hdl2 := sc _ _ hdl'
    refine ⟨_, rfl, _, rfl, t, _, _, _, rfl, rfl, SqT.of ht2, gz, _, _, rfl, rfl, _, rfl, ?_⟩
    refine ite2 (fun e => absurd (of_decide_eq_true e) (by omega)) (fun _ => ?_)
    refine ⟨_, rfl, _, rfl, t, _, _, _, rfl, rfl, SqT.of ht2, gz, _, _, rfl, rfl, _, rfl, ?_⟩
    refine ite2 (fun e => absurd (of_decide_eq_true e) (by omega)) (fun _ => ?_)
    -- its price
    refine ⟨_, rfl, _, rfl, t, _, _, _, rfl, rfl, SqT.of ht2, gp, _, rfl, _, rfl, ra, _, _, _, rfl, rfl, SqL.of hra2, eaj, _, rfl, _, rfl, t, _, _, _, rfl, rfl, SqT.of ht2, gz, _, _, rfl, rfl, aj, _, _, _, rfl, rfl, SqL.of (sq _ _ hj), row_at fj z1 z5, rfl, _, rfl, ?_⟩
    rw [ej]
    refine iteNS rfl ?_
    -- its day, its ride
    have fin := q _ sq
    refine ⟨_, rfl, _, _, rfl, rfl, _, rfl, ?_⟩
    refine ite2 (fun e => ?_) (fun e => ?_)
    · have so2 : (so : Int) < 2 := of_decide_eq_true e
      obtain ⟨d, gd1, hd, gd0⟩ := gd (by omega)
      refine ⟨_, rfl, t, _, _, _, rfl, rfl, SqT.of ht2, gd1, _, rfl, dl, _, rfl, .inl (SqL.of hdl2), _, _, rfl, rfl, _, rfl, ?_⟩
      rw [List.length_map, hB.len]
      refine ite2 (fun e => absurd (of_decide_eq_true e) (by omega)) (fun _ => ?_)
      refine ⟨_, rfl, _, _, rfl, rfl, _, rfl, ?_⟩
      refine ite2 (fun e => ?_) (fun e => ?_)
      · exact fin
      · have so0 : so = 0 := by
          have : ¬ (0 : Int) < so := fun y => e (decide_eq_true y)
          omega
        obtain ⟨i, zs, gi, ezs, hi⟩ := gd0 so0
        obtain ⟨b, eb, hb⟩ := hB.get ezs
        have gb : atI (bs.map V.ref) (d : Nat) = some (.ref b) := at_of (j := d) rfl (by rw [List.getElem?_map, eb]; rfl)
        refine ⟨_, rfl, t, _, _, _, rfl, rfl, SqT.of ht2, gi, _, rfl, _, rfl, t, _, _, _, rfl, rfl, SqT.of ht2, gd1, dl, _, _, _, rfl, rfl, SqL.of hdl2, gb, b, _, rfl, .inl (SqL.of (sq _ _ hb)), _, _, rfl, rfl, ?_⟩
        rw [List.length_map]
        have : decide ((i : Int) < (zs.length : Nat)) = true := decide_eq_true (by omega)
        show Q (.bl (decide ((i : Int) < (zs.length : Nat)))) _
        rw [this]
        exact fin
    · have so2 : ¬ (so : Int) < 2 := fun y => e (decide_eq_true y)
      refine ⟨_, rfl, _, _, rfl, rfl, _, rfl, ?_⟩
      have : decide ((0 : Int) < so) = true := decide_eq_true (by omega)
      refine ite2 (fun e => ?_) (fun e => absurd this e)
      exact fin
/-! ### _law_serves, _law_served -/
def spServes : L2.Sp := fun vs H Q _ => ∃ (t : Addr) (d i z : Nat) (T : FT.Tar) (k : FT.Tk), vs = [.ref t, .int (d : Nat), .int (i : Nat), .int (z : Nat)] ∧ TkAt T H t k ∧ ∀ b : Bool, (b = true ↔ k.Serves d i z) → Q (.bl b) H
theorem ok_serves {f : Addr} {fd : FuncData} (F : Fun K "_law_serves" "_law_serves" sServes f fd) : FnOk P w K mg base CX0 1 f fd ["_law_ticket", "_law_day", "_law_ride", "_law_zones"] spServes := by
  refine F.ok scServes (fun vs H Q E h => ?_) (fun cdv A outer s H vs Q E hr h => ?_)
  · obtain ⟨t, d, i, z, T, k, rfl, _⟩ := h
    rfl
  · obtain ⟨t, d, i, z, T, k, rfl, hk, q⟩ := h
    refine ⟨_, pss_cons (ps_if (pt_cmpR op_lt (pe_ix ix_tup (pv 0) (pe_un un_neg pe_int) (fun _ _ => rfl)) (pv 3) (nomark _)) (pss_one (ps_ret pe_bl)) pss_nil)
      (pss_cons (ps_if (pt_cmpR op_eq (pe_ix ix_tup (pv 0) pe_int (fun _ _ => rfl)) pe_str (nomark _)) (pss_one (ps_ret pe_bl)) pss_nil)
      (pss_one (ps_ret (pe_and (pe_cmpR op_eq (pe_ix ix_tup (pv 0) pe_int (fun _ _ => rfl)) (pv 1) (nomark _)) (pe_one (pe_or (pe_cmpR op_eq (pe_ix ix_tup (pv 0) pe_int (fun _ _ => rfl)) pe_str (nomark _)) (pe_one (pe_cmpR op_eq (pe_ix ix_tup (pv 0) pe_int (fun _ _ => rfl)) (pv 2) (nomark _))))))))), ?_⟩
    cases k with
    | week z' =>
      have hk' : H t = some (.tup [.str "week", .int (z' : Nat), .int (FT.pr T.w z')]) := hk
      have g0 : atI [V.str "week", .int (z' : Nat), .int (FT.pr T.w z')] 0 = some (.str "week") := rfl
      have gz : atI [V.str "week", .int (z' : Nat), .int (FT.pr T.w z')] (-2) = some (.int (z' : Nat)) := rfl
      refine ⟨_, rfl, _, rfl, t, _, _, _, rfl, rfl, SqT.of hk', gz, _, rfl, _, _, rfl, rfl, _, rfl, ?_⟩
      refine ite2 (fun e => ?_) (fun e => ?_)
      · have : (z' : Int) < z := of_decide_eq_true e
        exact q false ⟨fun y => Bool.noConfusion y, fun y => by have y' : z ≤ z' := y; omega⟩
      · have : ¬ (z' : Int) < z := fun y => e (decide_eq_true y)
        refine ⟨_, rfl, t, _, _, _, rfl, rfl, SqT.of hk', g0, rfl, _, rfl, ?_⟩
        refine ite2 (fun _ => ?_) (fun e => absurd (decide_eq_true rfl) e)
        exact q true ⟨fun _ => (by omega : z ≤ z'), fun _ => rfl⟩
    | day d' z' =>
      have hk' : H t = some (.tup [.str "day", .int (d' : Nat), .int (z' : Nat), .int (FT.pr T.d z')]) := hk
      have g0 : atI [V.str "day", .int (d' : Nat), .int (z' : Nat), .int (FT.pr T.d z')] 0 = some (.str "day") := rfl
      have g1 : atI [V.str "day", .int (d' : Nat), .int (z' : Nat), .int (FT.pr T.d z')] 1 = some (.int (d' : Nat)) := rfl
      have gz : atI [V.str "day", .int (d' : Nat), .int (z' : Nat), .int (FT.pr T.d z')] (-2) = some (.int (z' : Nat)) := rfl
      refine ⟨_, rfl, _, rfl, t, _, _, _, rfl, rfl, SqT.of hk', gz, _, rfl, _, _, rfl, rfl, _, rfl, ?_⟩
      refine ite2 (fun e => ?_) (fun e => ?_)
      · have : (z' : Int) < z := of_decide_eq_true e
        exact q false ⟨fun y => Bool.noConfusion y, fun y => by have y' : d = d' ∧ z ≤ z' := y; omega⟩
      · have hz : ¬ (z' : Int) < z := fun y => e (decide_eq_true y)
        refine ⟨_, rfl, t, _, _, _, rfl, rfl, SqT.of hk', g0, rfl, _, rfl, ?_⟩
        refine ite2 (fun e => ?_) (fun _ => ?_)
        · exact absurd (of_decide_eq_true e) (by decide +kernel)
        refine ⟨_, rfl, t, _, _, _, rfl, rfl, SqT.of hk', g1, _, rfl, rfl, _, rfl, ?_⟩
        refine ite2 (fun e => ?_) (fun e => ?_)
        · have hd : d = d' := by have := V.int.inj (of_decide_eq_true e); omega
          refine ⟨_, rfl, t, _, _, _, rfl, rfl, SqT.of hk', g0, rfl, _, rfl, ?_⟩
          refine ite2 (fun _ => ?_) (fun e => absurd (decide_eq_true rfl) e)
          exact q true ⟨fun _ => (⟨hd, by omega⟩ : d = d' ∧ z ≤ z'), fun _ => rfl⟩
        · exact q false ⟨fun y => Bool.noConfusion y, fun y => by
            have y' : d = d' ∧ z ≤ z' := y
            exact absurd (decide_eq_true (by rw [y'.1])) e⟩
    | single d' i' z' =>
      have hk' : H t = some (.tup [.str "single", .int (d' : Nat), .int (i' : Nat), .int (z' : Nat), .int (FT.pr T.s z')]) := hk
      have g0 : atI [V.str "single", .int (d' : Nat), .int (i' : Nat), .int (z' : Nat), .int (FT.pr T.s z')] 0 = some (.str "single") := rfl
      have g1 : atI [V.str "single", .int (d' : Nat), .int (i' : Nat), .int (z' : Nat), .int (FT.pr T.s z')] 1 = some (.int (d' : Nat)) := rfl
      have g2 : atI [V.str "single", .int (d' : Nat), .int (i' : Nat), .int (z' : Nat), .int (FT.pr T.s z')] 2 = some (.int (i' : Nat)) := rfl
      have gz : atI [V.str "single", .int (d' : Nat), .int (i' : Nat), .int (z' : Nat), .int (FT.pr T.s z')] (-2) = some (.int (z' : Nat)) := rfl
      refine ⟨_, rfl, _, rfl, t, _, _, _, rfl, rfl, SqT.of hk', gz, _, rfl, _, _, rfl, rfl, _, rfl, ?_⟩
      refine ite2 (fun e => ?_) (fun e => ?_)
      · have : (z' : Int) < z := of_decide_eq_true e
        exact q false ⟨fun y => Bool.noConfusion y, fun y => by have y' : d = d' ∧ i = i' ∧ z ≤ z' := y; omega⟩
      · have hz : ¬ (z' : Int) < z := fun y => e (decide_eq_true y)
        refine ⟨_, rfl, t, _, _, _, rfl, rfl, SqT.of hk', g0, rfl, _, rfl, ?_⟩
        refine ite2 (fun e => ?_) (fun _ => ?_)
        · exact absurd (of_decide_eq_true e) (by decide +kernel)
        refine ⟨_, rfl, t, _, _, _, rfl, rfl, SqT.of hk', g1, _, rfl, rfl, _, rfl, ?_⟩
        refine ite2 (fun e => ?_) (fun e => ?_)
        · have hd : d = d' := by have := V.int.inj (of_decide_eq_true e); omega
          refine ⟨_, rfl, t, _, _, _, rfl, rfl, SqT.of hk', g0, rfl, _, rfl, ?_⟩
          refine ite2 (fun e => ?_) (fun _ => ?_)
          · exact absurd (of_decide_eq_true e) (by decide +kernel)
          refine ⟨_, rfl, t, _, _, _, rfl, rfl, SqT.of hk', g2, _, rfl, rfl, q _ ?_⟩
          rw [decide_eq_true_iff]
          exact ⟨fun y => (⟨hd, by have := V.int.inj y; omega, by omega⟩ : d = d' ∧ i = i' ∧ z ≤ z'), fun y => by
            have y' : d = d' ∧ i = i' ∧ z ≤ z' := y
            rw [y'.2.1]⟩
        · exact q false ⟨fun y => Bool.noConfusion y, fun y => by
            have y' : d = d' ∧ i = i' ∧ z ≤ z' := y
            exact absurd (decide_eq_true (by rw [y'.1])) e⟩
def spServed : L2.Sp := fun vs H Q _ => ∃ (tl : Addr) (d i z : Nat) (T : FT.Tar) (tas : List Addr) (ts : List FT.Tk), vs = [.ref tl, .int (d : Nat), .int (i : Nat), .int (z : Nat)] ∧ H tl = some (.lst (tas.map V.ref)) ∧ All2 (TkAt T H) tas ts ∧ (∃ k, k ∈ ts ∧ k.Serves d i z) ∧ Q (.bl true) H
theorem ok_served {f fS : Addr} {fd fdS : FuncData} (F : Fun K "_law_served" "_law_served" sServed f fd) (FS : Fun K "_law_serves" "_law_serves" sServes fS fdS) (bS : Binds K fdS ["_law_ticket", "_law_day", "_law_ride", "_law_zones"] []) (gS : mg "_law_serves" = some (.ref fS)) :
    FnOk P w K mg base CX0 2 f fd ["_law_tickets", "_law_day", "_law_ride", "_law_zones"] spServed := by
  have GS : FnOk P w K mg base CX0 1 fS fdS ["_law_ticket", "_law_day", "_law_ride", "_law_zones"] spServes := ok_serves FS
  refine F.ok scServed (fun vs H Q E h => ?_) (fun cdv A outer s H vs Q E hr h => ?_)
  · obtain ⟨tl, d, i, z, T, tas, ts, rfl, _⟩ := h
    rfl
  · obtain ⟨tl, d, i, z, T, tas, ts, rfl, htl, hT, ⟨k, mk, sk⟩, q⟩ := h
    refine ⟨_, pss_cons (ps_for PassesOwn.never rfl (pi_list (pv 0)) (pg_name (i := 4) scServed.nd rfl (.inl rfl))
        (pss_one (ps_if (pt_val (pe_call GS hr (by rfl) gS FS.kp bS .nil pass0 (pa_cons (pv 4) (pa_cons (pv 1) (pa_cons (pv 2) (pa_cons (pv 3) pa_nil)))))) (pss_one (ps_ret pe_bl)) pss_nil)))
      (pss_one (ps_ret pe_bl)), ?_⟩
    refine ⟨_, rfl, tl, rfl, ⟨_, SqL.of htl⟩, for_list (K := K) (a := tl) (xs := tas.map V.ref) (fun j σ H' => ∃ y4 : Option V, σ = [some (.ref tl), some (.int (d : Nat)), some (.int (i : Nat)), some (.int (z : Nat)), y4] ∧ H' = H ∧ ∀ k', k' ∈ ts.take j → ¬ k'.Serves d i z)
      ⟨none, rfl, rfl, by simp⟩ (fun j σ H' _ ⟨_, _, e, _⟩ => by rw [e]; exact SqL.of htl) ?_ ?_⟩
    · rintro j v σ H' hj ⟨y4, rfl, rfl, no⟩
      obtain ⟨t0, ht0, rfl⟩ : ∃ t0, tas[j]? = some t0 ∧ v = V.ref t0 := by
        rw [List.getElem?_map] at hj
        cases e : tas[j]? with
        | none =>
          rw [e] at hj
          cases hj
        | some t0 =>
          rw [e] at hj
          exact ⟨t0, rfl, (Option.some.inj hj).symm⟩
      obtain ⟨k0, hk0, at0⟩ := hT.getL ht0
      refine ⟨_, rfl, _, rfl, _, rfl, _, rfl, t0, d, i, z, T, k0, rfl, at0, fun b hb => ⟨_, rfl, ?_⟩⟩
      refine ite2 (fun e => ?_) (fun e => ?_)
      · exact q
      · refine ⟨_, rfl, rfl, fun k' m => ?_⟩
        rw [List.take_add_one, hk0] at m
        rcases List.mem_append.mp m with m | m
        · exact no k' m
        · rw [List.mem_singleton.mp m]
          exact fun y => e (hb.mpr y)
    · rintro σ H' ⟨y4, rfl, rfl, no⟩
      rw [List.length_map, hT.len, List.take_of_length_le (Nat.le_refl _)] at no
      exact absurd sk (no k mk)
end
end FW

namespace FW
open PySem PySem.Spec PyProof.Rows L2
theorem tk_price {T : FT.Tar} {H : Hp} {t : Addr} {k : FT.Tk} (h : TkAt T H t k) : ∃ xs : List V, H t = some (.tup xs) ∧ atI xs (-1) = some (.int (k.price T)) := by
  cases k with
  | week z => exact ⟨_, h, rfl⟩
  | day d z => exact ⟨_, h, rfl⟩
  | single d i z => exact ⟨_, h, rfl⟩
theorem tk_same {T : FT.Tar} {H H' : Hp} {t : Addr} {k : FT.Tk} (h : TkAt T H t k) (s : Same H H') : TkAt T H' t k := by
  cases k with
  | week z => exact s _ _ h
  | day d z => exact s _ _ h
  | single d i z => exact s _ _ h
section
variable {P : Program} {w : World} {K : PySem.W.Frag} {mg : Str → Option Value} {base : Heap}
/-! ### _law_good -/
def spGood : L2.Sp := fun vs H Q _ => ∃ (p ra dl tl : Addr) (as bs tas : List Addr) (S D W : List Int) (days : List (List Nat)) (ts : List FT.Tk), vs = [.ref p, .ref ra, .ref dl] ∧ RowsAt H ra as [S, D, W] ∧ (Five S ∧ Five D ∧ Five W) ∧ DaysAt H dl bs days ∧ days.length ≤ 1000 ∧ Short 1000 days ∧
  H p = some (.tup [.int (FT.cost ⟨S, D, W⟩ ts), .ref tl]) ∧ H tl = some (.lst (tas.map V.ref)) ∧ All2 (TkAt ⟨S, D, W⟩ H) tas ts ∧ (∀ k, k ∈ ts → k.Ok ∧ TkIn days k) ∧ FT.AllServed ts days ∧ ∀ H', Same H H' → Q (.bl true) H'
theorem ok_good {f fW fSh fSv fSd : Addr} {fd dW dSh dSv dSd : FuncData} (F : Fun K "_law_good" "_law_good" sGood f fd) (B : LT mg) (FW : Fun K "_law_whole" "_law_whole" sWhole fW dW) (bW : Binds K dW ["_law_found"] []) (gW : mg "_law_whole" = some (.ref fW))
    (FSh : Fun K "_law_shaped" "_law_shaped" sShaped fSh dSh) (bSh : Binds K dSh ["_law_ticket", "_law_rows_here", "_law_days_here"] []) (gSh : mg "_law_shaped" = some (.ref fSh))
    (FSv : Fun K "_law_serves" "_law_serves" sServes fSv dSv) (bSv : Binds K dSv ["_law_ticket", "_law_day", "_law_ride", "_law_zones"] []) (gSv : mg "_law_serves" = some (.ref fSv))
    (FSd : Fun K "_law_served" "_law_served" sServed fSd dSd) (bSd : Binds K dSd ["_law_tickets", "_law_day", "_law_ride", "_law_zones"] []) (gSd : mg "_law_served" = some (.ref fSd)) :
    FnOk P w K mg base CX0 3 f fd ["_law_found", "_law_rows_here", "_law_days_here"] spGood := by
  have GW : FnOk P w K mg base CX0 1 fW dW ["_law_found"] spWhole := ok_whole FW B
  have GSh : FnOk P w K mg base CX0 2 fSh dSh ["_law_ticket", "_law_rows_here", "_law_days_here"] spShaped := ok_shaped FSh B FW bW gW
  have GSd : FnOk P w K mg base CX0 2 fSd dSd ["_law_tickets", "_law_day", "_law_ride", "_law_zones"] spServed := ok_served FSd FSv bSv gSv
  refine F.ok scGood (fun vs H Q E h => ?_) (fun cdv A outer s H vs Q E hr h => ?_)
  · obtain ⟨p, ra, dl, tl, as, bs, tas, S, D, W, days, ts, rfl, _⟩ := h
    rfl
  · obtain ⟨p, ra, dl, tl, as, bs, tas, S, D, W, days, ts, rfl, hR, f3, hD, hl7, hsh, hp, htl, hT, hk, hs, q⟩ := h
    have r1 : Room 1 _ := hr.mono (by decide)
    refine ⟨_, pss_cons (ps_if (PW.pt (pw_or (pt_not (pt_val (pe_callB call_isi (by rfl) B.isi boot_isinstance (pa_cons (pv 0) (pa_cons (pe_bltn (v := .ty "tuple") (by rfl) B.tuple (by decide +kernel) rfl) pa_nil)))))
        (pw_or1 (pt_cmpR op_ne (pe_callB call_len_seq (by rfl) B.len PySem.boot_len (pa_cons (pv 0) pa_nil)) pe_int (nomark _))))) (pss_one (ps_ret pe_bl)) pss_nil)
      (pss_cons (ps_if (PW.pt (pw_or (pt_not (pt_val (pe_call GW r1 (by rfl) gW FW.kp bW .nil pass0 (pa_cons (pe_ix ix_tup (pv 0) pe_int (fun _ _ => rfl)) pa_nil))))
          (pw_or1 (pt_not (pt_val (pe_callB call_isi (by rfl) B.isi boot_isinstance (pa_cons (pe_ix ix_tup (pv 0) pe_int (fun _ _ => rfl)) (pa_cons (pe_bltn (v := .ty "list") (by rfl) B.list (by decide +kernel) rfl) pa_nil)))))))) (pss_one (ps_ret pe_bl)) pss_nil)
      (pss_cons (ps_set (i := 3) scGood.nd rfl (.inl rfl) pe_int)
      (C8.pss_cut (ps_for PassesOwn.never rfl (pi_list (pe_ix ix_tup (pv 0) pe_int (fun _ _ => rfl))) (pg_name (i := 4) scGood.nd rfl (.inl rfl))
        (pss_cons (ps_if (pt_not (pt_val (pe_call GSh hr (by rfl) gSh FSh.kp bSh .nil pass0 (pa_cons (pv 4) (pa_cons (pv 1) (pa_cons (pv 2) pa_nil)))))) (pss_one (ps_ret pe_bl)) pss_nil)
        (pss_one (ps_set (i := 3) scGood.nd rfl (.inl rfl) (pe_op op_add (pv 3) (pe_ix ix_tup (pv 4) (pe_un un_neg pe_int) (fun _ _ => rfl)))))))
      (pss_cons (ps_for PassesOwn.never rfl (pi_range1 (by rfl) B.range (pa_cons (pe_callB call_len_seq (by rfl) B.len PySem.boot_len (pa_cons (pv 2) pa_nil)) pa_nil)) (pg_name (i := 5) scGood.nd rfl (.inl rfl))
        (pss_one (ps_for PassesOwn.never rfl (pi_range1 (by rfl) B.range (pa_cons (pe_callB call_len_seq (by rfl) B.len PySem.boot_len (pa_cons (pe_ix ix_list (pv 2) (pv 5) (fun _ _ => rfl)) pa_nil)) pa_nil)) (pg_name (i := 6) scGood.nd rfl (.inl rfl))
          (pss_one (ps_if (pt_not (pt_val (pe_call GSd hr (by rfl) gSd FSd.kp bSd .nil pass0 (pa_cons (pe_ix ix_tup (pv 0) pe_int (fun _ _ => rfl)) (pa_cons (pv 5) (pa_cons (pv 6) (pa_cons (pe_ix ix_list (pe_ix ix_list (pv 2) (pv 5) (fun _ _ => rfl)) (pv 6) (fun _ _ => rfl)) pa_nil))))))) (pss_one (ps_ret pe_bl)) pss_nil)))))
      (pss_one (ps_ret (pe_cmpR op_eq (pv 3) (pe_ix ix_tup (pv 0) pe_int (fun _ _ => rfl)) (nomark _)))))))), ?_⟩
    obtain ⟨c, ec⟩ : ∃ c, c = FT.cost ⟨S, D, W⟩ ts := ⟨_, rfl⟩
    rw [← ec] at hp
    have g0 : atI [V.int c, .ref tl] 0 = some (.int c) := rfl
    have g1 : atI [V.int c, .ref tl] 1 = some (.ref tl) := rfl
    refine ⟨_, rfl, .ref p, .ty "tuple", .type "tuple", .type "tuple", true, rfl, .ty _, .base (.tup hp), kit_ty (by decide +kernel), true, rfl, ?_⟩
    refine iteF ?_
    refine ⟨_, rfl, p, _, rfl, .inr (SqT.of hp), rfl, _, rfl, ?_⟩
    refine iteNS rfl ?_
    refine ⟨_, rfl, p, _, _, _, rfl, rfl, SqT.of hp, g0, c, rfl, true, rfl, ?_⟩
    refine iteF ?_
    refine ⟨_, rfl, p, _, _, _, rfl, rfl, SqT.of hp, g1, .ref tl, .ty "list", .type "list", .type "list", true, rfl, .ty _, .base (.lst htl), kit_ty (by decide +kernel), true, rfl, ?_⟩
    refine iteF ?_
    -- the tickets
    refine ⟨fun σ H' => ∃ y4 : Option V, σ = [some (.ref p), some (.ref ra), some (.ref dl), some (.int c), y4, none, none] ∧ Same H H', ?_, ?_⟩
    · refine ⟨_, rfl, p, _, _, _, rfl, rfl, SqT.of hp, g1, tl, rfl, ⟨_, SqL.of htl⟩, for_list (K := K) (a := tl) (xs := tas.map V.ref) (fun i σ H' => ∃ y4 : Option V, σ = [some (.ref p), some (.ref ra), some (.ref dl), some (.int (FT.cost ⟨S, D, W⟩ (ts.take i))), y4, none, none] ∧ Same H H')
        ⟨none, rfl, Same.refl _⟩ (fun i σ H' _ ⟨_, _, s'⟩ => SqL.of (s' _ _ htl)) ?_ ?_⟩
      · rintro i v σ H' hi ⟨y4, rfl, s'⟩
        obtain ⟨t0, ht0, rfl⟩ : ∃ t0, tas[i]? = some t0 ∧ v = V.ref t0 := by
          rw [List.getElem?_map] at hi
          cases e : tas[i]? with
          | none =>
            rw [e] at hi
            cases hi
          | some t0 =>
            rw [e] at hi
            exact ⟨t0, rfl, (Option.some.inj hi).symm⟩
        obtain ⟨k0, hk0, at0⟩ := hT.getL ht0
        obtain ⟨o0, i0⟩ := hk k0 (List.mem_of_getElem? hk0)
        refine ⟨_, rfl, _, rfl, _, rfl, t0, ra, dl, as, bs, S, D, W, days, k0, rfl, ⟨s' _ _ hR.1, hR.2.imp fun b r e => s' _ _ e⟩, f3, ⟨s' _ _ hD.1, hD.2.imp fun b r e => s' _ _ e⟩, tk_same at0 s', o0, i0, fun H2 s2 => ⟨true, rfl, ?_⟩⟩
        refine iteF ?_
        obtain ⟨xs, hx, gx⟩ := tk_price (tk_same at0 (s'.trans s2))
        refine ⟨_, rfl, _, rfl, _, rfl, t0, _, _, _, rfl, rfl, SqT.of hx, gx, _, _, rfl, rfl, some (.ref t0), ?_, s'.trans s2⟩
        have e1 : FT.cost ⟨S, D, W⟩ (ts.take (i + 1)) = FT.cost ⟨S, D, W⟩ (ts.take i) + k0.price ⟨S, D, W⟩ := by
          rw [List.take_add_one, hk0]
          unfold FT.cost
          rw [List.map_append, List.sum_append]
          show _ + (_ + 0) = _
          omega
        rw [e1]
        rfl
      · rintro σ H' ⟨y4, rfl, s'⟩
        rw [List.length_map, hT.len, List.take_of_length_le (Nat.le_refl _), ← ec]
        exact ⟨y4, rfl, s'⟩
    rintro σ H1 ⟨y4, rfl, s1⟩
    have hp1 := s1 _ _ hp
    have htl1 := s1 _ _ htl
    have hdl1 := s1 _ _ hD.1
    have hB1 : All2 (DayAt H1) bs days := hD.2.imp fun b r e => s1 _ _ e
    have hT1 : All2 (TkAt ⟨S, D, W⟩ H1) tas ts := hT.imp fun b r e => tk_same e s1
    -- every ride is served
    refine ⟨_, rfl, dl, _, rfl, .inl (SqL.of hdl1), bs.length, by rw [List.length_map], by rw [hB1.len]; omega, by rw [hB1.len]; omega, for_range (lo := 0) (n := ((bs.length : Nat) : Int).toNat) (fun i σ H' => ∃ y5 y6 : Option V, σ = [some (.ref p), some (.ref ra), some (.ref dl), some (.int c), y4, y5, y6] ∧ H' = H1) ⟨none, none, rfl, rfl⟩ ?_ ?_⟩
    · rintro i σ H' hi ⟨y5, y6, rfl, rfl⟩
      have hib : i < bs.length := by omega
      obtain ⟨b, eb⟩ : ∃ b, bs[i]? = some b := ⟨bs[i], List.getElem?_eq_getElem _⟩
      obtain ⟨zs, ezs, hb⟩ := hB1.getL eb
      have gb : atI (bs.map V.ref) ((0 : Int) + i) = some (.ref b) := at_of (j := i) (by omega) (by rw [List.getElem?_map, eb]; rfl)
      have lz := hsh zs (List.mem_of_getElem? ezs)
      refine ⟨_, rfl, _, rfl, dl, _, _, _, rfl, rfl, SqL.of hdl1, gb, b, _, rfl, .inl (SqL.of hb), zs.length, by rw [List.length_map], by omega, by omega, for_range (lo := 0) (n := ((zs.length : Nat) : Int).toNat) (fun j σ H2 => ∃ y6 : Option V, σ = [some (.ref p), some (.ref ra), some (.ref dl), some (.int c), y4, some (.int (0 + (i : Nat))), y6] ∧ H2 = H') ⟨_, rfl, rfl⟩ ?_ ?_⟩
      · rintro j σ H2 hj ⟨y6, rfl, rfl⟩
        have hjz : j < zs.length := by omega
        obtain ⟨z, ez⟩ : ∃ z, zs[j]? = some z := ⟨zs[j], List.getElem?_eq_getElem _⟩
        have gz : atI (zs.map fun (z : Nat) => V.int (z : Nat)) ((0 : Int) + j) = some (.int (z : Nat)) := at_of (j := j) (by omega) (by rw [List.getElem?_map, ez]; rfl)
        refine ⟨_, rfl, p, _, _, _, rfl, rfl, SqT.of hp1, g1, _, rfl, _, rfl, _, rfl, _, rfl, dl, _, _, _, rfl, rfl, SqL.of hdl1, gb, _, rfl, b, _, _, _, rfl, rfl, SqL.of hb, gz, tl, i, j, z, ⟨S, D, W⟩, tas, ts, ?_, htl1, hT1, hs i j z zs ezs ez, true, rfl, ?_⟩
        · rw [Int.zero_add, Int.zero_add]
          rfl
        refine iteF ?_
        exact ⟨_, rfl, rfl⟩
      · rintro σ H2 ⟨y6, rfl, rfl⟩
        exact ⟨_, _, rfl, rfl⟩
    · rintro σ H' ⟨y5, y6, rfl, rfl⟩
      refine ⟨_, rfl, _, rfl, p, _, _, _, rfl, rfl, SqT.of hp1, g0, rfl, ?_⟩
      have : decide (V.int c = V.int c) = true := decide_eq_true rfl
      rw [this]
      exact q _ s1
end
end FW

namespace FW
open PySem PySem.Spec PyProof.Rows L2
abbrev sRefused : Stmt := top 33
theorem scRefused : FnScope ["_law_tariff", "_law_days_here", "_law_cell", "_law_zones", "_law_day", "_law_handed", "_law_others", "_law_row", "e"] ["_law_tariff", "_law_days_here", "_law_cell"] (defScope sRefused) := ⟨rfl, rfl, rfl, by decide +kernel, rfl, by decide +kernel, by decide +kernel⟩
/-- what list(..) asks, by the frag alone: within a comprehension the term may not lean on its frame -/
def rListOf (K : PySem.W.Frag) : List V → Hp → VK → Prop := fun xs H Q => ∃ p ys, xs = [V.ref p] ∧ (SqL K H p ys ∨ SqT K H p ys) ∧ ∀ l : Addr, H l = none → Q (.ref l) (upd H l (.lst ys))
theorem bootList : bootBuiltins "list" = some (.type "list") := by decide +kernel
/-- isinstance(e, c) in an except suite, by the frag alone -/
def rIsP (K : PySem.W.Frag) (a : Addr) (cls : Value) (d : Option Addr) : List V → Hp → VK → Prop := fun xs H Q => ∃ (D : Addr) (c : V) (cv : Value) (b : Bool), cls = .ref D ∧ d = none ∧ ExcC K D ∧ xs = [.ref a, c] ∧ (∀ u, RelV c u → u = cv) ∧ PySem.W.kitOne K (.ref D) cv = some b ∧ Q (.bl b) H
/-! ### lists of rows as data -/
def datR (r : List Int) : PyData := .list (r.map PyData.int)
section
variable {P : Program} {w : World} {K : PySem.W.Frag} {mg : Str → Option Value} {base : Heap} {C CP CZ CF c0 c1 c2 c5 : Addr}
theorem dps_rows {H : Hp} {as : List Addr} {rs : List (List Int)} (h : All2 (RowAt H) as rs) : DpAll K H (as.map V.ref) (rs.map datR) := by
  induction h with
  | nil => exact .nil
  | cons r _ ih => exact .cons (.lst (SqL.of r) (dps_ints _)) ih
theorem lay_rows : ∀ l : List (List Int), PyData.canLayAll0 (l.map datR) = true
  | [] => by simp [PyData.canLayAll0]
  | L :: l => by
    have ih := lay_rows l
    have h := lay_ints L
    simp only [List.map_cons, PyData.canLayAll0, Bool.and_eq_true]
    exact ⟨by simpa [datR, PyData.canLay0] using h, ih⟩
theorem dep_rows : ∀ l : List (List Int), PyData.depthAll (l.map datR) ≤ 1
  | [] => by simp [PyData.depthAll]
  | L :: l => by
    have ih := dep_rows l
    have h := dep_ints L
    have e : PyData.depthAll ((L :: l).map datR) = max (PyData.depthAll (L.map PyData.int) + 1) (PyData.depthAll (l.map datR)) := by simp [PyData.depthAll, PyData.depth, datR]
    rw [e, h]
    omega
theorem shaped_rows (l : List (List Int)) : SeqAt.shaped (.list (l.map datR)) = true := by
  unfold SeqAt.shaped
  rw [Bool.and_eq_true_iff]
  refine ⟨by simpa [PyData.canLay0] using lay_rows l, decide_eq_true ?_⟩
  have e : PyData.depth (.list (l.map datR)) = PyData.depthAll (l.map datR) + 1 := by simp [PyData.depth]
  have := dep_rows l
  rw [e]
  omega
theorem eqv_rows (l : List (List Int)) : PyData.eqv (.list (l.map datR)) (.list (l.map datR)) = true := SeqAt.eqv_refl _ (by simpa [PyData.canLay0] using lay_rows l)
/-- a row put into one of the rows -/
theorem rows_put {H : Hp} {as : List Addr} {rs : List (List Int)} {i : Nat} {a : Addr} {r : List Int} (h : All2 (RowAt H) as rs) (nd : as.Nodup) (ea : as[i]? = some a) : All2 (RowAt (upd H a (.lst (r.map V.int)))) as (rs.set i r) := by
  refine All2.of_get (by rw [List.length_set]; exact h.len) fun j b l e1 e2 => ?_
  rw [List.getElem?_set] at e2
  by_cases ij : i = j
  · subst ij
    have hl : i < rs.length := by rw [← h.len]; exact (List.getElem?_eq_some_iff.mp ea).1
    rw [if_pos rfl, if_pos hl] at e2
    cases e2
    have eb : b = a := Option.some.inj (e1.symm.trans ea)
    subst eb
    exact upd_same
  · rw [if_neg ij] at e2
    have nb : b ≠ a := fun z => ij (nd_ix nd ea (by rw [← z]; exact e1))
    show upd H a _ b = _
    rw [upd_ne nb]
    exact h.at e1 e2
theorem pick4 (c : Int) : ∃ z : Int, atI [V.int 0, .int 6, .int (-1 - c / 5 % 1000), .int (6 + c / 5 % (10 ^ (6 : Int).toNat))] (c % 4) = some (.int z) ∧ ¬ (1 ≤ z ∧ z ≤ 5) := by
  rcases (show c % 4 = 0 ∨ c % 4 = 1 ∨ c % 4 = 2 ∨ c % 4 = 3 by omega) with h | h | h | h
  · exact ⟨0, by rw [h]; rfl, by omega⟩
  · exact ⟨6, by rw [h]; rfl, by omega⟩
  · exact ⟨-1 - c / 5 % 1000, by rw [h]; rfl, by omega⟩
  · refine ⟨6 + c / 5 % (10 ^ (6 : Int).toNat), by rw [h]; rfl, ?_⟩
    have := Int.emod_nonneg (c / 5) (b := 10 ^ (6 : Int).toNat) (by decide)
    omega
theorem passTryS {X : Cx} {W : WX} (tk : L2N.Takes X W) : ∀ σ : L2.St, PassesAt (L2N.CX X.prog X.w) X σ (fun cls d H => W cls d σ H) :=
  fun _ _ _ _ e s' I c => tk e s' (L2N.XE.of_call I (fun _ _ _ h => h) c)
/-! ### _law_refused -/
def spRefused (C : Addr) : L2.Sp := fun vs H Q _ => ∃ (t dl : Addr) (c : Int) (S D W : List Int) (as : List Addr) (dz : List (List Int)), vs = [.ref t, .ref dl, .int c] ∧ TarAt C H t S D W ∧ H dl = some (.lst (as.map V.ref)) ∧ All2 (RowAt H) as dz ∧ as.Nodup ∧ (∀ b, b ∈ as → b ≠ dl) ∧ 0 < dz.length ∧ dz.length ≤ 7 ∧ (∀ r, r ∈ dz → r.length ≤ 900) ∧
  (∀ b, b ∈ as → ∀ H' : Hp, (∀ b' o, H b' = some o → b' ≠ b → H' b' = some o) → TarAt C H' t S D W) ∧ ∀ H', Q (.bl true) H'
theorem ok_refused {f fLst : Addr} {fd dLst : FuncData} {kL : Nat} (F : Fun K "_law_refused" "_law_refused" sRefused f fd) (gLen : mg "len" = none) (gList : mg "list" = none) (gF : mg "FareError" = some (.ref CF)) (cZ : CatchF K CF CZ) (kZ : KindT K c0 c1 c2 CP CZ c5 CZ 4) (KGs : KG mg c0 c1 c2 CP CZ c5)
    (hkL : kL ≤ 11) (GLs : FnOk P w K mg base (L2N.CX P w) kL fLst dLst ["tariff", "days"] (spCovers C CZ)) (kLst : PySem.W.keepIn K (.ref fLst) = true) (bLst : Binds K dLst ["tariff", "days"] []) (gLst : mg "least" = some (.ref fLst)) :
    FnOk P w K mg base CX0 12 f fd ["_law_tariff", "_law_days_here", "_law_cell"] (spRefused C) := by
  refine F.ok scRefused (fun vs H Q E h => ?_) (fun cdv A outer s0 H vs Q E hr h => ?_)
  · obtain ⟨t, dl, c, S, D, W, as, dz, rfl, _⟩ := h
    rfl
  · obtain ⟨t, dl, c, S, D, W, as, dz, rfl, TA, hdl, hA, nd, nbl, h0, h7, h9, keep, q⟩ := h
    have rL : Room kL _ := hr.mono hkL
    refine ⟨_, pss_cons (ps_set (i := 3) scRefused.nd rfl (.inl rfl) (pe_ix ix_list (pe_lst (pa_cons pe_int (pa_cons pe_int (pa_cons (pe_op op_sub (pe_un un_neg pe_int) (pe_op op_mod (pe_op op_fdiv (pv 2) pe_int) pe_int)) (pa_cons (pe_op op_add pe_int (pe_op op_mod (pe_op op_fdiv (pv 2) pe_int) (pe_op op_pow pe_int pe_int))) pa_nil))))) (pe_op op_mod (pv 2) pe_int) (fun _ _ => rfl)))
      (pss_cons (ps_set (i := 4) scRefused.nd rfl (.inl rfl) (pe_op op_mod (pe_op op_fdiv (pv 2) pe_int) (pe_callB call_len_seq (by rfl) gLen PySem.boot_len (pa_cons (pv 1) pa_nil))))
      (pss_cons (ps_expr (pe_bm PySem.F.plainAttrs_list PySem.F.slot_list_insert PySem.F.type_list_insert mt_insert (pe_ix ix_list (pv 1) (pv 4) (fun _ _ => rfl)) (pa_cons (pe_op op_mod (pe_op op_fdiv (pv 2) pe_int) (pe_op op_add (pe_callB call_len_seq (by rfl) gLen PySem.boot_len (pa_cons (pe_ix ix_list (pv 1) (pv 4) (fun _ _ => rfl)) pa_nil)) pe_int)) (pa_cons (pv 3) pa_nil))))
      (pss_cons (ps_setLc (i := 5) (own := [("_law_row", 7)]) (g := gName 7) (by rfl) scRefused.nd rfl rfl (sw_true rfl rfl rfl (by decide +kernel)) (pi_list (pv 1)) (blkOk_by (own := [("_law_row", 7)]) (N := ["_law_tariff", "_law_days_here", "_law_cell", "_law_zones", "_law_day", "_law_handed", "_law_others", "_law_row", "e"]) (sc := defScope sRefused) (by decide +kernel)) (fun _ _ _ _ _ => pg_name (i := 7) scRefused.nd rfl (Or.inl rfl)) (fun _ _ _ _ _ => pts_nil)
          (fun _ _ _ _ _ => pe_callTy (r := rListOf K) call_list_of (by rfl) gList bootList (pa_cons (pv 7) pa_nil)))
      (pss_cons (L2N.ps_try_as (i := 8) rfl rfl scRefused.nd rfl rfl ⟨rfl, by decide, .inl gF⟩ takes0N
        (fun W pn xe tk _ => pss_one (ps_expr (pe_callS (E := fun σ cls d H => W cls d σ H) GLs rL (by rfl) gLst kLst bLst (passTryS tk) (pa_cons (pv 0) (pa_cons (pv 5) pa_nil)))))
        (fun a oe cls d pn hz hf => pss_cons (ps_set (i := 6) scRefused.nd rfl (.inl rfl) (pe_lst
            (pa_cons (pe_callB (r := rIsP K a cls d) (call_isP List.mem_cons_self hz.zc hf) (by rfl) KGs.isi boot_isinstance (pa_cons (pv 8) (pa_cons (pe_glob (v := .ref c0) (by rfl) KGs.g0 rfl) pa_nil)))
            (pa_cons (pe_callB (r := rIsP K a cls d) (call_isP List.mem_cons_self hz.zc hf) (by rfl) KGs.isi boot_isinstance (pa_cons (pv 8) (pa_cons (pe_glob (v := .ref c1) (by rfl) KGs.g1 rfl) pa_nil)))
            (pa_cons (pe_callB (r := rIsP K a cls d) (call_isP List.mem_cons_self hz.zc hf) (by rfl) KGs.isi boot_isinstance (pa_cons (pv 8) (pa_cons (pe_glob (v := .ref c2) (by rfl) KGs.g2 rfl) pa_nil)))
            (pa_cons (pe_callB (r := rIsP K a cls d) (call_isP List.mem_cons_self hz.zc hf) (by rfl) KGs.isi boot_isinstance (pa_cons (pv 8) (pa_cons (pe_glob (v := .ref CP) (by rfl) KGs.g3 rfl) pa_nil))) pa_nil))))))
          (pss_cons (ps_if (PW.pt (pw_or (pt_cmpR (r := rIn K false) op_in_seq pe_bl (pv 6) (by rfl))
              (pw_or (pt_val (pe_callB (r := rIsP K a cls d) (call_isP List.mem_cons_self hz.zc hf) (by rfl) KGs.isi boot_isinstance (pa_cons (pv 8) (pa_cons (pe_glob (v := .ref c5) (by rfl) KGs.g5 rfl) pa_nil))))
              (pw_or1 (pt_not (pt_val (pe_callB (r := rIsP K a cls d) (call_isP List.mem_cons_self hz.zc hf) (by rfl) KGs.isi boot_isinstance (pa_cons (pv 8) (pa_cons (pe_bltn (v := .ty "ValueError") (by rfl) KGs.ve (by decide +kernel) rfl) pa_nil)))))))) ) (pss_one (ps_ret pe_bl)) pss_nil)
          (pss_one (ps_ret (pe_and (pe_callB (r := rIsP K a cls d) (call_isP List.mem_cons_self hz.zc hf) (by rfl) KGs.isi boot_isinstance (pa_cons (pv 8) (pa_cons (pe_glob (v := .ref CZ) (by rfl) KGs.g4 rfl) pa_nil))) (pe_one (pe_cmpR (r := rEqD K) (op_eqD hr.units) (pv 5) (pv 1) (nomark _)))))))))
      (pss_one (ps_ret pe_bl)))))), ?_⟩
    -- _law_zones
    refine ⟨_, rfl, _, rfl, _, _, rfl, rfl, ⟨by decide, by decide⟩, _, _, rfl, rfl, by show (0 : Int) < 1000; decide, _, _, rfl, rfl, _, rfl, _, _, rfl, rfl, ⟨by decide, by decide⟩, _, _, rfl, rfl, ⟨by decide, by decide, by decide⟩, _, _, rfl, rfl, by show (0 : Int) < _; decide, _, _, rfl, rfl, by show 4 ≤ sizeLine; decide, fun p np => ?_⟩
    have sp : Same H _ := same_upd (o := .lst [V.int 0, .int 6, .int (-1 - c / 5 % 1000), .int (6 + c / 5 % (10 ^ (6 : Int).toNat))]) np
    obtain ⟨z, ez, nz⟩ := pick4 c
    refine ⟨_, rfl, _, _, rfl, rfl, by show (0 : Int) < 4; decide, p, _, _, _, rfl, rfl, SqL.of upd_same, ez, ?_⟩
    obtain ⟨H1, e1⟩ : ∃ H1, H1 = upd H p (.lst [V.int 0, .int 6, .int (-1 - c / 5 % 1000), .int (6 + c / 5 % (10 ^ (6 : Int).toNat))]) := ⟨_, rfl⟩
    rw [← e1] at sp
    show tSeq _ _ _ _ (upd H p (.lst [V.int 0, .int 6, .int (-1 - c / 5 % 1000), .int (6 + c / 5 % (10 ^ (6 : Int).toNat))]))
    rw [← e1]
    clear e1
    have hdl1 := sp _ _ hdl
    have hA1 : All2 (RowAt H1) as dz := hA.imp fun b r e => sp _ _ e
    have lA : as.length = dz.length := hA.len
    have lp : (0 : Int) < ((as.map V.ref).length : Nat) := by rw [List.length_map]; omega
    -- _law_day
    refine ⟨_, rfl, _, _, rfl, rfl, ⟨by decide, by decide⟩, _, rfl, dl, _, rfl, .inl (SqL.of hdl1), _, _, rfl, rfl, lp, ?_⟩
    have d0 := Int.emod_nonneg (c / 4) (b := ((as.map V.ref).length : Nat)) (by omega)
    have d1 := Int.emod_lt_of_pos (c / 4) lp
    obtain ⟨j, ej⟩ : ∃ j : Nat, c / 4 % ((as.map V.ref).length : Nat) = j := ⟨(c / 4 % ((as.map V.ref).length : Nat)).toNat, by omega⟩
    have hj : j < as.length := by rw [List.length_map] at d1 ej; omega
    obtain ⟨b, eb⟩ : ∃ b, as[j]? = some b := ⟨as[j], List.getElem?_eq_getElem _⟩
    obtain ⟨r, er, hb⟩ := hA1.getL eb
    have mb := List.mem_of_getElem? eb
    have lr := h9 r (List.mem_of_getElem? er)
    have gb : atI (as.map V.ref) (c / 4 % ((as.map V.ref).length : Nat)) = some (.ref b) := at_of (j := j) ej (by rw [List.getElem?_map, eb]; rfl)
    -- the ride of other zones is put in
    have lp2 : (0 : Int) < ((r.map V.int).length : Nat) + 1 := by omega
    have i0 := Int.emod_nonneg (c / 28) (b := ((r.map V.int).length : Nat) + 1) (by omega)
    have i1 := Int.emod_lt_of_pos (c / 28) lp2
    have i2 : ((r.map V.int).length : Nat) ≤ 900 := by rw [List.length_map]; exact lr
    refine ⟨_, rfl, _, rfl, dl, _, _, _, rfl, rfl, SqL.of hdl1, gb, .inl ⟨rfl, _, SqL.of hb⟩, _, rfl, _, _, rfl, rfl, ⟨by decide, by decide⟩, _, rfl, _, rfl, dl, _, _, _, rfl, rfl, SqL.of hdl1, gb, b, _, rfl, .inl (SqL.of hb), _, _, rfl, rfl, _, _, rfl, rfl, lp2, _, rfl, b, _, _, _, rfl, rfl, hb, small_line (by omega), i0, by omega, ?_⟩
    obtain ⟨ix, eix⟩ : ∃ ix : Nat, (c / 28 % (((r.map V.int).length : Nat) + 1)).toNat = ix := ⟨_, rfl⟩
    rw [eix]
    have e2 : (r.map V.int).take ix ++ [V.int z] ++ (r.map V.int).drop ix = (r.take ix ++ [z] ++ r.drop ix).map V.int := by
      rw [List.map_append, List.map_append, List.map_take, List.map_drop]
      rfl
    rw [e2]
    obtain ⟨H2, eH2⟩ : ∃ H2, H2 = upd H1 b (.lst ((r.take ix ++ [z] ++ r.drop ix).map V.int)) := ⟨_, rfl⟩
    have hA2 : All2 (RowAt H2) as (dz.set j (r.take ix ++ [z] ++ r.drop ix)) := by rw [eH2]; exact rows_put hA1 nd eb
    have k2 : ∀ b' o, H b' = some o → b' ≠ b → H2 b' = some o := fun b' o e n => by
      rw [eH2, upd_ne n]
      exact sp _ _ e
    rw [← eH2]
    clear eH2 e2
    have TA2 : TarAt C H2 t S D W := keep b mb H2 k2
    have hdl2 : H2 dl = some (.lst (as.map V.ref)) := k2 _ _ hdl (nbl b mb).symm
    obtain ⟨dz2, edz⟩ : ∃ dz2, dz2 = dz.set j (r.take ix ++ [z] ++ r.drop ix) := ⟨_, rfl⟩
    rw [← edz] at hA2
    have ldz : dz2.length = dz.length := by rw [edz, List.length_set]
    have bad : ∃ zs x, zs ∈ dz2 ∧ x ∈ zs ∧ ¬ (1 ≤ x ∧ x ≤ 5) := ⟨_, z, by rw [edz]; exact List.mem_set (by omega) _, by simp, nz⟩
    have l9 : ∀ zs, zs ∈ dz2 → zs.length ≤ 1000 := fun zs m => by
      rw [edz] at m
      rcases List.mem_or_eq_of_mem_set m with m | rfl
      · have := h9 zs m
        omega
      · simp only [List.length_append, List.length_take, List.length_drop]
        show min ix r.length + 1 + (r.length - ix) ≤ 1000
        omega
    clear edz
    -- _law_handed
    refine ⟨_, rfl, dl, rfl, ⟨_, SqL.of hdl2⟩, fun hd nhd => lc_list (K := K) (a := dl) (xs := as.map V.ref) (fun i H' => Same H2 H' ∧ ∃ hs : List Addr, H' hd = some (.lst (hs.map V.ref)) ∧ All2 (RowAt H') hs (dz2.take i) ∧ ∀ b, b ∈ hs → b ≠ hd)
      ⟨same_upd nhd, [], upd_same, .nil, by simp⟩ (fun i H' _ ⟨s', _⟩ => SqL.of (s' _ _ hdl2)) ?_ ?_⟩
    · rintro i y H' hi ⟨s', hs, hhd, hA', hnew'⟩
      obtain ⟨b0, hb0, rfl⟩ : ∃ b0, as[i]? = some b0 ∧ y = V.ref b0 := by
        rw [List.getElem?_map] at hi
        cases e : as[i]? with
        | none =>
          rw [e] at hi
          cases hi
        | some b0 =>
          rw [e] at hi
          exact ⟨b0, rfl, (Option.some.inj hi).symm⟩
      obtain ⟨r', hr', hrb⟩ := hA2.getL hb0
      refine ⟨rfl, ?_⟩
      refine tYes_if ?_
      refine ⟨_, rfl, b0, _, rfl, .inl (SqL.of (s' _ _ hrb)), fun l nl => ?_⟩
      have ndl' : hd ≠ l := ne_of_none hhd nl
      refine ⟨hs.map V.ref, by rw [upd_ne ndl']; exact hhd, small_line (by rw [List.length_map, hA'.len, List.length_take]; omega), ?_⟩
      have nlh : ∀ b, b ∈ hs → b ≠ l := fun b mb => by
        obtain ⟨j, hj⟩ := List.getElem?_of_mem mb
        obtain ⟨b', _, rb⟩ := hA'.getL hj
        exact ne_of_none rb nl
      refine ⟨upd_out (s'.trans (same_upd nl)) nhd, hs ++ [l], by rw [upd_same, List.map_append]; rfl, ?_, fun b mb => ?_⟩
      · rw [List.take_add_one, hr']
        refine All2.app (hA'.imp_mem fun b x mb rb => ?_) (All2.one ?_)
        · show upd (upd H' l _) hd _ b = _
          rw [upd_ne (hnew' b mb), upd_ne (nlh b mb)]
          exact rb
        · show upd (upd H' l _) hd _ l = _
          rw [upd_ne ndl'.symm, upd_same]
      · rcases List.mem_append.mp mb with mb | mb
        · exact hnew' b mb
        · rw [List.mem_singleton.mp mb]
          exact ndl'.symm
    rintro H3 ⟨s3, hs, hhd, hHA, _⟩
    rw [List.length_map, hA2.len, List.take_of_length_le (Nat.le_refl _)] at hHA
    -- the refusal
    refine ⟨_, rfl, _, rfl, t, hd, S, D, W, hs, dz2, rfl, TA2.same s3, hhd, hHA, by omega, l9, fun days' e' h5' => ?_, fun _ H4 s4 => ⟨true, caughtF cZ, fun _ a na => ?_, fun z => Bool.noConfusion z⟩⟩
    · exfalso
      obtain ⟨zs, x, m1, m2, no⟩ := bad
      rw [e'] at m1
      obtain ⟨zs', m', rfl⟩ := List.mem_map.mp m1
      obtain ⟨z', mz, rfl⟩ := List.mem_map.mp m2
      have := h5' zs' m' z' mz
      exact no (by omega)
    have cv : ∀ (c : Addr) (u : Value), RelV (.ref c) u → u = .ref c := fun c u r => r
    have hd4 := s4 _ _ hhd
    have hHA4 : All2 (RowAt H4) hs dz2 := hHA.imp fun b r e => s4 _ _ e
    have hdl4 := s4 _ _ (s3 _ _ hdl2)
    have hA4 : All2 (RowAt H4) as dz2 := hA2.imp fun b r e => s4 _ _ (s3 _ _ e)
    refine ⟨.ref a, rfl, CZ, _, _, _, rfl, rfl, kZ.ex, rfl, cv _, kZ.k0, ?_⟩
    refine ⟨.ref a, rfl, CZ, _, _, _, rfl, rfl, kZ.ex, rfl, cv _, kZ.k1, ?_⟩
    refine ⟨.ref a, rfl, CZ, _, _, _, rfl, rfl, kZ.ex, rfl, cv _, kZ.k2, ?_⟩
    refine ⟨.ref a, rfl, CZ, _, _, _, rfl, rfl, kZ.ex, rfl, cv _, kZ.k3, by show 4 ≤ sizeLine; decide, fun l1 n1 => ?_⟩
    have s5 := same_upd (o := .lst [V.bl (decide (4 = 0)), .bl (decide (4 = 1)), .bl (decide (4 = 2)), .bl (decide (4 = 3))]) n1
    refine ⟨_, rfl, l1, _, rfl, .inl (SqL.of upd_same), rfl, rfl, _, rfl, ?_⟩
    refine ite2 (fun e => absurd e (by decide +kernel)) (fun _ => ?_)
    refine ⟨.ref a, rfl, CZ, _, _, _, rfl, rfl, kZ.ex, rfl, cv _, kZ.k5, _, rfl, ?_⟩
    refine ite2 (fun e => absurd e (by decide +kernel)) (fun _ => ?_)
    refine ⟨.ref a, rfl, CZ, _, _, _, rfl, rfl, kZ.ex, rfl, fun u r => r, kZ.kv, true, rfl, ?_⟩
    refine iteF ?_
    refine ⟨.ref a, rfl, CZ, _, _, _, rfl, rfl, kZ.ex, rfl, cv _, kZ.k4, _, rfl, ?_⟩
    refine ite2 (fun _ => ?_) (fun e => absurd (by decide +kernel) e)
    refine ⟨_, rfl, _, rfl, _, _, .lst (SqL.of (s5 _ _ hd4)) (dps_rows (hHA4.imp fun b r e => s5 _ _ e)), .lst (SqL.of (s5 _ _ hdl4)) (dps_rows (hA4.imp fun b r e => s5 _ _ e)), shaped_rows _, shaped_rows _, ?_⟩
    rw [eqv_rows]
    exact q _
end
end FW

namespace FW
open PySem PySem.Spec PyProof.Rows L2
/-! ### the law -/
abbrev sLaw : Stmt := top 34
theorem scLaw : FnScope ["_law_script", "_law_rows_here", "_law_days_here", "_law_handed", "_law_tariff", "_law_found", "_law_kept", "_law_day"] ["_law_script"] (defScope sLaw) := ⟨rfl, rfl, rfl, by decide +kernel, rfl, by decide +kernel, by decide +kernel⟩
def spLaw (K : PySem.W.Frag) : L2.Sp := fun vs H Q _ => ∃ (a : Addr) (ns : List Int), vs = [.ref a] ∧ SqL K H a (ns.map V.int) ∧ ns.length ≤ 63 ∧ ∀ H', Q (.bl true) H'
theorem map_inj' {α β : Type} {f : α → β} (h : ∀ x y, f x = f y → x = y) : ∀ {xs ys : List α}, xs.map f = ys.map f → xs = ys
  | [], [], _ => rfl
  | x :: xs, y :: ys, e => by
    rw [List.map_cons, List.map_cons, List.cons.injEq] at e
    rw [h _ _ e.1, map_inj' h e.2]
  | [], _ :: _, e => nomatch e
  | _ :: _, [], e => nomatch e
def dzOf (days : List (List Nat)) : List (List Int) := days.map fun zs => zs.map fun (z : Nat) => (z : Int)
theorem dzOf_inj {x y : List (List Nat)} (e : dzOf x = dzOf y) : x = y := map_inj' (fun x y e => map_inj' (fun u v e' => Int.ofNat_inj.mp e') e) e
theorem days_ints {H : Hp} {as : List Addr} {days : List (List Nat)} (h : All2 (DayAt H) as days) : All2 (RowAt H) as (dzOf days) := by
  unfold dzOf
  induction h with
  | nil => exact .nil
  | cons r _ ih =>
    refine .cons ?_ ih
    show _ = _
    rw [r, List.map_map]
    rfl
theorem no_bad {days : List (List Nat)} (h5 : In5 days) : ¬ ∃ zs z, zs ∈ dzOf days ∧ z ∈ zs ∧ ¬ (1 ≤ z ∧ z ≤ 5) := by
  rintro ⟨zs, z, m1, m2, no⟩
  obtain ⟨zs', m', rfl⟩ := List.mem_map.mp m1
  obtain ⟨z', mz, rfl⟩ := List.mem_map.mp m2
  have := h5 zs' m' z' mz
  exact no (by omega)
section
variable {P : Program} {w : World} {K : PySem.W.Frag} {mg : Str → Option Value} {base : Heap} {C CP CZ CF c0 c1 c2 c5 : Addr}
structure DefsL (K : PySem.W.Frag) (mg : Str → Option Value) (C CP CZ CF c0 c1 c2 c5 : Addr) (fIn fLst fCe fRo fDa fWh fSh fSv fSd fGo fRf : Addr) (dIn dLst dCe dRo dDa dWh dSh dSv dSd dGo dRf : FuncData) : Prop where
  cl : Cls K C
  nS : NoAttr K C "singles"
  nD : NoAttr K C "days"
  nW : NoAttr K C "weeks"
  B : LT mg
  gF : mg "FareError" = some (.ref CF)
  cZ : CatchF K CF CZ
  kZ : KindT K c0 c1 c2 CP CZ c5 CZ 4
  KGs : KG mg c0 c1 c2 CP CZ c5
  mkT : Mk K C fIn
  gTa : mg "Tariff" = some (.ref C)
  bIn : Binds K dIn ["self", "singles", "days", "weeks"] []
  kLst : PySem.W.keepIn K (.ref fLst) = true
  bLst : Binds K dLst ["tariff", "days"] []
  gLst : mg "least" = some (.ref fLst)
  Ce : Fun K "_law_cell_at" "_law_cell_at" sCell fCe dCe
  bCe : Binds K dCe ["_law_script", "_law_k"] []
  gCe : mg "_law_cell_at" = some (.ref fCe)
  Ro : Fun K "_law_rows" "_law_rows" sRows fRo dRo
  bRo : Binds K dRo ["_law_script"] []
  gRo : mg "_law_rows" = some (.ref fRo)
  Da : Fun K "_law_days" "_law_days" sDays fDa dDa
  bDa : Binds K dDa ["_law_script"] []
  gDa : mg "_law_days" = some (.ref fDa)
  Wh : Fun K "_law_whole" "_law_whole" sWhole fWh dWh
  bWh : Binds K dWh ["_law_found"] []
  gWh : mg "_law_whole" = some (.ref fWh)
  Sh : Fun K "_law_shaped" "_law_shaped" sShaped fSh dSh
  bSh : Binds K dSh ["_law_ticket", "_law_rows_here", "_law_days_here"] []
  gSh : mg "_law_shaped" = some (.ref fSh)
  Sv : Fun K "_law_serves" "_law_serves" sServes fSv dSv
  bSv : Binds K dSv ["_law_ticket", "_law_day", "_law_ride", "_law_zones"] []
  gSv : mg "_law_serves" = some (.ref fSv)
  Sd : Fun K "_law_served" "_law_served" sServed fSd dSd
  bSd : Binds K dSd ["_law_tickets", "_law_day", "_law_ride", "_law_zones"] []
  gSd : mg "_law_served" = some (.ref fSd)
  Go : Fun K "_law_good" "_law_good" sGood fGo dGo
  bGo : Binds K dGo ["_law_found", "_law_rows_here", "_law_days_here"] []
  gGo : mg "_law_good" = some (.ref fGo)
  Rf : Fun K "_law_refused" "_law_refused" sRefused fRf dRf
  bRf : Binds K dRf ["_law_tariff", "_law_days_here", "_law_cell"] []
  gRf : mg "_law_refused" = some (.ref fRf)
theorem ok_law {f fIn fLst fCe fRo fDa fWh fSh fSv fSd fGo fRf : Addr} {fd dIn dLst dCe dRo dDa dWh dSh dSv dSd dGo dRf : FuncData} {kI kL : Nat} (F : Fun K "law" "law" sLaw f fd) (D : DefsL K mg C CP CZ CF c0 c1 c2 c5 fIn fLst fCe fRo fDa fWh fSh fSv fSd fGo fRf dIn dLst dCe dRo dDa dWh dSh dSv dSd dGo dRf)
    (hkI : kI + 1 ≤ 12) (hkL : kL ≤ 11) (GI : FnOk P w K mg base (L2N.CX P w) kI fIn dIn ["self", "singles", "days", "weeks"] (spTInit K C CP))
    (GLs : FnOk P w K mg base (L2N.CX P w) kL fLst dLst ["tariff", "days"] (spCovers C CZ)) :
    FnOk P w K mg base CX0 13 f fd ["_law_script"] (spLaw K) := by
  have GC : FnOk P w K mg base CX0 1 fCe dCe ["_law_script", "_law_k"] (spCell K) := ok_cell D.Ce D.B.len
  have GR : FnOk P w K mg base CX0 2 fRo dRo ["_law_script"] (spRows K) := ok_rows D.Ro D.B.range D.B.len D.Ce D.bCe D.gCe
  have GD : FnOk P w K mg base CX0 2 fDa dDa ["_law_script"] (spDays K) := ok_days D.Da D.B.range D.B.len D.Ce D.bCe D.gCe
  have GG : FnOk P w K mg base CX0 3 fGo dGo ["_law_found", "_law_rows_here", "_law_days_here"] spGood := ok_good D.Go D.B D.Wh D.bWh D.gWh D.Sh D.bSh D.gSh D.Sv D.bSv D.gSv D.Sd D.bSd D.gSd
  have GRf : FnOk P w K mg base CX0 12 fRf dRf ["_law_tariff", "_law_days_here", "_law_cell"] (spRefused C) := ok_refused D.Rf D.B.len D.B.list D.gF D.cZ D.kZ D.KGs hkL GLs D.kLst D.bLst D.gLst
  refine F.ok scLaw (fun vs H Q E h => ?_) (fun cdv A outer s H vs Q E hr h => ?_)
  · obtain ⟨a, ns, rfl, _⟩ := h
    rfl
  · obtain ⟨a, ns, rfl, hS, h63, q⟩ := h
    have r1 : Room 1 _ := hr.mono (by decide)
    have r2 : Room 2 _ := hr.mono (by decide)
    have r3 : Room 3 _ := hr.mono (by decide)
    have rI : Room (kI + 1) _ := hr.mono hkI
    have rL : Room kL _ := hr.mono (Nat.le_succ_of_le hkL)
    refine ⟨_, pss_cons (ps_set (i := 1) scLaw.nd rfl (.inl rfl) (pe_call GR r2 (by rfl) D.gRo D.Ro.kp D.bRo .nil pass0 (pa_cons (pv 0) pa_nil)))
      (pss_cons (ps_set (i := 2) scLaw.nd rfl (.inl rfl) (pe_call GD r2 (by rfl) D.gDa D.Da.kp D.bDa .nil pass0 (pa_cons (pv 0) pa_nil)))
      (C8.pss_cut (ps_if (PW.pt (pw_and (pt_truth (pv 2) (by intro _; rfl)) (pw_and1 (pt_cmpR op_eq (pe_op op_mod (pe_call GC r1 (by rfl) D.gCe D.Ce.kp D.bCe .nil pass0 (pa_cons (pv 0) (pa_cons pe_int pa_nil))) pe_int) pe_int (nomark _)))))
        (pss_one (ps_ret (pe_call GRf hr (by rfl) D.gRf D.Rf.kp D.bRf .nil pass0 (pa_cons (pe_make D.mkT GI rI (by rfl) D.gTa D.bIn .nil passN (pa_cons (pe_ix ix_list (pv 1) pe_int (fun _ _ => rfl)) (pa_cons (pe_ix ix_list (pv 1) pe_int (fun _ _ => rfl)) (pa_cons (pe_ix ix_list (pv 1) pe_int (fun _ _ => rfl)) pa_nil))))
          (pa_cons (pv 2) (pa_cons (pe_op op_fdiv (pe_call GC r1 (by rfl) D.gCe D.Ce.kp D.bCe .nil pass0 (pa_cons (pv 0) (pa_cons pe_int pa_nil))) pe_int) pa_nil)))))) pss_nil)
      (pss_cons (ps_setLc (i := 3) (own := [("_law_day", 7)]) (g := gName 7) (by rfl) scLaw.nd rfl rfl (sw_true rfl rfl rfl (by decide +kernel)) (pi_list (pv 2)) (blkOk_by (own := [("_law_day", 7)]) (N := ["_law_script", "_law_rows_here", "_law_days_here", "_law_handed", "_law_tariff", "_law_found", "_law_kept", "_law_day"]) (sc := defScope sLaw) (by decide +kernel)) (fun _ _ _ _ _ => pg_name (i := 7) scLaw.nd rfl (Or.inl rfl)) (fun _ _ _ _ _ => pts_nil)
          (fun _ _ _ _ _ => pe_callTy (r := rListOf K) call_list_of (by rfl) D.B.list bootList (pa_cons (pv 7) pa_nil)))
      (pss_cons (ps_set (i := 4) scLaw.nd rfl (.inl rfl) (pe_make D.mkT GI rI (by rfl) D.gTa D.bIn .nil passN (pa_cons (pe_callTy call_list_of (by rfl) D.B.list bootList (pa_cons (pe_ix ix_list (pv 1) pe_int (fun _ _ => rfl)) pa_nil)) (pa_cons (pe_callTy call_list_of (by rfl) D.B.list bootList (pa_cons (pe_ix ix_list (pv 1) pe_int (fun _ _ => rfl)) pa_nil)) (pa_cons (pe_callTy call_list_of (by rfl) D.B.list bootList (pa_cons (pe_ix ix_list (pv 1) pe_int (fun _ _ => rfl)) pa_nil)) pa_nil)))))
      (pss_cons (ps_set (i := 5) scLaw.nd rfl (.inl rfl) (pe_call GLs rL (by rfl) D.gLst D.kLst D.bLst .nil passN (pa_cons (pv 4) (pa_cons (pv 3) pa_nil))))
      (pss_cons (ps_if (PW.pt (pw_or (pt_cmpR (op_neD hr.units) (pv 3) (pv 2) (nomark _)) (pw_or1 (pt_not (pt_val (pe_call GG r3 (by rfl) D.gGo D.Go.kp D.bGo .nil pass0 (pa_cons (pv 5) (pa_cons (pv 1) (pa_cons (pv 2) pa_nil)))))))) ) (pss_one (ps_ret pe_bl)) pss_nil)
      (pss_cons (ps_if (pt_cmpR (op_neD hr.units) (pe_lst (pa_cons (pe_fld (pv 4) rfl) (pa_cons (pe_fld (pv 4) rfl) (pa_cons (pe_fld (pv 4) rfl) pa_nil)))) (pv 1) (nomark _)) (pss_one (ps_ret pe_bl)) pss_nil)
      (pss_cons (ps_set (i := 6) scLaw.nd rfl (.inl rfl) (pe_ix ix_tup (pv 5) pe_int (fun _ _ => rfl)))
      (pss_cons (ps_expr (pe_bm0 PySem.F.plainAttrs_list PySem.F.slot_list_clear PySem.F.type_list_clear mt_clear (pe_ix ix_tup (pv 5) pe_int (fun _ _ => rfl))))
      (pss_cons (ps_set (i := 5) scLaw.nd rfl (.inl rfl) (pe_call GLs rL (by rfl) D.gLst D.kLst D.bLst .nil passN (pa_cons (pv 4) (pa_cons (pv 3) pa_nil))))
      (pss_one (ps_ret (pe_and (pe_call GG r3 (by rfl) D.gGo D.Go.kp D.bGo .nil pass0 (pa_cons (pv 5) (pa_cons (pv 1) (pa_cons (pv 2) pa_nil)))) (pe_one (pe_cmpR op_eq (pe_ix ix_tup (pv 5) pe_int (fun _ _ => rfl)) (pv 6) (nomark _)))))))))))))))), ?_⟩
    -- _law_rows_here, _law_days_here
    refine ⟨_, rfl, a, ns, rfl, hS, fun H1 ra as rs s1 nra hR hl3 hf nd hnew => ?_⟩
    refine ⟨_, rfl, a, ns, rfl, s1.seq hS, h63, fun H2 dl bs days s2 ndl hD hl7 h5 hsh nd2 hnew2 => ?_⟩
    obtain ⟨r0, rs1, rs2, rfl⟩ : ∃ r0 r1 r2, rs = [r0, r1, r2] := by
      match rs, hl3 with
      | [x, y, z], _ => exact ⟨x, y, z, rfl⟩
    have f0 := hf r0 (by simp)
    have f1 := hf rs1 (by simp)
    have f2 := hf rs2 (by simp)
    obtain ⟨a0, a1, a2, rfl⟩ : ∃ x y z, as = [x, y, z] := by
      have := hR.2.len
      match as, this with
      | [x, y, z], _ => exact ⟨x, y, z, rfl⟩
    have hra := s2 _ _ hR.1
    have h0 : RowAt H2 a0 r0 := s2 _ _ (hR.2.at (i := 0) rfl rfl)
    have h1 : RowAt H2 a1 rs1 := s2 _ _ (hR.2.at (i := 1) rfl rfl)
    have h2 : RowAt H2 a2 rs2 := s2 _ _ (hR.2.at (i := 2) rfl rfl)
    have g0 : atI [V.ref a0, .ref a1, .ref a2] 0 = some (.ref a0) := rfl
    have g1 : atI [V.ref a0, .ref a1, .ref a2] 1 = some (.ref a1) := rfl
    have g2 : atI [V.ref a0, .ref a1, .ref a2] 2 = some (.ref a2) := rfl
    obtain ⟨hdl, hDA⟩ := hD
    have s12 := s1.trans s2
    refine ⟨fun σ H3 => H3 = H2 ∧ σ = [some (.ref a), some (.ref ra), some (.ref dl), none, none, none, none, none], ?_, ?_⟩
    · refine ⟨_, rfl, _, .inl ⟨_, SqL.of hdl, rfl⟩, ?_⟩
      refine ite2 (fun e => ?_) (fun _ => ?_)
      · have lb : 0 < days.length := by
          rw [← hDA.len]
          cases bs with
          | nil => exact absurd e (by decide)
          | cons _ _ => exact Nat.succ_pos _
        refine ⟨_, rfl, a, ns, 2, rfl, s12.seq hS, _, _, rfl, rfl, by show (0 : Int) < 8; decide, rfl, _, rfl, ?_⟩
        refine ite2 (fun _ => ?_) (fun _ => ?_)
        · -- _law_refused
          refine ⟨_, rfl, ra, _, _, _, rfl, rfl, SqL.of hra, g0, _, rfl, ra, _, _, _, rfl, rfl, SqL.of hra, g1, _, rfl, ra, _, _, _, rfl, rfl, SqL.of hra, g2, fun x dx nx ndx nex => ?_⟩
          obtain ⟨H4, e4, s4, hx4⟩ := made_new (C := C) nx ndx nex
          rw [← e4]
          clear e4
          refine ⟨x, dx, a0, a1, a2, r0, rs1, rs2, rfl, hx4, fun H' k => ⟨SqL.of (k _ _ (s4 _ _ h0) (ne_of_none h0 nx)), SqL.of (k _ _ (s4 _ _ h1) (ne_of_none h1 nx)), SqL.of (k _ _ (s4 _ _ h2) (ne_of_none h2 nx))⟩, by rw [f0.1]; decide, by rw [f1.1]; decide, by rw [f2.1]; decide, fun _ H5 k5 TA TS => ⟨rfl, ?_⟩, fun no => absurd ⟨f0, f1, f2⟩ no⟩
          have s25 : Same H2 H5 := fun b o e => k5 b o (s4 b o e) (ne_of_none e nx)
          refine ⟨_, rfl, _, rfl, a, ns, 2, rfl, (s12.trans s25).seq hS, _, _, rfl, rfl, ⟨by decide, by decide⟩, x, dl, _, r0, rs1, rs2, bs, dzOf days, rfl, TA, s25 _ _ hdl, (days_ints hDA).imp fun b r e => s25 _ _ e, nd2, fun b mb => (hnew2 b mb).1, by unfold dzOf; rw [List.length_map]; exact lb, by unfold dzOf; rw [List.length_map]; exact hl7, fun r m => ?_, fun b mb H' keep => TS H' fun b' o e c => keep b' o e ?_, fun H' => q H'⟩
          · obtain ⟨zs, mz, rfl⟩ := List.mem_map.mp m
            have := hsh zs mz
            rw [List.length_map]
            omega
          · rintro rfl
            obtain ⟨j, hj⟩ := List.getElem?_of_mem mb
            obtain ⟨zs, _, rb⟩ := hDA.getL hj
            have rb4 := s4 _ _ rb
            rcases c with c | c
            · rw [rb4] at c
              cases c
            · rw [c, hx4] at rb4
              cases rb4
        · exact ⟨rfl, rfl⟩
      · exact ⟨rfl, rfl⟩
    rintro σ H3 ⟨rfl, rfl⟩
    -- _law_handed
    have hDI := days_ints hDA
    obtain ⟨dz, edz⟩ : ∃ dz, dz = dzOf days := ⟨_, rfl⟩
    rw [← edz] at hDI
    have ldz : dz.length = days.length := by rw [edz]; unfold dzOf; rw [List.length_map]
    refine ⟨_, rfl, dl, rfl, ⟨_, SqL.of hdl⟩, fun hd nhd => lc_list (K := K) (a := dl) (xs := bs.map V.ref) (fun i H' => Same H3 H' ∧ ∃ hs : List Addr, H' hd = some (.lst (hs.map V.ref)) ∧ All2 (RowAt H') hs (dz.take i) ∧ ∀ b, b ∈ hs → b ≠ hd)
      ⟨same_upd nhd, [], upd_same, .nil, by simp⟩ (fun i H' _ ⟨s', _⟩ => SqL.of (s' _ _ hdl)) ?_ ?_⟩
    · rintro i y H' hi ⟨s', hs, hhd, hA', hnew'⟩
      obtain ⟨b0, hb0, rfl⟩ : ∃ b0, bs[i]? = some b0 ∧ y = V.ref b0 := by
        rw [List.getElem?_map] at hi
        cases e : bs[i]? with
        | none =>
          rw [e] at hi
          cases hi
        | some b0 =>
          rw [e] at hi
          exact ⟨b0, rfl, (Option.some.inj hi).symm⟩
      obtain ⟨r', hr', hrb⟩ := hDI.getL hb0
      refine ⟨rfl, ?_⟩
      refine tYes_if ?_
      refine ⟨_, rfl, b0, _, rfl, .inl (SqL.of (s' _ _ hrb)), fun l nl => ?_⟩
      have ndl' : hd ≠ l := ne_of_none hhd nl
      refine ⟨hs.map V.ref, by rw [upd_ne ndl']; exact hhd, small_line (by rw [List.length_map, hA'.len, List.length_take]; omega), ?_⟩
      have nlh : ∀ b, b ∈ hs → b ≠ l := fun b mb => by
        obtain ⟨j, hj⟩ := List.getElem?_of_mem mb
        obtain ⟨b', _, rb⟩ := hA'.getL hj
        exact ne_of_none rb nl
      refine ⟨upd_out (s'.trans (same_upd nl)) nhd, hs ++ [l], by rw [upd_same, List.map_append]; rfl, ?_, fun b mb => ?_⟩
      · rw [List.take_add_one, hr']
        refine All2.app (hA'.imp_mem fun b x mb rb => ?_) (All2.one ?_)
        · show upd (upd H' l _) hd _ b = _
          rw [upd_ne (hnew' b mb), upd_ne (nlh b mb)]
          exact rb
        · show upd (upd H' l _) hd _ l = _
          rw [upd_ne ndl'.symm, upd_same]
      · rcases List.mem_append.mp mb with mb | mb
        · exact hnew' b mb
        · rw [List.mem_singleton.mp mb]
          exact ndl'.symm
    rintro H4 ⟨s4, hs, hhd, hHA, _⟩
    rw [List.length_map, hDI.len, List.take_of_length_le (Nat.le_refl _)] at hHA
    -- _law_tariff
    have hra4 := s4 _ _ hra
    have h04 : RowAt H4 a0 r0 := s4 _ _ h0
    have h14 : RowAt H4 a1 rs1 := s4 _ _ h1
    have h24 : RowAt H4 a2 rs2 := s4 _ _ h2
    refine ⟨_, rfl, ra, _, _, _, rfl, rfl, SqL.of hra4, g0, a0, _, rfl, .inl (SqL.of h04), fun x0 m0 => ?_⟩
    have t0 : Same H4 _ := same_upd (o := .lst (r0.map V.int)) m0
    refine ⟨_, rfl, ra, _, _, _, rfl, rfl, SqL.of (t0 _ _ hra4), g1, a1, _, rfl, .inl (SqL.of (t0 _ _ h14)), fun x1 m1 => ?_⟩
    have t1 := t0.trans (same_upd (o := .lst (rs1.map V.int)) m1)
    refine ⟨_, rfl, ra, _, _, _, rfl, rfl, SqL.of (t1 _ _ hra4), g2, a2, _, rfl, .inl (SqL.of (t1 _ _ h24)), fun x2 m2 => ?_⟩
    have t2 := t1.trans (same_upd (o := .lst (rs2.map V.int)) m2)
    obtain ⟨H5, e5⟩ : ∃ H5, H5 = upd (upd (upd H4 x0 (.lst (r0.map V.int))) x1 (.lst (rs1.map V.int))) x2 (.lst (rs2.map V.int)) := ⟨_, rfl⟩
    have hc1' : (upd (upd H4 x0 (.lst (r0.map V.int))) x1 (.lst (rs1.map V.int))) x0 = some (.lst (r0.map V.int)) := by rw [upd_ne (ne_of_none upd_same m1), upd_same]
    have hc0 : RowAt H5 x0 r0 := by
      show H5 x0 = _
      rw [e5, upd_ne (ne_of_none hc1' m2)]
      exact hc1'
    have hc1 : RowAt H5 x1 rs1 := by
      show H5 x1 = _
      rw [e5, upd_ne (ne_of_none upd_same m2), upd_same]
    have hc2 : RowAt H5 x2 rs2 := by
      show H5 x2 = _
      rw [e5, upd_same]
    rw [← e5] at t2 ⊢
    clear e5 hc1'
    intro x dx nx ndx nex
    obtain ⟨H6, e6, s6, hx6⟩ := made_new (C := C) nx ndx nex
    rw [← e6]
    clear e6
    refine ⟨x, dx, x0, x1, x2, r0, rs1, rs2, rfl, hx6, fun H' k => ⟨SqL.of (k _ _ (s6 _ _ hc0) (ne_of_none hc0 nx)), SqL.of (k _ _ (s6 _ _ hc1) (ne_of_none hc1 nx)), SqL.of (k _ _ (s6 _ _ hc2) (ne_of_none hc2 nx))⟩, by rw [f0.1]; decide, by rw [f1.1]; decide, by rw [f2.1]; decide, fun _ H7 k7 TA _ => ⟨rfl, ?_⟩, fun no => absurd ⟨f0, f1, f2⟩ no⟩
    have s47 : Same H4 H7 := t2.trans fun b o e => k7 b o (s6 b o e) (ne_of_none e nx)
    have s37 := s4.trans s47
    have l9 : ∀ zs, zs ∈ dz → zs.length ≤ 1000 := fun zs m => by
      rw [edz] at m
      obtain ⟨zs', m', rfl⟩ := List.mem_map.mp m
      have := hsh zs' m'
      rw [List.length_map]
      omega
    have nbad : ¬ ∃ zs z, zs ∈ dz ∧ z ∈ zs ∧ ¬ (1 ≤ z ∧ z ≤ 5) := by rw [edz]; exact no_bad h5
    have hHA7 : All2 (RowAt H7) hs dz := hHA.imp fun b r e => s47 _ _ e
    -- _law_found = least(..)
    refine ⟨_, rfl, _, rfl, x, hd, r0, rs1, rs2, hs, dz, rfl, TA, s47 _ _ hhd, hHA7, by omega, l9, fun days' e' h5' H8 p tl tas ts s8 np ntl hp htl hT hlt hk hsv hcost => ?_, fun z => absurd z nbad⟩
    have ed : days' = days := dzOf_inj (e'.symm.trans edz)
    subst ed
    have s38 := s37.trans s8
    have R8 : RowsAt H8 ra [a0, a1, a2] [r0, rs1, rs2] := ⟨s38 _ _ hra, .cons (s38 _ _ h0) (.cons (s38 _ _ h1) (.cons (s38 _ _ h2) .nil))⟩
    have D8 : DaysAt H8 dl bs days' := ⟨s38 _ _ hdl, hDA.imp fun b r e => s38 _ _ e⟩
    obtain ⟨c, ec⟩ : ∃ c, c = FT.leastF ⟨r0, rs1, rs2⟩ days' := ⟨_, rfl⟩
    have hp' := hp
    rw [← hcost] at hp'
    have sh1000 : Short 1000 days' := fun zs m => by have := hsh zs m; omega
    -- if _law_handed != _law_days_here or not _law_good(..)
    refine ⟨_, rfl, _, rfl, _, _, .lst (SqL.of (s8 _ _ (s47 _ _ hhd))) (dps_rows (hHA7.imp fun b r e => s8 _ _ e)), .lst (SqL.of D8.1) (dps_rows (hDI.imp fun b r e => s38 _ _ e)), shaped_rows _, shaped_rows _, _, rfl, ?_⟩
    rw [eqv_rows]
    refine iteF ?_
    refine ⟨_, rfl, _, rfl, _, rfl, p, ra, dl, tl, [a0, a1, a2], bs, tas, r0, rs1, rs2, days', ts, rfl, R8, ⟨f0, f1, f2⟩, D8, by omega, sh1000, hp', htl, hT, hk, hsv, fun H9 s9 => ⟨true, rfl, ?_⟩⟩
    refine iteF ?_
    -- if [tariff.singles, ..] != _law_rows_here
    have s79 := s8.trans s9
    have s39 := s37.trans s79
    have TA9 := TA.same s79
    obtain ⟨⟨dx9, fs, sa, da, wa, hx9, e1, e2, e3, n1, n2, n3, q1, q2, q3⟩, _⟩ := id TA9
    refine ⟨_, rfl, x, C, dx9, fs, _, rfl, hx9, D.cl, D.nS, e1, _, rfl, x, C, dx9, fs, _, rfl, hx9, D.cl, D.nD, e2, _, rfl, x, C, dx9, fs, _, rfl, hx9, D.cl, D.nW, e3, by show 3 ≤ sizeLine; decide, fun v nv => ?_⟩
    have sv := same_upd (o := .lst [V.ref sa, .ref da, .ref wa]) nv
    refine ⟨_, rfl, _, _, .lst (xs := [sa, da, wa].map V.ref) (SqL.of upd_same) (dps_rows (.cons (sv _ _ q1) (.cons (sv _ _ q2) (.cons (sv _ _ q3) .nil)))), .lst (SqL.of (sv _ _ (s39 _ _ hra))) (dps_rows (.cons (sv _ _ (s39 _ _ h0)) (.cons (sv _ _ (s39 _ _ h1)) (.cons (sv _ _ (s39 _ _ h2)) .nil)))), shaped_rows _, shaped_rows _, _, rfl, ?_⟩
    rw [eqv_rows]
    refine iteF ?_
    obtain ⟨H10, e10⟩ : ∃ H10, H10 = upd H9 v (.lst [V.ref sa, .ref da, .ref wa]) := ⟨_, rfl⟩
    rw [← e10] at sv
    show tSeq _ _ _ _ (upd H9 v (.lst [V.ref sa, .ref da, .ref wa]))
    rw [← e10]
    clear e10
    -- _law_kept; _law_found[1].clear()
    have s8v := s9.trans sv
    have hp10 := s8v _ _ hp
    have htl10 := s8v _ _ htl
    rw [← ec] at hp10
    have gp0 : atI [V.int c, .ref tl] 0 = some (.int c) := rfl
    have gp1 : atI [V.int c, .ref tl] 1 = some (.ref tl) := rfl
    refine ⟨_, rfl, p, _, _, _, rfl, rfl, SqT.of hp10, gp0, ?_⟩
    refine ⟨_, rfl, p, _, _, _, rfl, rfl, SqT.of hp10, gp1, .inl ⟨rfl, _, SqL.of htl10⟩, tl, _, rfl, rfl, htl10, ?_⟩
    have s7e : Same H7 (upd H10 tl (.lst [])) := upd_out (s8.trans s8v) ntl
    obtain ⟨H11, e11⟩ : ∃ H11, H11 = upd H10 tl (.lst []) := ⟨_, rfl⟩
    rw [← e11] at s7e ⊢
    clear e11
    -- once more
    refine ⟨_, rfl, _, rfl, x, hd, r0, rs1, rs2, hs, dz, rfl, TA.same s7e, s7e _ _ (s47 _ _ hhd), hHA7.imp fun b r e => s7e _ _ e, by omega, l9, fun days2 e2' h52 H12 p2 tl2 tas2 ts2 s12' np2 ntl2 hp2 htl2 hT2 hlt2 hk2 hsv2 hcost2 => ?_, fun z => absurd z nbad⟩
    have ed2 : days2 = days' := dzOf_inj (e2'.symm.trans edz)
    subst ed2
    have s312 := s37.trans (s7e.trans s12')
    have hp2' := hp2
    rw [← hcost2] at hp2'
    refine ⟨_, rfl, _, rfl, _, rfl, p2, ra, dl, tl2, [a0, a1, a2], bs, tas2, r0, rs1, rs2, days2, ts2, rfl, ⟨s312 _ _ hra, .cons (s312 _ _ h0) (.cons (s312 _ _ h1) (.cons (s312 _ _ h2) .nil))⟩, ⟨f0, f1, f2⟩, ⟨s312 _ _ hdl, hDA.imp fun b r e => s312 _ _ e⟩, by omega, sh1000, hp2', htl2, hT2, hk2, hsv2, fun H13 s13 => ⟨true, rfl, ?_⟩⟩
    refine iteT ?_
    have hp13 := s13 _ _ hp2
    rw [← ec] at hp13
    have gp2 : atI [V.int c, .ref tl2] 0 = some (.int c) := rfl
    refine ⟨_, rfl, p2, _, _, _, rfl, rfl, SqT.of hp13, gp2, _, rfl, rfl, ?_⟩
    rw [decide_eq_true rfl]
    exact q _
end
end FW

namespace FW
open PySem PySem.Spec PyProof.Rows L2
theorem all_mk {l : PySem.W.OpenLaw} {w : World} {K : PySem.W.Frag} {h : Heap} {mg : Str → Option Value} {fa C CP CZ CF CL CS CN CD f1 f2 f3 f4 f5 f6 f7 f8 f9 f10 f11 f12 f13 f14 f15 f16 f17 f18 f19 f20 f21 f22 f23 f24 f25 f26 : Addr} (X : K.In h) (G : h.Ns mainGlobals mg) (hfa : mg "law" = some (.ref fa))
    {tMOST_ZONES : Tok}  {od1 an1 od2 an2 od3 an3 od4 an4 od5 an5 od6 an6 od7 an7 od8 an8 od9 an9 od10 an10 od11 an11 od12 an12 od13 an13 od14 an14 od15 an15 od16 an16 od17 an17 od18 an18 od19 an19 od20 an20 od21 an21 od22 an22 od23 an23 od24 an24 od25 an25 od26 an26 : Option Addr} {sl1 sl2 sl3 sl4 sl5 sl6 sl7 sl8 sl9 sl10 sl11 sl12 sl13 sl14 sl15 sl16 sl17 sl18 sl19 sl20 sl21 sl22 sl23 sl24 sl25 sl26 : Array (Option Value)} {oc1 kV1 dc1 pm1 cd1 ct1 oc2 kV2 dc2 pm2 cd2 ct2 oc3 kV3 dc3 pm3 cd3 ct3 oc4 kV4 dc4 pm4 cd4 ct4 oc5 kV5 dc5 pm5 cd5 ct5 oc6 kV6 dc6 pm6 cd6 ct6 oc7 kV7 dc7 pm7 cd7 ct7 oc8 kV8 dc8 pm8 cd8 ct8 oc9 kV9 dc9 pm9 cd9 ct9 oc10 kV10 dc10 pm10 cd10 ct10 oc11 kV11 dc11 pm11 cd11 ct11 oc12 kV12 dc12 pm12 cd12 ct12 oc13 kV13 dc13 pm13 cd13 ct13 oc14 kV14 dc14 pm14 cd14 ct14 oc15 kV15 dc15 pm15 cd15 ct15 oc16 kV16 dc16 pm16 cd16 ct16 oc17 kV17 dc17 pm17 cd17 ct17 oc18 kV18 dc18 pm18 cd18 ct18 oc19 kV19 dc19 pm19 cd19 ct19 oc20 kV20 dc20 pm20 cd20 ct20 oc21 kV21 dc21 pm21 cd21 ct21 oc22 kV22 dc22 pm22 cd22 ct22 oc23 kV23 dc23 pm23 cd23 ct23 oc24 kV24 dc24 pm24 cd24 ct24 oc25 kV25 dc25 pm25 cd25 ct25 oc26 kV26 dc26 pm26 cd26 ct26 : Value}
    (gC : PySem.W.nsIn K mainGlobals "Tariff" = some (some (.ref C)))
    (pgC : PySem.W.plainGet K C Str.empty = true)
    (hdC : PySem.W.hasDictIn K C = true)
    (poC : PySem.W.plainOver K C = true)
    (saC : PySem.W.findIn K (.ref C) "__setattr__" = some (some (.builtin "object.__setattr__")))
    (mkC : PySem.W.makesIn K C = true)
    (kcC : PySem.W.keepIn K (.ref C) = true)
    (a1 : PySem.W.findIn K (.ref C) "__init__" = some (some (.ref f1)))
    (i1 : PySem.W.isFn K (.ref f1) = true)
    (l1 : K.lookup f1 = some ⟨oc1, od1, .func (PySem.W.fnOf "__init__" "Tariff.__init__" (defArgs sTInit) (defBody sTInit) (defScope sTInit) .none kV1 dc1 pm1 an1 cd1 ct1), sl1⟩)
    (c1 : PySem.W.codeIn K cd1 "Tariff.__init__" = true)
    (k1 : PySem.W.keepIn K (.ref f1) = true)
    (a2 : PySem.W.findIn K (.ref C) "single" = some (some (.ref f2)))
    (i2 : PySem.W.isFn K (.ref f2) = true)
    (l2 : K.lookup f2 = some ⟨oc2, od2, .func (PySem.W.fnOf "single" "Tariff.single" (defArgs sTSingle) (defBody sTSingle) (defScope sTSingle) .none kV2 dc2 pm2 an2 cd2 ct2), sl2⟩)
    (c2 : PySem.W.codeIn K cd2 "Tariff.single" = true)
    (k2 : PySem.W.keepIn K (.ref f2) = true)
    (a3 : PySem.W.findIn K (.ref C) "day" = some (some (.ref f3)))
    (i3 : PySem.W.isFn K (.ref f3) = true)
    (l3 : K.lookup f3 = some ⟨oc3, od3, .func (PySem.W.fnOf "day" "Tariff.day" (defArgs sTDay) (defBody sTDay) (defScope sTDay) .none kV3 dc3 pm3 an3 cd3 ct3), sl3⟩)
    (c3 : PySem.W.codeIn K cd3 "Tariff.day" = true)
    (k3 : PySem.W.keepIn K (.ref f3) = true)
    (a4 : PySem.W.findIn K (.ref C) "week" = some (some (.ref f4)))
    (i4 : PySem.W.isFn K (.ref f4) = true)
    (l4 : K.lookup f4 = some ⟨oc4, od4, .func (PySem.W.fnOf "week" "Tariff.week" (defArgs sTWeek) (defBody sTWeek) (defScope sTWeek) .none kV4 dc4 pm4 an4 cd4 ct4), sl4⟩)
    (c4 : PySem.W.codeIn K cd4 "Tariff.week" = true)
    (k4 : PySem.W.keepIn K (.ref f4) = true)
    (a5 : PySem.W.nsIn K mainGlobals "cheapest" = some (some (.ref f5)))
    (l5 : K.lookup f5 = some ⟨oc5, od5, .func (PySem.W.fnOf "cheapest" "cheapest" (defArgs sCheapest) (defBody sCheapest) (defScope sCheapest) .none kV5 dc5 pm5 an5 cd5 ct5), sl5⟩)
    (c5 : PySem.W.codeIn K cd5 "cheapest" = true)
    (k5 : PySem.W.keepIn K (.ref f5) = true)
    (a6 : PySem.W.nsIn K mainGlobals "check_zones" = some (some (.ref f6)))
    (l6 : K.lookup f6 = some ⟨oc6, od6, .func (PySem.W.fnOf "check_zones" "check_zones" (defArgs sCheckZones) (defBody sCheckZones) (defScope sCheckZones) .none kV6 dc6 pm6 an6 cd6 ct6), sl6⟩)
    (c6 : PySem.W.codeIn K cd6 "check_zones" = true)
    (k6 : PySem.W.keepIn K (.ref f6) = true)
    (a7 : PySem.W.nsIn K mainGlobals "_least_price" = some (some (.ref f7)))
    (l7 : K.lookup f7 = some ⟨oc7, od7, .func (PySem.W.fnOf "_least_price" "_least_price" (defArgs sLeastPrice) (defBody sLeastPrice) (defScope sLeastPrice) .none kV7 dc7 pm7 an7 cd7 ct7), sl7⟩)
    (c7 : PySem.W.codeIn K cd7 "_least_price" = true)
    (k7 : PySem.W.keepIn K (.ref f7) = true)
    (a8 : PySem.W.nsIn K mainGlobals "_check_prices" = some (some (.ref f8)))
    (l8 : K.lookup f8 = some ⟨oc8, od8, .func (PySem.W.fnOf "_check_prices" "_check_prices" (defArgs sCheckPrices) (defBody sCheckPrices) (defScope sCheckPrices) .none kV8 dc8 pm8 an8 cd8 ct8), sl8⟩)
    (c8 : PySem.W.codeIn K cd8 "_check_prices" = true)
    (k8 : PySem.W.keepIn K (.ref f8) = true)
    (a9 : PySem.W.nsIn K mainGlobals "least" = some (some (.ref f9)))
    (l9 : K.lookup f9 = some ⟨oc9, od9, .func (PySem.W.fnOf "least" "least" (defArgs sLeastOf) (defBody sLeastOf) (defScope sLeastOf) .none kV9 dc9 pm9 an9 cd9 ct9), sl9⟩)
    (c9 : PySem.W.codeIn K cd9 "least" = true)
    (k9 : PySem.W.keepIn K (.ref f9) = true)
    (a10 : PySem.W.nsIn K mainGlobals "_count_rides" = some (some (.ref f10)))
    (l10 : K.lookup f10 = some ⟨oc10, od10, .func (PySem.W.fnOf "_count_rides" "_count_rides" (defArgs sCountRides) (defBody sCountRides) (defScope sCountRides) .none kV10 dc10 pm10 an10 cd10 ct10), sl10⟩)
    (c10 : PySem.W.codeIn K cd10 "_count_rides" = true)
    (k10 : PySem.W.keepIn K (.ref f10) = true)
    (a11 : PySem.W.nsIn K mainGlobals "_cheapest_plan" = some (some (.ref f11)))
    (l11 : K.lookup f11 = some ⟨oc11, od11, .func (PySem.W.fnOf "_cheapest_plan" "_cheapest_plan" (defArgs sPlan) (defBody sPlan) (defScope sPlan) .none kV11 dc11 pm11 an11 cd11 ct11), sl11⟩)
    (c11 : PySem.W.codeIn K cd11 "_cheapest_plan" = true)
    (k11 : PySem.W.keepIn K (.ref f11) = true)
    (a12 : PySem.W.nsIn K mainGlobals "_prices_by_size" = some (some (.ref f12)))
    (l12 : K.lookup f12 = some ⟨oc12, od12, .func (PySem.W.fnOf "_prices_by_size" "_prices_by_size" (defArgs sBySize) (defBody sBySize) (defScope sBySize) .none kV12 dc12 pm12 an12 cd12 ct12), sl12⟩)
    (c12 : PySem.W.codeIn K cd12 "_prices_by_size" = true)
    (k12 : PySem.W.keepIn K (.ref f12) = true)
    (a13 : PySem.W.nsIn K mainGlobals "_costs_above" = some (some (.ref f13)))
    (l13 : K.lookup f13 = some ⟨oc13, od13, .func (PySem.W.fnOf "_costs_above" "_costs_above" (defArgs sAbove) (defBody sAbove) (defScope sAbove) .none kV13 dc13 pm13 an13 cd13 ct13), sl13⟩)
    (c13 : PySem.W.codeIn K cd13 "_costs_above" = true)
    (k13 : PySem.W.keepIn K (.ref f13) = true)
    (a14 : PySem.W.nsIn K mainGlobals "_cheapest_day_plan" = some (some (.ref f14)))
    (l14 : K.lookup f14 = some ⟨oc14, od14, .func (PySem.W.fnOf "_cheapest_day_plan" "_cheapest_day_plan" (defArgs sDayPlan) (defBody sDayPlan) (defScope sDayPlan) .none kV14 dc14 pm14 an14 cd14 ct14), sl14⟩)
    (c14 : PySem.W.codeIn K cd14 "_cheapest_day_plan" = true)
    (k14 : PySem.W.keepIn K (.ref f14) = true)
    (a15 : PySem.W.nsIn K mainGlobals "_plan_tickets" = some (some (.ref f15)))
    (l15 : K.lookup f15 = some ⟨oc15, od15, .func (PySem.W.fnOf "_plan_tickets" "_plan_tickets" (defArgs sPlanTickets) (defBody sPlanTickets) (defScope sPlanTickets) .none kV15 dc15 pm15 an15 cd15 ct15), sl15⟩)
    (c15 : PySem.W.codeIn K cd15 "_plan_tickets" = true)
    (k15 : PySem.W.keepIn K (.ref f15) = true)
    (a16 : PySem.W.nsIn K mainGlobals "_single_tickets" = some (some (.ref f16)))
    (l16 : K.lookup f16 = some ⟨oc16, od16, .func (PySem.W.fnOf "_single_tickets" "_single_tickets" (defArgs sSingleTickets) (defBody sSingleTickets) (defScope sSingleTickets) .none kV16 dc16 pm16 an16 cd16 ct16), sl16⟩)
    (c16 : PySem.W.codeIn K cd16 "_single_tickets" = true)
    (k16 : PySem.W.keepIn K (.ref f16) = true)
    (a17 : PySem.W.nsIn K mainGlobals "_law_cell_at" = some (some (.ref f17)))
    (l17 : K.lookup f17 = some ⟨oc17, od17, .func (PySem.W.fnOf "_law_cell_at" "_law_cell_at" (defArgs sCell) (defBody sCell) (defScope sCell) .none kV17 dc17 pm17 an17 cd17 ct17), sl17⟩)
    (c17 : PySem.W.codeIn K cd17 "_law_cell_at" = true)
    (k17 : PySem.W.keepIn K (.ref f17) = true)
    (a18 : PySem.W.nsIn K mainGlobals "_law_rows" = some (some (.ref f18)))
    (l18 : K.lookup f18 = some ⟨oc18, od18, .func (PySem.W.fnOf "_law_rows" "_law_rows" (defArgs sRows) (defBody sRows) (defScope sRows) .none kV18 dc18 pm18 an18 cd18 ct18), sl18⟩)
    (c18 : PySem.W.codeIn K cd18 "_law_rows" = true)
    (k18 : PySem.W.keepIn K (.ref f18) = true)
    (a19 : PySem.W.nsIn K mainGlobals "_law_days" = some (some (.ref f19)))
    (l19 : K.lookup f19 = some ⟨oc19, od19, .func (PySem.W.fnOf "_law_days" "_law_days" (defArgs sDays) (defBody sDays) (defScope sDays) .none kV19 dc19 pm19 an19 cd19 ct19), sl19⟩)
    (c19 : PySem.W.codeIn K cd19 "_law_days" = true)
    (k19 : PySem.W.keepIn K (.ref f19) = true)
    (a20 : PySem.W.nsIn K mainGlobals "_law_whole" = some (some (.ref f20)))
    (l20 : K.lookup f20 = some ⟨oc20, od20, .func (PySem.W.fnOf "_law_whole" "_law_whole" (defArgs sWhole) (defBody sWhole) (defScope sWhole) .none kV20 dc20 pm20 an20 cd20 ct20), sl20⟩)
    (c20 : PySem.W.codeIn K cd20 "_law_whole" = true)
    (k20 : PySem.W.keepIn K (.ref f20) = true)
    (a21 : PySem.W.nsIn K mainGlobals "_law_shaped" = some (some (.ref f21)))
    (l21 : K.lookup f21 = some ⟨oc21, od21, .func (PySem.W.fnOf "_law_shaped" "_law_shaped" (defArgs sShaped) (defBody sShaped) (defScope sShaped) .none kV21 dc21 pm21 an21 cd21 ct21), sl21⟩)
    (c21 : PySem.W.codeIn K cd21 "_law_shaped" = true)
    (k21 : PySem.W.keepIn K (.ref f21) = true)
    (a22 : PySem.W.nsIn K mainGlobals "_law_serves" = some (some (.ref f22)))
    (l22 : K.lookup f22 = some ⟨oc22, od22, .func (PySem.W.fnOf "_law_serves" "_law_serves" (defArgs sServes) (defBody sServes) (defScope sServes) .none kV22 dc22 pm22 an22 cd22 ct22), sl22⟩)
    (c22 : PySem.W.codeIn K cd22 "_law_serves" = true)
    (k22 : PySem.W.keepIn K (.ref f22) = true)
    (a23 : PySem.W.nsIn K mainGlobals "_law_served" = some (some (.ref f23)))
    (l23 : K.lookup f23 = some ⟨oc23, od23, .func (PySem.W.fnOf "_law_served" "_law_served" (defArgs sServed) (defBody sServed) (defScope sServed) .none kV23 dc23 pm23 an23 cd23 ct23), sl23⟩)
    (c23 : PySem.W.codeIn K cd23 "_law_served" = true)
    (k23 : PySem.W.keepIn K (.ref f23) = true)
    (a24 : PySem.W.nsIn K mainGlobals "_law_good" = some (some (.ref f24)))
    (l24 : K.lookup f24 = some ⟨oc24, od24, .func (PySem.W.fnOf "_law_good" "_law_good" (defArgs sGood) (defBody sGood) (defScope sGood) .none kV24 dc24 pm24 an24 cd24 ct24), sl24⟩)
    (c24 : PySem.W.codeIn K cd24 "_law_good" = true)
    (k24 : PySem.W.keepIn K (.ref f24) = true)
    (a25 : PySem.W.nsIn K mainGlobals "_law_refused" = some (some (.ref f25)))
    (l25 : K.lookup f25 = some ⟨oc25, od25, .func (PySem.W.fnOf "_law_refused" "_law_refused" (defArgs sRefused) (defBody sRefused) (defScope sRefused) .none kV25 dc25 pm25 an25 cd25 ct25), sl25⟩)
    (c25 : PySem.W.codeIn K cd25 "_law_refused" = true)
    (k25 : PySem.W.keepIn K (.ref f25) = true)
    (a26 : PySem.W.nsIn K mainGlobals "law" = some (some (.ref f26)))
    (l26 : K.lookup f26 = some ⟨oc26, od26, .func (PySem.W.fnOf "law" "law" (defArgs sLaw) (defBody sLaw) (defScope sLaw) .none kV26 dc26 pm26 an26 cd26 ct26), sl26⟩)
    (c26 : PySem.W.codeIn K cd26 "law" = true)
    (k26 : PySem.W.keepIn K (.ref f26) = true)
    (nC_singles : PySem.W.findIn K (.ref C) "singles" = some none)
    (nC_days : PySem.W.findIn K (.ref C) "days" = some none)
    (nC_weeks : PySem.W.findIn K (.ref C) "weeks" = some none)
    (gCP : PySem.W.nsIn K mainGlobals "BadPrices" = some (some (.ref CP)))
    (xCP : PySem.W.excIn K CP [.type "ValueError", .type "Exception", .type "BaseException", .type "object"] "ValueError.__new__" = true)
    (kCP : PySem.W.keepIn K (.ref CP) = true)
    (bCP : PySem.W.subIn K (.ref CP) (.type "BaseException") = some true)
    (tCP : PySem.W.typeIn K (.ref CP) = some (.type "type"))
    (gCZ : PySem.W.nsIn K mainGlobals "BadZones" = some (some (.ref CZ)))
    (xCZ : PySem.W.excIn K CZ [.type "ValueError", .type "Exception", .type "BaseException", .type "object"] "ValueError.__new__" = true)
    (kCZ : PySem.W.keepIn K (.ref CZ) = true)
    (bCZ : PySem.W.subIn K (.ref CZ) (.type "BaseException") = some true)
    (tCZ : PySem.W.typeIn K (.ref CZ) = some (.type "type"))
    (z_len : PySem.W.nsIn K mainGlobals "len" = some none)
    (z_list : PySem.W.nsIn K mainGlobals "list" = some none)
    (z_range : PySem.W.nsIn K mainGlobals "range" = some none)
    (z_min : PySem.W.nsIn K mainGlobals "min" = some none)
    (z_int : PySem.W.nsIn K mainGlobals "int" = some none)
    (z_isinstance : PySem.W.nsIn K mainGlobals "isinstance" = some none)
    (z_bool : PySem.W.nsIn K mainGlobals "bool" = some none)
    (z_tuple : PySem.W.nsIn K mainGlobals "tuple" = some none)
    (z_ValueError : PySem.W.nsIn K mainGlobals "ValueError" = some none)
    (z_sum : PySem.W.nsIn K mainGlobals "sum" = some none)
    (z_enumerate : PySem.W.nsIn K mainGlobals "enumerate" = some none)
    (z_max : PySem.W.nsIn K mainGlobals "max" = some none)
    (hMOST_ZONES : PySem.W.nsIn K mainGlobals "MOST_ZONES" = some (some (.int 5 tMOST_ZONES)))
    (gCF : PySem.W.nsIn K mainGlobals "FareError" = some (some (.ref CF)))
    (gCL : PySem.W.nsIn K mainGlobals "BadLink" = some (some (.ref CL)))
    (gCS : PySem.W.nsIn K mainGlobals "BadStop" = some (some (.ref CS)))
    (gCN : PySem.W.nsIn K mainGlobals "NoWay" = some (some (.ref CN)))
    (gCD : PySem.W.nsIn K mainGlobals "PastDay" = some (some (.ref CD)))
    (bCF : PySem.W.subIn K (.ref CF) (.type "BaseException") = some true)
    (hdCF : PySem.W.hasDictIn K CF = true)
    (tCF : PySem.W.typeIn K (.ref CF) = some (.type "type"))
    (sp_cls : PySem.W.specialIn K (.builtin "object.__class__") "__get__" = some (some (.builtin "getset_descriptor.__get__")))
    (tk_cls : PySem.W.takesIn K (.builtin "object.__class__") = some true)
    (suCZ : PySem.W.subIn K (.ref CZ) (.ref CF) = some true)
    (hdCZ : PySem.W.hasDictIn K CZ = true)
    (gaCZ : PySem.W.findIn K (.ref CZ) "__getattribute__" = some (some (.builtin "BaseException.__getattribute__")))
    (gkCZ : PySem.W.findIn K (.ref CZ) "__getattr__" = some none)
    (caCZ : PySem.W.findIn K (.ref CZ) "__class__" = some (some (.builtin "object.__class__")))
    (moCZ : PySem.W.mroIn K CZ (.type "object") = some true)
    (kvCZ : PySem.W.kitOne K (.ref CZ) (.type "ValueError") = some true)
    (kCZ0 : PySem.W.kitOne K (.ref CZ) (.ref CL) = some false)
    (kCZ1 : PySem.W.kitOne K (.ref CZ) (.ref CS) = some false)
    (kCZ2 : PySem.W.kitOne K (.ref CZ) (.ref CN) = some false)
    (kCZ3 : PySem.W.kitOne K (.ref CZ) (.ref CP) = some false)
    (kCZ4 : PySem.W.kitOne K (.ref CZ) (.ref CZ) = some true)
    (kCZ5 : PySem.W.kitOne K (.ref CZ) (.ref CD) = some false)
    : ∃ fd : FuncData, (∀ (s : Shared) (v : Value), BindsTo s fd ⟨[v], []⟩ [("_law_script", v)]) ∧ ∀ base : Heap, K.In base → base.Ns mainGlobals mg → FnOk l.prog w K mg base CX0 13 fa fd ["_law_script"] (spLaw K) := by
  have e := hfa.symm.trans (PySem.W.mg_of X G a26)
  cases e
  have F1 := fun_mk (st := sTInit) l1 c1 k1
  have b1 := F1.binds (ps := ["self", "singles", "days", "weeks"]) fun _ _ _ _ _ _ us hl => match us, hl with | [_, _, _, _], _ => rfl
  have F2 := fun_mk (st := sTSingle) l2 c2 k2
  have b2 := F2.binds (ps := ["self", "zones"]) fun _ _ _ _ _ _ us hl => match us, hl with | [_, _], _ => rfl
  have F3 := fun_mk (st := sTDay) l3 c3 k3
  have b3 := F3.binds (ps := ["self", "zones"]) fun _ _ _ _ _ _ us hl => match us, hl with | [_, _], _ => rfl
  have F4 := fun_mk (st := sTWeek) l4 c4 k4
  have b4 := F4.binds (ps := ["self", "zones"]) fun _ _ _ _ _ _ us hl => match us, hl with | [_, _], _ => rfl
  have F5 := fun_mk (st := sCheapest) l5 c5 k5
  have b5 := F5.binds (ps := ["prices", "zones"]) fun _ _ _ _ _ _ us hl => match us, hl with | [_, _], _ => rfl
  have F6 := fun_mk (st := sCheckZones) l6 c6 k6
  have b6 := F6.binds (ps := ["zones"]) fun _ _ _ _ _ _ us hl => match us, hl with | [_], _ => rfl
  have F7 := fun_mk (st := sLeastPrice) l7 c7 k7
  have b7 := F7.binds (ps := ["prices", "zones"]) fun _ _ _ _ _ _ us hl => match us, hl with | [_, _], _ => rfl
  have F8 := fun_mk (st := sCheckPrices) l8 c8 k8
  have b8 := F8.binds (ps := ["prices"]) fun _ _ _ _ _ _ us hl => match us, hl with | [_], _ => rfl
  have F9 := fun_mk (st := sLeastOf) l9 c9 k9
  have b9 := F9.binds (ps := ["tariff", "days"]) fun _ _ _ _ _ _ us hl => match us, hl with | [_, _], _ => rfl
  have F10 := fun_mk (st := sCountRides) l10 c10 k10
  have b10 := F10.binds (ps := ["rides"]) fun _ _ _ _ _ _ us hl => match us, hl with | [_], _ => rfl
  have F11 := fun_mk (st := sPlan) l11 c11 k11
  have b11 := F11.binds (ps := ["tariff", "counts"]) fun _ _ _ _ _ _ us hl => match us, hl with | [_, _], _ => rfl
  have F12 := fun_mk (st := sBySize) l12 c12 k12
  have b12 := F12.binds (ps := ["prices"]) fun _ _ _ _ _ _ us hl => match us, hl with | [_], _ => rfl
  have F13 := fun_mk (st := sAbove) l13 c13 k13
  have b13 := F13.binds (ps := ["single_prices", "counts"]) fun _ _ _ _ _ _ us hl => match us, hl with | [_, _], _ => rfl
  have F14 := fun_mk (st := sDayPlan) l14 c14 k14
  have b14 := F14.binds (ps := ["day_prices", "costs_above", "week_size"]) fun _ _ _ _ _ _ us hl => match us, hl with | [_, _, _], _ => rfl
  have F15 := fun_mk (st := sPlanTickets) l15 c15 k15
  have b15 := F15.binds (ps := ["tariff", "days", "week_size", "day_sizes"]) fun _ _ _ _ _ _ us hl => match us, hl with | [_, _, _, _], _ => rfl
  have F16 := fun_mk (st := sSingleTickets) l16 c16 k16
  have b16 := F16.binds (ps := ["tariff", "day", "rides", "served"]) fun _ _ _ _ _ _ us hl => match us, hl with | [_, _, _, _], _ => rfl
  have F17 := fun_mk (st := sCell) l17 c17 k17
  have b17 := F17.binds (ps := ["_law_script", "_law_k"]) fun _ _ _ _ _ _ us hl => match us, hl with | [_, _], _ => rfl
  have F18 := fun_mk (st := sRows) l18 c18 k18
  have b18 := F18.binds (ps := ["_law_script"]) fun _ _ _ _ _ _ us hl => match us, hl with | [_], _ => rfl
  have F19 := fun_mk (st := sDays) l19 c19 k19
  have b19 := F19.binds (ps := ["_law_script"]) fun _ _ _ _ _ _ us hl => match us, hl with | [_], _ => rfl
  have F20 := fun_mk (st := sWhole) l20 c20 k20
  have b20 := F20.binds (ps := ["_law_found"]) fun _ _ _ _ _ _ us hl => match us, hl with | [_], _ => rfl
  have F21 := fun_mk (st := sShaped) l21 c21 k21
  have b21 := F21.binds (ps := ["_law_ticket", "_law_rows_here", "_law_days_here"]) fun _ _ _ _ _ _ us hl => match us, hl with | [_, _, _], _ => rfl
  have F22 := fun_mk (st := sServes) l22 c22 k22
  have b22 := F22.binds (ps := ["_law_ticket", "_law_day", "_law_ride", "_law_zones"]) fun _ _ _ _ _ _ us hl => match us, hl with | [_, _, _, _], _ => rfl
  have F23 := fun_mk (st := sServed) l23 c23 k23
  have b23 := F23.binds (ps := ["_law_tickets", "_law_day", "_law_ride", "_law_zones"]) fun _ _ _ _ _ _ us hl => match us, hl with | [_, _, _, _], _ => rfl
  have F24 := fun_mk (st := sGood) l24 c24 k24
  have b24 := F24.binds (ps := ["_law_found", "_law_rows_here", "_law_days_here"]) fun _ _ _ _ _ _ us hl => match us, hl with | [_, _, _], _ => rfl
  have F25 := fun_mk (st := sRefused) l25 c25 k25
  have b25 := F25.binds (ps := ["_law_tariff", "_law_days_here", "_law_cell"]) fun _ _ _ _ _ _ us hl => match us, hl with | [_, _, _], _ => rfl
  have F26 := fun_mk (st := sLaw) l26 c26 k26
  have T : PTx K mg C CP CZ := ⟨⟨pgC, hdC, poC, saC⟩, nC_singles, nC_days, nC_weeks, PySem.W.mg_none_of X G z_len, PySem.W.mg_none_of X G z_list, PySem.W.mg_none_of X G z_range, PySem.W.mg_none_of X G z_min, ⟨_, PySem.W.mg_of X G hMOST_ZONES⟩, ⟨PySem.W.mg_of X G gCP, xCP, kCP, bCP, tCP⟩, ⟨PySem.W.mg_of X G gCZ, xCZ, kCZ, bCZ, tCZ⟩⟩
  have TC : CTx K mg C CP CZ := ⟨T, PySem.W.mg_none_of X G z_sum, PySem.W.mg_none_of X G z_enumerate, PySem.W.mg_none_of X G z_max⟩
  have B : LT mg := ⟨PySem.W.mg_none_of X G z_len, PySem.W.mg_none_of X G z_list, PySem.W.mg_none_of X G z_range, PySem.W.mg_none_of X G z_int, PySem.W.mg_none_of X G z_isinstance, PySem.W.mg_none_of X G z_bool, PySem.W.mg_none_of X G z_tuple⟩
  have KGs : KG mg CL CS CN CP CZ CD := ⟨PySem.W.mg_of X G gCL, PySem.W.mg_of X G gCS, PySem.W.mg_of X G gCN, PySem.W.mg_of X G gCP, PySem.W.mg_of X G gCZ, PySem.W.mg_of X G gCD, PySem.W.mg_none_of X G z_isinstance, PySem.W.mg_none_of X G z_ValueError⟩
  have ECZ : ExcC K CZ := ⟨gaCZ, gkCZ, bCZ, hdCZ, caCZ, sp_cls, tk_cls, moCZ⟩
  have KCZ : KindT K CL CS CN CP CZ CD CZ 4 := ⟨ECZ, kCZ0, kCZ1, kCZ2, kCZ3, kCZ4, kCZ5, kvCZ, by decide⟩
  have D : DefsL K mg C CP CZ CF CL CS CN CD f1 f9 f17 f18 f19 f20 f21 f22 f23 f24 f25 _ _ _ _ _ _ _ _ _ _ _ := ⟨⟨pgC, hdC, poC, saC⟩, nC_singles, nC_days, nC_weeks, B, PySem.W.mg_of X G gCF, ⟨bCF, hdCF, tCF, suCZ⟩, KCZ, KGs, ⟨mkC, a1, i1, kcC⟩, PySem.W.mg_of X G gC, b1, k9, b9, PySem.W.mg_of X G a9, F17, b17, PySem.W.mg_of X G a17, F18, b18, PySem.W.mg_of X G a18, F19, b19, PySem.W.mg_of X G a19, F20, b20, PySem.W.mg_of X G a20, F21, b21, PySem.W.mg_of X G a21, F22, b22, PySem.W.mg_of X G a22, F23, b23, PySem.W.mg_of X G a23, F24, b24, PySem.W.mg_of X G a24, F25, b25, PySem.W.mg_of X G a25⟩
  exact ⟨PySem.W.fnOf "law" "law" (defArgs sLaw) (defBody sLaw) (defScope sLaw) .none kV26 dc26 pm26 an26 cd26 ct26, fun s v => .of_eq rfl, fun base _ _ => ok_law F26 D (by decide) (by decide) (ok_tInit F1 T F8 b8 (PySem.W.mg_of X G a8)) (ok_leastOf F9 TC F6 b6 (PySem.W.mg_of X G a6) F10 b10 (PySem.W.mg_of X G a10) F11 b11 (PySem.W.mg_of X G a11) F15 b15 (PySem.W.mg_of X G a15) F12 b12 (PySem.W.mg_of X G a12) F13 b13 (PySem.W.mg_of X G a13) F14 b14 (PySem.W.mg_of X G a14) F16 b16 (PySem.W.mg_of X G a16) F5 b5 (PySem.W.mg_of X G a5))⟩
theorem walk {l : PySem.W.OpenLaw} {q : Program} {loose : List Str} {XP : (Str → Option Value) → Heap → Prop} {YP : World → Heap → Prop} {d : DefRec} {K : Params → PySem.W.Frag} (hn : l.most = some 63) (hdf : d.params.defaults = [])
    (hY : ∀ (w : World) (h : Heap), YP w h → (K w.params).In h)
    (F : ∀ (w : World) (mg : Str → Option Value) (fa : Addr) (h : Heap), (K w.params).In h → h.Ns mainGlobals mg → mg d.name = some (.ref fa) →
      ∃ fd : FuncData, (∀ (s : Shared) (u : Value), BindsTo s fd ⟨[u], []⟩ [("_law_script", u)]) ∧ ∀ base : Heap, (K w.params).In base → base.Ns mainGlobals mg → FnOk l.prog w (K w.params) mg base CX0 13 fa fd ["_law_script"] (spLaw (K w.params))) :
    PySem.W.WalkO q loose XP YP l.row.toRowW d [] (fun f vs => PySem.call f vs) :=
  L2.walk_of (n := 63) (k := 13) (x := "_law_script") (CX := fun _ => CX0) (sp := fun w => spLaw (K w.params)) hn (by decide) hdf ⟨rfl, by decide, by decide⟩ hY F (fun _ _ a ns hl _ hS => ⟨a, ns, rfl, hS, hl, fun _ => rfl⟩) fun _ _ _ _ _ z => z
end FW
open PySem PySem.W PyProof.Rows
set_option maxRecDepth 100000 in
set_option maxHeartbeats 0 in
theorem PySem.Challenge.cw_fareweb_k06_tickets_that_serve_holds : PySem.Challenge.rw_fareweb_k06_tickets_that_serve.Holds := by
  w_on; o_law; k_head; (case hw => w_witness2)
  k_fill
  refine FW.walk (l := PySem.Challenge.rw_fareweb_k06_tickets_that_serve) rfl rfl (fun w h Y => PySem.W.kIn_of Y) ?F
  case F =>
    intro w mg fa h KX G hmg
    refine' FW.all_mk KX G hmg ?gC ?pgC ?hdC ?poC ?saC ?mkC ?kcC ?a1 ?i1 ?l1 ?c1 ?k1 ?a2 ?i2 ?l2 ?c2 ?k2 ?a3 ?i3 ?l3 ?c3 ?k3 ?a4 ?i4 ?l4 ?c4 ?k4 ?a5 ?l5 ?c5 ?k5 ?a6 ?l6 ?c6 ?k6 ?a7 ?l7 ?c7 ?k7 ?a8 ?l8 ?c8 ?k8 ?a9 ?l9 ?c9 ?k9 ?a10 ?l10 ?c10 ?k10 ?a11 ?l11 ?c11 ?k11 ?a12 ?l12 ?c12 ?k12 ?a13 ?l13 ?c13 ?k13 ?a14 ?l14 ?c14 ?k14 ?a15 ?l15 ?c15 ?k15 ?a16 ?l16 ?c16 ?k16 ?a17 ?l17 ?c17 ?k17 ?a18 ?l18 ?c18 ?k18 ?a19 ?l19 ?c19 ?k19 ?a20 ?l20 ?c20 ?k20 ?a21 ?l21 ?c21 ?k21 ?a22 ?l22 ?c22 ?k22 ?a23 ?l23 ?c23 ?k23 ?a24 ?l24 ?c24 ?k24 ?a25 ?l25 ?c25 ?k25 ?a26 ?l26 ?c26 ?k26 ?nC_singles ?nC_days ?nC_weeks ?gCP ?xCP ?kCP ?bCP ?tCP ?gCZ ?xCZ ?kCZ ?bCZ ?tCZ ?z_len ?z_list ?z_range ?z_min ?z_int ?z_isinstance ?z_bool ?z_tuple ?z_ValueError ?z_sum ?z_enumerate ?z_max ?hMOST_ZONES ?gCF ?gCL ?gCS ?gCN ?gCD ?bCF ?hdCF ?tCF ?sp_cls ?tk_cls ?suCZ ?hdCZ ?gaCZ ?gkCZ ?caCZ ?moCZ ?kvCZ ?kCZ0 ?kCZ1 ?kCZ2 ?kCZ3 ?kCZ4 ?kCZ5
    (case gC => k_is)
    (case pgC => k_is)
    (case hdC => k_is)
    (case poC => k_is)
    (case saC => k_is)
    (case mkC => k_is)
    (case kcC => k_is)
    (case a1 => k_is)
    (case i1 => k_is)
    (case l1 => k_is)
    (case c1 => k_is)
    (case k1 => k_is)
    (case a2 => k_is)
    (case i2 => k_is)
    (case l2 => k_is)
    (case c2 => k_is)
    (case k2 => k_is)
    (case a3 => k_is)
    (case i3 => k_is)
    (case l3 => k_is)
    (case c3 => k_is)
    (case k3 => k_is)
    (case a4 => k_is)
    (case i4 => k_is)
    (case l4 => k_is)
    (case c4 => k_is)
    (case k4 => k_is)
    (case a5 => k_is)
    (case l5 => k_is)
    (case c5 => k_is)
    (case k5 => k_is)
    (case a6 => k_is)
    (case l6 => k_is)
    (case c6 => k_is)
    (case k6 => k_is)
    (case a7 => k_is)
    (case l7 => k_is)
    (case c7 => k_is)
    (case k7 => k_is)
    (case a8 => k_is)
    (case l8 => k_is)
    (case c8 => k_is)
    (case k8 => k_is)
    (case a9 => k_is)
    (case l9 => k_is)
    (case c9 => k_is)
    (case k9 => k_is)
    (case a10 => k_is)
    (case l10 => k_is)
    (case c10 => k_is)
    (case k10 => k_is)
    (case a11 => k_is)
    (case l11 => k_is)
    (case c11 => k_is)
    (case k11 => k_is)
    (case a12 => k_is)
    (case l12 => k_is)
    (case c12 => k_is)
    (case k12 => k_is)
    (case a13 => k_is)
    (case l13 => k_is)
    (case c13 => k_is)
    (case k13 => k_is)
    (case a14 => k_is)
    (case l14 => k_is)
    (case c14 => k_is)
    (case k14 => k_is)
    (case a15 => k_is)
    (case l15 => k_is)
    (case c15 => k_is)
    (case k15 => k_is)
    (case a16 => k_is)
    (case l16 => k_is)
    (case c16 => k_is)
    (case k16 => k_is)
    (case a17 => k_is)
    (case l17 => k_is)
    (case c17 => k_is)
    (case k17 => k_is)
    (case a18 => k_is)
    (case l18 => k_is)
    (case c18 => k_is)
    (case k18 => k_is)
    (case a19 => k_is)
    (case l19 => k_is)
    (case c19 => k_is)
    (case k19 => k_is)
    (case a20 => k_is)
    (case l20 => k_is)
    (case c20 => k_is)
    (case k20 => k_is)
    (case a21 => k_is)
    (case l21 => k_is)
    (case c21 => k_is)
    (case k21 => k_is)
    (case a22 => k_is)
    (case l22 => k_is)
    (case c22 => k_is)
    (case k22 => k_is)
    (case a23 => k_is)
    (case l23 => k_is)
    (case c23 => k_is)
    (case k23 => k_is)
    (case a24 => k_is)
    (case l24 => k_is)
    (case c24 => k_is)
    (case k24 => k_is)
    (case a25 => k_is)
    (case l25 => k_is)
    (case c25 => k_is)
    (case k25 => k_is)
    (case a26 => k_is)
    (case l26 => k_is)
    (case c26 => k_is)
    (case k26 => k_is)
    (case nC_singles => k_is)
    (case nC_days => k_is)
    (case nC_weeks => k_is)
    (case gCP => k_is)
    (case xCP => k_exc)
    (case kCP => k_is)
    (case bCP => k_is)
    (case tCP => k_is)
    (case gCZ => k_is)
    (case xCZ => k_exc)
    (case kCZ => k_is)
    (case bCZ => k_is)
    (case tCZ => k_is)
    (case z_len => k_is)
    (case z_list => k_is)
    (case z_range => k_is)
    (case z_min => k_is)
    (case z_int => k_is)
    (case z_isinstance => k_is)
    (case z_bool => k_is)
    (case z_tuple => k_is)
    (case z_ValueError => k_is)
    (case z_sum => k_is)
    (case z_enumerate => k_is)
    (case z_max => k_is)
    (case hMOST_ZONES => k_is)
    (case gCF => k_is)
    (case gCL => k_is)
    (case gCS => k_is)
    (case gCN => k_is)
    (case gCD => k_is)
    (case bCF => k_is)
    (case hdCF => k_is)
    (case tCF => k_is)
    (case sp_cls => k_is)
    (case tk_cls => k_is)
    (case suCZ => k_is)
    (case hdCZ => k_is)
    (case gaCZ => k_is)
    (case gkCZ => k_is)
    (case caCZ => k_is)
    (case moCZ => k_is)
    (case kvCZ => kit_is)
    (case kCZ0 => kit_is)
    (case kCZ1 => kit_is)
    (case kCZ2 => kit_is)
    (case kCZ3 => kit_is)
    (case kCZ4 => kit_is)
    (case kCZ5 => kit_is)
#print axioms PySem.Challenge.cw_fareweb_k06_tickets_that_serve_holds

