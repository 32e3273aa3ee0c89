import PyProof.Rows.All
import Wide.All
import OpenK.AllK
import Wide.FinOn
import HandS.ForMost
import HandS.Exc
import HandS.TryOnly
import HandS.ExcOwn
import HandS.WordsExc
import HandS.RaiseMore
import HandS.FStr
import HandS.TryMany
import HandS.ExcCtx
import HandS.ExcIs
import HandS.HotCalls
import HandS.Deep
import HandS.SetFor
import HandS.Strs
import HandS.Codes
import KE.RegKIsAll
import HandS.Style
import HandS.IsInst
import HandS.Conv
import KE.DataMinMax
import PySem.Challenge.RW_fareweb_k02_prices_refused
set_option Elab.async false
set_option linter.all false
set_option maxRecDepth 100000
section
set_option autoImplicit false
set_option linter.all false
namespace FT
/-! Tickets: plain mathematics of the least cost. -/
/-! sums -/
def sumR : Nat → (Nat → Int) → Int
  | 0, _ => 0
  | n + 1, f => sumR n f + f n
theorem sumR_le : ∀ (n : Nat) {f g : Nat → Int}, (∀ i, i < n → f i ≤ g i) → sumR n f ≤ sumR n g
  | 0, _, _, _ => Int.le_refl _
  | n + 1, f, g, h => by
    have h1 := sumR_le n (f := f) (g := g) fun i hi => h i (by omega)
    have h2 := h n (by omega)
    show sumR n f + f n ≤ sumR n g + g n
    omega
theorem sumR_congr : ∀ (n : Nat) {f g : Nat → Int}, (∀ i, i < n → f i = g i) → sumR n f = sumR n g
  | 0, _, _, _ => rfl
  | n + 1, f, g, h => by
    show sumR n f + f n = sumR n g + g n
    rw [sumR_congr n (f := f) (g := g) fun i hi => h i (by omega), h n (by omega)]
theorem sumR_add : ∀ (n : Nat) (f g : Nat → Int), sumR n (fun i => f i + g i) = sumR n f + sumR n g
  | 0, _, _ => rfl
  | n + 1, f, g => by
    show sumR n (fun i => f i + g i) + (f n + g n) = sumR n f + f n + (sumR n g + g n)
    rw [sumR_add n f g]
    omega
theorem sumR_zero : ∀ n : Nat, sumR n (fun _ => 0) = 0
  | 0 => rfl
  | n + 1 => by
    show sumR n (fun _ => 0) + 0 = 0
    rw [sumR_zero n]
    rfl
theorem sumR_nonneg (n : Nat) {f : Nat → Int} (h : ∀ i, i < n → 0 ≤ f i) : 0 ≤ sumR n f := by
  have := sumR_le n (f := fun _ => 0) (g := f) h
  rw [sumR_zero] at this
  exact this
theorem sumR_ind : ∀ (n k : Nat) (x : Int), sumR n (fun i => if i = k then x else 0) = if k < n then x else 0
  | 0, k, x => by
    rw [if_neg (by omega)]
    rfl
  | n + 1, k, x => by
    show sumR n (fun i => if i = k then x else 0) + (if n = k then x else 0) = _
    rw [sumR_ind n k x]
    by_cases h : n = k
    · subst h
      rw [if_neg (by omega), if_pos rfl, if_pos (by omega)]
      omega
    · rw [if_neg h]
      by_cases h2 : k < n
      · rw [if_pos h2, if_pos (by omega)]
        omega
      · rw [if_neg h2, if_neg (by omega)]
        rfl
theorem sumR_succ : ∀ (n : Nat) (f : Nat → Int), sumR (n + 1) f = f 0 + sumR n (fun i => f (i + 1))
  | 0, f => by
    show 0 + f 0 = f 0 + 0
    omega
  | n + 1, f => by
    show sumR (n + 1) f + f (n + 1) = f 0 + (sumR n (fun i => f (i + 1)) + f (n + 1))
    rw [sumR_succ n f]
    omega
theorem sum_sumR {α : Type} (f : α → Int) (d : α) : ∀ l : List α, (l.map f).sum = sumR l.length (fun i => f (l.getD i d))
  | [] => rfl
  | a :: l => by
    rw [List.map_cons, List.sum_cons, sum_sumR f d l, List.length_cons, sumR_succ]
    rfl
theorem sum_le {α : Type} {f g : α → Int} : ∀ {l : List α}, (∀ a, a ∈ l → f a ≤ g a) → (l.map f).sum ≤ (l.map g).sum
  | [], _ => Int.le_refl _
  | a :: l, h => by
    rw [List.map_cons, List.map_cons, List.sum_cons, List.sum_cons]
    have h1 := sum_le (l := l) (f := f) (g := g) fun b m => h b (List.mem_cons_of_mem _ m)
    have h2 := h a List.mem_cons_self
    omega
theorem sum_nonneg {α : Type} {f : α → Int} {l : List α} (h : ∀ a, a ∈ l → 0 ≤ f a) : 0 ≤ (l.map f).sum := by
  induction l with
  | nil => exact Int.le_refl _
  | cons a l ih =>
    rw [List.map_cons, List.sum_cons]
    have h1 := ih fun b m => h b (List.mem_cons_of_mem _ m)
    have h2 := h a List.mem_cons_self
    omega
theorem sum_zero {α : Type} : ∀ l : List α, (l.map fun _ => (0 : Int)).sum = 0
  | [] => rfl
  | a :: l => by
    rw [List.map_cons, List.sum_cons, sum_zero l]
    rfl
theorem sum_perm {α : Type} {f : α → Int} {l r : List α} (h : l.Perm r) : (l.map f).sum = (r.map f).sum := by
  induction h with
  | nil => rfl
  | cons x _ ih => rw [List.map_cons, List.map_cons, List.sum_cons, List.sum_cons, ih]
  | swap x y l =>
    simp only [List.map_cons, List.sum_cons]
    omega
  | trans _ _ h1 h2 => exact h1.trans h2
/-! the least of a row's prices for so many zones or for more -/
abbrev Row := List Int
def pr (row : Row) (z : Nat) : Int := row.getD (z - 1) 0
/-- the least of row[z - 1 ..], z from 1 to 5, of five prices -/
def best (row : Row) (z : Nat) : Int :=
  if z = 1 then min (pr row 1) (min (pr row 2) (min (pr row 3) (min (pr row 4) (pr row 5))))
  else if z = 2 then min (pr row 2) (min (pr row 3) (min (pr row 4) (pr row 5)))
  else if z = 3 then min (pr row 3) (min (pr row 4) (pr row 5))
  else if z = 4 then min (pr row 4) (pr row 5)
  else pr row 5
theorem five {z : Nat} (h1 : 1 ≤ z) (h5 : z ≤ 5) : z = 1 ∨ z = 2 ∨ z = 3 ∨ z = 4 ∨ z = 5 := by omega
theorem best_le (row : Row) {z j : Nat} (hz : 1 ≤ z) (hzj : z ≤ j) (hj : j ≤ 5) : best row z ≤ pr row j := by
  unfold best
  rcases five (by omega : 1 ≤ j) hj with rfl | rfl | rfl | rfl | rfl <;> rcases five hz (by omega) with rfl | rfl | rfl | rfl | rfl <;> simp <;> omega
theorem best_at (row : Row) {z : Nat} (hz : 1 ≤ z) (h5 : z ≤ 5) : ∃ j, z ≤ j ∧ j ≤ 5 ∧ best row z = pr row j := by
  have key : ∀ a b : Int, min a b = a ∨ min a b = b := fun a b => by omega
  unfold best
  rcases five hz h5 with rfl | rfl | rfl | rfl | rfl
  · rcases key (pr row 1) (min (pr row 2) (min (pr row 3) (min (pr row 4) (pr row 5)))) with h | h
    · exact ⟨1, by omega, by omega, h⟩
    · rcases key (pr row 2) (min (pr row 3) (min (pr row 4) (pr row 5))) with h2 | h2
      · exact ⟨2, by omega, by omega, h.trans h2⟩
      · rcases key (pr row 3) (min (pr row 4) (pr row 5)) with h3 | h3
        · exact ⟨3, by omega, by omega, (h.trans h2).trans h3⟩
        · rcases key (pr row 4) (pr row 5) with h4 | h4
          · exact ⟨4, by omega, by omega, ((h.trans h2).trans h3).trans h4⟩
          · exact ⟨5, by omega, by omega, ((h.trans h2).trans h3).trans h4⟩
  · rcases key (pr row 2) (min (pr row 3) (min (pr row 4) (pr row 5))) with h2 | h2
    · exact ⟨2, by omega, by omega, h2⟩
    · rcases key (pr row 3) (min (pr row 4) (pr row 5)) with h3 | h3
      · exact ⟨3, by omega, by omega, h2.trans h3⟩
      · rcases key (pr row 4) (pr row 5) with h4 | h4
        · exact ⟨4, by omega, by omega, (h2.trans h3).trans h4⟩
        · exact ⟨5, by omega, by omega, (h2.trans h3).trans h4⟩
  · rcases key (pr row 3) (min (pr row 4) (pr row 5)) with h3 | h3
    · exact ⟨3, by omega, by omega, h3⟩
    · rcases key (pr row 4) (pr row 5) with h4 | h4
      · exact ⟨4, by omega, by omega, h3.trans h4⟩
      · exact ⟨5, by omega, by omega, h3.trans h4⟩
  · rcases key (pr row 4) (pr row 5) with h4 | h4
    · exact ⟨4, by omega, by omega, h4⟩
    · exact ⟨5, by omega, by omega, h4⟩
  · exact ⟨5, by omega, by omega, rfl⟩
/-- a price that is the least of the row's for so many or for more is best -/
theorem best_eq {row : Row} {z : Nat} (hz : 1 ≤ z) (h5 : z ≤ 5) {b : Int} (at_ : ∃ j, z ≤ j ∧ j ≤ 5 ∧ b = pr row j) (le : ∀ j, z ≤ j → j ≤ 5 → b ≤ pr row j) : b = best row z := by
  obtain ⟨j, h1, h2, e⟩ := at_
  obtain ⟨k, k1, k2, e2⟩ := best_at row hz h5
  have a := best_le row hz h1 h2
  have c := le k k1 k2
  omega
structure Tar where
  s : Row
  d : Row
  w : Row
/-- all prices from nought on -/
structure Tar.Ok (T : Tar) : Prop where
  s : ∀ j, 1 ≤ j → j ≤ 5 → 0 ≤ pr T.s j
  d : ∀ j, 1 ≤ j → j ≤ 5 → 0 ≤ pr T.d j
  w : ∀ j, 1 ≤ j → j ≤ 5 → 0 ≤ pr T.w j
theorem best_nonneg {row : Row} (h : ∀ j, 1 ≤ j → j ≤ 5 → 0 ≤ pr row j) {z : Nat} (hz : 1 ≤ z) (h5 : z ≤ 5) : 0 ≤ best row z := by
  obtain ⟨j, h1, h2, e⟩ := best_at row hz h5
  rw [e]
  exact h j (by omega) h2
/-- a ticket for o zones, or none where o is 0 -/
def op (row : Row) (o : Nat) : Int := if o = 0 then 0 else best row o
theorem op_nonneg {row : Row} (h : ∀ j, 1 ≤ j → j ≤ 5 → 0 ≤ pr row j) {o : Nat} (h5 : o ≤ 5) : 0 ≤ op row o := by
  unfold op
  split
  · exact Int.le_refl _
  · exact best_nonneg h (by omega) h5
/-! the least over 0 to 5 -/
def m6 (f : Nat → Int) : Int := min (f 0) (min (f 1) (min (f 2) (min (f 3) (min (f 4) (f 5)))))
theorem m6_le (f : Nat → Int) {i : Nat} (h : i ≤ 5) : m6 f ≤ f i := by
  unfold m6
  have : i = 0 ∨ i = 1 ∨ i = 2 ∨ i = 3 ∨ i = 4 ∨ i = 5 := by omega
  rcases this with rfl | rfl | rfl | rfl | rfl | rfl <;> omega
theorem m6_ge (f : Nat → Int) {x : Int} (h : ∀ i, i ≤ 5 → x ≤ f i) : x ≤ m6 f := by
  unfold m6
  have h0 := h 0 (by omega)
  have h1 := h 1 (by omega)
  have h2 := h 2 (by omega)
  have h3 := h 3 (by omega)
  have h4 := h 4 (by omega)
  have h5 := h 5 (by omega)
  omega
theorem m6_at (f : Nat → Int) : ∃ i, i ≤ 5 ∧ m6 f = f i := by
  have key : ∀ a b : Int, min a b = a ∨ min a b = b := fun a b => by omega
  apply Classical.byContradiction
  intro no
  have h : ∀ i, i ≤ 5 → m6 f + 1 ≤ f i := fun i hi => by
    have a := m6_le f hi
    have b : m6 f ≠ f i := fun e => no ⟨i, hi, e⟩
    omega
  have := m6_ge f h
  omega
theorem m6_mono {f g : Nat → Int} (h : ∀ i, i ≤ 5 → f i ≤ g i) : m6 f ≤ m6 g := m6_ge g fun i hi => Int.le_trans (m6_le f hi) (h i hi)
theorem m6_congr {f g : Nat → Int} (h : ∀ i, i ≤ 5 → f i = g i) : m6 f = m6 g := Int.le_antisymm (m6_mono fun i hi => Int.le_of_eq (h i hi)) (m6_mono fun i hi => Int.le_of_eq (h i hi).symm)
/-! the least cost as a function -/
/-- what a ride of z zones still costs where tickets for h zones are held -/
def need (T : Tar) (h z : Nat) : Int := if z ≤ h then 0 else best T.s z
def restF (T : Tar) (h : Nat) (zs : List Nat) : Int := (zs.map (need T h)).sum
/-- one day beside a week ticket for w zones -/
def dayF (T : Tar) (w : Nat) (zs : List Nat) : Int := m6 fun o => op T.d o + restF T (max w o) zs
def weekF (T : Tar) (w : Nat) (days : List (List Nat)) : Int := op T.w w + (days.map (dayF T w)).sum
def leastF (T : Tar) (days : List (List Nat)) : Int := m6 fun w => weekF T w days
/-- rides of 1 to 5 zones -/
def In5 (days : List (List Nat)) : Prop := ∀ zs, zs ∈ days → ∀ z, z ∈ zs → 1 ≤ z ∧ z ≤ 5
section
variable {T : Tar}
theorem need_nonneg (h : T.Ok) {k z : Nat} (hz : 1 ≤ z ∧ z ≤ 5) : 0 ≤ need T k z := by
  unfold need
  split
  · exact Int.le_refl _
  · exact best_nonneg h.s hz.1 hz.2
theorem rest_nonneg (h : T.Ok) {k : Nat} {zs : List Nat} (hz : ∀ z, z ∈ zs → 1 ≤ z ∧ z ≤ 5) : 0 ≤ restF T k zs := sum_nonneg fun z m => need_nonneg h (hz z m)
theorem dayF_nonneg (h : T.Ok) {w : Nat} {zs : List Nat} (hz : ∀ z, z ∈ zs → 1 ≤ z ∧ z ≤ 5) : 0 ≤ dayF T w zs := m6_ge _ fun o ho => by
  have := op_nonneg h.d ho
  have := rest_nonneg h (k := max w o) hz
  omega
theorem dayF_nil (h : T.Ok) (w : Nat) : dayF T w [] = 0 := by
  refine Int.le_antisymm ?_ (dayF_nonneg h fun z m => by simp at m)
  have := m6_le (fun o => op T.d o + restF T (max w o) []) (i := 0) (by omega)
  exact this
theorem leastF_nonneg (h : T.Ok) {days : List (List Nat)} (hd : In5 days) : 0 ≤ leastF T days := m6_ge _ fun w hw => by
  have h1 := op_nonneg h.w hw
  have h2 : 0 ≤ (days.map (dayF T w)).sum := sum_nonneg fun zs m => dayF_nonneg h (hd zs m)
  show 0 ≤ op T.w w + _
  omega
theorem leastF_empty (h : T.Ok) {days : List (List Nat)} (hd : ∀ zs, zs ∈ days → zs = []) : leastF T days = 0 := by
  have h0 : ∀ w, (days.map (dayF T w)).sum = 0 := fun w => by
    have e : ∀ zs, zs ∈ days → dayF T w zs = (fun _ => (0 : Int)) zs := fun zs m => by rw [hd zs m, dayF_nil h]
    rw [List.map_congr_left e]
    exact sum_zero days
  refine Int.le_antisymm ?_ (leastF_nonneg h fun zs m z mz => by rw [hd zs m] at mz; simp at mz)
  have := m6_le (fun w => weekF T w days) (i := 0) (by omega)
  have e : weekF T 0 days = 0 := by
    unfold weekF
    rw [h0 0]
    rfl
  rw [e] at this
  exact this
/-- the order within a day is no matter -/
theorem dayF_perm {w : Nat} {zs zs' : List Nat} (p : zs.Perm zs') : dayF T w zs = dayF T w zs' := m6_congr fun o _ => by
  unfold restF
  rw [sum_perm p]
/-! one day changed -/
theorem sum_set {α : Type} (g : α → Int) : ∀ {l : List α} {d : Nat} {a b : α}, l[d]? = some a → ((l.set d b).map g).sum = (l.map g).sum - g a + g b
  | [], _, _, _, h => by simp at h
  | x :: l, 0, a, b, h => by
    have e : x = a := Option.some.inj h
    subst e
    show ((b :: l).map g).sum = ((x :: l).map g).sum - g x + g b
    rw [List.map_cons, List.map_cons, List.sum_cons, List.sum_cons]
    omega
  | x :: l, d + 1, a, b, h => by
    have ih := sum_set g (l := l) (d := d) (a := a) (b := b) h
    show ((x :: l.set d b).map g).sum = ((x :: l).map g).sum - g a + g b
    rw [List.map_cons, List.map_cons, List.sum_cons, List.sum_cons, ih]
    omega
theorem least_set_le {days : List (List Nat)} {d : Nat} {zs zs' : List Nat} (e : days[d]? = some zs) {x : Int} (h : ∀ w, w ≤ 5 → dayF T w zs' ≤ dayF T w zs + x) : leastF T (days.set d zs') ≤ leastF T days + x := by
  obtain ⟨w, hw, ew⟩ := m6_at fun w => weekF T w days
  have h1 := m6_le (fun w => weekF T w (days.set d zs')) hw
  have h2 : weekF T w (days.set d zs') ≤ weekF T w days + x := by
    unfold weekF
    rw [sum_set _ e]
    have := h w hw
    omega
  have h3 : leastF T days = weekF T w days := ew
  have h4 : leastF T (days.set d zs') ≤ weekF T w (days.set d zs') := h1
  omega
theorem rest_snoc (h : Nat) (zs : List Nat) (z : Nat) : restF T h (zs ++ [z]) = restF T h zs + need T h z := by
  unfold restF
  rw [List.map_append, List.sum_append, List.map_singleton, List.sum_singleton]
theorem dayF_more (ok : T.Ok) {w : Nat} {zs : List Nat} {z : Nat} (hz : 1 ≤ z ∧ z ≤ 5) : dayF T w zs ≤ dayF T w (zs ++ [z]) := m6_mono fun o _ => by
  rw [rest_snoc]
  have := need_nonneg ok (k := max w o) hz
  omega
theorem dayF_snoc (ok : T.Ok) {w : Nat} {zs : List Nat} {z : Nat} (hz : 1 ≤ z ∧ z ≤ 5) : dayF T w (zs ++ [z]) ≤ dayF T w zs + best T.s z := by
  obtain ⟨o, ho, e⟩ := m6_at fun o => op T.d o + restF T (max w o) zs
  have h1 := m6_le (fun o => op T.d o + restF T (max w o) (zs ++ [z])) ho
  have h2 : need T (max w o) z ≤ best T.s z := by
    have := best_nonneg ok.s hz.1 hz.2
    unfold need
    split
    · exact this
    · exact Int.le_refl _
  have h3 : op T.d o + restF T (max w o) (zs ++ [z]) = op T.d o + restF T (max w o) zs + need T (max w o) z := by
    rw [rest_snoc]
    omega
  have h4 : dayF T w zs = op T.d o + restF T (max w o) zs := e
  have h5 : dayF T w (zs ++ [z]) ≤ op T.d o + restF T (max w o) (zs ++ [z]) := h1
  omega
/-- a ride more costs from nought on, and no more than a single -/
theorem least_more (ok : T.Ok) {days : List (List Nat)} {d : Nat} {zs : List Nat} {z : Nat} (e : days[d]? = some zs) (hz : 1 ≤ z ∧ z ≤ 5) : leastF T days ≤ leastF T (days.set d (zs ++ [z])) := by
  have hd := (List.getElem?_eq_some_iff.mp e).1
  have e2 : (days.set d (zs ++ [z]))[d]? = some (zs ++ [z]) := List.getElem?_set_self hd
  have h := least_set_le (T := T) (zs' := zs) e2 (x := 0) fun w _ => by
    have := dayF_more ok (w := w) (zs := zs) hz
    omega
  rw [List.set_set] at h
  have e3 : days.set d zs = days := by
    obtain ⟨h1, h2⟩ := List.getElem?_eq_some_iff.mp e
    rw [← h2]
    exact List.set_getElem_self h1
  rw [e3] at h
  omega
theorem least_single (ok : T.Ok) {days : List (List Nat)} {d : Nat} {zs : List Nat} {z : Nat} (e : days[d]? = some zs) (hz : 1 ≤ z ∧ z ≤ 5) : leastF T (days.set d (zs ++ [z])) ≤ leastF T days + best T.s z :=
  least_set_le e fun w _ => dayF_snoc ok hz
theorem need_zero {h z : Nat} (e : z ≤ h) : need T h z = 0 := if_pos e
theorem rest_zero {h : Nat} : ∀ {zs : List Nat}, (∀ z, z ∈ zs → z ≤ h) → restF T h zs = 0
  | [], _ => rfl
  | z :: zs, e => by
    unfold restF
    rw [List.map_cons, List.sum_cons, need_zero (e z List.mem_cons_self)]
    have := rest_zero (h := h) (zs := zs) fun y m => e y (List.mem_cons_of_mem _ m)
    unfold restF at this
    rw [this]
    rfl
/-- a day costs no more than a day ticket for its greatest zones -/
theorem dayF_cap (ok : T.Ok) {w m : Nat} {zs : List Nat} (hm : 1 ≤ m ∧ m ≤ 5) (hz : ∀ z, z ∈ zs → z ≤ m) : dayF T w zs ≤ best T.d m := by
  have h := m6_le (fun o => op T.d o + restF T (max w o) zs) hm.2
  have h2 : restF T (max w m) zs = 0 := rest_zero fun z mz => Nat.le_trans (hz z mz) (Nat.le_max_right _ _)
  have h3 : op T.d m = best T.d m := if_neg (by omega)
  have h4 : dayF T w zs ≤ op T.d m + restF T (max w m) zs := h
  omega
theorem least_day_cap (ok : T.Ok) {days : List (List Nat)} {d m : Nat} {zs zs0 : List Nat} (e : days[d]? = some zs0) (h0 : zs0 = []) (hm : 1 ≤ m ∧ m ≤ 5) (hz : ∀ z, z ∈ zs → z ≤ m) : leastF T (days.set d zs) ≤ leastF T days + best T.d m :=
  least_set_le e fun w _ => by
    subst h0
    rw [dayF_nil ok]
    have := dayF_cap ok (w := w) hm hz
    omega
theorem least_week_cap (ok : T.Ok) {days : List (List Nat)} {m : Nat} (hm : 1 ≤ m ∧ m ≤ 5) (hd : In5 days) (hz : ∀ zs, zs ∈ days → ∀ z, z ∈ zs → z ≤ m) : leastF T days ≤ best T.w m := by
  have h := m6_le (fun w => weekF T w days) hm.2
  have h0 : (days.map (dayF T m)).sum ≤ (days.map fun _ => (0 : Int)).sum := sum_le fun zs mz => by
    have h := m6_le (fun o => op T.d o + restF T (max m o) zs) (i := 0) (by omega)
    have h2 : restF T (max m 0) zs = 0 := rest_zero fun z mz' => Nat.le_trans (hz zs mz z mz') (Nat.le_max_left _ _)
    have h3 : op T.d 0 = 0 := rfl
    have h4 : dayF T m zs ≤ op T.d 0 + restF T (max m 0) zs := h
    omega
  have hzero := sum_zero days
  have h3 : op T.w m = best T.w m := if_neg (by omega)
  have h4 : leastF T days ≤ op T.w m + (days.map (dayF T m)).sum := h
  omega
/-! one ride -/
theorem dayF_one (ok : T.Ok) {w z : Nat} (hz : 1 ≤ z ∧ z ≤ 5) (hw : w ≤ 5) : dayF T w [z] = if z ≤ w then 0 else min (best T.s z) (best T.d z) := by
  have rest1 : ∀ h, restF T h [z] = need T h z := fun h => by
    unfold restF
    rw [List.map_singleton, List.sum_singleton]
  have bs := best_nonneg ok.s hz.1 hz.2
  have bd := best_nonneg ok.d hz.1 hz.2
  by_cases c : z ≤ w
  · rw [if_pos c]
    refine Int.le_antisymm ?_ (dayF_nonneg ok fun y m => by rw [List.mem_singleton.mp m]; exact hz)
    have h := m6_le (fun o => op T.d o + restF T (max w o) [z]) (i := 0) (by omega)
    have h2 : restF T (max w 0) [z] = 0 := rest_zero fun y m => by
      rw [List.mem_singleton.mp m]
      exact Nat.le_trans c (Nat.le_max_left _ _)
    have h3 : dayF T w [z] ≤ op T.d 0 + restF T (max w 0) [z] := h
    have h4 : op T.d 0 = 0 := rfl
    omega
  · rw [if_neg c]
    refine Int.le_antisymm ?_ (m6_ge _ fun o ho => ?_)
    · have h := m6_le (fun o => op T.d o + restF T (max w o) [z]) (i := 0) (by omega)
      have h2 := m6_le (fun o => op T.d o + restF T (max w o) [z]) hz.2
      have e1 : restF T (max w 0) [z] = best T.s z := by
        rw [rest1]
        exact if_neg (by omega)
      have e2 : restF T (max w z) [z] = 0 := by
        rw [rest1]
        exact if_pos (Nat.le_max_right _ _)
      have e3 : op T.d z = best T.d z := if_neg (by omega)
      have h3 : dayF T w [z] ≤ op T.d 0 + restF T (max w 0) [z] := h
      have h4 : dayF T w [z] ≤ op T.d z + restF T (max w z) [z] := h2
      have h5 : op T.d 0 = 0 := rfl
      omega
    · rw [rest1]
      by_cases c2 : z ≤ max w o
      · have e1 : need T (max w o) z = 0 := if_pos c2
        have co : z ≤ o := by omega
        have e2 : op T.d o = best T.d o := if_neg (by omega)
        have h1 : best T.d z ≤ best T.d o := by
          obtain ⟨j, a, b, e⟩ := best_at T.d (z := o) (by omega) ho
          rw [e]
          exact best_le T.d hz.1 (by omega) b
        omega
      · have e1 : need T (max w o) z = best T.s z := if_neg c2
        have := op_nonneg ok.d ho
        omega
/-- the charge of a card's one ride -/
theorem least_one (ok : T.Ok) {days : List (List Nat)} {d z : Nat} (hd : ∀ zs, zs ∈ days → zs = []) (h : d < days.length) (hz : 1 ≤ z ∧ z ≤ 5) : leastF T (days.set d [z]) = min (best T.s z) (min (best T.d z) (best T.w z)) := by
  have e : days[d]? = some [] := by
    rw [List.getElem?_eq_getElem h]
    exact congrArg some (hd _ (List.getElem_mem h))
  have h0 : ∀ w, (days.map (dayF T w)).sum = 0 := fun w => by
    have e : ∀ zs, zs ∈ days → dayF T w zs = (fun _ => (0 : Int)) zs := fun zs m => by rw [hd zs m, dayF_nil ok]
    rw [List.map_congr_left e]
    exact sum_zero days
  have wk : ∀ w, w ≤ 5 → weekF T w (days.set d [z]) = op T.w w + if z ≤ w then 0 else min (best T.s z) (best T.d z) := fun w hw => by
    unfold weekF
    rw [sum_set _ e, h0, dayF_nil ok, dayF_one ok hz hw]
    omega
  have bs := best_nonneg ok.s hz.1 hz.2
  have bd := best_nonneg ok.d hz.1 hz.2
  refine Int.le_antisymm ?_ (m6_ge _ fun w hw => ?_)
  · have a := m6_le (fun w => weekF T w (days.set d [z])) (i := 0) (by omega)
    have b := m6_le (fun w => weekF T w (days.set d [z])) hz.2
    have a2 : leastF T (days.set d [z]) ≤ weekF T 0 (days.set d [z]) := a
    have b2 : leastF T (days.set d [z]) ≤ weekF T z (days.set d [z]) := b
    rw [wk 0 (by omega), if_neg (by omega)] at a2
    rw [wk z hz.2, if_pos (Nat.le_refl _)] at b2
    have e0 : op T.w 0 = 0 := rfl
    have e1 : op T.w z = best T.w z := if_neg (by omega)
    omega
  · rw [wk w hw]
    by_cases c : z ≤ w
    · rw [if_pos c]
      have e1 : op T.w w = best T.w w := if_neg (by omega)
      have h1 : best T.w z ≤ best T.w w := by
        obtain ⟨j, a, b, e⟩ := best_at T.w (z := w) (by omega) hw
        rw [e]
        exact best_le T.w hz.1 (by omega) b
      omega
    · rw [if_neg c]
      have := op_nonneg ok.w hw
      omega
/-! tickets that serve cost no less -/
inductive Tk
  | week (z : Nat)
  | day (d z : Nat)
  | single (d i z : Nat)
def Tk.price (T : Tar) : Tk → Int
  | .week z => pr T.w z
  | .day _ z => pr T.d z
  | .single _ _ z => pr T.s z
def Tk.Ok : Tk → Prop
  | .week z => 1 ≤ z ∧ z ≤ 5
  | .day _ z => 1 ≤ z ∧ z ≤ 5
  | .single _ _ z => 1 ≤ z ∧ z ≤ 5
/-- the ticket serves the ride i of the day d, of z zones -/
def Tk.Serves : Tk → Nat → Nat → Nat → Prop
  | .week z', _, _, z => z ≤ z'
  | .day d' z', d, _, z => d = d' ∧ z ≤ z'
  | .single d' i' z', d, i, z => d = d' ∧ i = i' ∧ z ≤ z'
def cost (T : Tar) (ts : List Tk) : Int := (ts.map (Tk.price T)).sum
def AllServed (ts : List Tk) (days : List (List Nat)) : Prop := ∀ d i z zs, days[d]? = some zs → zs[i]? = some z → ∃ t, t ∈ ts ∧ t.Serves d i z
def wC (T : Tar) : Tk → Int
  | .week z => pr T.w z
  | _ => 0
def dC (T : Tar) (d : Nat) : Tk → Int
  | .day d' z => if d = d' then pr T.d z else 0
  | _ => 0
def sC (T : Tar) (d i : Nat) : Tk → Int
  | .single d' i' z => if d = d' then (if i = i' then pr T.s z else 0) else 0
  | _ => 0
theorem Tk.price_nonneg (ok : T.Ok) {t : Tk} (h : t.Ok) : 0 ≤ t.price T := by
  cases t with
  | week z => exact ok.w z h.1 h.2
  | day d z => exact ok.d z h.1 h.2
  | single d i z => exact ok.s z h.1 h.2
theorem wC_nonneg (ok : T.Ok) {t : Tk} (h : t.Ok) : 0 ≤ wC T t := by
  cases t with
  | week z => exact ok.w z h.1 h.2
  | day d z => exact Int.le_refl _
  | single d i z => exact Int.le_refl _
theorem dC_nonneg (ok : T.Ok) {d : Nat} {t : Tk} (h : t.Ok) : 0 ≤ dC T d t := by
  cases t with
  | week z => exact Int.le_refl _
  | day d' z =>
    show 0 ≤ if d = d' then pr T.d z else 0
    split
    · exact ok.d z h.1 h.2
    · exact Int.le_refl _
  | single d i z => exact Int.le_refl _
theorem sC_nonneg (ok : T.Ok) {d i : Nat} {t : Tk} (h : t.Ok) : 0 ≤ sC T d i t := by
  cases t with
  | week z => exact Int.le_refl _
  | day d' z => exact Int.le_refl _
  | single d' i' z =>
    show 0 ≤ if d = d' then (if i = i' then pr T.s z else 0) else 0
    split
    · split
      · exact ok.s z h.1 h.2
      · exact Int.le_refl _
    · exact Int.le_refl _
theorem parts_one (ok : T.Ok) (n : Nat) (len : Nat → Nat) {t : Tk} (h : t.Ok) : wC T t + sumR n (fun d => dC T d t + sumR (len d) (fun i => sC T d i t)) ≤ t.price T := by
  have pn := Tk.price_nonneg ok h
  have z0 : sumR n (fun d => (0 : Int) + sumR (len d) (fun _ => 0)) = 0 := by
    rw [sumR_congr n (g := fun _ => 0) fun d _ => by rw [sumR_zero]; rfl]
    exact sumR_zero n
  cases t with
  | week z =>
    show pr T.w z + sumR n (fun d => (0 : Int) + sumR (len d) (fun _ => 0)) ≤ pr T.w z
    rw [z0]
    omega
  | day d' z =>
    show 0 + sumR n (fun d => (if d = d' then pr T.d z else 0) + sumR (len d) (fun _ => 0)) ≤ pr T.d z
    rw [sumR_congr n (g := fun d => if d = d' then pr T.d z else 0) fun d _ => by rw [sumR_zero, Int.add_zero], sumR_ind]
    have : 0 ≤ pr T.d z := pn
    split <;> omega
  | single d' i' z =>
    have hp : 0 ≤ pr T.s z := pn
    show 0 + sumR n (fun d => 0 + sumR (len d) (fun i => if d = d' then (if i = i' then pr T.s z else 0) else 0)) ≤ pr T.s z
    have h1 := sumR_le n (f := fun d => 0 + sumR (len d) (fun i => if d = d' then (if i = i' then pr T.s z else 0) else 0)) (g := fun d => if d = d' then pr T.s z else 0) fun d _ => by
      show 0 + sumR (len d) (fun i => if d = d' then (if i = i' then pr T.s z else 0) else 0) ≤ _
      by_cases e : d = d'
      · have e2 : sumR (len d) (fun i => if d = d' then (if i = i' then pr T.s z else 0) else 0) = sumR (len d) (fun i => if i = i' then pr T.s z else 0) := sumR_congr _ fun i _ => if_pos e
        rw [e2, sumR_ind, if_pos e]
        split <;> omega
      · have e2 : sumR (len d) (fun i => if d = d' then (if i = i' then pr T.s z else 0) else 0) = sumR (len d) (fun _ => 0) := sumR_congr _ fun i _ => if_neg e
        rw [e2, sumR_zero, if_neg e]
        omega
    rw [sumR_ind] at h1
    split at h1 <;> omega
theorem parts_all (ok : T.Ok) (n : Nat) (len : Nat → Nat) : ∀ ts : List Tk, (∀ t, t ∈ ts → t.Ok) →
    (ts.map (wC T)).sum + sumR n (fun d => (ts.map (dC T d)).sum + sumR (len d) (fun i => (ts.map (sC T d i)).sum)) ≤ cost T ts
  | [], _ => by
    have z0 : sumR n (fun d => (0 : Int) + sumR (len d) (fun _ => 0)) = 0 := by
      rw [sumR_congr n (g := fun _ => 0) fun d _ => by rw [sumR_zero]; rfl]
      exact sumR_zero n
    show 0 + sumR n (fun d => (0 : Int) + sumR (len d) (fun _ => 0)) ≤ 0
    rw [z0]
    omega
  | t :: ts, h => by
    have ih := parts_all ok n len ts fun u m => h u (List.mem_cons_of_mem _ m)
    have h1 := parts_one ok n len (h t List.mem_cons_self)
    have e : sumR n (fun d => ((t :: ts).map (dC T d)).sum + sumR (len d) (fun i => ((t :: ts).map (sC T d i)).sum)) =
        sumR n (fun d => dC T d t + sumR (len d) (fun i => sC T d i t)) + sumR n (fun d => (ts.map (dC T d)).sum + sumR (len d) (fun i => (ts.map (sC T d i)).sum)) := by
      rw [← sumR_add]
      refine sumR_congr n fun d _ => ?_
      have e2 : sumR (len d) (fun i => ((t :: ts).map (sC T d i)).sum) = sumR (len d) (fun i => sC T d i t) + sumR (len d) (fun i => (ts.map (sC T d i)).sum) := by
        rw [← sumR_add]
        exact sumR_congr _ fun i _ => by rw [List.map_cons, List.sum_cons]
      rw [e2, List.map_cons, List.sum_cons]
      omega
    rw [e, List.map_cons, List.sum_cons]
    have e3 : cost T (t :: ts) = t.price T + cost T ts := by
      unfold cost
      rw [List.map_cons, List.sum_cons]
    rw [e3]
    omega
def maxW : List Tk → Nat
  | [] => 0
  | .week z :: r => max z (maxW r)
  | _ :: r => maxW r
def maxD (d : Nat) : List Tk → Nat
  | [] => 0
  | .day d' z :: r => if d = d' then max z (maxD d r) else maxD d r
  | _ :: r => maxD d r
theorem maxW_le : ∀ {ts : List Tk}, (∀ t, t ∈ ts → t.Ok) → maxW ts ≤ 5
  | [], _ => Nat.zero_le _
  | .week z :: r, h => Nat.max_le.mpr ⟨(h _ List.mem_cons_self).2, maxW_le fun t m => h t (List.mem_cons_of_mem _ m)⟩
  | .day _ _ :: r, h => maxW_le (ts := r) fun t m => h t (List.mem_cons_of_mem _ m)
  | .single _ _ _ :: r, h => maxW_le (ts := r) fun t m => h t (List.mem_cons_of_mem _ m)
theorem maxD_le (d : Nat) : ∀ {ts : List Tk}, (∀ t, t ∈ ts → t.Ok) → maxD d ts ≤ 5
  | [], _ => Nat.zero_le _
  | .week _ :: r, h => maxD_le d (ts := r) fun t m => h t (List.mem_cons_of_mem _ m)
  | .day d' z :: r, h => by
    have ih := maxD_le d (ts := r) fun t m => h t (List.mem_cons_of_mem _ m)
    show (if d = d' then max z (maxD d r) else maxD d r) ≤ 5
    split
    · exact Nat.max_le.mpr ⟨(h _ List.mem_cons_self).2, ih⟩
    · exact ih
  | .single _ _ _ :: r, h => maxD_le d (ts := r) fun t m => h t (List.mem_cons_of_mem _ m)
theorem in_maxW {z : Nat} : ∀ {ts : List Tk}, Tk.week z ∈ ts → z ≤ maxW ts
  | [], h => by simp at h
  | .week y :: r, h => by
    rcases List.mem_cons.mp h with e | h
    · cases e
      exact Nat.le_max_left _ _
    · exact Nat.le_trans (in_maxW h) (Nat.le_max_right _ _)
  | .day _ _ :: r, h => by
    rcases List.mem_cons.mp h with e | h
    · cases e
    · exact in_maxW (ts := r) h
  | .single _ _ _ :: r, h => by
    rcases List.mem_cons.mp h with e | h
    · cases e
    · exact in_maxW (ts := r) h
theorem in_maxD {d z : Nat} : ∀ {ts : List Tk}, Tk.day d z ∈ ts → z ≤ maxD d ts
  | [], h => by simp at h
  | .week _ :: r, h => by
    rcases List.mem_cons.mp h with e | h
    · cases e
    · exact in_maxD (ts := r) h
  | .day d' y :: r, h => by
    show z ≤ if d = d' then max y (maxD d r) else maxD d r
    rcases List.mem_cons.mp h with e | h
    · cases e
      rw [if_pos rfl]
      exact Nat.le_max_left _ _
    · have := in_maxD (ts := r) h
      split
      · exact Nat.le_trans this (Nat.le_max_right _ _)
      · exact this
  | .single _ _ _ :: r, h => by
    rcases List.mem_cons.mp h with e | h
    · cases e
    · exact in_maxD (ts := r) h
theorem op_max {row : Row} (hr : ∀ j, 1 ≤ j → j ≤ 5 → 0 ≤ pr row j) {z m : Nat} {x : Int} (hz : 1 ≤ z ∧ z ≤ 5) (hx : 0 ≤ x) (h : op row m ≤ x) : op row (max z m) ≤ pr row z + x := by
  have p0 := hr z hz.1 hz.2
  rcases Nat.le_total z m with c | c
  · rw [Nat.max_eq_right c]
    omega
  · rw [Nat.max_eq_left c]
    have e : op row z = best row z := if_neg (by omega)
    have := best_le row hz.1 (Nat.le_refl z) hz.2
    omega
theorem maxW_cost (ok : T.Ok) : ∀ {ts : List Tk}, (∀ t, t ∈ ts → t.Ok) → op T.w (maxW ts) ≤ (ts.map (wC T)).sum
  | [], _ => Int.le_refl _
  | .week z :: r, h => by
    have hr := fun t m => h t (List.mem_cons_of_mem _ m)
    rw [List.map_cons, List.sum_cons]
    exact op_max ok.w (h _ List.mem_cons_self) (sum_nonneg fun t m => wC_nonneg ok (hr t m)) (maxW_cost ok hr)
  | .day d z :: r, h => by
    rw [List.map_cons, List.sum_cons]
    have := maxW_cost ok (ts := r) fun t m => h t (List.mem_cons_of_mem _ m)
    show op T.w (maxW r) ≤ 0 + _
    omega
  | .single d i z :: r, h => by
    rw [List.map_cons, List.sum_cons]
    have := maxW_cost ok (ts := r) fun t m => h t (List.mem_cons_of_mem _ m)
    show op T.w (maxW r) ≤ 0 + _
    omega
theorem maxD_cost (ok : T.Ok) (d : Nat) : ∀ {ts : List Tk}, (∀ t, t ∈ ts → t.Ok) → op T.d (maxD d ts) ≤ (ts.map (dC T d)).sum
  | [], _ => Int.le_refl _
  | .week z :: r, h => by
    rw [List.map_cons, List.sum_cons]
    have := maxD_cost ok d (ts := r) fun t m => h t (List.mem_cons_of_mem _ m)
    show op T.d (maxD d r) ≤ 0 + _
    omega
  | .day d' z :: r, h => by
    have hr := fun t m => h t (List.mem_cons_of_mem _ m)
    have ih := maxD_cost ok d hr
    rw [List.map_cons, List.sum_cons]
    show op T.d (if d = d' then max z (maxD d r) else maxD d r) ≤ (if d = d' then pr T.d z else 0) + _
    split
    · exact op_max ok.d (h _ List.mem_cons_self) (sum_nonneg fun t m => dC_nonneg ok (hr t m)) ih
    · omega
  | .single d' i z :: r, h => by
    rw [List.map_cons, List.sum_cons]
    have := maxD_cost ok d (ts := r) fun t m => h t (List.mem_cons_of_mem _ m)
    show op T.d (maxD d r) ≤ 0 + _
    omega
theorem mem_sum_le {α : Type} {f : α → Int} {a : α} : ∀ {l : List α}, (∀ b, b ∈ l → 0 ≤ f b) → a ∈ l → f a ≤ (l.map f).sum
  | [], _, m => by simp at m
  | b :: l, h, m => by
    rw [List.map_cons, List.sum_cons]
    rcases List.mem_cons.mp m with e | m
    · rw [← e]
      have := sum_nonneg (f := f) (l := l) fun c mc => h c (List.mem_cons_of_mem _ mc)
      omega
    · have := mem_sum_le (l := l) (fun c mc => h c (List.mem_cons_of_mem _ mc)) m
      have := h b List.mem_cons_self
      omega
/-- any tickets that serve all rides cost no less than the least -/
theorem leastF_le (ok : T.Ok) {days : List (List Nat)} (h5 : In5 days) {ts : List Tk} (hok : ∀ t, t ∈ ts → t.Ok) (hs : AllServed ts days) : leastF T days ≤ cost T ts := by
  have h0 := parts_all ok days.length (fun d => (days.getD d []).length) ts hok
  have hw := maxW_cost ok hok
  have h1 := m6_le (fun w => weekF T w days) (maxW_le hok)
  have h2 : leastF T days ≤ op T.w (maxW ts) + (days.map (dayF T (maxW ts))).sum := h1
  rw [sum_sumR (dayF T (maxW ts)) [] days] at h2
  have h3 := sumR_le days.length (f := fun d => dayF T (maxW ts) (days.getD d [])) (g := fun d => (ts.map (dC T d)).sum + sumR ((days.getD d []).length) (fun i => (ts.map (sC T d i)).sum)) fun d hd => by
    have ed : days[d]? = some (days.getD d []) := by
      rw [List.getD_eq_getElem?_getD, List.getElem?_eq_getElem hd]
      rfl
    have a := m6_le (fun o => op T.d o + restF T (max (maxW ts) o) (days.getD d [])) (maxD_le d hok)
    have a2 : dayF T (maxW ts) (days.getD d []) ≤ op T.d (maxD d ts) + restF T (max (maxW ts) (maxD d ts)) (days.getD d []) := a
    have b := maxD_cost ok d hok
    unfold restF at a2
    rw [sum_sumR (need T (max (maxW ts) (maxD d ts))) 0] at a2
    have c := sumR_le (days.getD d []).length (f := fun i => need T (max (maxW ts) (maxD d ts)) ((days.getD d []).getD i 0)) (g := fun i => (ts.map (sC T d i)).sum) fun i hi => by
      have ei : (days.getD d [])[i]? = some ((days.getD d []).getD i 0) := by
        rw [List.getD_eq_getElem?_getD (l := days.getD d []), List.getElem?_eq_getElem hi]
        rfl
      have sn : 0 ≤ (ts.map (sC T d i)).sum := sum_nonneg fun t m => sC_nonneg ok (hok t m)
      show need T _ _ ≤ _
      unfold need
      split
      · exact sn
      · rename_i nz
        obtain ⟨t, mt, st⟩ := hs d i _ _ ed ei
        cases t with
        | week z' =>
          have : (days.getD d []).getD i 0 ≤ z' := st
          have := in_maxW mt
          exact absurd (Nat.le_trans (by omega : (days.getD d []).getD i 0 ≤ maxW ts) (Nat.le_max_left _ _)) nz
        | day d' z' =>
          obtain ⟨rfl, st⟩ := st
          have := in_maxD mt
          exact absurd (Nat.le_trans (by omega : (days.getD d []).getD i 0 ≤ maxD d ts) (Nat.le_max_right _ _)) nz
        | single d' i' z' =>
          obtain ⟨rfl, rfl, st⟩ := st
          have := mem_sum_le (f := sC T d i) (fun t m => sC_nonneg ok (hok t m)) mt
          have e : sC T d i (.single d i z') = pr T.s z' := by
            show (if d = d then (if i = i then pr T.s z' else 0) else 0) = _
            rw [if_pos rfl, if_pos rfl]
          rw [e] at this
          have hz1 := h5 _ (List.mem_of_getElem? ed) _ (List.mem_of_getElem? ei)
          exact Int.le_trans (best_le T.s hz1.1 st (hok _ mt).2) this
    show dayF T (maxW ts) (days.getD d []) ≤ _
    omega
  omega
end
end FT

end
section
set_option autoImplicit false
set_option linter.all false
namespace FT
/-! Counts of rides by their zones; the cheapest plan: plain mathematics. -/
def cnt (zs : List Nat) : List Nat := (List.range 6).map fun z => zs.count z
theorem cnt_len (zs : List Nat) : (cnt zs).length = 6 := by unfold cnt; rw [List.length_map, List.length_range]
theorem cnt_get {zs : List Nat} {z : Nat} (h : z < 6) : (cnt zs)[z]? = some (zs.count z) := by
  unfold cnt
  rw [List.getElem?_map, List.getElem?_range h]
  rfl
theorem cnt_nil : cnt [] = List.replicate 6 0 := rfl
theorem cnt_snoc {zs : List Nat} {z : Nat} : cnt (zs ++ [z]) = (cnt zs).set z (zs.count z + 1) := by
  apply List.ext_getElem?
  intro i
  rw [List.getElem?_set, cnt_len]
  by_cases hi : i < 6
  · rw [cnt_get hi, List.count_append]
    by_cases e : z = i
    · subst e
      rw [if_pos rfl, if_pos hi, List.count_singleton_self]
    · rw [if_neg e, cnt_get hi, List.count_singleton, if_neg (by simpa using e)]
      rfl
  · rw [List.getElem?_eq_none (by rw [cnt_len]; omega)]
    by_cases e : z = i
    · rw [if_pos e, if_neg (by omega)]
    · rw [if_neg e, List.getElem?_eq_none (by rw [cnt_len]; omega)]
theorem count_le_length (z : Nat) (zs : List Nat) : zs.count z ≤ zs.length := List.count_le_length
section
variable {T : Tar}
theorem need_step {z x : Nat} (hz : 1 ≤ z) (hx : 1 ≤ x) : need T (z - 1) x = need T z x + if x = z then best T.s z else 0 := by
  unfold need
  by_cases e : x = z
  · subst e
    rw [if_neg (by omega), if_pos (Nat.le_refl _), if_pos rfl]
    omega
  · rw [if_neg e]
    by_cases c : x ≤ z
    · rw [if_pos c, if_pos (by omega)]
      omega
    · rw [if_neg c, if_neg (by omega)]
      omega
theorem rest_step {z : Nat} (hz : 1 ≤ z) : ∀ {zs : List Nat}, (∀ x, x ∈ zs → 1 ≤ x ∧ x ≤ 5) → restF T (z - 1) zs = restF T z zs + (zs.count z : Nat) * best T.s z
  | [], _ => by
    show (0 : Int) = 0 + ((0 : Nat) : Int) * _
    simp
  | x :: zs, h => by
    have ih := rest_step hz (zs := zs) fun y m => h y (List.mem_cons_of_mem _ m)
    have e1 : restF T (z - 1) (x :: zs) = need T (z - 1) x + restF T (z - 1) zs := by
      unfold restF
      rw [List.map_cons, List.sum_cons]
    have e2 : restF T z (x :: zs) = need T z x + restF T z zs := by
      unfold restF
      rw [List.map_cons, List.sum_cons]
    rw [e1, e2, ih, need_step hz (h x List.mem_cons_self).1, List.count_cons]
    by_cases e : x = z
    · subst e
      rw [if_pos rfl, if_pos (by simp)]
      rw [Int.natCast_add, Int.add_mul]
      show need T x x + best T.s x + (restF T x zs + _) = need T x x + restF T x zs + (_ + 1 * best T.s x)
      rw [Int.one_mul]
      omega
    · rw [if_neg e, if_neg (by simpa using e)]
      show _ = need T z x + restF T z zs + ((zs.count z + 0 : Nat) : Int) * _
      rw [Nat.add_zero]
      omega
theorem rest_five {zs : List Nat} (h : ∀ x, x ∈ zs → 1 ≤ x ∧ x ≤ 5) : restF T 5 zs = 0 := rest_zero fun x m => (h x m).2
/-- what is least over 0 to 5 is m6 -/
theorem m6_pick {f : Nat → Int} {o : Nat} (ho : o ≤ 5) (h : ∀ i, i ≤ 5 → f o ≤ f i) : f o = m6 f := Int.le_antisymm (m6_ge f h) (m6_le f ho)
/-- the tickets of a plan: zones w of the week's, ds of the days' -/
structure Good (T : Tar) (days : List (List Nat)) (w : Nat) (ds : List Nat) : Prop where
  w5 : w ≤ 5
  len : ds.length = days.length
  at_ : ∀ (i : Nat) (d : Nat) (zs : List Nat), ds[i]? = some d → days[i]? = some zs → d ≤ 5 ∧ op T.d d + restF T (max w d) zs = dayF T w zs
  least : op T.w w + (days.map (dayF T w)).sum = leastF T days
theorem cost_append (ts us : List Tk) : cost T (ts ++ us) = cost T ts + cost T us := by
  unfold cost
  rw [List.map_append, List.sum_append]
theorem cost_one (t : Tk) : cost T [t] = t.price T := by
  unfold cost
  rw [List.map_singleton, List.sum_singleton]
theorem get_snoc {α : Type} {l : List α} {a x : α} {i : Nat} (h : (l ++ [a])[i]? = some x) : l[i]? = some x ∨ (i = l.length ∧ x = a) := by
  rw [List.getElem?_append] at h
  split at h
  · exact .inl h
  · rename_i hi
    have := (List.getElem?_eq_some_iff.mp h).1
    simp at this
    have e : i = l.length := by omega
    subst e
    rw [Nat.sub_self] at h
    cases h
    exact .inr ⟨rfl, rfl⟩
/-- singles for the rides of one day of more than h zones -/
structure SinOk (T : Tar) (d h : Nat) (zs : List Nat) (ts : List Tk) : Prop where
  mem : ∀ t, t ∈ ts → ∃ i k, i < zs.length ∧ t = .single d i k ∧ 1 ≤ k ∧ k ≤ 5
  srv : ∀ i z, zs[i]? = some z → ¬ z ≤ h → ∃ k, Tk.single d i k ∈ ts ∧ z ≤ k
  cost : cost T ts = restF T h zs
  len : ts.length ≤ zs.length
theorem SinOk.nil {d h : Nat} : SinOk T d h [] [] := ⟨fun t m => by simp at m, fun i z e => by simp at e, rfl, Nat.le_refl _⟩
theorem SinOk.skip {d h : Nat} {zs : List Nat} {ts : List Tk} (o : SinOk T d h zs ts) {z : Nat} (c : z ≤ h) : SinOk T d h (zs ++ [z]) ts := by
  refine ⟨fun t m => ?_, fun i x e n => ?_, ?_, ?_⟩
  · obtain ⟨i, k, a, b, c⟩ := o.mem t m
    exact ⟨i, k, by rw [List.length_append]; omega, b, c⟩
  · rcases get_snoc e with e | ⟨_, rfl⟩
    · exact o.srv i x e n
    · exact absurd c n
  · rw [rest_snoc, need_zero c, o.cost]
    omega
  · have := o.len
    rw [List.length_append]
    omega
theorem SinOk.take {d h : Nat} {zs : List Nat} {ts : List Tk} (o : SinOk T d h zs ts) {z k : Nat} (c : ¬ z ≤ h) (hz : 1 ≤ z) (zk : z ≤ k) (k5 : k ≤ 5) (e : pr T.s k = best T.s z) : SinOk T d h (zs ++ [z]) (ts ++ [.single d zs.length k]) := by
  refine ⟨fun t m => ?_, fun i x e' n => ?_, ?_, ?_⟩
  · rcases List.mem_append.mp m with m | m
    · obtain ⟨i, k, a, b, c⟩ := o.mem t m
      exact ⟨i, k, by rw [List.length_append]; omega, b, c⟩
    · exact ⟨zs.length, k, by rw [List.length_append]; simp, List.mem_singleton.mp m, by omega, k5⟩
  · rcases get_snoc e' with e' | ⟨rfl, rfl⟩
    · obtain ⟨k', a, b⟩ := o.srv i x e' n
      exact ⟨k', List.mem_append_left _ a, b⟩
    · exact ⟨k, List.mem_append_right _ (List.mem_singleton.mpr rfl), zk⟩
  · rw [rest_snoc, cost_append, cost_one, o.cost]
    have : need T h z = best T.s z := if_neg c
    rw [this]
    show _ + pr T.s k = _
    rw [e]
  · have := o.len
    rw [List.length_append, List.length_append]
    simp
    omega
def TkIn (days : List (List Nat)) : Tk → Prop
  | .week _ => True
  | .day d _ => d < days.length
  | .single d i _ => ∃ zs, days[d]? = some zs ∧ i < zs.length
/-- the tickets of the first n days -/
structure PlOk (T : Tar) (days : List (List Nat)) (w n : Nat) (ts : List Tk) : Prop where
  mem : ∀ t, t ∈ ts → t.Ok ∧ TkIn days t
  wk : 0 < w → ∃ k, Tk.week k ∈ ts ∧ w ≤ k
  srv : ∀ d i z zs, d < n → days[d]? = some zs → zs[i]? = some z → ∃ t, t ∈ ts ∧ t.Serves d i z
  cost : cost T ts = op T.w w + ((days.take n).map (dayF T w)).sum
  len : ts.length ≤ 1 + ((days.take n).map fun zs => zs.length + 1).sum
theorem PlOk.none {days : List (List Nat)} : PlOk T days 0 0 [] := ⟨fun t m => by simp at m, fun h => absurd h (Nat.lt_irrefl 0), fun d i z zs h => absurd h (Nat.not_lt_zero d), rfl, Nat.zero_le _⟩
theorem PlOk.week {days : List (List Nat)} {w k : Nat} (hw : 0 < w) (wk : w ≤ k) (k5 : k ≤ 5) (e : pr T.w k = best T.w w) : PlOk T days w 0 [.week k] := by
  refine ⟨fun t m => ?_, fun _ => ⟨k, List.mem_singleton.mpr rfl, wk⟩, fun d i z zs h => absurd h (Nat.not_lt_zero d), ?_, Nat.le_refl _⟩
  · rw [List.mem_singleton.mp m]
    exact ⟨⟨by omega, k5⟩, trivial⟩
  · rw [cost_one]
    have : op T.w w = best T.w w := if_neg (by omega)
    rw [this]
    show pr T.w k = best T.w w + 0
    omega
/-- a day more: its ticket, or none, and its singles -/
theorem PlOk.more {days : List (List Nat)} {w n d : Nat} {zs : List Nat} {ts ds us : List Tk} (o : PlOk T days w n ts) (e : days[n]? = some zs) (h1 : ∀ z, z ∈ zs → 1 ≤ z ∧ z ≤ 5) (ed : op T.d d + restF T (max w d) zs = dayF T w zs)
    (hd : (d = 0 ∧ ds = []) ∨ ∃ k, 0 < d ∧ d ≤ k ∧ k ≤ 5 ∧ pr T.d k = best T.d d ∧ ds = [.day n k]) (s : SinOk T n (max w d) zs us) : PlOk T days w (n + 1) (ts ++ ds ++ us) := by
  have hn : n < days.length := (List.getElem?_eq_some_iff.mp e).1
  have et : days.take (n + 1) = days.take n ++ [zs] := by
    rw [List.take_add_one, e]
    rfl
  have cd : FT.cost T ds = op T.d d := by
    rcases hd with ⟨rfl, rfl⟩ | ⟨k, a, b, c, e, rfl⟩
    · rfl
    · rw [cost_one]
      have : op T.d d = best T.d d := if_neg (by omega)
      rw [this, ← e]
      rfl
  have ld : ds.length ≤ 1 := by
    rcases hd with ⟨_, rfl⟩ | ⟨k, _, _, _, _, rfl⟩
    · exact Nat.zero_le _
    · exact Nat.le_refl _
  refine ⟨fun t m => ?_, fun hw => ?_, fun d' i z zs' hl e1 e2 => ?_, ?_, ?_⟩
  · rcases List.mem_append.mp m with m | m
    · rcases List.mem_append.mp m with m | m
      · exact o.mem t m
      · rcases hd with ⟨_, rfl⟩ | ⟨k, a, b, c, e, rfl⟩
        · simp at m
        · rw [List.mem_singleton.mp m]
          exact ⟨⟨by omega, c⟩, hn⟩
    · obtain ⟨i, k, a, rfl, b⟩ := s.mem t m
      exact ⟨b, zs, e, a⟩
  · obtain ⟨k, a, b⟩ := o.wk hw
    exact ⟨k, List.mem_append_left _ (List.mem_append_left _ a), b⟩
  · rcases Nat.lt_succ_iff_lt_or_eq.mp hl with hl | hl
    · obtain ⟨t, a, b⟩ := o.srv d' i z zs' hl e1 e2
      exact ⟨t, List.mem_append_left _ (List.mem_append_left _ a), b⟩
    · subst hl
      rw [e] at e1
      cases e1
      have hz := h1 z (List.mem_of_getElem? e2)
      by_cases c : z ≤ max w d
      · by_cases cw : z ≤ w
        · obtain ⟨k, a, b⟩ := o.wk (by omega)
          exact ⟨_, List.mem_append_left _ (List.mem_append_left _ a), show z ≤ k by omega⟩
        · have zd : z ≤ d := by omega
          rcases hd with ⟨rfl, _⟩ | ⟨k, a, b, _, _, rfl⟩
          · omega
          · exact ⟨_, List.mem_append_left _ (List.mem_append_right _ (List.mem_singleton.mpr rfl)), rfl, show z ≤ k by omega⟩
      · obtain ⟨k, a, b⟩ := s.srv i z e2 c
        exact ⟨_, List.mem_append_right _ a, rfl, rfl, b⟩
  · rw [cost_append, cost_append, o.cost, cd, s.cost, et, List.map_append, List.sum_append, List.map_singleton, List.sum_singleton, ← ed]
    omega
  · have a := o.len
    have b := s.len
    rw [et, List.map_append, List.sum_append, List.map_singleton, List.sum_singleton, List.length_append, List.length_append]
    omega
theorem PlOk.all {days : List (List Nat)} {w : Nat} {ts : List Tk} (o : PlOk T days w days.length ts) : AllServed ts days := fun d i z zs e1 e2 => o.srv d i z zs (List.getElem?_eq_some_iff.mp e1).1 e1 e2
end
end FT

end
namespace FW
open PySem PySem.Spec PyProof.Rows L2
/-! ### the text by places -/
def top (i : Nat) : Stmt := PySem.Challenge.pw_fareweb_k02_prices_refused.main.body.getD i (.Pass ⟨0, 0, 0, 0⟩)
section
variable {P : Program} {w : World} {K : PySem.W.Frag} {mg : Str → Option Value} {base : Heap} {C CL CS CN : Addr}
inductive All2 {α β : Type} (R : α → β → Prop) : List α → List β → Prop
  | nil : All2 R [] []
  | cons {a : α} {b : β} {as : List α} {bs : List β} : R a b → All2 R as bs → All2 R (a :: as) (b :: bs)
theorem All2.len {α β : Type} {R : α → β → Prop} {as : List α} {bs : List β} (h : All2 R as bs) : as.length = bs.length := by
  induction h with
  | nil => rfl
  | cons _ _ ih => rw [List.length_cons, List.length_cons, ih]
theorem All2.imp {α β : Type} {R S : α → β → Prop} (f : ∀ a b, R a b → S a b) {as : List α} {bs : List β} (h : All2 R as bs) : All2 S as bs := by
  induction h with
  | nil => exact .nil
  | cons r _ ih => exact .cons (f _ _ r) ih
theorem All2.imp_mem {α β : Type} {R S : α → β → Prop} {as : List α} {bs : List β} (h : All2 R as bs) (f : ∀ a b, a ∈ as → R a b → S a b) : All2 S as bs := by
  induction h with
  | nil => exact .nil
  | cons r _ ih => exact .cons (f _ _ List.mem_cons_self r) (ih fun a b m => f a b (List.mem_cons_of_mem _ m))
theorem All2.app {α β : Type} {R : α → β → Prop} {as cs : List α} {bs ds : List β} (h : All2 R as bs) (g : All2 R cs ds) : All2 R (as ++ cs) (bs ++ ds) := by
  induction h with
  | nil => exact g
  | cons r _ ih => exact .cons r ih
theorem All2.one {α β : Type} {R : α → β → Prop} {a : α} {b : β} (r : R a b) : All2 R [a] [b] := .cons r .nil
theorem All2.get {α β : Type} {R : α → β → Prop} {as : List α} {bs : List β} (h : All2 R as bs) {i : Nat} {b : β} (e : bs[i]? = some b) : ∃ a, as[i]? = some a ∧ R a b := by
  induction h generalizing i with
  | nil => simp at e
  | cons r _ ih =>
    cases i with
    | zero =>
      cases e
      exact ⟨_, rfl, r⟩
    | succ i => exact ih (i := i) e
theorem All2.getL {α β : Type} {R : α → β → Prop} {as : List α} {bs : List β} (h : All2 R as bs) {i : Nat} {a : α} (e : as[i]? = some a) : ∃ b, bs[i]? = some b ∧ R a b := by
  induction h generalizing i with
  | nil => simp at e
  | cons r _ ih =>
    cases i with
    | zero =>
      cases e
      exact ⟨_, rfl, r⟩
    | succ i => exact ih (i := i) e
theorem All2.set {α β : Type} {R : α → β → Prop} {as : List α} {bs : List β} (h : All2 R as bs) {i : Nat} {a : α} {b : β} (ea : as[i]? = some a) (r : R a b) : All2 R as (bs.set i b) := by
  induction h generalizing i with
  | nil => simp at ea
  | cons r' h' ih =>
    cases i with
    | zero =>
      cases ea
      exact .cons r h'
    | succ i => exact .cons r' (ih (i := i) ea)
theorem All2.snoc {α β : Type} {R : α → β → Prop} {as : List α} {bs : List β} {b : β} (h : All2 R as (bs ++ [b])) : ∃ as' a, as = as' ++ [a] ∧ All2 R as' bs ∧ R a b := by
  induction bs generalizing as with
  | nil =>
    cases h with
    | cons r t =>
      cases t
      exact ⟨[], _, rfl, .nil, r⟩
  | cons x bs ih =>
    cases h with
    | cons r t =>
      obtain ⟨as', a, e, h', r'⟩ := ih t
      exact ⟨_ :: as', a, by rw [e]; rfl, .cons r h', r'⟩
theorem All2.of_get {α β : Type} {R : α → β → Prop} : ∀ {as : List α} {bs : List β}, as.length = bs.length → (∀ (i : Nat) (a : α) (b : β), as[i]? = some a → bs[i]? = some b → R a b) → All2 R as bs
  | [], [], _, _ => .nil
  | a :: as, b :: bs, h, f => .cons (f 0 a b rfl rfl) (All2.of_get (Nat.succ.inj h) fun i a b e1 e2 => f (i + 1) a b e1 e2)
  | [], _ :: _, h, _ => nomatch h
  | _ :: _, [], h, _ => nomatch h
theorem All2.at {α β : Type} {R : α → β → Prop} {as : List α} {bs : List β} (h : All2 R as bs) {i : Nat} {a : α} {b : β} (e1 : as[i]? = some a) (e2 : bs[i]? = some b) : R a b := by
  obtain ⟨a', e, r⟩ := h.get e2
  rw [e1] at e
  cases e
  exact r
theorem same_upd {H : Hp} {p : Addr} {o : HO} (h : H p = none) : Same H (upd H p o) := fun b x e => by
  rw [upd_ne (ne_of_none e h)]
  exact e
structure ErrT (K : PySem.W.Frag) (mg : Str → Option Value) (nm : Str) (C : Addr) : Prop where
  g : mg nm = some (.ref C)
  x : PySem.W.excIn K C [.type "ValueError", .type "Exception", .type "BaseException", .type "object"] "ValueError.__new__" = true
  k : PySem.W.keepIn K (.ref C) = true
  b : PySem.W.subIn K (.ref C) (.type "BaseException") = some true
  t : PySem.W.typeIn K (.ref C) = some (.type "type")
theorem ErrT.raises {X : Cx} {nm : Str} {C : Addr} (T : ErrT X.K X.mg nm C) : Raises X (.ref C) := raises_own T.b T.t
theorem nd_of {p : Prop} [Decidable p] (e : (!decide p) = true) : ¬ p := fun z => by
  rw [decide_eq_true z] at e
  cases e
theorem d_of {p : Prop} [Decidable p] (e : ¬ (!decide p) = true) : p := by
  by_cases z : p
  · exact z
  · exact absurd (by rw [decide_eq_false z]; rfl) e
theorem okN {x qual : Str} {st : Stmt} {f : Addr} {fd : FuncData} {N ps : List Str} {k : Nat} {sp : L2.Sp} (F : Fun K x qual st f fd) (S : FnScope N ps (defScope st)) (len : ∀ vs H Q E, sp vs H Q E → vs.length = ps.length)
    (body : ∀ (cdv : Value) (A : Around) (outer : List Env) (s : Shared) (H : Hp) (vs : List V) (Q : VK) (E : XK), Room k (A.deeper (envOfC qual (defScope st) s.heap.objs.size f cdv)) → sp vs H Q E →
      ∃ t, PSs (cxOf (L2N.CX P w) P w K mg base N qual (defScope st) f cdv A outer s H E) (defBody st) t ∧ t { nx := fun _ H' => Q .non H', rt := Q } (L2.start N vs) H) :
    FnOk P w K mg base (L2N.CX P w) (k + 1) f fd ps sp := by
  obtain ⟨_, _, _, _, _, _, cdv, _, _, rfl, at_f, code⟩ := F.ex
  exact fn_of at_f code S len fun A outer s H vs Q E room promised => body cdv A outer s H vs Q E room promised
theorem passN {X : Cx} : Passes (L2N.CX X.prog X.w) X E0 := by
  rintro _ _ _ _ _ _ _ ⟨_, _, _, _, _, _, _, _, _, _, _, _, z⟩
  exact z.elim
theorem pmk_msg {X : Cx} {C : Addr} {nm m : Str} {j : Nat} {p p2 pos : Pos} (T : ErrT X.K X.mg nm C) (hg : Gl X nm) (hdb : (nm == ("__debug__" : Str)) = false := by decide) :
    L2N.PMk X (.Call (.Name nm p) [.Constant (.str m) j p2] [] pos) (fun _ H Q => Q (.ref C) none H) := L2N.pmk_own PySem.F.excBase_ValueError T.x T.g T.k T.raises hg hdb
/-- the same with one argument of any form -/
theorem pmk_one {X : Cx} {C : Addr} {nm : Str} {e : Expr} {ta : TE} {p pos : Pos} (T : ErrT X.K X.mg nm C) (hg : Gl X nm) (he : PE X e ta) (hs : starEach [e] X.env = (false, eval e X.env) :: starEach [] X.env := by rfl)
    (hdb : (nm == ("__debug__" : Str)) = false := by decide) : L2N.PMk X (.Call (.Name nm p) [e] [] pos) (fun σ H Q => ta σ H fun _ H1 => Q (.ref C) none H1) := by
  intro pins st σ H Q inv reading
  refine wpAny_Call_Name_kw (ld_glob inv hg T.g ?_ hdb)
  refine PySem.W.callWith_K (h₀ := X.base) inv.ok.mod.kin T.k ?_ hs (by rfl)
  rw [hs]
  show wpAny _ _ (spliced ((false, eval e X.env) :: backTo pos (starEach [] X.env))) _ _ st
  refine Calls.spliced_cons (thn (he.run pins st σ H _ inv reading) fun made behind ⟨_, _, inv1, _, wish⟩ => ?_)
  refine Calls.spliced_nil ⟨inv1.kIn, ?_⟩
  show wpAny _ _ (call (.ref C) [made]) _ _ _
  obtain ⟨_, _, _, _, _, _, _, _, _, _, _, _, _, _, _, _, _, there, names, none_init, tail⟩ := exc_obj inv1.kIn T.x
  refine wpAny_call_exc_subT PySem.F.excBase_ValueError tail there names none_init (fun heap new is_made => ?_) (by show 1 ≤ sizeLine; rw [sizeLine_eq]; decide)
  exact L2N.mk_of inv1 is_made T.raises wish (inv1.hok.gone is_made.new)
theorem log_small {i : Int} (h0 : 0 ≤ i) (h : i < 100000) : i.natAbs.log2 < 1920 := by
  have h1 : i.natAbs < 2 ^ 1920 := by
    have : i.natAbs < 100000 := by omega
    exact Nat.lt_of_lt_of_le this (by decide +kernel)
  by_cases hz : i.natAbs = 0
  · rw [hz]
    decide +kernel
  · exact (Nat.log2_lt hz).mpr h1
theorem text_le {x y : Str} {m n k : Nat} (hx : x.length ≤ m) (hy : y.length ≤ n) (h : m + n ≤ k) : (x ++ y).length ≤ k := by
  rw [PySem.Str.length_append]
  omega
theorem text_fits {x y : Str} {m n : Nat} (hx : x.length ≤ m) (hy : y.length ≤ n) (h : m + n ≤ 16777216) : (x ++ y).length ≤ sizeLine := by
  rw [sizeLine_eq]
  exact text_le hx hy h
theorem tYes_if {σ : L2.St} {H : Hp} {A B : Hp → Prop} (h : A H) : tYes σ H (fun b H3 => if b = true then A H3 else B H3) := by
  show (if true = true then A H else B H)
  rw [if_pos rfl]
  exact h
theorem upd_out {H H' : Hp} {a : Addr} {o : HO} (k : Same H H') (n : H a = none) : Same H (upd H' a o) := fun b x e => by
  rw [upd_ne (ne_of_none e n)]
  exact k b x e
theorem small_line {n : Nat} (h : n ≤ 200000) : n < sizeLine := Nat.lt_of_le_of_lt h (by rw [sizeLine_eq]; decide)
def Kept (H H' : Hp) (p : Addr) : Prop := ∀ b o, H b = some o → b ≠ p → H' b = some o
theorem Kept.of {H H1 H2 : Hp} {p : Addr} (a : Kept H H1 p) (b : Same H1 H2) : Kept H H2 p := fun c o e n => b c o (a c o e n)
theorem Kept.put {H H1 : Hp} {p : Addr} {o : HO} (a : Kept H H1 p) : Kept H (upd H1 p o) p := fun c x e n => by
  rw [upd_ne n]
  exact a c x e n
theorem Kept.new {H H1 : Hp} {p b : Addr} (k : Kept H H1 p) (n : H1 b = none) (np : b ≠ p) : H b = none := by
  cases e : H b with
  | none => rfl
  | some o =>
    rw [k b o e np] at n
    cases n
theorem ixN_nat {n i : Nat} (h : i < n) : ixN n (i : Int) = some i := by
  unfold ixN
  rw [if_pos (Int.natCast_nonneg i), if_pos (Int.ofNat_lt.mpr h)]
  rfl
end
end FW

namespace FW
open PySem PySem.Spec PyProof.Rows L2
/-! ### the law's helpers that several laws have -/
abbrev sCell : Stmt := top 16
theorem scCell : FnScope ["_law_script", "_law_k"] ["_law_script", "_law_k"] (defScope sCell) := ⟨rfl, rfl, rfl, by decide +kernel, rfl, by decide +kernel, by decide +kernel⟩
def cell (ns : List Int) (k : Nat) : Int := ns.getD k 0
/-- what the law's text asks of the built-ins -/
structure BT (mg : Str → Option Value) : Prop where
  len : mg "len" = none
  list : mg "list" = none
  range : mg "range" = none
  min : mg "min" = none
  int : mg "int" = none
section
variable {P : Program} {w : World} {K : PySem.W.Frag} {mg : Str → Option Value} {base : Heap}
def spCell (K : PySem.W.Frag) : L2.Sp := fun vs H Q _ => ∃ (a : Addr) (ns : List Int) (k : Nat), vs = [.ref a, .int k] ∧ SqL K H a (ns.map V.int) ∧ Q (.int (cell ns k)) H
theorem ok_cell {f : Addr} {fd : FuncData} (F : Fun K "_law_cell_at" "_law_cell_at" sCell f fd) (B : mg "len" = none) : FnOk P w K mg base CX0 1 f fd ["_law_script", "_law_k"] (spCell K) := by
  refine F.ok scCell (fun vs H Q E h => ?_) (fun cdv A outer s H vs Q E hr h => ?_)
  · obtain ⟨a, ns, k, rfl, _⟩ := h
    rfl
  · obtain ⟨a, ns, k, rfl, hS, q⟩ := h
    refine ⟨_, pss_cons (ps_if (pt_cmpR op_lt (pv 1) (pe_callB call_len_seq (by rfl) B PySem.boot_len (pa_cons (pv 0) pa_nil)) (nomark _)) (pss_one (ps_ret (pe_ix ix_list (pv 0) (pv 1) (fun _ _ => rfl)))) pss_nil)
      (pss_one (ps_ret pe_int)), ?_⟩
    refine ⟨_, rfl, _, rfl, a, _, rfl, .inl hS, _, _, rfl, rfl, _, rfl, ?_⟩
    rw [List.length_map]
    refine ite2 (fun e => ?_) (fun e => ?_)
    · have hk : k < ns.length := Int.ofNat_lt.mp (of_decide_eq_true e)
      have eg : ns[k]? = some (cell ns k) := by
        unfold cell
        rw [List.getD_eq_getElem?_getD, List.getElem?_eq_getElem hk]
        rfl
      exact ⟨_, rfl, _, rfl, a, _, _, _, rfl, rfl, hS, at_of (j := k) rfl (by rw [List.getElem?_map, eg]; rfl), q⟩
    · have hk : ns.length ≤ k := by
        have : ¬ ((k : Int) < ns.length) := fun z => e (decide_eq_true z)
        omega
      have eg : cell ns k = 0 := by
        unfold cell
        rw [List.getD_eq_getElem?_getD, List.getElem?_eq_none hk]
        rfl
      rw [eg] at q
      exact q
end
end FW

namespace FW
open PySem PySem.Spec PyProof.Rows L2
/-! ### tariffs: what the document asks of them, for any form of the program -/
def Five (r : List Int) : Prop := r.length = 5 ∧ ∀ x, x ∈ r → 0 ≤ x
def mn (a b : Int) : Int := if b < a then b else a
theorem mn_lt {a b : Int} (h : b < a) : mn a b = b := if_pos h
theorem mn_ge {a b : Int} (h : ¬ b < a) : mn a b = a := if_neg h
/-- the least price of a row for z zones or for more -/
def lpr (r : List Int) (z : Nat) : Int := (r.drop z).foldl mn (r.getD (z - 1) 0)
theorem foldl_mn_le : ∀ (l : List Int) (a : Int), l.foldl mn a ≤ a ∧ ∀ x, x ∈ l → l.foldl mn a ≤ x
  | [], a => ⟨Int.le_refl _, fun x m => nomatch m⟩
  | b :: l, a => by
    have h := foldl_mn_le l (mn a b)
    have h1 : mn a b ≤ a ∧ mn a b ≤ b := by unfold mn; split <;> omega
    refine ⟨Int.le_trans h.1 h1.1, fun x m => ?_⟩
    rcases List.mem_cons.mp m with rfl | m
    · exact Int.le_trans h.1 h1.2
    · exact h.2 x m
theorem foldl_mn_mem : ∀ (l : List Int) (a : Int), l.foldl mn a = a ∨ l.foldl mn a ∈ l
  | [], a => .inl rfl
  | b :: l, a => by
    rcases foldl_mn_mem l (mn a b) with h | h
    · by_cases c : b < a
      · right
        show l.foldl mn (mn a b) ∈ b :: l
        rw [h]
        unfold mn
        rw [if_pos c]
        exact List.mem_cons_self
      · left
        show l.foldl mn (mn a b) = a
        rw [h]
        unfold mn
        rw [if_neg c]
    · exact .inr (List.mem_cons_of_mem _ h)
/-- what is least of the row's prices from place z - 1 on is lpr -/
theorem lpr_iff {r : List Int} {z : Nat} (h1 : 1 ≤ z) (h2 : z ≤ r.length) (m : Int) : (m ∈ r.drop (z - 1) ∧ ∀ x, x ∈ r.drop (z - 1) → m ≤ x) ↔ m = lpr r z := by
  have hz : z - 1 < r.length := by omega
  have e : r.drop (z - 1) = r.getD (z - 1) 0 :: r.drop z := by
    rw [List.drop_eq_getElem_cons hz, show z - 1 + 1 = z by omega, List.getD_eq_getElem?_getD, List.getElem?_eq_getElem hz]
    rfl
  have hl := foldl_mn_le (r.drop z) (r.getD (z - 1) 0)
  have hm := foldl_mn_mem (r.drop z) (r.getD (z - 1) 0)
  rw [e]
  constructor
  · rintro ⟨m1, m2⟩
    have a1 : m ≤ lpr r z := by
      unfold lpr
      rcases hm with hm | hm
      · rw [hm]
        exact m2 _ List.mem_cons_self
      · exact m2 _ (List.mem_cons_of_mem _ hm)
    have a2 : lpr r z ≤ m := by
      unfold lpr
      rcases List.mem_cons.mp m1 with rfl | m1
      · exact hl.1
      · exact hl.2 _ m1
    exact Int.le_antisymm a1 a2
  · rintro rfl
    unfold lpr
    refine ⟨?_, fun x m => ?_⟩
    · rcases hm with hm | hm
      · rw [hm]
        exact List.mem_cons_self
      · exact List.mem_cons_of_mem _ hm
    · rcases List.mem_cons.mp m with rfl | m
      · exact hl.1
      · exact hl.2 _ m
def RowAt (H : Hp) (a : Addr) (r : List Int) : Prop := H a = some (.lst (r.map V.int))
/-- A TARIFF stands at p: its three fields; no field hides a method -/
structure TarAt (C : Addr) (H : Hp) (p : Addr) (S D W : List Int) : Prop where
  ob : ∃ dx fs a b c, H p = some (.ins C dx fs) ∧ fs.lookup ("singles" : Str) = some (.ref a) ∧ fs.lookup ("days" : Str) = some (.ref b) ∧ fs.lookup ("weeks" : Str) = some (.ref c) ∧
    fs.lookup ("single" : Str) = none ∧ fs.lookup ("day" : Str) = none ∧ fs.lookup ("week" : Str) = none ∧ RowAt H a S ∧ RowAt H b D ∧ RowAt H c W
  ok : Five S ∧ Five D ∧ Five W
theorem TarAt.same {C p : Addr} {H H' : Hp} {S D W : List Int} (h : TarAt C H p S D W) (k : Same H H') : TarAt C H' p S D W := by
  obtain ⟨⟨dx, fs, a, b, c, h1, e1, e2, e3, n1, n2, n3, r1, r2, r3⟩, ok⟩ := h
  exact ⟨⟨dx, fs, a, b, c, k _ _ h1, e1, e2, e3, n1, n2, n3, k _ _ r1, k _ _ r2, k _ _ r3⟩, ok⟩
/-- the tariff leans on objects that are new since H: what becomes of the others is no matter -/
def TStays (C : Addr) (H H' : Hp) (p : Addr) (S D W : List Int) : Prop := ∀ H'' : Hp, (∀ b o, H' b = some o → (H b = none ∨ b = p) → H'' b = some o) → TarAt C H'' p S D W
def spTInit (K : PySem.W.Frag) (C CP : Addr) : L2.Sp := fun vs H Q E => ∃ (p dx sa da wa : Addr) (S D W : List Int), vs = [.ref p, .ref sa, .ref da, .ref wa] ∧ H p = some (.ins C dx []) ∧
  (∀ H', Kept H H' p → SqL K H' sa (S.map V.int) ∧ SqL K H' da (D.map V.int) ∧ SqL K H' wa (W.map V.int)) ∧ S.length ≤ 1000 ∧ D.length ≤ 1000 ∧ W.length ≤ 1000 ∧
  (Five S ∧ Five D ∧ Five W → ∀ H', Kept H H' p → TarAt C H' p S D W → TStays C H H' p S D W → Q .non H') ∧
  (¬ (Five S ∧ Five D ∧ Five W) → ∀ H', Kept H H' p → E (.ref CP) none H')
def rowOf (j : Nat) (S D W : List Int) : List Int := match j with | 0 => S | 1 => D | _ => W
def spPrice (C CZ : Addr) (j : Nat) : L2.Sp := fun vs H Q E => ∃ (p : Addr) (z : Int) (S D W : List Int), vs = [.ref p, .int z] ∧ TarAt C H p S D W ∧
  (1 ≤ z ∧ z ≤ 5 → ∀ H', Same H H' → Q (.int (lpr (rowOf j S D W) z.toNat)) H') ∧ (¬ (1 ≤ z ∧ z ≤ 5) → ∀ H', Same H H' → E (.ref CZ) none H')
end FW

namespace FW
open PySem PySem.Spec PyProof.Rows L2
/-! ### covers: what the document asks of least, for any form of the program -/
theorem lpr_best {r : List Int} (h5 : r.length = 5) {z : Nat} (h1 : 1 ≤ z) (hz : z ≤ 5) : lpr r z = FT.best r z := by
  have key := ((lpr_iff h1 (by omega) (lpr r z)).mpr rfl)
  refine FT.best_eq h1 hz ?_ fun j a b => key.2 _ ?_
  · obtain ⟨i, hi, e⟩ := List.getElem_of_mem key.1
    rw [List.length_drop] at hi
    refine ⟨z + i, by omega, by omega, ?_⟩
    rw [← e, List.getElem_drop]
    unfold FT.pr
    rw [List.getD_eq_getElem?_getD, List.getElem?_eq_getElem (by omega)]
    show r[z - 1 + i] = r[z + i - 1]
    congr 1
    omega
  · unfold FT.pr
    rw [List.getD_eq_getElem?_getD, List.getElem?_eq_getElem (by omega)]
    show r[j - 1] ∈ _
    rw [List.mem_iff_getElem]
    exact ⟨j - z, by rw [List.length_drop]; omega, by rw [List.getElem_drop]; congr 1; omega⟩
theorem five_ok {S D W : List Int} (h : Five S ∧ Five D ∧ Five W) : FT.Tar.Ok ⟨S, D, W⟩ := by
  have key : ∀ r : List Int, Five r → ∀ j, 1 ≤ j → j ≤ 5 → 0 ≤ FT.pr r j := fun r f j a b => by
    unfold FT.pr
    rw [List.getD_eq_getElem?_getD, List.getElem?_eq_getElem (by have := f.1; omega)]
    exact f.2 _ (List.getElem_mem _)
  exact ⟨key S h.1, key D h.2.1, key W h.2.2⟩
/-- a ticket as it is told -/
def TkAt (T : FT.Tar) (H : Hp) (a : Addr) : FT.Tk → Prop
  | .week z => H a = some (.tup [.str "week", .int (z : Nat), .int (FT.pr T.w z)])
  | .day d z => H a = some (.tup [.str "day", .int (d : Nat), .int (z : Nat), .int (FT.pr T.d z)])
  | .single d i z => H a = some (.tup [.str "single", .int (d : Nat), .int (i : Nat), .int (z : Nat), .int (FT.pr T.s z)])
/-- its day and its ride are there -/
def TkIn (days : List (List Nat)) : FT.Tk → Prop
  | .week _ => True
  | .day d _ => d < days.length
  | .single d i _ => ∃ zs, days[d]? = some zs ∧ i < zs.length
def spCovers (C CZ : Addr) : L2.Sp := fun vs H Q E => ∃ (t dl : Addr) (S D W : List Int) (as : List Addr) (dz : List (List Int)), vs = [.ref t, .ref dl] ∧ TarAt C H t S D W ∧
  H dl = some (.lst (as.map V.ref)) ∧ All2 (RowAt H) as dz ∧ dz.length ≤ 50 ∧ (∀ zs, zs ∈ dz → zs.length ≤ 1000) ∧
  (∀ days : List (List Nat), dz = days.map (fun zs => zs.map fun (z : Nat) => (z : Int)) → FT.In5 days → ∀ (H' : Hp) (p tl : Addr) (tas : List Addr) (ts : List FT.Tk), Same H H' → H p = none → H tl = none →
    H' p = some (.tup [.int (FT.leastF ⟨S, D, W⟩ days), .ref tl]) → H' tl = some (.lst (tas.map V.ref)) → All2 (TkAt ⟨S, D, W⟩ H') tas ts → ts.length ≤ 100000 →
    (∀ k, k ∈ ts → k.Ok ∧ TkIn days k) → FT.AllServed ts days → FT.cost ⟨S, D, W⟩ ts = FT.leastF ⟨S, D, W⟩ days → Q (.ref p) H') ∧
  ((∃ zs z, zs ∈ dz ∧ z ∈ zs ∧ ¬ (1 ≤ z ∧ z ≤ 5)) → ∀ H', Same H H' → E (.ref CZ) none H')
end FW

namespace FW
open PySem PySem.Spec PyProof.Rows L2
open PySem.W (dataLt alike alikeAll dataLt_tuple dataLt_int dataLt_all_no AlikeAll readsAll_atA cmpIn_lt iter_listW moved_old argBest_fold)
/-! ### min of a list of tuples that begin with a whole number: one whose first number is least -/
def fst1 : PyData → Int
  | .tuple (.int a :: _) => a
  | _ => 0
def TupI (d : PyData) : Prop := ∃ a r, d = .tuple (.int a :: r)
theorem lt_fst {d e : PyData} (hd : TupI d) (he : TupI e) : (dataLt d e = true → fst1 d ≤ fst1 e) ∧ (dataLt d e = false → fst1 e ≤ fst1 d) := by
  obtain ⟨a, r, rfl⟩ := hd
  obtain ⟨b, s, rfl⟩ := he
  show (_ → a ≤ b) ∧ (_ → b ≤ a)
  by_cases c : a = b
  · exact ⟨fun _ => by omega, fun _ => by omega⟩
  · have al : alike (.int a) (.int b) = true := by simp [alike]
    have ne : PyData.eqv (.int a) (.int b) = false := by simp [PyData.eqv, c]
    have e : dataLt (.tuple (.int a :: r)) (.tuple (.int b :: s)) = decide (a < b) := by
      rw [dataLt_tuple, dataLt_all_no al ne, dataLt_int]
    rw [e]
    exact ⟨fun z => by have := of_decide_eq_true z; omega, fun z => by have := of_decide_eq_false z; omega⟩
theorem fold_fst : ∀ (xs : List PyData) (x : PyData), TupI x → (∀ d, d ∈ xs → TupI d) →
    let m := xs.foldl (fun a y => if dataLt y a then y else a) x
    TupI m ∧ fst1 m ≤ fst1 x ∧ ∀ d, d ∈ xs → fst1 m ≤ fst1 d
  | [], x, hx, _ => ⟨hx, Int.le_refl _, fun d m => nomatch m⟩
  | y :: xs, x, hx, h => by
    have hy := h y List.mem_cons_self
    have hc : TupI (if dataLt y x then y else x) := by split <;> assumption
    have k : fst1 (if dataLt y x then y else x) ≤ fst1 x ∧ fst1 (if dataLt y x then y else x) ≤ fst1 y := by
      have := lt_fst hy hx
      by_cases c : dataLt y x = true
      · rw [if_pos c]
        exact ⟨this.1 c, Int.le_refl _⟩
      · rw [if_neg c]
        exact ⟨Int.le_refl _, this.2 (by simpa using c)⟩
    obtain ⟨a, b, c⟩ := fold_fst xs _ hc fun d m => h d (List.mem_cons_of_mem _ m)
    refine ⟨a, Int.le_trans b k.1, fun d m => ?_⟩
    rcases List.mem_cons.mp m with rfl | m
    · exact Int.le_trans b k.2
    · exact c d m
section
variable {X : Cx}
def rMinD (K : PySem.W.Frag) : List V → Hp → VK → Prop := fun vs H Q => ∃ (a : Addr) (ys : List V) (ds : List PyData), vs = [.ref a] ∧ SqL K H a ys ∧ DpAll K H ys ds ∧ AlikeAll ds ∧ PyData.depthAll ds ≤ 60 ∧ ds ≠ [] ∧ (∀ d, d ∈ ds → TupI d) ∧
  ∀ (i : Nat) (y : V) (d : PyData), ys[i]? = some y → ds[i]? = some d → (∀ e, e ∈ ds → fst1 d ≤ fst1 e) → Q y H
theorem cr_minD (hc : X.calm = true) (hu : X.A.units + 64 < cLine) : CallR X (.builtin "min") (rMinD X.K) := by
  intro pins s σ H vs us Q I r h
  obtain ⟨a, ys, ds, rfl, hs, hd, ha, hdp, hne, ht, q⟩ := h
  obtain ⟨its, rv, hl, _⟩ := I.list hs
  rw [Vals.ref1 r]
  obtain ⟨as, hr⟩ := Dp.readsAll I ds _ its hd rv
  have hr' : ReadsAll s.heap its.toArray.toList ds as := hr
  cases ds with
  | nil => exact absurd rfl hne
  | cons x xs =>
    have hn : its.toArray.size = xs.length + 1 := PySem.W.readsAll_len hr'
    refine call_min_walkH (iter_listW (A := X.A.in1) (I.ok.hd hc) hl.isList fun s₂ e W st hfp hw hk => ?_)
    refine ⟨_, _, _, _, _, _, _, s.heap, _, rfl, W, st, hfp, by omega, hw, hk, cmpIn_lt (A := X.A.in1) hr' ha (by show X.A.units + 1 + _ < _; omega), fun v s' hP m => ?_⟩
    obtain ⟨h', tk, rfl, hk'⟩ := moved_old e rfl m
    have e1 : its.toArray.size - 1 = xs.length := by omega
    have e2 := argBest_fold dataLt PyData.none x xs xs.length (Nat.le_refl _)
    rw [List.take_length] at e2
    rw [e1] at hP
    obtain ⟨_, _, il, _, _⟩ := readsAll_atA hr' _ v hP
    have hv : its[argBest (fun i j => dataLt ((x :: xs).getD i .none) ((x :: xs).getD j .none)) xs.length]? = some v := by
      have := hP
      simpa using this
    have hy : ∃ y, ys[argBest (fun i j => dataLt ((x :: xs).getD i .none) ((x :: xs).getD j .none)) xs.length]? = some y ∧ RelV y v := by
      clear e2 hP m hk' W st hfp hw hk e il q
      generalize argBest (fun i j => dataLt ((x :: xs).getD i .none) ((x :: xs).getD j .none)) xs.length = k at hv
      have hlen := rv.length
      have hk : k < ys.length := by
        have := (List.getElem?_eq_some_iff.mp hv).1
        omega
      obtain ⟨w, ew, rw'⟩ := rv.get (List.getElem?_eq_getElem hk)
      rw [hv] at ew
      cases ew
      exact ⟨_, List.getElem?_eq_getElem hk, rw'⟩
    obtain ⟨y, ey, ry⟩ := hy
    obtain ⟨f1, f2, f3⟩ := fold_fst xs x (ht x List.mem_cons_self) fun d m => ht d (List.mem_cons_of_mem _ m)
    refine ⟨y, H, I.kept hk', ry, q _ y _ ey (List.getElem?_eq_getElem il) fun d md => ?_⟩
    have e3 : (x :: xs)[argBest (fun i j => dataLt ((x :: xs).getD i .none) ((x :: xs).getD j .none)) xs.length]'il = xs.foldl (fun a y => if dataLt y a then y else a) x := by
      rw [← e2.2, List.getD_eq_getElem?_getD, List.getElem?_eq_getElem il]
      rfl
    rw [e3]
    rcases List.mem_cons.mp md with rfl | md
    · exact f2
    · exact f3 d md
end
/-! pairs, and plans -/
section
variable {K : PySem.W.Frag}
def PairAt (H : Hp) (a : Addr) (p : Int × Nat) : Prop := H a = some (.tup [.int p.1, .int (p.2 : Nat)])
def pairD (p : Int × Nat) : PyData := .tuple [.int p.1, .int (p.2 : Nat)]
theorem minP_of {H : Hp} {Q : VK} {a : Addr} {as : List Addr} {ps : List (Int × Nat)} (ha : H a = some (.lst (as.map V.ref))) (h : All2 (PairAt H) as ps) (ne : ps ≠ [])
    (q : ∀ (i : Nat) (t : Addr) (p : Int × Nat), as[i]? = some t → ps[i]? = some p → PairAt H t p → (∀ r, r ∈ ps → p.1 ≤ r.1) → Q (.ref t) H) : rMinD K [.ref a] H Q := by
  refine ⟨a, as.map V.ref, ps.map pairD, rfl, SqL.of ha, ?_, ⟨fun x mx y my => ?_, fun x mx => ?_⟩, ?_, ?_, fun d md => ?_, fun i y d ey ed hle => ?_⟩
  · clear q ne ha
    induction h with
    | nil => exact .nil
    | cons r _ ih => exact .cons (.tup (SqT.of r) (.cons (.int _) (.cons (.int _) .nil))) ih
  · obtain ⟨p, _, rfl⟩ := List.mem_map.mp mx
    obtain ⟨p2, _, rfl⟩ := List.mem_map.mp my
    simp [pairD, alike, alikeAll]
  · obtain ⟨p, _, rfl⟩ := List.mem_map.mp mx
    exact fun z => nomatch z
  · clear q ne ha h
    induction ps with
    | nil => simp [PyData.depthAll]
    | cons p ps ih => simp [PyData.depthAll, pairD, PyData.depth]; omega
  · intro z
    exact ne (List.map_eq_nil_iff.mp z)
  · obtain ⟨p, _, rfl⟩ := List.mem_map.mp md
    exact ⟨_, _, rfl⟩
  · rw [List.getElem?_map] at ey ed
    obtain ⟨t, et, rfl⟩ := Option.map_eq_some_iff.mp ey
    obtain ⟨p, ep, rfl⟩ := Option.map_eq_some_iff.mp ed
    exact q i t p et ep (h.at et ep) fun r mr => hle _ (List.mem_map.mpr ⟨r, mr, rfl⟩)
structure Plan where
  c : Int
  w : Nat
  ds : List Nat
def PlanAt (H : Hp) (a : Addr) (p : Plan) : Prop := ∃ l, H a = some (.tup [.int p.c, .int (p.w : Nat), .ref l]) ∧ H l = some (.lst (p.ds.map fun (k : Nat) => V.int (k : Nat)))
def planD (p : Plan) : PyData := .tuple [.int p.c, .int (p.w : Nat), .list (p.ds.map fun (k : Nat) => PyData.int (k : Nat))]
theorem nats_dp {H : Hp} : ∀ ns : List Nat, DpAll K H (ns.map fun (k : Nat) => V.int (k : Nat)) (ns.map fun (k : Nat) => PyData.int (k : Nat))
  | [] => .nil
  | n :: ns => .cons (.int _) (nats_dp ns)
theorem nats_dep : ∀ ns : List Nat, PyData.depthAll (ns.map fun (k : Nat) => PyData.int (k : Nat)) = 0
  | [] => by simp [PyData.depthAll]
  | n :: ns => by
    have ih := nats_dep ns
    simpa [PyData.depthAll, PyData.depth] using ih
theorem nats_alike : ∀ ns ms : List Nat, alikeAll (ns.map fun (k : Nat) => PyData.int (k : Nat)) (ms.map fun (k : Nat) => PyData.int (k : Nat)) = true
  | [], _ => by simp [alikeAll]
  | _ :: _, [] => by simp [alikeAll]
  | n :: ns, m :: ms => by
    have ih := nats_alike ns ms
    simpa [alikeAll, alike] using ih
theorem min3_of {H : Hp} {Q : VK} {a : Addr} {as : List Addr} {ps : List Plan} (ha : H a = some (.lst (as.map V.ref))) (h : All2 (PlanAt H) as ps) (ne : ps ≠ [])
    (q : ∀ (i : Nat) (t : Addr) (p : Plan), as[i]? = some t → ps[i]? = some p → PlanAt H t p → (∀ r, r ∈ ps → p.c ≤ r.c) → Q (.ref t) H) : rMinD K [.ref a] H Q := by
  refine ⟨a, as.map V.ref, ps.map planD, rfl, SqL.of ha, ?_, ⟨fun x mx y my => ?_, fun x mx => ?_⟩, ?_, ?_, fun d md => ?_, fun i y d ey ed hle => ?_⟩
  · clear q ne ha
    induction h with
    | nil => exact .nil
    | cons r _ ih =>
      obtain ⟨l, r1, r2⟩ := r
      exact .cons (.tup (SqT.of r1) (.cons (.int _) (.cons (.int _) (.cons (.lst (SqL.of r2) (nats_dp _)) .nil)))) ih
  · obtain ⟨p, _, rfl⟩ := List.mem_map.mp mx
    obtain ⟨p2, _, rfl⟩ := List.mem_map.mp my
    have := nats_alike p.ds p2.ds
    simp [planD, alike, alikeAll, this]
  · obtain ⟨p, _, rfl⟩ := List.mem_map.mp mx
    exact fun z => nomatch z
  · clear q ne ha h
    induction ps with
    | nil => simp [PyData.depthAll]
    | cons p ps ih =>
      have := nats_dep p.ds
      simp [PyData.depthAll, planD, PyData.depth, this]
      omega
  · intro z
    exact ne (List.map_eq_nil_iff.mp z)
  · obtain ⟨p, _, rfl⟩ := List.mem_map.mp md
    exact ⟨_, _, rfl⟩
  · rw [List.getElem?_map] at ey ed
    obtain ⟨t, et, rfl⟩ := Option.map_eq_some_iff.mp ey
    obtain ⟨p, ep, rfl⟩ := Option.map_eq_some_iff.mp ed
    exact q i t p et ep (h.at et ep) fun r mr => hle _ (List.mem_map.mpr ⟨r, mr, rfl⟩)
end
end FW

namespace FW
open PySem PySem.Spec PyProof.Rows L2
/-! ### the program's prices -/
abbrev sTInit : Stmt := inClass (top 10) 0
abbrev sTSingle : Stmt := inClass (top 10) 1
abbrev sTDay : Stmt := inClass (top 10) 2
abbrev sTWeek : Stmt := inClass (top 10) 3
abbrev sCheapest : Stmt := top 11
abbrev sCheckZones : Stmt := top 12
abbrev sLeastPrice : Stmt := top 13
abbrev sCheckPrices : Stmt := top 14
theorem scTInit : FnScope ["self", "singles", "days", "weeks", "prices"] ["self", "singles", "days", "weeks"] (defScope sTInit) := ⟨rfl, rfl, rfl, by decide +kernel, rfl, by decide +kernel, by decide +kernel⟩
theorem scTSingle : FnScope ["self", "zones"] ["self", "zones"] (defScope sTSingle) := ⟨rfl, rfl, rfl, by decide +kernel, rfl, by decide +kernel, by decide +kernel⟩
theorem scTDay : FnScope ["self", "zones"] ["self", "zones"] (defScope sTDay) := ⟨rfl, rfl, rfl, by decide +kernel, rfl, by decide +kernel, by decide +kernel⟩
theorem scTWeek : FnScope ["self", "zones"] ["self", "zones"] (defScope sTWeek) := ⟨rfl, rfl, rfl, by decide +kernel, rfl, by decide +kernel, by decide +kernel⟩
theorem scCheapest : FnScope ["prices", "zones", "size"] ["prices", "zones"] (defScope sCheapest) := ⟨rfl, rfl, rfl, by decide +kernel, rfl, by decide +kernel, by decide +kernel⟩
theorem scCheckZones : FnScope ["zones"] ["zones"] (defScope sCheckZones) := ⟨rfl, rfl, rfl, by decide +kernel, rfl, by decide +kernel, by decide +kernel⟩
theorem scLeastPrice : FnScope ["prices", "zones", "price", "_"] ["prices", "zones"] (defScope sLeastPrice) := ⟨rfl, rfl, rfl, by decide +kernel, rfl, by decide +kernel, by decide +kernel⟩
theorem scCheckPrices : FnScope ["prices"] ["prices"] (defScope sCheckPrices) := ⟨rfl, rfl, rfl, by decide +kernel, rfl, by decide +kernel, by decide +kernel⟩
/-- what the top has written for the prices: CP, CZ the two refusals -/
structure PTx (K : PySem.W.Frag) (mg : Str → Option Value) (C CP CZ : Addr) : Prop where
  cl : Cls K C
  nS : NoAttr K C "singles"
  nD : NoAttr K C "days"
  nW : NoAttr K C "weeks"
  len : mg "len" = none
  list : mg "list" = none
  range : mg "range" = none
  min : mg "min" = none
  mz : ∃ t, mg "MOST_ZONES" = some (.int 5 t)
  eP : ErrT K mg "BadPrices" CP
  eZ : ErrT K mg "BadZones" CZ
section
variable {P : Program} {w : World} {K : PySem.W.Frag} {mg : Str → Option Value} {base : Heap} {C CP CZ : Addr}
/-! ### _check_prices -/
def spCheckPrices (K : PySem.W.Frag) (CP : Addr) : L2.Sp := fun vs H Q E => ∃ (a : Addr) (r : List Int), vs = [.ref a] ∧ SqL K H a (r.map V.int) ∧ (Five r → Q .non H) ∧ (¬ Five r → E (.ref CP) none H)
theorem ok_checkPrices {f : Addr} {fd : FuncData} (F : Fun K "_check_prices" "_check_prices" sCheckPrices f fd) (T : PTx K mg C CP CZ) : FnOk P w K mg base (L2N.CX P w) 1 f fd ["prices"] (spCheckPrices K CP) := by
  obtain ⟨mt, mz⟩ := T.mz
  refine okN F scCheckPrices (fun vs H Q E h => ?_) (fun cdv A outer s H vs Q E hr h => ?_)
  · obtain ⟨a, r, rfl, _⟩ := h
    rfl
  · obtain ⟨a, r, rfl, hS, q1, q2⟩ := h
    refine ⟨_, pss_cons (ps_if (pt_cmpR op_ne (pe_callB call_len_seq (by rfl) T.len PySem.boot_len (pa_cons (pv 0) pa_nil)) (pe_glob (v := .int 5) rfl mz ⟨mt, rfl⟩) (nomark _))
        (pss_one (L2N.ps_raise rfl (L2N.takes_of rfl rfl rfl rfl) (pmk_msg T.eP rfl))) pss_nil)
      (pss_one (ps_if (pt_cmpR op_lt (pe_callB (cr_min rfl) (by rfl) T.min (by decide +kernel) (pa_cons (pv 0) pa_nil)) pe_int (nomark _))
        (pss_one (L2N.ps_raise rfl (L2N.takes_of rfl rfl rfl rfl) (pmk_msg T.eP rfl))) pss_nil)), ?_⟩
    refine ⟨_, rfl, a, _, rfl, .inl hS, rfl, _, rfl, ?_⟩
    refine ite2 (fun e => ?_) (fun e => ?_)
    · refine q2 fun z => nd_of e ?_
      rw [List.length_map, z.1]
      rfl
    · have l5 : r.length = 5 := by
        have := V.int.inj (d_of e)
        rw [List.length_map] at this
        omega
      refine ⟨_, rfl, a, r, rfl, hS, by omega, fun m hm hle => ⟨_, _, rfl, rfl, _, rfl, ?_⟩⟩
      refine ite2 (fun e => ?_) (fun e => ?_)
      · have hm0 : m < 0 := of_decide_eq_true e
        exact q2 fun z => by
          have := z.2 m hm
          omega
      · have hm0 : ¬ m < 0 := fun z => e (decide_eq_true z)
        exact q1 ⟨l5, fun x hx => by
          have := hle x hx
          omega⟩
/-! ### check_zones -/
def spCheckZones (CZ : Addr) : L2.Sp := fun vs H Q E => ∃ z : Int, vs = [.int z] ∧ (1 ≤ z ∧ z ≤ 5 → Q .non H) ∧ (¬ (1 ≤ z ∧ z ≤ 5) → E (.ref CZ) none H)
theorem ok_checkZones {f : Addr} {fd : FuncData} (F : Fun K "check_zones" "check_zones" sCheckZones f fd) (T : PTx K mg C CP CZ) : FnOk P w K mg base (L2N.CX P w) 1 f fd ["zones"] (spCheckZones CZ) := by
  obtain ⟨mt, mz⟩ := T.mz
  refine okN F scCheckZones (fun vs H Q E h => ?_) (fun cdv A outer s H vs Q E hr h => ?_)
  · obtain ⟨z, rfl, _⟩ := h
    rfl
  · obtain ⟨z, rfl, q1, q2⟩ := h
    refine ⟨_, pss_one (ps_if (pt_not (pt_chain op_le op_le pe_int (pv 0) (pe_glob (v := .int 5) rfl mz ⟨mt, rfl⟩)))
        (pss_one (L2N.ps_raise rfl (L2N.takes_of rfl rfl rfl rfl) (pmk_msg T.eZ rfl))) pss_nil), ?_⟩
    refine ⟨_, rfl, _, _, rfl, rfl, _, rfl, ?_⟩
    refine ite2 (fun e => ?_) (fun e => ?_)
    · have h1 : 1 ≤ z := of_decide_eq_true e
      refine ⟨_, _, rfl, rfl, _, rfl, ?_⟩
      refine ite2 (fun e => ?_) (fun e => ?_)
      · exact q2 fun y => nd_of e y.2
      · exact q1 ⟨h1, d_of e⟩
    · have h1 : ¬ 1 ≤ z := fun y => e (decide_eq_true y)
      refine ⟨_, rfl, ?_⟩
      refine iteT ?_
      exact q2 fun y => h1 y.1
/-! ### cheapest -/
def spCheapest (K : PySem.W.Frag) : L2.Sp := fun vs H Q _ => ∃ (a : Addr) (r : List Int) (z : Nat), vs = [.ref a, .int z] ∧ SqL K H a (r.map V.int) ∧ (∀ H', Same H H' → SqL K H' a (r.map V.int)) ∧ r.length = 5 ∧ 1 ≤ z ∧ z ≤ 5 ∧
  ∀ (H' : Hp) (p : Addr) (k : Nat), Same H H' → H' p = some (.tup [.int (FT.best r z), .int (k : Nat)]) → z ≤ k → k ≤ 5 → FT.pr r k = FT.best r z → Q (.ref p) H'
theorem ok_cheapest {f : Addr} {fd : FuncData} (F : Fun K "cheapest" "cheapest" sCheapest f fd) (T : PTx K mg C CP CZ) : FnOk P w K mg base CX0 1 f fd ["prices", "zones"] (spCheapest K) := by
  obtain ⟨mt, mz⟩ := T.mz
  refine F.ok scCheapest (fun vs H Q E h => ?_) (fun cdv A outer s H vs Q E hr h => ?_)
  · obtain ⟨a, r, z, rfl, _⟩ := h
    rfl
  · obtain ⟨a, r, z, rfl, hS, hK, h5, h1, hz, q⟩ := h
    refine ⟨_, pss_one (ps_ret (pe_callB (cr_minD rfl hr.units) (by rfl) T.min (by decide +kernel) (pa_cons
      (pe_lc (own := [("size", 2)]) (g := gName 2) (by rfl) scCheapest.nd (pi_range2 (by rfl) T.range (pa_cons (pv 1) (pa_cons (pe_op op_add (pe_glob (v := .int 5) rfl mz ⟨mt, rfl⟩) pe_int) pa_nil)))
        (blkOk_by (own := [("size", 2)]) (N := ["prices", "zones", "size"]) (sc := defScope sCheapest) (by decide +kernel)) (fun _ _ _ _ _ => pg_name (i := 2) scCheapest.nd rfl (Or.inl rfl)) (fun _ _ _ _ _ => pts_nil)
        (fun _ _ _ _ _ => pe_tup (pa_cons (pe_ix (r := rIxL K) ix_list (pv 0) (pe_op op_sub (pv 2) pe_int) (fun _ _ => rfl)) (pa_cons (pv 2) pa_nil)))) pa_nil))), ?_⟩
    refine ⟨_, rfl, _, _, rfl, rfl, z, 6, rfl, ⟨by omega, by omega, by omega, by omega⟩, fun D hD => ?_⟩
    refine lc_range (lo := z) (n := ((6 : Int) - z).toNat) (fun i H' => Same H H' ∧ ∃ as : List Addr, H' D = some (.lst (as.map V.ref)) ∧ All2 (PairAt H') as ((List.range i).map fun j => (FT.pr r (z + j), z + j)))
      ⟨same_upd hD, [], upd_same, .nil⟩ ?_ ?_
    · rintro i H1 hi ⟨sm, as, eD, hA⟩
      refine ⟨rfl, ?_⟩
      refine tYes_if ?_
      have hzi : z + i ≤ 5 := by omega
      have g : atI (r.map V.int) ((z : Int) + i - 1) = some (.int (FT.pr r (z + i))) := by
        refine at_of (j := z + i - 1) (by omega) ?_
        rw [List.getElem?_map, List.getElem?_eq_getElem (by omega)]
        unfold FT.pr
        rw [List.getD_eq_getElem?_getD, List.getElem?_eq_getElem (by omega)]
        rfl
      refine ⟨_, rfl, _, rfl, _, _, rfl, rfl, a, _, _, _, rfl, rfl, hK _ sm, g, _, rfl, by show 2 ≤ sizeLine; decide, fun p np => ?_⟩
      have nDp : D ≠ p := ne_of_none eD np
      refine ⟨as.map V.ref, by rw [upd_ne nDp]; exact eD, small_line (by rw [List.length_map, hA.len, List.length_map, List.length_range]; omega), ?_⟩
      have nas : ∀ b x, PairAt H1 b x → b ≠ p := fun b x hb => ne_of_none hb np
      refine ⟨upd_out (sm.trans (same_upd np)) hD, as ++ [p], by rw [upd_same, List.map_append]; rfl, ?_⟩
      rw [List.range_succ, List.map_append]
      refine All2.app (hA.imp fun b x hb => ?_) (All2.one ?_)
      · show upd (upd H1 p _) D _ b = _
        rw [upd_ne (ne_of hb eD (by intro y; cases y)), upd_ne (nas b x hb)]
        exact hb
      · show upd (upd H1 p _) D _ p = _
        rw [upd_ne nDp.symm, upd_same]
        have e : ((z : Int) + i) = ((z + i : Nat) : Int) := by omega
        rw [e]
    · rintro H1 ⟨sm, as, eD, hA⟩
      refine minP_of eD hA ?_ fun i t p et ep hp hle => ?_
      · intro y
        have := congrArg List.length y
        rw [List.length_map, List.length_range] at this
        simp at this
        omega
      · rw [List.getElem?_map] at ep
        obtain ⟨j, ej, rfl⟩ := Option.map_eq_some_iff.mp ep
        have hj : j < ((6 : Int) - z).toNat := List.mem_range.mp (List.mem_of_getElem? ej)
        have eb : FT.pr r (z + j) = FT.best r z := FT.best_eq h1 hz ⟨z + j, by omega, by omega, rfl⟩ fun k k1 k2 => by
          have := hle (FT.pr r (z + (k - z)), z + (k - z)) (List.mem_map.mpr ⟨k - z, List.mem_range.mpr (by omega), rfl⟩)
          have e2 : z + (k - z) = k := by omega
          rw [e2] at this
          exact this
        refine q H1 t (z + j) sm ?_ (by omega) (by omega) eb
        rw [← eb]
        exact hp
/-! ### _least_price -/
def spLeastPrice (K : PySem.W.Frag) (CZ : Addr) : L2.Sp := fun vs H Q E => ∃ (a : Addr) (r : List Int) (z : Int), vs = [.ref a, .int z] ∧ RowAt H a r ∧ r.length = 5 ∧
  (1 ≤ z ∧ z ≤ 5 → ∀ H', Same H H' → Q (.int (FT.best r z.toNat)) H') ∧ (¬ (1 ≤ z ∧ z ≤ 5) → E (.ref CZ) none H)
theorem ok_leastPrice {f fZ fC : Addr} {fd fdZ fdC : FuncData} (F : Fun K "_least_price" "_least_price" sLeastPrice f fd) (T : PTx K mg C CP CZ)
    (FZ : Fun K "check_zones" "check_zones" sCheckZones fZ fdZ) (bZ : Binds K fdZ ["zones"] []) (gZ : mg "check_zones" = some (.ref fZ))
    (FC : Fun K "cheapest" "cheapest" sCheapest fC fdC) (bC : Binds K fdC ["prices", "zones"] []) (gC : mg "cheapest" = some (.ref fC)) :
    FnOk P w K mg base (L2N.CX P w) 2 f fd ["prices", "zones"] (spLeastPrice K CZ) := by
  have GZ : FnOk P w K mg base (L2N.CX P w) 1 fZ fdZ ["zones"] (spCheckZones CZ) := ok_checkZones FZ T
  have GC : FnOk P w K mg base CX0 1 fC fdC ["prices", "zones"] (spCheapest K) := ok_cheapest FC T
  refine okN F scLeastPrice (fun vs H Q E h => ?_) (fun cdv A outer s H vs Q E hr h => ?_)
  · obtain ⟨a, r, z, rfl, _⟩ := h
    rfl
  · obtain ⟨a, r, z, rfl, hR, h5, q1, q2⟩ := h
    refine ⟨_, pss_cons (ps_expr (pe_call GZ hr (by rfl) gZ FZ.kp bZ .nil (L2N.passes_call (W := fun cls d _ H => E cls d H) (L2N.takes_of rfl rfl rfl rfl) (fun _ _ _ _ h => h)) (pa_cons (pv 1) pa_nil)))
      (pss_cons (ps_asg (pe_call GC hr (by rfl) gC FC.kp bC .nil pass0 (pa_cons (pv 0) (pa_cons (pv 1) pa_nil))) (pg_tup rfl (pgs_cons (pg_name (i := 2) scLeastPrice.nd rfl (.inl rfl)) (pgs_cons (pg_name (i := 3) scLeastPrice.nd rfl (.inl rfl)) pgs_nil))))
      (pss_one (ps_ret (pv 2)))), ?_⟩
    refine ⟨_, rfl, z, rfl, fun hz => ?_, q2⟩
    obtain ⟨k, rfl⟩ : ∃ k : Nat, z = k := ⟨z.toNat, by omega⟩
    refine ⟨_, rfl, _, rfl, a, r, k, rfl, SqL.of hR, fun H' s' => SqL.of (s' _ _ hR), h5, by omega, by omega, fun H' p j sm hp _ _ _ => ?_⟩
    refine ⟨p, _, rfl, SqT.of hp, rfl, _, _, rfl, _, _, rfl, rfl, _, rfl, ?_⟩
    exact q1 hz H' sm
/-! ### Tariff -/
def tf (sa da wa : Addr) : List (Str × V) := putF "weeks" (.ref wa) (putF "days" (.ref da) (putF "singles" (.ref sa) []))
theorem g12 : ¬ (("singles" : Str) = "days") := by decide +kernel
theorem g13 : ¬ (("singles" : Str) = "weeks") := by decide +kernel
theorem g23 : ¬ (("days" : Str) = "weeks") := by decide +kernel
theorem tf_s (sa da wa : Addr) : (tf sa da wa).lookup ("singles" : Str) = some (.ref sa) := by
  unfold tf
  rw [lookup_putF, if_neg g13, lookup_putF, if_neg g12, lookup_putF, if_pos rfl]
theorem tf_d (sa da wa : Addr) : (tf sa da wa).lookup ("days" : Str) = some (.ref da) := by
  unfold tf
  rw [lookup_putF, if_neg g23, lookup_putF, if_pos rfl]
theorem tf_w (sa da wa : Addr) : (tf sa da wa).lookup ("weeks" : Str) = some (.ref wa) := by
  unfold tf
  rw [lookup_putF, if_pos rfl]
theorem tf_no (sa da wa : Addr) {m : Str} (h1 : ¬ m = "singles") (h2 : ¬ m = "days") (h3 : ¬ m = "weeks") : (tf sa da wa).lookup m = none := by
  unfold tf
  rw [lookup_putF, if_neg h3, lookup_putF, if_neg h2, lookup_putF, if_neg h1]
  all_goals rfl
theorem ok_tInit {f fP : Addr} {fd fdP : FuncData} (F : Fun K "__init__" "Tariff.__init__" sTInit f fd) (T : PTx K mg C CP CZ)
    (FP : Fun K "_check_prices" "_check_prices" sCheckPrices fP fdP) (bP : Binds K fdP ["prices"] []) (gP : mg "_check_prices" = some (.ref fP)) :
    FnOk P w K mg base (L2N.CX P w) 2 f fd ["self", "singles", "days", "weeks"] (spTInit K C CP) := by
  have GP : FnOk P w K mg base (L2N.CX P w) 1 fP fdP ["prices"] (spCheckPrices K CP) := ok_checkPrices FP T
  refine okN F scTInit (fun vs H Q E h => ?_) (fun cdv A outer s H vs Q E hr h => ?_)
  · obtain ⟨p, dx, sa, da, wa, S, D, W, rfl, _⟩ := h
    rfl
  · obtain ⟨p, dx, sa, da, wa, S, D, W, rfl, hp, hk, _, _, _, q1, q2⟩ := h
    refine ⟨_, pss_cons (ps_for (passes_of rfl) rfl (pi_tup (pe_tup (pa_cons (pv 1) (pa_cons (pv 2) (pa_cons (pv 3) pa_nil))))) (pg_name (i := 4) scTInit.nd rfl (.inl rfl))
        (pss_one (ps_expr (pe_call GP hr (by rfl) gP FP.kp bP .nil (L2N.passes_call (W := fun cls d _ H => E cls d H) (L2N.takes_of rfl rfl rfl rfl) (fun _ _ _ _ h => h)) (pa_cons (pv 4) pa_nil)))))
      (pss_cons (ps_fld (pv 0) (pe_callTy call_list_of (by rfl) T.list (by decide +kernel) (pa_cons (pv 1) pa_nil)) rfl)
      (pss_cons (ps_fld (pv 0) (pe_callTy call_list_of (by rfl) T.list (by decide +kernel) (pa_cons (pv 2) pa_nil)) rfl)
      (pss_one (ps_fld (pv 0) (pe_callTy call_list_of (by rfl) T.list (by decide +kernel) (pa_cons (pv 3) pa_nil)) rfl)))), ?_⟩
    refine ⟨_, rfl, _, rfl, _, rfl, by show 3 ≤ sizeLine; decide, fun t nt => ?_⟩
    have k0 : Kept H (upd H t (.tup [.ref sa, .ref da, .ref wa])) p := fun b o e n => by rw [upd_ne (ne_of_none e nt)]; exact e
    have pt : p ≠ t := ne_of_none hp nt
    obtain ⟨H0, e0⟩ : ∃ H0, H0 = upd H t (.tup [V.ref sa, .ref da, .ref wa]) := ⟨_, rfl⟩
    have ht : H0 t = some (.tup [.ref sa, .ref da, .ref wa]) := by rw [e0, upd_same]
    have hp0 : H0 p = some (.ins C dx []) := by rw [e0, upd_ne pt]; exact hp
    rw [← e0] at k0
    show ∃ a, _
    rw [← e0]
    obtain ⟨hs0, hd0, hw0⟩ := hk H0 k0
    have bad : ∀ (i : Nat) (r : List Int), [S, D, W][i]? = some r → ¬ Five r → ¬ (Five S ∧ Five D ∧ Five W) := fun i r e nr z => by
      rcases i with _ | _ | _ | i
      · cases e; exact nr z.1
      · cases e; exact nr z.2.1
      · cases e; exact nr z.2.2
      · simp at e
    refine ⟨t, rfl, ⟨_, SqT.of ht⟩, for_tup (K := K) (a := t) (xs := [.ref sa, .ref da, .ref wa]) (fun i σ H' => H' = H0 ∧ (∃ y4 : Option V, σ = [some (.ref p), some (.ref sa), some (.ref da), some (.ref wa), y4]) ∧ ∀ j r, j < i → [S, D, W][j]? = some r → Five r)
      ⟨rfl, ⟨none, rfl⟩, fun j r h => absurd h (Nat.not_lt_zero j)⟩ (fun i σ H' _ h => by rw [h.1]; exact SqT.of ht) ?_ ?_⟩
    · rintro i x σ H' hi ⟨e', ⟨y4, rfl⟩, hf⟩
      have e2 := e'.symm
      subst e2
      obtain ⟨a, r, rfl, er, hS⟩ : ∃ (a : Addr) (r : List Int), x = .ref a ∧ [S, D, W][i]? = some r ∧ SqL K H0 a (r.map V.int) := by
        rcases i with _ | _ | _ | i
        · cases hi; exact ⟨sa, S, rfl, rfl, hs0⟩
        · cases hi; exact ⟨da, D, rfl, rfl, hd0⟩
        · cases hi; exact ⟨wa, W, rfl, rfl, hw0⟩
        · simp at hi
      refine ⟨_, rfl, a, r, rfl, hS, fun f5 => ⟨rfl, ⟨_, rfl⟩, fun j r' hj ej => ?_⟩, fun n5 => q2 (bad i r er n5) H0 k0⟩
      rcases Nat.lt_succ_iff_lt_or_eq.mp hj with h | h
      · exact hf j r' h ej
      · subst h
        rw [er] at ej
        cases ej
        exact f5
    · rintro σ H' ⟨e', ⟨y4, rfl⟩, hf⟩
      have e2 := e'.symm
      subst e2
      have ok : Five S ∧ Five D ∧ Five W := ⟨hf 0 S (by show 0 < 3; decide) rfl, hf 1 D (by show 1 < 3; decide) rfl, hf 2 W (by show 2 < 3; decide) rfl⟩
      -- self.singles = list(singles)
      refine ⟨_, rfl, sa, _, rfl, .inl hs0, fun la nla => ?_⟩
      have pl : p ≠ la := ne_of_none hp0 nla
      refine ⟨_, rfl, p, C, dx, [], rfl, by rw [upd_ne pl]; exact hp0, T.cl, T.nS, by show 0 < 1000; decide, ?_⟩
      obtain ⟨H1, e1⟩ : ∃ H1, H1 = upd (upd H0 la (.lst (S.map V.int))) p (.ins C dx (putF "singles" (.ref la) [])) := ⟨_, rfl⟩
      rw [← e1]
      have k1 : Kept H0 H1 p := e1 ▸ Kept.put fun b o e n => by rw [upd_ne (ne_of_none e nla)]; exact e
      have k1' : Kept H H1 p := fun b o e n => k1 b o (k0 b o e n) n
      have hl1 : RowAt H1 la S := by show H1 la = _; rw [e1, upd_ne pl.symm, upd_same]
      have hp1 : H1 p = some (.ins C dx (putF "singles" (.ref la) [])) := by rw [e1, upd_same]
      clear e1
      obtain ⟨_, hd1, _⟩ := hk H1 k1'
      -- self.days = list(days)
      refine ⟨_, rfl, da, _, rfl, .inl hd1, fun lb nlb => ?_⟩
      have pb : p ≠ lb := ne_of_none hp1 nlb
      refine ⟨_, rfl, p, C, dx, _, rfl, by rw [upd_ne pb]; exact hp1, T.cl, T.nD, by show 1 < 1000; decide, ?_⟩
      obtain ⟨H2, e2⟩ : ∃ H2, H2 = upd (upd H1 lb (.lst (D.map V.int))) p (.ins C dx (putF "days" (.ref lb) (putF "singles" (.ref la) []))) := ⟨_, rfl⟩
      rw [← e2]
      have k2 : Kept H1 H2 p := e2 ▸ Kept.put fun b o e n => by rw [upd_ne (ne_of_none e nlb)]; exact e
      have k2' : Kept H H2 p := fun b o e n => k2 b o (k1' b o e n) n
      have hl2 : RowAt H2 la S := k2 _ _ hl1 pl.symm
      have hb2 : RowAt H2 lb D := by show H2 lb = _; rw [e2, upd_ne pb.symm, upd_same]
      have hp2 : H2 p = some (.ins C dx (putF "days" (.ref lb) (putF "singles" (.ref la) []))) := by rw [e2, upd_same]
      clear e2
      obtain ⟨_, _, hw2⟩ := hk H2 k2'
      -- self.weeks = list(weeks)
      refine ⟨_, rfl, wa, _, rfl, .inl hw2, fun lc nlc => ?_⟩
      have pc : p ≠ lc := ne_of_none hp2 nlc
      refine ⟨_, rfl, p, C, dx, _, rfl, by rw [upd_ne pc]; exact hp2, T.cl, T.nW, by show 2 < 1000; decide, ?_⟩
      obtain ⟨H3, e3⟩ : ∃ H3, H3 = upd (upd H2 lc (.lst (W.map V.int))) p (.ins C dx (tf la lb lc)) := ⟨_, rfl⟩
      have k3 : Kept H2 H3 p := e3 ▸ Kept.put fun b o e n => by rw [upd_ne (ne_of_none e nlc)]; exact e
      have k3' : Kept H H3 p := fun b o e n => k3 b o (k2' b o e n) n
      have hl3 : RowAt H3 la S := k3 _ _ hl2 pl.symm
      have hb3 : RowAt H3 lb D := k3 _ _ hb2 pb.symm
      have hc3 : RowAt H3 lc W := by show H3 lc = _; rw [e3, upd_ne pc.symm, upd_same]
      have hp3 : H3 p = some (.ins C dx (tf la lb lc)) := by rw [e3, upd_same]
      have stays : TStays C H H3 p S D W := fun H'' keep => ⟨⟨dx, _, la, lb, lc, keep _ _ hp3 (.inr rfl), tf_s _ _ _, tf_d _ _ _, tf_w _ _ _, tf_no _ _ _ (by decide +kernel) (by decide +kernel) (by decide +kernel),
        tf_no _ _ _ (by decide +kernel) (by decide +kernel) (by decide +kernel), tf_no _ _ _ (by decide +kernel) (by decide +kernel) (by decide +kernel), keep _ _ hl3 (.inl (k0.new nla pl.symm)), keep _ _ hb3 (.inl (k1'.new nlb pb.symm)), keep _ _ hc3 (.inl (k2'.new nlc pc.symm))⟩, ok⟩
      have fin := q1 ok H3 k3' (stays H3 fun b o e _ => e) stays
      rw [e3] at fin
      exact fin
/-! ### Tariff.single, day, week -/
theorem ok_tSingle {f fL fZ fC : Addr} {fd fdL fdZ fdC : FuncData} (F : Fun K "single" "Tariff.single" sTSingle f fd) (T : PTx K mg C CP CZ)
    (FZ : Fun K "check_zones" "check_zones" sCheckZones fZ fdZ) (bZ : Binds K fdZ ["zones"] []) (gZ : mg "check_zones" = some (.ref fZ))
    (FC : Fun K "cheapest" "cheapest" sCheapest fC fdC) (bC : Binds K fdC ["prices", "zones"] []) (gC : mg "cheapest" = some (.ref fC))
    (FL : Fun K "_least_price" "_least_price" sLeastPrice fL fdL) (bL : Binds K fdL ["prices", "zones"] []) (gL : mg "_least_price" = some (.ref fL)) :
    FnOk P w K mg base (L2N.CX P w) 3 f fd ["self", "zones"] (spPrice C CZ 0) := by
  have GL : FnOk P w K mg base (L2N.CX P w) 2 fL fdL ["prices", "zones"] (spLeastPrice K CZ) := ok_leastPrice FL T FZ bZ gZ FC bC gC
  refine okN F scTSingle (fun vs H Q E h => ?_) (fun cdv A outer s H vs Q E hr h => ?_)
  · obtain ⟨p, z, S, D, W, rfl, _⟩ := h
    rfl
  · obtain ⟨p, z, S, D, W, rfl, TA, q1, q2⟩ := h
    obtain ⟨⟨dx, fs, sa, da, wa, hp, e1, e2, e3, _, _, _, r1, r2, r3⟩, o1, o2, o3⟩ := TA
    refine ⟨_, pss_one (ps_ret (pe_call GL hr (by rfl) gL FL.kp bL .nil (L2N.passes_call (W := fun cls d _ H => E cls d H) (L2N.takes_of rfl rfl rfl rfl) (fun _ _ _ _ h => h)) (pa_cons (pe_fld (pv 0) rfl) (pa_cons (pv 1) pa_nil)))), ?_⟩
    refine ⟨_, rfl, p, C, dx, _, _, rfl, hp, T.cl, T.nS, e1, _, rfl, _, S, z, rfl, r1, o1.1, fun hz H' sm => ?_, fun no => q2 no H fun _ _ e => e⟩
    have fin := q1 hz H' sm
    rw [lpr_best (show (rowOf 0 S D W).length = 5 from o1.1) (by omega) (by omega)] at fin
    exact fin
theorem ok_tDay {f fL fZ fC : Addr} {fd fdL fdZ fdC : FuncData} (F : Fun K "day" "Tariff.day" sTDay f fd) (T : PTx K mg C CP CZ)
    (FZ : Fun K "check_zones" "check_zones" sCheckZones fZ fdZ) (bZ : Binds K fdZ ["zones"] []) (gZ : mg "check_zones" = some (.ref fZ))
    (FC : Fun K "cheapest" "cheapest" sCheapest fC fdC) (bC : Binds K fdC ["prices", "zones"] []) (gC : mg "cheapest" = some (.ref fC))
    (FL : Fun K "_least_price" "_least_price" sLeastPrice fL fdL) (bL : Binds K fdL ["prices", "zones"] []) (gL : mg "_least_price" = some (.ref fL)) :
    FnOk P w K mg base (L2N.CX P w) 3 f fd ["self", "zones"] (spPrice C CZ 1) := by
  have GL : FnOk P w K mg base (L2N.CX P w) 2 fL fdL ["prices", "zones"] (spLeastPrice K CZ) := ok_leastPrice FL T FZ bZ gZ FC bC gC
  refine okN F scTDay (fun vs H Q E h => ?_) (fun cdv A outer s H vs Q E hr h => ?_)
  · obtain ⟨p, z, S, D, W, rfl, _⟩ := h
    rfl
  · obtain ⟨p, z, S, D, W, rfl, TA, q1, q2⟩ := h
    obtain ⟨⟨dx, fs, sa, da, wa, hp, e1, e2, e3, _, _, _, r1, r2, r3⟩, o1, o2, o3⟩ := TA
    refine ⟨_, pss_one (ps_ret (pe_call GL hr (by rfl) gL FL.kp bL .nil (L2N.passes_call (W := fun cls d _ H => E cls d H) (L2N.takes_of rfl rfl rfl rfl) (fun _ _ _ _ h => h)) (pa_cons (pe_fld (pv 0) rfl) (pa_cons (pv 1) pa_nil)))), ?_⟩
    refine ⟨_, rfl, p, C, dx, _, _, rfl, hp, T.cl, T.nD, e2, _, rfl, _, D, z, rfl, r2, o2.1, fun hz H' sm => ?_, fun no => q2 no H fun _ _ e => e⟩
    have fin := q1 hz H' sm
    rw [lpr_best (show (rowOf 1 S D W).length = 5 from o2.1) (by omega) (by omega)] at fin
    exact fin
theorem ok_tWeek {f fL fZ fC : Addr} {fd fdL fdZ fdC : FuncData} (F : Fun K "week" "Tariff.week" sTWeek f fd) (T : PTx K mg C CP CZ)
    (FZ : Fun K "check_zones" "check_zones" sCheckZones fZ fdZ) (bZ : Binds K fdZ ["zones"] []) (gZ : mg "check_zones" = some (.ref fZ))
    (FC : Fun K "cheapest" "cheapest" sCheapest fC fdC) (bC : Binds K fdC ["prices", "zones"] []) (gC : mg "cheapest" = some (.ref fC))
    (FL : Fun K "_least_price" "_least_price" sLeastPrice fL fdL) (bL : Binds K fdL ["prices", "zones"] []) (gL : mg "_least_price" = some (.ref fL)) :
    FnOk P w K mg base (L2N.CX P w) 3 f fd ["self", "zones"] (spPrice C CZ 2) := by
  have GL : FnOk P w K mg base (L2N.CX P w) 2 fL fdL ["prices", "zones"] (spLeastPrice K CZ) := ok_leastPrice FL T FZ bZ gZ FC bC gC
  refine okN F scTWeek (fun vs H Q E h => ?_) (fun cdv A outer s H vs Q E hr h => ?_)
  · obtain ⟨p, z, S, D, W, rfl, _⟩ := h
    rfl
  · obtain ⟨p, z, S, D, W, rfl, TA, q1, q2⟩ := h
    obtain ⟨⟨dx, fs, sa, da, wa, hp, e1, e2, e3, _, _, _, r1, r2, r3⟩, o1, o2, o3⟩ := TA
    refine ⟨_, pss_one (ps_ret (pe_call GL hr (by rfl) gL FL.kp bL .nil (L2N.passes_call (W := fun cls d _ H => E cls d H) (L2N.takes_of rfl rfl rfl rfl) (fun _ _ _ _ h => h)) (pa_cons (pe_fld (pv 0) rfl) (pa_cons (pv 1) pa_nil)))), ?_⟩
    refine ⟨_, rfl, p, C, dx, _, _, rfl, hp, T.cl, T.nW, e3, _, rfl, _, W, z, rfl, r3, o3.1, fun hz H' sm => ?_, fun no => q2 no H fun _ _ e => e⟩
    have fin := q1 hz H' sm
    rw [lpr_best (show (rowOf 2 S D W).length = 5 from o3.1) (by omega) (by omega)] at fin
    exact fin
end
end FW

namespace FW
open PySem PySem.Spec PyProof.Rows L2
/-! ### a refusal that is handled is handed to a def, which asks what kind it is -/
section
variable {P : Program} {w : World} {K : PySem.W.Frag} {mg : Str → Option Value} {base : Heap}
/-- what a def is told of the refusal that is handled: its place, its class, its dict -/
abbrev SpE := Addr → Value → Option Addr → List V → Hp → VK → Prop
structure FnE (P : Program) (w : World) (K : PySem.W.Frag) (mg : Str → Option Value) (base : Heap) (k : Nat) (f : Addr) (fd : FuncData) (ps : List Str) (sp : SpE) : Prop where
  len : ∀ a cls d vs H Q, sp a cls d vs H Q → vs.length = ps.length
  run : ∀ (A : Around) (outer : List Env) (s : Shared) (H : Hp) (args : Args) (us : List Value) (vs : List V) (Q : VK) (a : Addr) (oe : Obj) (cls : Value) (d : Option Addr),
    L2H.RoomH k A → L2N.Zn cls d oe → (∃ fl, oe.data = .fields fl) → L2H.PinOk outer H s (a, oe) → Env0 P w K mg base A outer s H → BindsTo s fd args (ps.zip us) → Vals vs us → sp a cls d vs H Q →
    codeAny (model P w) A (.call (.ref f) args) (CR CX0 outer P w H s Q E0) s
theorem okE {x qual : Str} {st : Stmt} {f : Addr} {fd : FuncData} {N ps : List Str} {k : Nat} {sp : SpE} (F : Fun K x qual st f fd) (S : FnScope N ps (defScope st)) (len : ∀ a cls d vs H Q, sp a cls d vs H Q → vs.length = ps.length)
    (body : ∀ (cdv : Value) (A : Around) (outer : List Env) (s : Shared) (H : Hp) (vs : List V) (Q : VK) (a : Addr) (oe : Obj) (cls : Value) (d : Option Addr), L2H.RoomH k (A.deeper (envOfC qual (defScope st) s.heap.objs.size f cdv)) →
      L2N.Zn cls d oe → (∃ fl, oe.data = .fields fl) → sp a cls d vs H Q →
      ∃ t, PSs (L2H.cxH CX0 P w K mg base N qual (defScope st) f cdv A outer s H E0 (a, oe)) (defBody st) t ∧ t { nx := fun _ H' => Q .non H', rt := Q } (L2.start N vs) H) :
    FnE P w K mg base (k + 1) f fd ps sp := by
  obtain ⟨_, _, _, _, _, _, cdv, _, _, rfl, at_f, code⟩ := F.ex
  constructor
  · exact len
  intro A outer s H args us vs Q a oe cls d room zn flds pin env0 binds vals promised
  have count := len _ _ _ _ _ _ promised
  have kept_in : K.In s.heap := env0.mod.kin.keeps fun b o there => (env0.bs b o there).1
  have no_limit : s.heap.NoLimit := env0.mod.nolimit.keeps fun b o there => (env0.bs b o there).1
  have kinds : ∀ y ∈ ps.zip us, (defScope st).names.lookup y.1 = some .local ∨ ((defScope st).names.lookup y.1 = some .cell ∧ ((cellsFrom (s.heap.objs.size + 1) (defScope st).names []).lookup y.1).isSome = true) := by
    rintro ⟨n, v⟩ both
    rcases S.par n (List.of_mem_zip both).1 with is_local | is_cell
    · exact .inl is_local
    · exact .inr ⟨is_cell, PySem.W.cellsFrom_some _ _ _ (.inl is_cell)⟩
  refine codeAny_call_function room.depth (kept_in _ _ at_f) rfl S.co S.gen rfl (PySem.W.codeRec_of kept_in code) (binds _ _ _ _ ?_)
  refine wpAny_newFunctionEnv_cells S.kind kinds fun env is_env made begun => ?_
  subst is_env
  refine ⟨no_limit.keeps begun.toInCall.keep, codeAny_func ?_⟩
  obtain ⟨t, term, reading⟩ := body cdv A outer s H vs Q a oe cls d (room.deeper _) zn flds promised
  have inv : Inv (L2H.cxH CX0 P w K mg base N qual (defScope st) f cdv A outer s H E0 (a, oe)) [] (L2.start N vs) H made := L2H.inv_startH S pin env0 count vals begun
  refine wpAny_mono (term.run [] made (L2.start N vs) H _ inv reading) (fun flow behind told => ?_) fun _ _ told => told
  have leave : ∀ {σ' : L2.St} {H' : Hp} {v : V} {u : Value}, Inv (L2H.cxH CX0 P w K mg base N qual (defScope st) f cdv A outer s H E0 (a, oe)) [] σ' H' behind → RelV v u → Q v H' → CE outer P w H s Q u behind := by
    intro σ' H' v u inv' rel wish
    exact ⟨v, H', inv'.os, inv'.bare, inv'.base, inv'.hok, rel, wish⟩
  match flow, told with
  | .ret u, ⟨v, σ', H', inv', rel, wish⟩ => exact leave inv' rel wish
  | .next, ⟨σ', H', inv', wish⟩ => exact leave (v := V.non) (u := Value.none) inv' rfl wish
  | .brk, ⟨_, _, _, no⟩ => exact no.elim
  | .cont, ⟨_, _, _, no⟩ => exact no.elim
/-- f(e) within an except suite, e the refusal -/
theorem pe_callE {X : Cx} {k : Nat} {f a : Addr} {fd : FuncData} {ps : List Str} {sp : SpE} {x : Str} {q pos : Pos} {e : Expr} {t : TA} {oe : Obj} {cls : Value} {d : Option Addr} {pn : List (Addr × Obj)} (F : FnE X.prog X.w X.K X.mg X.base k f fd ps sp) (hr : L2H.RoomH k X.A)
    (hz : L2N.Zn cls d oe) (hf : ∃ fl, oe.data = .fields fl) (hg : Gl X x) (hm : X.mg x = some (.ref f)) (hk : PySem.W.keepIn X.K (.ref f) = true) (hb : Binds X.K fd ps [])
    (ha : PA (X.suite a ((a, oe) :: pn)) [e] t) (hdb : (x == ("__debug__" : Str)) = false := by decide) (he : starEach [e] (X.suite a ((a, oe) :: pn)).env = (false, eval e (X.suite a ((a, oe) :: pn)).env) :: starEach [] (X.suite a ((a, oe) :: pn)).env := by rfl)
    (hpl : (backTo pos (starEach [] (X.suite a ((a, oe) :: pn)).env)).any (·.1) = false := by rfl) : PE (X.suite a ((a, oe) :: pn)) (.Call (.Name x q) [e] [] pos) (fun σ H Q => t σ H fun vs H1 => sp a cls d vs H1 Q) := by
  constructor
  intro pins s σ H Q inv reading
  refine wpAny_Call_Name_kw (ld_glob inv hg hm ?_ hdb)
  refine PySem.W.callWith_K (h₀ := X.base) inv.ok.mod.kin hk (thn (ha.run pos pins s σ H _ inv reading) fun us behind ⟨vs, H1, inv1, rel, promised⟩ => ⟨inv1.kIn, ?_⟩) he hpl
  have count : us.length = ps.length := by
    rw [← rel.length]
    exact F.len _ _ _ _ _ _ promised
  have binds := hb behind us inv1.kIn (by rw [List.append_nil]; exact count)
  rw [List.append_nil] at binds
  obtain ⟨there, free, not_local, not_frame, no_cell⟩ := inv1.pin (a, oe) (List.mem_append_left _ List.mem_cons_self)
  have pin : L2H.PinOk (X.suite a ((a, oe) :: pn)).stack H1 behind (a, oe) := ⟨there, free, fun is_in => (List.mem_cons.mp (inv1.stkSub a is_in)).elim not_local not_frame, no_cell⟩
  refine wpAny_call (codeAny_mono (F.run _ _ behind H1 ⟨us, []⟩ us vs Q a oe cls d ⟨hr.dp, hr.un⟩ hz hf pin inv1.env0 binds rel promised) fun result after told => ?_)
  match result, told with
  | .error _, no => exact no.elim
  | .ok (.ret _), told => exact inv1.after told
  | .ok .next, no => exact no.elim
  | .ok .brk, no => exact no.elim
  | .ok .cont, no => exact no.elim
/-- isinstance(e, c), e the refusal that such a def was handed -/
theorem call_isP {X : Cx} {a : Addr} {oe : Obj} {cls : Value} {d : Option Addr} (hp : (a, oe) ∈ X.pn) (hz : Zc cls d oe) (hf : ∃ fl, oe.data = .fields fl) :
    CallR X (.builtin "isinstance") (fun xs H Q => ∃ (D : Addr) (c : V) (cv : Value) (b : Bool), cls = .ref D ∧ d = none ∧ ExcC X.K D ∧ xs = [.ref a, c] ∧ (∀ u, RelV c u → u = cv) ∧ PySem.W.kitOne X.K (.ref D) cv = some b ∧ Q (.bl b) H) := by
  intro pins s σ H xs us Q inv vals reading
  obtain ⟨D, c, cv, b, rfl, rfl, C, rfl, only, answer, wish⟩ := reading
  obtain ⟨there, _⟩ := inv.pin (a, oe) (List.mem_append_left _ hp)
  obtain ⟨oc, od, data, slots⟩ := oe
  obtain ⟨fl, is_fl⟩ := hf
  obtain ⟨is_cls, is_dict⟩ := hz
  dsimp only at is_cls is_dict is_fl
  subst is_cls is_dict is_fl
  cases vals with
  | cons rx more =>
    cases more with
    | cons rc none_more =>
      cases none_more
      cases rx
      obtain rfl := only _ rc
      have stands : PySem.W.InstAt s.heap a _ D none := ⟨there, rfl, rfl, trivial⟩
      exact PySem.W.kia_one (PySem.W.handS_kitx_exc C.hg C.hk C.hs C.hd C.ha C.hn C.ht C.hm) inv.kIn stands answer (fun z => nomatch z) fun tk => ⟨.bl b, H, inv.kept (t' := tk) fun _ _ z => z, rfl, wish⟩
/-- xs.count(y), flat items -/
theorem countP_eqU {y : V} : ∀ {xs : List V} {us : List Value}, Vals xs us → xs.all flatV = true → us.countP (eqU y) = xs.countP fun z => eqV z y
  | _, _, .nil, _ => rfl
  | x :: xs, u :: us, .cons r t, f => by
    rw [List.all_cons, Bool.and_eq_true] at f
    rw [List.countP_cons, List.countP_cons, countP_eqU t f.2, eqU_of r f.1]
theorem mt_countF {X : Cx} : MtR X "list.count" (fun x xs H Q => ∃ (p : Addr) (ys : List V) (y : V), x = .ref p ∧ xs = [y] ∧ SqL X.K H p ys ∧ flatV y = true ∧ ys.all flatV = true ∧ Q (.int (ys.countP fun z => eqV z y : Nat)) H) := by
  intro pins s σ H x xs v us Q inv rx rxs reading
  obtain ⟨p, ys, y, rfl, rfl, list, flat_y, flat_ys, wish⟩ := reading
  cases rx
  obtain ⟨uy, rfl, ry⟩ := rxs.one
  focus
    obtain ⟨items, vals, ⟨⟨_, dd, _, sl⟩, n, there, is_list, _, is_data⟩, _⟩ := inv.list list
    simp only at is_list is_data
    subst is_list is_data
    have counted := countP_eqU (y := y) vals flat_ys
    refine call_meets PySem.F.slot_list_count ⟨_, there, rfl⟩ PySem.F.entry_list_count (PySem.F.args_list_count_2 _ _) (SeqAt.list_countAt p items.toArray n dd sl uy (eqU y))
      ⟨there, fun u is_in => mem_eqAt ry flat_y vals flat_ys u (by simpa using is_in), .int (ys.countP fun z => eqV z y : Nat), H, inv.tok _, ⟨s.toks, ?_⟩, wish⟩
    rw [← counted]
/-! ### _law_kind -/
abbrev sKind : Stmt := top 17
theorem scKind : FnScope ["_law_e", "_law_kinds"] ["_law_e"] (defScope sKind) := ⟨rfl, rfl, rfl, by decide +kernel, rfl, by decide +kernel, by decide +kernel⟩
/-- the class at D is the j-th of the six kinds, and no other -/
structure KindT (K : PySem.W.Frag) (c0 c1 c2 c3 c4 c5 D : Addr) (j : Nat) : Prop where
  ex : ExcC K D
  k0 : PySem.W.kitOne K (.ref D) (.ref c0) = some (decide (j = 0))
  k1 : PySem.W.kitOne K (.ref D) (.ref c1) = some (decide (j = 1))
  k2 : PySem.W.kitOne K (.ref D) (.ref c2) = some (decide (j = 2))
  k3 : PySem.W.kitOne K (.ref D) (.ref c3) = some (decide (j = 3))
  k4 : PySem.W.kitOne K (.ref D) (.ref c4) = some (decide (j = 4))
  k5 : PySem.W.kitOne K (.ref D) (.ref c5) = some (decide (j = 5))
  kv : PySem.W.kitOne K (.ref D) (.type "ValueError") = some true
  lt : j < 6
structure KG (mg : Str → Option Value) (c0 c1 c2 c3 c4 c5 : Addr) : Prop where
  g0 : mg "BadLink" = some (.ref c0)
  g1 : mg "BadStop" = some (.ref c1)
  g2 : mg "NoWay" = some (.ref c2)
  g3 : mg "BadPrices" = some (.ref c3)
  g4 : mg "BadZones" = some (.ref c4)
  g5 : mg "PastDay" = some (.ref c5)
  isi : mg "isinstance" = none
  ve : mg "ValueError" = none
def kinds (j : Nat) : List V := [.bl (decide (j = 0)), .bl (decide (j = 1)), .bl (decide (j = 2)), .bl (decide (j = 3))] ++ [.bl (decide (j = 4)), .bl (decide (j = 5))]
theorem kinds_all : ∀ j, j < 6 → ((kinds j).countP fun z => eqV z (.bl true)) = 1 ∧ (kinds j)[j]? = some (.bl true) ∧ (kinds j).all flatV = true ∧ ∀ (m : Nat) (z : V), m < j → (kinds j)[m]? = some z → eqV z (.bl true) = false
  | 0, _ => ⟨rfl, rfl, rfl, fun m z h => by omega⟩
  | 1, _ => ⟨rfl, rfl, rfl, fun m z h e => by
    match m, h, e with
    | 0, _, e => cases e; rfl⟩
  | 2, _ => ⟨rfl, rfl, rfl, fun m z h e => by
    match m, h, e with
    | 0, _, e => cases e; rfl
    | 1, _, e => cases e; rfl⟩
  | 3, _ => ⟨rfl, rfl, rfl, fun m z h e => by
    match m, h, e with
    | 0, _, e => cases e; rfl
    | 1, _, e => cases e; rfl
    | 2, _, e => cases e; rfl⟩
  | 4, _ => ⟨rfl, rfl, rfl, fun m z h e => by
    match m, h, e with
    | 0, _, e => cases e; rfl
    | 1, _, e => cases e; rfl
    | 2, _, e => cases e; rfl
    | 3, _, e => cases e; rfl⟩
  | 5, _ => ⟨rfl, rfl, rfl, fun m z h e => by
    match m, h, e with
    | 0, _, e => cases e; rfl
    | 1, _, e => cases e; rfl
    | 2, _, e => cases e; rfl
    | 3, _, e => cases e; rfl
    | 4, _, e => cases e; rfl⟩
  | j + 6, h => by omega
def spKind (K : PySem.W.Frag) (c0 c1 c2 c3 c4 c5 : Addr) : SpE := fun a cls d vs H Q => vs = [.ref a] ∧ ∃ (D : Addr) (j : Nat), cls = .ref D ∧ d = none ∧ KindT K c0 c1 c2 c3 c4 c5 D j ∧ ∀ H', Same H H' → Q (.int (j : Nat)) H'
theorem ok_kind {f c0 c1 c2 c3 c4 c5 : Addr} {fd : FuncData} (F : Fun K "_law_kind" "_law_kind" sKind f fd) (G : KG mg c0 c1 c2 c3 c4 c5) : FnE P w K mg base 1 f fd ["_law_e"] (spKind K c0 c1 c2 c3 c4 c5) := by
  refine okE F scKind (fun a cls d vs H Q h => ?_) (fun cdv A outer s0 H vs Q a oe cls d hr hz hf h => ?_)
  · obtain ⟨rfl, _⟩ := h
    rfl
  · obtain ⟨rfl, D, j, ec, ed, T, q⟩ := h
    refine ⟨_, pss_cons (ps_set (i := 1) scKind.nd rfl (.inl rfl) (pe_lst
        (pa_cons (pe_callB (call_isP List.mem_cons_self hz.zc hf) (by rfl) G.isi boot_isinstance (pa_cons (pv 0) (pa_cons (pe_glob (v := .ref c0) (by rfl) G.g0 rfl) pa_nil)))
        (pa_cons (pe_callB (call_isP List.mem_cons_self hz.zc hf) (by rfl) G.isi boot_isinstance (pa_cons (pv 0) (pa_cons (pe_glob (v := .ref c1) (by rfl) G.g1 rfl) pa_nil)))
        (pa_cons (pe_callB (call_isP List.mem_cons_self hz.zc hf) (by rfl) G.isi boot_isinstance (pa_cons (pv 0) (pa_cons (pe_glob (v := .ref c2) (by rfl) G.g2 rfl) pa_nil)))
        (pa_cons (pe_callB (call_isP List.mem_cons_self hz.zc hf) (by rfl) G.isi boot_isinstance (pa_cons (pv 0) (pa_cons (pe_glob (v := .ref c3) (by rfl) G.g3 rfl) pa_nil))) pa_nil))))))
      (pss_cons (ps_set (i := 1) scKind.nd rfl (.inl rfl) (pe_op op_cat (pv 1) (pe_lst
        (pa_cons (pe_callB (call_isP List.mem_cons_self hz.zc hf) (by rfl) G.isi boot_isinstance (pa_cons (pv 0) (pa_cons (pe_glob (v := .ref c4) (by rfl) G.g4 rfl) pa_nil)))
        (pa_cons (pe_callB (call_isP List.mem_cons_self hz.zc hf) (by rfl) G.isi boot_isinstance (pa_cons (pv 0) (pa_cons (pe_glob (v := .ref c5) (by rfl) G.g5 rfl) pa_nil))) pa_nil)))))
      (pss_cons (ps_if (PW.pt (pw_or (pt_not (pt_val (pe_callB (call_isP List.mem_cons_self hz.zc hf) (by rfl) G.isi boot_isinstance (pa_cons (pv 0) (pa_cons (pe_bltn (v := .ty "ValueError") (by rfl) G.ve (by decide +kernel) rfl) pa_nil)))))
          (pw_or1 (pt_cmpR op_ne (pe_bm PySem.F.plainAttrs_list PySem.F.slot_list_count PySem.F.type_list_count mt_countF (pv 1) (pa_cons pe_bl pa_nil)) pe_int (nomark _))))) (pss_one (ps_ret (pe_un un_neg pe_int))) pss_nil)
      (pss_one (ps_ret (pe_bm PySem.F.plainAttrs_list PySem.F.slot_list_index PySem.F.type_list_index mt_index (pv 1) (pa_cons pe_bl pa_nil)))))), ?_⟩
    obtain ⟨kc, ka, kf, kn⟩ := kinds_all j T.lt
    have cv : ∀ (c : Addr) (u : Value), RelV (.ref c) u → u = .ref c := fun c u r => r
    refine ⟨_, rfl, D, _, _, _, ec, ed, T.ex, rfl, cv _, T.k0, ?_⟩
    refine ⟨_, rfl, D, _, _, _, ec, ed, T.ex, rfl, cv _, T.k1, ?_⟩
    refine ⟨_, rfl, D, _, _, _, ec, ed, T.ex, rfl, cv _, T.k2, ?_⟩
    refine ⟨_, rfl, D, _, _, _, ec, ed, T.ex, rfl, cv _, T.k3, by show 4 ≤ sizeLine; decide, fun l1 n1 => ?_⟩
    have s1 : Same H _ := same_upd (o := .lst [V.bl (decide (j = 0)), .bl (decide (j = 1)), .bl (decide (j = 2)), .bl (decide (j = 3))]) n1
    refine ⟨_, rfl, ?_⟩
    refine ⟨_, rfl, D, _, _, _, ec, ed, T.ex, rfl, cv _, T.k4, ?_⟩
    refine ⟨_, rfl, D, _, _, _, ec, ed, T.ex, rfl, cv _, T.k5, by show 2 ≤ sizeLine; decide, fun l2 n2 => ?_⟩
    have s2 := s1.trans (same_upd (o := .lst [V.bl (decide (j = 4)), .bl (decide (j = 5))]) n2)
    refine ⟨l1, l2, _, _, rfl, rfl, by rw [upd_ne (ne_of_none upd_same n2), upd_same], upd_same, by show 6 ≤ sizeLine; decide, fun l3 n3 => ?_⟩
    have s3 := s2.trans (same_upd (o := .lst (kinds j)) n3)
    obtain ⟨H3, e3⟩ : ∃ H3, H3 = upd (upd (upd H l1 (.lst [V.bl (decide (j = 0)), .bl (decide (j = 1)), .bl (decide (j = 2)), .bl (decide (j = 3))])) l2 (.lst [V.bl (decide (j = 4)), .bl (decide (j = 5))])) l3 (.lst (kinds j)) := ⟨_, rfl⟩
    have h3 : H3 l3 = some (.lst (kinds j)) := by rw [e3, upd_same]
    rw [← e3] at s3
    show tSeq _ _ _ _ (upd (upd (upd H l1 _) l2 _) l3 (.lst (kinds j)))
    rw [← e3]
    clear e3
    refine ⟨_, rfl, D, _, _, _, ec, ed, T.ex, rfl, fun u r => r, T.kv, true, rfl, ?_⟩
    refine iteF ?_
    refine ⟨_, rfl, .inl ⟨rfl, _, SqL.of h3⟩, l3, _, _, rfl, rfl, SqL.of h3, rfl, kf, rfl, _, rfl, ?_⟩
    rw [kc]
    refine iteNS rfl ?_
    exact ⟨_, rfl, .inl ⟨rfl, _, SqL.of h3⟩, l3, _, _, j, _, rfl, rfl, SqL.of h3, rfl, kf, ka, rfl, kn, q H3 s3⟩
end
end FW

namespace FW
open PySem PySem.Spec PyProof.Rows L2
/-! ### refusals that are taken -/
/-- the program's own class CF takes refusals of the class C -/
structure CatchF (K : PySem.W.Frag) (CF C : Addr) : Prop where
  b : PySem.W.subIn K (.ref CF) (.type "BaseException") = some true
  hd : PySem.W.hasDictIn K CF = true
  t : PySem.W.typeIn K (.ref CF) = some (.type "type")
  sub : PySem.W.subIn K (.ref C) (.ref CF) = some true
section
variable {P : Program} {w : World} {K : PySem.W.Frag} {mg : Str → Option Value} {base : Heap} {C CF : Addr}
theorem takes0N {X : Cx} : L2N.Takes X (fun _ _ _ _ => False) := by
  rintro _ _ ⟨_, _, _, _, _, _, _, _, _, _, _, _, _, _, _, _, z⟩
  exact z.elim
theorem passTry {X : Cx} {W : WX} (n : Nat) (tk : L2N.Takes X W) (hn : X.N.length = n := by rfl) : Passes (L2N.CX X.prog X.w) X (fun cls d H => ∀ σ : L2.St, σ.length = n → W cls d σ H) :=
  fun _ σ _ _ e s' I c => tk e s' (L2N.XE.of_call I (fun _ _ _ h => h σ (I.len.trans hn)) c)
theorem caughtF (c : CatchF K CF C) : PySem.W.exmOne K (.ref C) (.ref CF) = some true := PySem.W.exm_ref c.b c.hd c.t c.sub
theorem roomH {k j : Nat} {A : Around} (r : Room k A) (h : j ≤ k) : L2H.RoomH j A := L2H.roomH_of (r.mono h)
theorem made_new {C x dx : Addr} {H : Hp} (nx : H x = none) (ndx : H dx = none) (nex : dx ≠ x) : ∃ H1, H1 = upd (upd H dx (.own x)) x (.ins C dx []) ∧ Same H H1 ∧ H1 x = some (.ins C dx []) := by
  refine ⟨_, rfl, (same_upd ndx).trans (same_upd ?_), upd_same⟩
  rw [upd_ne nex.symm]
  exact nx
end
end FW

namespace FW
open PySem PySem.Spec PyProof.Rows L2
abbrev sMade : Stmt := top 18
abbrev sAny : Stmt := top 19
abbrev sAsked : Stmt := top 20
abbrev sRef : Stmt := top 21
abbrev sRefA : Stmt := top 22
abbrev sLaw : Stmt := top 23
theorem scMade : FnScope ["_law_rows"] ["_law_rows"] (defScope sMade) := ⟨rfl, rfl, rfl, by decide +kernel, rfl, by decide +kernel, by decide +kernel⟩
theorem scAny : FnScope ["_law_rows", "_law_e"] ["_law_rows"] (defScope sAny) := ⟨rfl, rfl, rfl, by decide +kernel, rfl, by decide +kernel, by decide +kernel⟩
theorem scAsked : FnScope ["_law_tariff", "_law_sort", "_law_zones"] ["_law_tariff", "_law_sort", "_law_zones"] (defScope sAsked) := ⟨rfl, rfl, rfl, by decide +kernel, rfl, by decide +kernel, by decide +kernel⟩
theorem scRef : FnScope ["_law_tariff", "_law_sort", "_law_zones"] ["_law_tariff", "_law_sort", "_law_zones"] (defScope sRef) := ⟨rfl, rfl, rfl, by decide +kernel, rfl, by decide +kernel, by decide +kernel⟩
theorem scRefA : FnScope ["_law_tariff", "_law_sort", "_law_zones", "_law_e"] ["_law_tariff", "_law_sort", "_law_zones"] (defScope sRefA) := ⟨rfl, rfl, rfl, by decide +kernel, rfl, by decide +kernel, by decide +kernel⟩
def RowsAt (H : Hp) (l : Addr) (as : List Addr) (rs : List (List Int)) : Prop := H l = some (.lst (as.map V.ref)) ∧ All2 (RowAt H) as rs
def Good3 (rs : List (List Int)) : Prop := ∀ r, r ∈ rs → Five r
section
variable {P : Program} {w : World} {K : PySem.W.Frag} {mg : Str → Option Value} {base : Heap} {C CP CZ CF c0 c1 c2 c5 : Addr}
structure LT (mg : Str → Option Value) : Prop where
  len : mg "len" = none
  list : mg "list" = none
  range : mg "range" = none
/-! ### _law_made, _law_any_refusal -/
def spMade (C : Addr) : L2.Sp := fun vs H Q _ => ∃ (l : Addr) (as : List Addr) (S D W : List Int), vs = [.ref l] ∧ RowsAt H l as [S, D, W] ∧ S.length ≤ 1000 ∧ D.length ≤ 1000 ∧ W.length ≤ 1000 ∧
  (Five S ∧ Five D ∧ Five W → ∀ (H' : Hp) (x : Addr), Same H H' → TarAt C H' x S D W → Q (.ref x) H') ∧ (¬ (Five S ∧ Five D ∧ Five W) → ∀ H', Same H H' → Q .non H')
theorem ok_made {f fIn : Addr} {fd dIn : FuncData} {kI : Nat} (F : Fun K "_law_made" "_law_made" sMade f fd) (gP : mg "BadPrices" = some (.ref CP)) (cP : CatchF K CP CP) (mk : Mk K C fIn) (gT : mg "Tariff" = some (.ref C)) (hk : kI + 1 ≤ 6)
    (GI : FnOk P w K mg base (L2N.CX P w) kI fIn dIn ["self", "singles", "days", "weeks"] (spTInit K C CP)) (bI : Binds K dIn ["self", "singles", "days", "weeks"] []) : FnOk P w K mg base CX0 7 f fd ["_law_rows"] (spMade C) := by
  refine F.ok scMade (fun vs H Q E h => ?_) (fun cdv A outer s0 H vs Q E hr h => ?_)
  · obtain ⟨l, as, S, D, W, rfl, _⟩ := h
    rfl
  · obtain ⟨l, as, S, D, W, rfl, ⟨hl, hA⟩, z1, z2, z3, q1, q2⟩ := h
    have rI : Room (kI + 1) _ := hr.mono hk
    refine ⟨_, pss_one (L2N.ps_try_many rfl rfl takes0N (fun W pn xe tk _ => pss_one (ps_ret (pe_make mk GI rI (by rfl) gT bI .nil (passTry 1 tk) (pa_cons (pe_ix (r := rIxL K) ix_list (pv 0) pe_int (fun _ _ => rfl)) (pa_cons (pe_ix (r := rIxL K) ix_list (pv 0) pe_int (fun _ _ => rfl)) (pa_cons (pe_ix (r := rIxL K) ix_list (pv 0) pe_int (fun _ _ => rfl)) pa_nil))))))
      (L2N.HdsOk.cons ⟨rfl, by decide, .inl gP⟩ (fun a oe cls d pn _ _ => pss_one (ps_ret pe_non)) L2N.HdsOk.nil)), ?_⟩
    obtain ⟨b0, b1, b2, rfl⟩ : ∃ b0 b1 b2, as = [b0, b1, b2] := by
      have := hA.len
      match as, this with
      | [x, y, z], _ => exact ⟨x, y, z, rfl⟩
    have hb0 : RowAt H b0 S := hA.at (i := 0) rfl rfl
    have hb1 : RowAt H b1 D := hA.at (i := 1) rfl rfl
    have hb2 : RowAt H b2 W := hA.at (i := 2) rfl rfl
    have g0 : atI [V.ref b0, .ref b1, .ref b2] 0 = some (.ref b0) := rfl
    have g1 : atI [V.ref b0, .ref b1, .ref b2] 1 = some (.ref b1) := rfl
    have g2 : atI [V.ref b0, .ref b1, .ref b2] 2 = some (.ref b2) := rfl
    refine ⟨_, rfl, l, _, _, _, rfl, rfl, SqL.of hl, g0, _, rfl, l, _, _, _, rfl, rfl, SqL.of hl, g1, _, rfl, l, _, _, _, rfl, rfl, SqL.of hl, g2, fun x dx nx ndx nex => ?_⟩
    obtain ⟨H1, e1, s1, hx1⟩ := made_new (C := C) nx ndx nex
    rw [← e1]
    clear e1
    refine ⟨x, dx, b0, b1, b2, S, D, W, rfl, hx1, fun H' k => ⟨SqL.of (k _ _ (s1 _ _ hb0) (ne_of_none hb0 nx)), SqL.of (k _ _ (s1 _ _ hb1) (ne_of_none hb1 nx)), SqL.of (k _ _ (s1 _ _ hb2) (ne_of_none hb2 nx))⟩, z1, z2, z3, fun ok H5 kp TA _ => ⟨rfl, ?_⟩, fun bad H5 kp σ _ => ⟨true, caughtF cP, fun _ a _ => q2 bad H5 ?_, fun z => Bool.noConfusion z⟩⟩
    · exact q1 ok H5 x (fun b o e => kp b o (s1 b o e) (ne_of_none e nx)) TA
    · exact fun b o e => kp b o (s1 b o e) (ne_of_none e nx)
def spAny : L2.Sp := fun vs H Q _ => ∃ (l : Addr) (as : List Addr) (S D W : List Int), vs = [.ref l] ∧ RowsAt H l as [S, D, W] ∧ S.length ≤ 1000 ∧ D.length ≤ 1000 ∧ W.length ≤ 1000 ∧ ¬ (Five S ∧ Five D ∧ Five W) ∧ ∀ H', Same H H' → Q (.bl true) H'
theorem ok_any {f fIn fK : Addr} {fd dIn dK : FuncData} {kI : Nat} (F : Fun K "_law_any_refusal" "_law_any_refusal" sAny f fd) (gF : mg "FareError" = some (.ref CF)) (cP : CatchF K CF CP) (kP : KindT K c0 c1 c2 CP CZ c5 CP 3) (mk : Mk K C fIn) (gT : mg "Tariff" = some (.ref C)) (hk : kI + 1 ≤ 6)
    (GI : FnOk P w K mg base (L2N.CX P w) kI fIn dIn ["self", "singles", "days", "weeks"] (spTInit K C CP)) (bI : Binds K dIn ["self", "singles", "days", "weeks"] [])
    (FK : Fun K "_law_kind" "_law_kind" sKind fK dK) (bK : Binds K dK ["_law_e"] []) (gK : mg "_law_kind" = some (.ref fK)) (KGs : KG mg c0 c1 c2 CP CZ c5) : FnOk P w K mg base CX0 7 f fd ["_law_rows"] spAny := by
  have GK : FnE P w K mg base 1 fK dK ["_law_e"] (spKind K c0 c1 c2 CP CZ c5) := ok_kind FK KGs
  refine F.ok scAny (fun vs H Q E h => ?_) (fun cdv A outer s0 H vs Q E hr h => ?_)
  · obtain ⟨l, as, S, D, W, rfl, _⟩ := h
    rfl
  · obtain ⟨l, as, S, D, W, rfl, ⟨hl, hA⟩, z1, z2, z3, bad, q⟩ := h
    have rI : Room (kI + 1) _ := hr.mono hk
    refine ⟨_, pss_cons (L2N.ps_try_as (i := 1) rfl rfl scAny.nd rfl rfl ⟨rfl, by decide, .inl gF⟩ takes0N
        (fun W pn xe tk _ => pss_one (ps_expr (pe_make mk GI rI (by rfl) gT bI .nil (passTry 2 tk) (pa_cons (pe_ix (r := rIxL K) ix_list (pv 0) pe_int (fun _ _ => rfl)) (pa_cons (pe_ix (r := rIxL K) ix_list (pv 0) pe_int (fun _ _ => rfl)) (pa_cons (pe_ix (r := rIxL K) ix_list (pv 0) pe_int (fun _ _ => rfl)) pa_nil))))))
        (fun a oe cls d pn hz hf => pss_one (ps_ret (pe_cmpR op_eq (pe_callE GK (roomH hr (by decide)) hz hf (by rfl) gK FK.kp bK (pa_cons (pv 1) pa_nil)) pe_int (nomark _)))))
      (pss_one (ps_ret pe_bl)), ?_⟩
    obtain ⟨b0, b1, b2, rfl⟩ : ∃ b0 b1 b2, as = [b0, b1, b2] := by
      have := hA.len
      match as, this with
      | [x, y, z], _ => exact ⟨x, y, z, rfl⟩
    have hb0 : RowAt H b0 S := hA.at (i := 0) rfl rfl
    have hb1 : RowAt H b1 D := hA.at (i := 1) rfl rfl
    have hb2 : RowAt H b2 W := hA.at (i := 2) rfl rfl
    have g0 : atI [V.ref b0, .ref b1, .ref b2] 0 = some (.ref b0) := rfl
    have g1 : atI [V.ref b0, .ref b1, .ref b2] 1 = some (.ref b1) := rfl
    have g2 : atI [V.ref b0, .ref b1, .ref b2] 2 = some (.ref b2) := rfl
    refine ⟨_, rfl, l, _, _, _, rfl, rfl, SqL.of hl, g0, _, rfl, l, _, _, _, rfl, rfl, SqL.of hl, g1, _, rfl, l, _, _, _, rfl, rfl, SqL.of hl, g2, fun x dx nx ndx nex => ?_⟩
    obtain ⟨H1, e1, s1, hx1⟩ := made_new (C := C) nx ndx nex
    rw [← e1]
    clear e1
    refine ⟨x, dx, b0, b1, b2, S, D, W, rfl, hx1, fun H' k => ⟨SqL.of (k _ _ (s1 _ _ hb0) (ne_of_none hb0 nx)), SqL.of (k _ _ (s1 _ _ hb1) (ne_of_none hb1 nx)), SqL.of (k _ _ (s1 _ _ hb2) (ne_of_none hb2 nx))⟩, z1, z2, z3, fun ok => absurd ok bad, fun _ H5 kp σ len => ⟨true, caughtF cP, fun _ a na => ?_, fun z => Bool.noConfusion z⟩⟩
    have s5 : Same H H5 := fun b o e => kp b o (s1 b o e) (ne_of_none e nx)
    refine ⟨.ref a, List.getElem?_set_self (by rw [len]; decide), rfl, CP, 3, rfl, rfl, kP, fun H6 s6 => ⟨rfl, ?_⟩⟩
    exact q H6 (s5.trans s6)
/-! ### _law_asked -/
def spAsked (C CZ : Addr) : L2.Sp := fun vs H Q E => ∃ (x : Addr) (j z : Int) (S D W : List Int), vs = [.ref x, .int j, .int z] ∧ TarAt C H x S D W ∧
  (1 ≤ z ∧ z ≤ 5 → ∀ (H' : Hp) (v : Int), Same H H' → Q (.int v) H') ∧ (¬ (1 ≤ z ∧ z ≤ 5) → ∀ H', Same H H' → E (.ref CZ) none H')
theorem ok_asked {f f0 f1 f2 : Addr} {fd d0 d1 d2 : FuncData} {kP : Nat} (F : Fun K "_law_asked" "_law_asked" sAsked f fd) (cl : Cls K C) (hk : kP ≤ 5)
    (G0 : FnOk P w K mg base (L2N.CX P w) kP f0 d0 ["self", "zones"] (spPrice C CZ 0)) (b0 : Binds K d0 ["self", "zones"] []) (m0 : Meth K C "single" f0)
    (G1 : FnOk P w K mg base (L2N.CX P w) kP f1 d1 ["self", "zones"] (spPrice C CZ 1)) (b1 : Binds K d1 ["self", "zones"] []) (m1 : Meth K C "day" f1)
    (G2 : FnOk P w K mg base (L2N.CX P w) kP f2 d2 ["self", "zones"] (spPrice C CZ 2)) (b2 : Binds K d2 ["self", "zones"] []) (m2 : Meth K C "week" f2) :
    FnOk P w K mg base (L2N.CX P w) 6 f fd ["_law_tariff", "_law_sort", "_law_zones"] (spAsked C CZ) := by
  refine okN F scAsked (fun vs H Q E h => ?_) (fun cdv A outer s0 H vs Q E hr h => ?_)
  · obtain ⟨x, j, z, S, D, W, rfl, _⟩ := h
    rfl
  · obtain ⟨x, j, z, S, D, W, rfl, TA, q1, q2⟩ := h
    have rP : Room kP _ := hr.mono hk
    obtain ⟨⟨dx, fs, sa, da, wa, hx, e1, e2, e3, n1, n2, n3, _⟩, _⟩ := id TA
    refine ⟨_, pss_cons (ps_if (pt_cmpR op_eq (pv 1) pe_int (nomark _)) (pss_one (ps_ret (pe_meth (pv 0) cl m0 G0 rP b0 .nil (L2N.passes_call (W := fun cls d _ H => E cls d H) (L2N.takes_of rfl rfl rfl rfl) (fun _ _ _ _ h => h)) (pa_cons (pv 2) pa_nil)))) pss_nil)
      (pss_cons (ps_if (pt_cmpR op_eq (pv 1) pe_int (nomark _)) (pss_one (ps_ret (pe_meth (pv 0) cl m1 G1 rP b1 .nil (L2N.passes_call (W := fun cls d _ H => E cls d H) (L2N.takes_of rfl rfl rfl rfl) (fun _ _ _ _ h => h)) (pa_cons (pv 2) pa_nil)))) pss_nil)
      (pss_one (ps_ret (pe_meth (pv 0) cl m2 G2 rP b2 .nil (L2N.passes_call (W := fun cls d _ H => E cls d H) (L2N.takes_of rfl rfl rfl rfl) (fun _ _ _ _ h => h)) (pa_cons (pv 2) pa_nil))))), ?_⟩
    refine ⟨_, rfl, rfl, _, rfl, ?_⟩
    refine ite2 (fun _ => ?_) (fun _ => ?_)
    · exact ⟨_, rfl, x, dx, fs, rfl, hx, n1, _, rfl, x, z, S, D, W, rfl, TA, fun ok H' s' => q1 ok H' _ s', fun no H' s' => q2 no H' s'⟩
    refine ⟨_, rfl, rfl, _, rfl, ?_⟩
    refine ite2 (fun _ => ?_) (fun _ => ?_)
    · exact ⟨_, rfl, x, dx, fs, rfl, hx, n2, _, rfl, x, z, S, D, W, rfl, TA, fun ok H' s' => q1 ok H' _ s', fun no H' s' => q2 no H' s'⟩
    · exact ⟨_, rfl, x, dx, fs, rfl, hx, n3, _, rfl, x, z, S, D, W, rfl, TA, fun ok H' s' => q1 ok H' _ s', fun no H' s' => q2 no H' s'⟩
/-! ### _law_zones_refused, _law_zones_refused_by_any -/
def spRef (C : Addr) : L2.Sp := fun vs H Q _ => ∃ (x : Addr) (j z : Int) (S D W : List Int), vs = [.ref x, .int j, .int z] ∧ TarAt C H x S D W ∧ ∀ H', Same H H' → Q (.bl (decide (¬ (1 ≤ z ∧ z ≤ 5)))) H'
theorem ok_ref {f fA : Addr} {fd dA : FuncData} (F : Fun K "_law_zones_refused" "_law_zones_refused" sRef f fd) (gZ : mg "BadZones" = some (.ref CZ)) (cZ : CatchF K CZ CZ)
    (FA : Fun K "_law_asked" "_law_asked" sAsked fA dA) (GA : FnOk P w K mg base (L2N.CX P w) 6 fA dA ["_law_tariff", "_law_sort", "_law_zones"] (spAsked C CZ)) (bA : Binds K dA ["_law_tariff", "_law_sort", "_law_zones"] []) (gA : mg "_law_asked" = some (.ref fA)) :
    FnOk P w K mg base CX0 7 f fd ["_law_tariff", "_law_sort", "_law_zones"] (spRef C) := by
  refine F.ok scRef (fun vs H Q E h => ?_) (fun cdv A outer s0 H vs Q E hr h => ?_)
  · obtain ⟨x, j, z, S, D, W, rfl, _⟩ := h
    rfl
  · obtain ⟨x, j, z, S, D, W, rfl, TA, q⟩ := h
    refine ⟨_, pss_cons (L2N.ps_try_many rfl rfl takes0N (fun W pn xe tk _ => pss_one (ps_expr (pe_call GA hr (by rfl) gA FA.kp bA .nil (passTry 3 tk) (pa_cons (pv 0) (pa_cons (pv 1) (pa_cons (pv 2) pa_nil))))))
        (L2N.HdsOk.cons ⟨rfl, by decide, .inl gZ⟩ (fun a oe cls d pn _ _ => pss_one (ps_ret pe_bl)) L2N.HdsOk.nil))
      (pss_one (ps_ret pe_bl)), ?_⟩
    refine ⟨_, rfl, _, rfl, _, rfl, x, j, z, S, D, W, rfl, TA, fun ok H' v s' => ?_, fun no H' s' σ len => ⟨true, caughtF cZ, fun _ a na => ?_, fun z => Bool.noConfusion z⟩⟩
    · have := q H' s'
      rw [decide_eq_false (fun z => z ok)] at this
      exact this
    · have := q H' s'
      rw [decide_eq_true no] at this
      exact this
def spRefA (C : Addr) : L2.Sp := fun vs H Q _ => ∃ (x : Addr) (j z : Int) (S D W : List Int), vs = [.ref x, .int j, .int z] ∧ TarAt C H x S D W ∧ ¬ (1 ≤ z ∧ z ≤ 5) ∧ ∀ H', Same H H' → Q (.bl true) H'
theorem ok_refA {f fA fK : Addr} {fd dA dK : FuncData} (F : Fun K "_law_zones_refused_by_any" "_law_zones_refused_by_any" sRefA f fd) (gF : mg "FareError" = some (.ref CF)) (cZ : CatchF K CF CZ) (kZ : KindT K c0 c1 c2 CP CZ c5 CZ 4)
    (FA : Fun K "_law_asked" "_law_asked" sAsked fA dA) (GA : FnOk P w K mg base (L2N.CX P w) 6 fA dA ["_law_tariff", "_law_sort", "_law_zones"] (spAsked C CZ)) (bA : Binds K dA ["_law_tariff", "_law_sort", "_law_zones"] []) (gA : mg "_law_asked" = some (.ref fA))
    (FK : Fun K "_law_kind" "_law_kind" sKind fK dK) (bK : Binds K dK ["_law_e"] []) (gK : mg "_law_kind" = some (.ref fK)) (KGs : KG mg c0 c1 c2 CP CZ c5) :
    FnOk P w K mg base CX0 7 f fd ["_law_tariff", "_law_sort", "_law_zones"] (spRefA C) := by
  have GK : FnE P w K mg base 1 fK dK ["_law_e"] (spKind K c0 c1 c2 CP CZ c5) := ok_kind FK KGs
  refine F.ok scRefA (fun vs H Q E h => ?_) (fun cdv A outer s0 H vs Q E hr h => ?_)
  · obtain ⟨x, j, z, S, D, W, rfl, _⟩ := h
    rfl
  · obtain ⟨x, j, z, S, D, W, rfl, TA, no, q⟩ := h
    refine ⟨_, pss_cons (L2N.ps_try_as (i := 3) rfl rfl scRefA.nd rfl rfl ⟨rfl, by decide, .inl gF⟩ takes0N (fun W pn xe tk _ => pss_one (ps_expr (pe_call GA hr (by rfl) gA FA.kp bA .nil (passTry 4 tk) (pa_cons (pv 0) (pa_cons (pv 1) (pa_cons (pv 2) pa_nil))))))
        (fun a oe cls d pn hz hf => pss_one (ps_ret (pe_cmpR op_eq (pe_callE GK (roomH hr (by decide)) hz hf (by rfl) gK FK.kp bK (pa_cons (pv 3) pa_nil)) pe_int (nomark _)))))
      (pss_one (ps_ret pe_bl)), ?_⟩
    refine ⟨_, rfl, _, rfl, _, rfl, x, j, z, S, D, W, rfl, TA, fun ok => absurd ok no, fun _ H' s' σ len => ⟨true, caughtF cZ, fun _ a na => ?_, fun z => Bool.noConfusion z⟩⟩
    refine ⟨.ref a, List.getElem?_set_self (by rw [len]; decide), rfl, CZ, 4, rfl, rfl, kZ, fun H6 s6 => ⟨rfl, ?_⟩⟩
    exact q H6 (s'.trans s6)
end
end FW

namespace FW
open PySem PySem.Spec PyProof.Rows L2
/-! ### the law -/
/-- what list(..) asks, by the frag alone: within a comprehension the term may not lean on its frame -/
def rListOf (K : PySem.W.Frag) : List V → Hp → VK → Prop := fun xs H Q => ∃ p ys, xs = [V.ref p] ∧ (SqL K H p ys ∨ SqT K H p ys) ∧ ∀ l : Addr, H l = none → Q (.ref l) (upd H l (.lst ys))
theorem bootList : bootBuiltins "list" = some (.type "list") := by decide +kernel
theorem scLaw : FnScope ["_law_script", "_law_way", "_law_which", "_law_place", "_law_rows", "_law_sort", "_law_good", "_law_tariff", "_law_zones", "_law_due", "_law_k", "_law_row"] ["_law_script"] (defScope sLaw) := ⟨rfl, rfl, rfl, by decide +kernel, rfl, by decide +kernel, by decide +kernel⟩
def spLaw (K : PySem.W.Frag) : L2.Sp := fun vs H Q _ => ∃ (a : Addr) (ns : List Int), vs = [.ref a] ∧ SqL K H a (ns.map V.int) ∧ ns.length ≤ 63 ∧ ∀ H', Q (.bl true) H'
theorem all2_set2 {α β : Type} {R : α → β → Prop} {as : List α} {bs : List β} (h : All2 R as bs) {a : α} {b : β} (r : R a b) : ∀ i, All2 R (as.set i a) (bs.set i b) := by
  induction h with
  | nil => exact fun i => .nil
  | cons r' h' ih =>
    intro i
    cases i with
    | zero => exact .cons r h'
    | succ i => exact .cons r' (ih i)
theorem rows_upd {H : Hp} {as : List Addr} {rs : List (List Int)} {i : Nat} {a : Addr} {r : List Int} (h : All2 (RowAt H) as rs) (nd : as.Nodup) (ea : as[i]? = some a) : All2 (RowAt (upd H a (.lst (r.map V.int)))) as (rs.set i r) := by
  refine All2.of_get (by rw [List.length_set]; exact h.len) fun j b l e1 e2 => ?_
  rw [List.getElem?_set] at e2
  by_cases ij : i = j
  · subst ij
    have hl : i < rs.length := by rw [← h.len]; exact (List.getElem?_eq_some_iff.mp ea).1
    rw [if_pos rfl, if_pos hl] at e2
    cases e2
    have eb : b = a := Option.some.inj (e1.symm.trans ea)
    subst eb
    exact upd_same
  · rw [if_neg ij] at e2
    have nb : b ≠ a := fun z => ij (nd_ix nd ea (by rw [← z]; exact e1))
    show upd H a _ b = _
    rw [upd_ne nb]
    exact h.at e1 e2
theorem nodup_set {as : List Addr} (nd : as.Nodup) {p : Addr} (np : p ∉ as) (i : Nat) : (as.set i p).Nodup := by
  induction as generalizing i with
  | nil => exact nd
  | cons b as ih =>
    rw [List.nodup_cons] at nd
    cases i with
    | zero => exact List.nodup_cons.mpr ⟨fun m => np (List.mem_cons_of_mem _ m), nd.2⟩
    | succ i =>
      refine List.nodup_cons.mpr ⟨fun m => ?_, ih nd.2 (fun m => np (List.mem_cons_of_mem _ m)) i⟩
      rcases List.mem_or_eq_of_mem_set m with m | rfl
      · exact nd.1 m
      · exact np List.mem_cons_self
theorem cut_take (xs : List V) (n : Nat) : cutV xs none (some (n : Int)) = xs.take n := by
  have e1 : HT.sIx xs.length xs.length (some (n : Int)) = min n xs.length := by
    unfold HT.sIx
    simp only []
    rw [if_neg (by omega)]
    show min ((n : Int).toNat) xs.length = min n xs.length
    rw [Int.toNat_natCast]
  have e2 : HT.sIx xs.length 0 none = 0 := rfl
  unfold cutV
  rw [e1, e2, Nat.sub_zero, List.drop_zero]
  rcases Nat.le_total n xs.length with h | h
  · rw [Nat.min_eq_left h]
  · rw [Nat.min_eq_right h, List.take_of_length_le (Nat.le_refl _), List.take_of_length_le h]
section
variable {P : Program} {w : World} {K : PySem.W.Frag} {mg : Str → Option Value} {base : Heap} {C CP CZ CF c0 c1 c2 c5 : Addr}
structure DefsL (K : PySem.W.Frag) (mg : Str → Option Value) (C CP CZ CF c0 c1 c2 c5 : Addr) (fIn f0 f1 f2 fCe fKi fMd fAn fAs fRf fRA : Addr) (dIn d0 d1 d2 dCe dKi dMd dAn dAs dRf dRA : FuncData) : Prop where
  cl : Cls K C
  B : LT mg
  gF : mg "FareError" = some (.ref CF)
  KGs : KG mg c0 c1 c2 CP CZ c5
  cPP : CatchF K CP CP
  cP : CatchF K CF CP
  cZZ : CatchF K CZ CZ
  cZ : CatchF K CF CZ
  kP : KindT K c0 c1 c2 CP CZ c5 CP 3
  kZ : KindT K c0 c1 c2 CP CZ c5 CZ 4
  mkT : Mk K C fIn
  gTa : mg "Tariff" = some (.ref C)
  bIn : Binds K dIn ["self", "singles", "days", "weeks"] []
  b0 : Binds K d0 ["self", "zones"] []
  m0 : Meth K C "single" f0
  b1 : Binds K d1 ["self", "zones"] []
  m1 : Meth K C "day" f1
  b2 : Binds K d2 ["self", "zones"] []
  m2 : Meth K C "week" f2
  Ce : Fun K "_law_cell_at" "_law_cell_at" sCell fCe dCe
  bCe : Binds K dCe ["_law_script", "_law_k"] []
  gCe : mg "_law_cell_at" = some (.ref fCe)
  Ki : Fun K "_law_kind" "_law_kind" sKind fKi dKi
  bKi : Binds K dKi ["_law_e"] []
  gKi : mg "_law_kind" = some (.ref fKi)
  Md : Fun K "_law_made" "_law_made" sMade fMd dMd
  bMd : Binds K dMd ["_law_rows"] []
  gMd : mg "_law_made" = some (.ref fMd)
  An : Fun K "_law_any_refusal" "_law_any_refusal" sAny fAn dAn
  bAn : Binds K dAn ["_law_rows"] []
  gAn : mg "_law_any_refusal" = some (.ref fAn)
  As : Fun K "_law_asked" "_law_asked" sAsked fAs dAs
  bAs : Binds K dAs ["_law_tariff", "_law_sort", "_law_zones"] []
  gAs : mg "_law_asked" = some (.ref fAs)
  Rf : Fun K "_law_zones_refused" "_law_zones_refused" sRef fRf dRf
  bRf : Binds K dRf ["_law_tariff", "_law_sort", "_law_zones"] []
  gRf : mg "_law_zones_refused" = some (.ref fRf)
  RA : Fun K "_law_zones_refused_by_any" "_law_zones_refused_by_any" sRefA fRA dRA
  bRA : Binds K dRA ["_law_tariff", "_law_sort", "_law_zones"] []
  gRA : mg "_law_zones_refused_by_any" = some (.ref fRA)
theorem ok_law {f fIn f0 f1 f2 fCe fKi fMd fAn fAs fRf fRA : Addr} {fd dIn d0 d1 d2 dCe dKi dMd dAn dAs dRf dRA : FuncData} {kI kP : Nat} (F : Fun K "law" "law" sLaw f fd) (D : DefsL K mg C CP CZ CF c0 c1 c2 c5 fIn f0 f1 f2 fCe fKi fMd fAn fAs fRf fRA dIn d0 d1 d2 dCe dKi dMd dAn dAs dRf dRA)
    (hkI : kI + 1 ≤ 6) (hkP : kP ≤ 5) (GI : FnOk P w K mg base (L2N.CX P w) kI fIn dIn ["self", "singles", "days", "weeks"] (spTInit K C CP))
    (G0 : FnOk P w K mg base (L2N.CX P w) kP f0 d0 ["self", "zones"] (spPrice C CZ 0)) (G1 : FnOk P w K mg base (L2N.CX P w) kP f1 d1 ["self", "zones"] (spPrice C CZ 1)) (G2 : FnOk P w K mg base (L2N.CX P w) kP f2 d2 ["self", "zones"] (spPrice C CZ 2)) :
    FnOk P w K mg base CX0 8 f fd ["_law_script"] (spLaw K) := by
  have GC : FnOk P w K mg base CX0 1 fCe dCe ["_law_script", "_law_k"] (spCell K) := ok_cell D.Ce D.B.len
  have GM : FnOk P w K mg base CX0 7 fMd dMd ["_law_rows"] (spMade C) := ok_made D.Md D.KGs.g3 D.cPP D.mkT D.gTa hkI GI D.bIn
  have GA : FnOk P w K mg base CX0 7 fAn dAn ["_law_rows"] spAny := ok_any D.An D.gF D.cP D.kP D.mkT D.gTa hkI GI D.bIn D.Ki D.bKi D.gKi D.KGs
  have GAs : FnOk P w K mg base (L2N.CX P w) 6 fAs dAs ["_law_tariff", "_law_sort", "_law_zones"] (spAsked C CZ) := ok_asked D.As D.cl hkP G0 D.b0 D.m0 G1 D.b1 D.m1 G2 D.b2 D.m2
  have GR : FnOk P w K mg base CX0 7 fRf dRf ["_law_tariff", "_law_sort", "_law_zones"] (spRef C) := ok_ref D.Rf D.KGs.g4 D.cZZ D.As GAs D.bAs D.gAs
  have GRA : FnOk P w K mg base CX0 7 fRA dRA ["_law_tariff", "_law_sort", "_law_zones"] (spRefA C) := ok_refA D.RA D.gF D.cZ D.kZ D.As GAs D.bAs D.gAs D.Ki D.bKi D.gKi D.KGs
  refine F.ok scLaw (fun vs H Q E h => ?_) (fun cdv A outer s H vs Q E hr h => ?_)
  · obtain ⟨a, ns, rfl, _⟩ := h
    rfl
  · obtain ⟨a, ns, rfl, hS, h63, q⟩ := h
    have r1 : Room 1 _ := hr.mono (by decide)
    refine ⟨_, C8.pss_cut (ps_set (i := 1) scLaw.nd rfl (.inl rfl) (pe_op op_mod (pe_call GC r1 (by rfl) D.gCe D.Ce.kp D.bCe .nil pass0 (pa_cons (pv 0) (pa_cons pe_int pa_nil))) pe_int))
      (C8.pss_cut (ps_set (i := 2) scLaw.nd rfl (.inl rfl) (pe_op op_mod (pe_op op_fdiv (pe_call GC r1 (by rfl) D.gCe D.Ce.kp D.bCe .nil pass0 (pa_cons (pv 0) (pa_cons pe_int pa_nil))) pe_int) pe_int))
      (C8.pss_cut (ps_set (i := 3) scLaw.nd rfl (.inl rfl) (pe_op op_mod (pe_call GC r1 (by rfl) D.gCe D.Ce.kp D.bCe .nil pass0 (pa_cons (pv 0) (pa_cons pe_int pa_nil))) pe_int))
      (pss_cons (ps_set (i := 4) scLaw.nd rfl (.inl rfl) (pe_lst pa_nil))
      (C8.pss_cut (ps_for PassesOwn.never rfl (pi_range1 (by rfl) D.B.range (pa_cons pe_int pa_nil)) (pg_name (i := 5) scLaw.nd rfl (.inr rfl))
        (pss_one (ps_expr (pe_bm PySem.F.plainAttrs_list PySem.F.slot_list_append PySem.F.type_list_append mt_append (pv 4) (pa_cons
          (pe_lc (own := [("_law_k", 10)]) (g := gName 10) (by rfl) scLaw.nd (pi_range1 (by rfl) D.B.range (pa_cons pe_int pa_nil)) (blkOk_by (own := [("_law_k", 10)]) (N := ["_law_script", "_law_way", "_law_which", "_law_place", "_law_rows", "_law_sort", "_law_good", "_law_tariff", "_law_zones", "_law_due", "_law_k", "_law_row"]) (sc := defScope sLaw) (by decide +kernel)) (fun _ _ _ _ _ => pg_name (i := 10) scLaw.nd rfl (Or.inl rfl)) (fun _ _ _ _ _ => pts_nil)
            (fun _ _ _ _ _ => pe_op op_mod (pe_call GC r1 (by rfl) D.gCe D.Ce.kp D.bCe .nil pass0 (pa_cons (pv 0) (pa_cons (pe_op op_add (pe_op op_add pe_int (pe_op op_mul pe_int (pv 5))) (pv 10)) pa_nil))) pe_int)) pa_nil)))))
      (C8.pss_cut (ps_if (pt_cmpR op_eq (pv 1) pe_int (nomark _)) (pss_one (ps_asg (pe_slice sl_list (pe_op op_cat (pe_ix ix_list (pv 4) (pv 2) (fun _ _ => rfl)) (pe_ix ix_list (pv 4) (pv 2) (fun _ _ => rfl))) po_none (po_some (pv 3))) (pg_sub (pv 4) (pv 2) set_list))) pss_nil)
      (C8.pss_cut (ps_if (pt_cmpR op_eq (pv 1) pe_int (nomark _)) (pss_one (ps_asg (pe_op op_sub (pe_un un_neg pe_int) (pe_op op_mod (pe_op op_fdiv (pe_call GC r1 (by rfl) D.gCe D.Ce.kp D.bCe .nil pass0 (pa_cons (pv 0) (pa_cons pe_int pa_nil))) pe_int) (pe_op op_pow pe_int pe_int))) (pg_sub (pe_ix ix_list (pv 4) (pv 2) (fun _ _ => rfl)) (pe_op op_mod (pv 3) pe_int) set_list))) pss_nil)
      (C8.pss_cut (ps_set (i := 6) scLaw.nd rfl (.inl rfl) (pe_or (pe_cmpR op_eq (pv 1) pe_int (nomark _)) (pe_one (pe_and (pe_cmpR op_eq (pv 1) pe_int (nomark _)) (pe_one (pe_cmpR op_eq (pv 3) pe_int (nomark _)))))))
      (pss_cons (ps_set (i := 7) scLaw.nd rfl (.inl rfl) (pe_call GM hr (by rfl) D.gMd D.Md.kp D.bMd .nil pass0 (pa_cons
          (pe_lc (own := [("_law_row", 11)]) (g := gName 11) (by rfl) scLaw.nd (pi_list (pv 4)) (blkOk_by (own := [("_law_row", 11)]) (N := ["_law_script", "_law_way", "_law_which", "_law_place", "_law_rows", "_law_sort", "_law_good", "_law_tariff", "_law_zones", "_law_due", "_law_k", "_law_row"]) (sc := defScope sLaw) (by decide +kernel)) (fun _ _ _ _ _ => pg_name (i := 11) scLaw.nd rfl (Or.inl rfl)) (fun _ _ _ _ _ => pts_nil)
            (fun _ _ _ _ _ => pe_callTy (r := rListOf K) call_list_of (by rfl) D.B.list bootList (pa_cons (pv 11) pa_nil))) pa_nil)))
      (pss_cons (ps_if (pt_cmpR op_isN (pv 7) pe_non (nomark _)) (pss_one (ps_ret (pe_and (pe_not (pv 6)) (pe_one (pe_call GA hr (by rfl) D.gAn D.An.kp D.bAn .nil pass0 (pa_cons (pv 4) pa_nil)))))) pss_nil)
      (pss_cons (ps_if (pt_not (pt_val (pv 6))) (pss_one (ps_ret pe_bl)) pss_nil)
      (pss_cons (ps_set (i := 8) scLaw.nd rfl (.inl rfl) (pe_op op_sub (pe_op op_mod (pe_call GC r1 (by rfl) D.gCe D.Ce.kp D.bCe .nil pass0 (pa_cons (pv 0) (pa_cons pe_int pa_nil))) pe_int) pe_int))
      (C8.pss_cut (ps_if (pt_cmpR op_eq (pe_op op_mod (pe_op op_fdiv (pe_call GC r1 (by rfl) D.gCe D.Ce.kp D.bCe .nil pass0 (pa_cons (pv 0) (pa_cons pe_int pa_nil))) pe_int) pe_int) pe_int (nomark _))
        (pss_one (ps_set (i := 8) scLaw.nd rfl (.inl rfl) (pe_op op_add (pv 8) (pe_op op_mul (pe_op op_sub (pe_op op_mul (pe_op op_mod (pe_op op_fdiv (pe_call GC r1 (by rfl) D.gCe D.Ce.kp D.bCe .nil pass0 (pa_cons (pv 0) (pa_cons pe_int pa_nil))) pe_int) pe_int) pe_int) pe_int) (pe_op op_pow pe_int pe_int))))) pss_nil)
      (C8.pss_cut (ps_set (i := 9) scLaw.nd rfl (.inl rfl) (pe_or (pe_cmpR op_lt (pv 8) pe_int (nomark _)) (pe_one (pe_cmpR op_gt (pv 8) pe_int (nomark _)))))
      (pss_cons (ps_for PassesOwn.never rfl (pi_range1 (by rfl) D.B.range (pa_cons pe_int pa_nil)) (pg_name (i := 5) scLaw.nd rfl (.inr rfl))
        (pss_cons (ps_if (pt_cmpR op_ne (pe_call GR hr (by rfl) D.gRf D.Rf.kp D.bRf .nil pass0 (pa_cons (pv 7) (pa_cons (pv 5) (pa_cons (pv 8) pa_nil)))) (pv 9) (nomark _)) (pss_one (ps_ret pe_bl)) pss_nil)
        (pss_one (ps_if (PW.pt (pw_and (pt_val (pv 9)) (pw_and1 (pt_not (pt_val (pe_call GRA hr (by rfl) D.gRA D.RA.kp D.bRA .nil pass0 (pa_cons (pv 7) (pa_cons (pv 5) (pa_cons (pv 8) pa_nil))))))))) (pss_one (ps_ret pe_bl)) pss_nil))))
      (pss_one (ps_ret pe_bl)))))))))))))))), ?_⟩
    -- _law_way, _law_which, _law_place
    refine ⟨fun σ H1 => H1 = H ∧ ∃ wy : Int, 0 ≤ wy ∧ wy < 3 ∧ σ = [some (.ref a), some (.int wy), none, none, none, none, none, none, none, none, none, none], ⟨_, rfl, a, ns, 0, rfl, hS, _, _, rfl, rfl, by show (0 : Int) < 3; decide, rfl, _, Int.emod_nonneg _ (by decide), Int.emod_lt_of_pos _ (by decide), rfl⟩, ?_⟩
    rintro σ H1 ⟨rfl, wy, wy0, wy3, rfl⟩
    refine ⟨fun σ H2 => H2 = H1 ∧ ∃ wh : Nat, wh < 3 ∧ σ = [some (.ref a), some (.int wy), some (.int wh), none, none, none, none, none, none, none, none, none], ?_, ?_⟩
    · refine ⟨_, rfl, a, ns, 0, rfl, hS, _, _, rfl, rfl, ⟨by decide, by decide⟩, _, _, rfl, rfl, by show (0 : Int) < 3; decide, rfl, (cell ns 0 / 3 % 3).toNat, by omega, ?_⟩
      rw [show (((cell ns 0 / 3 % 3).toNat : Nat) : Int) = cell ns 0 / 3 % 3 by omega]
      rfl
    rintro σ H2 ⟨rfl, wh, hwh, rfl⟩
    refine ⟨fun σ H1 => H1 = H2 ∧ ∃ pl : Nat, pl < 10 ∧ σ = [some (.ref a), some (.int wy), some (.int wh), some (.int pl), none, none, none, none, none, none, none, none], ?_, ?_⟩
    · refine ⟨_, rfl, a, ns, 1, rfl, hS, _, _, rfl, rfl, by show (0 : Int) < 10; decide, rfl, (cell ns 1 % 10).toNat, by omega, ?_⟩
      rw [show (((cell ns 1 % 10).toNat : Nat) : Int) = cell ns 1 % 10 by omega]
      rfl
    rintro σ H1 ⟨rfl, pl, hpl, rfl⟩
    -- _law_rows
    refine ⟨Nat.zero_le _, fun ra nra => ?_⟩
    refine ⟨fun σ H3 => ∃ (y5 : Option V) (as : List Addr) (rs : List (List Int)), σ = [some (.ref a), some (.int wy), some (.int wh), some (.int pl), some (.ref ra), y5, none, none, none, none, none, none] ∧ Same H1 H3 ∧ RowsAt H3 ra as rs ∧ rs.length = 3 ∧ Good3 rs ∧ as.Nodup ∧ ∀ b, b ∈ as → b ≠ ra ∧ H1 b = none, ?_, ?_⟩
    · refine ⟨3, rfl, by decide, by decide, for_range (lo := 0) (n := 3) (fun i σ H3 => ∃ (y5 : Option V) (as : List Addr) (rs : List (List Int)), σ = [some (.ref a), some (.int wy), some (.int wh), some (.int pl), some (.ref ra), y5, none, none, none, none, none, none] ∧ Same H1 H3 ∧ RowsAt H3 ra as rs ∧ rs.length = i ∧ Good3 rs ∧ as.Nodup ∧ ∀ b, b ∈ as → b ≠ ra ∧ H1 b = none)
        ⟨none, [], [], rfl, same_upd nra, ⟨upd_same, .nil⟩, rfl, (fun r m => nomatch m), List.nodup_nil, by simp⟩ ?_ (fun σ H3 h => h)⟩
      rintro i σ H3 hi ⟨y5, as, rs, rfl, s3, ⟨hra, hA⟩, hl, hf, nd, hnew⟩
      refine ⟨_, rfl, .inl ⟨rfl, _, SqL.of hra⟩, 5, rfl, by decide, by decide, fun d hd => ?_⟩
      have nrd : ra ≠ d := ne_of_none hra hd
      refine lc_range (lo := 0) (n := 5) (fun j H' => (∀ b o, H3 b = some o → H' b = some o) ∧ ∃ r : List Int, H' d = some (.lst (r.map V.int)) ∧ r.length = j ∧ ∀ x, x ∈ r → 0 ≤ x) ⟨same_upd hd, [], upd_same, rfl, by simp⟩ ?_ ?_
      · rintro j H' hj ⟨s', r, hr', hlr, hpos⟩
        refine ⟨rfl, ?_⟩
        refine tYes_if ?_
        refine ⟨_, rfl, _, rfl, _, _, rfl, rfl, .inl ⟨by omega, by omega⟩, _, _, rfl, rfl, _, rfl, _, _, rfl, rfl, a, ns, 3 + 5 * i + j, ?_, (s3.trans s').seq hS, _, _, rfl, rfl, by show (0 : Int) < 1000; decide, r.map V.int, hr', small_line (by rw [List.length_map]; omega), upd_out s' hd, r ++ [cell ns (3 + 5 * i + j) % 1000], by rw [upd_same, List.map_append]; rfl, by rw [List.length_append, hlr]; rfl, fun x mx => ?_⟩
        · show [V.ref a, V.int (3 + 5 * (0 + (i : Nat)) + (0 + (j : Nat)))] = [V.ref a, V.int ((3 + 5 * i + j : Nat) : Int)]
          rw [show ((3 + 5 * i + j : Nat) : Int) = 3 + 5 * (0 + (i : Nat)) + (0 + (j : Nat)) by omega]
        · rcases List.mem_append.mp mx with mx | mx
          · exact hpos x mx
          · rw [List.mem_singleton.mp mx]
            exact Int.emod_nonneg _ (by decide)
      · rintro H' ⟨s', r, hr', hlr, hpos⟩
        have hra' := s' _ _ hra
        refine ⟨ra, _, _, rfl, rfl, hra', small_line (by rw [List.length_map, hA.len]; omega), ?_⟩
        refine ⟨_, as ++ [d], rs ++ [r], rfl, upd_out (s3.trans s') nra, ⟨by rw [upd_same, List.map_append]; rfl, ?_⟩, by rw [List.length_append, hl]; rfl, fun x mx => ?_, ?_, fun b mb => ?_⟩
        · refine All2.app (hA.imp_mem fun b x mb rb => ?_) (All2.one ?_)
          · show upd H' ra _ b = _
            rw [upd_ne (hnew b mb).1]
            exact s' _ _ rb
          · show upd H' ra _ d = _
            rw [upd_ne nrd.symm]
            exact hr'
        · rcases List.mem_append.mp mx with mx | mx
          · exact hf x mx
          · rw [List.mem_singleton.mp mx]
            exact ⟨hlr, hpos⟩
        · refine List.nodup_append.mpr ⟨nd, by simp, fun b mb c mc => ?_⟩
          rw [List.mem_singleton.mp mc]
          obtain ⟨j, hj⟩ := List.getElem?_of_mem mb
          obtain ⟨b', _, rb⟩ := hA.getL hj
          exact ne_of_none rb hd
        · rcases List.mem_append.mp mb with mb | mb
          · exact hnew b mb
          · rw [List.mem_singleton.mp mb]
            exact ⟨nrd.symm, s3.free hd⟩
    rintro σ H3 ⟨y5, as, rs, rfl, s3, ⟨hra, hA⟩, hl3, hf, nd, hnew⟩
    obtain ⟨aw, eaw⟩ : ∃ aw, as[wh]? = some aw := ⟨as[wh]'(by rw [hA.len, hl3]; exact hwh), List.getElem?_eq_getElem _⟩
    obtain ⟨rw', erw, haw⟩ := hA.getL eaw
    have gw : atI (as.map V.ref) (wh : Nat) = some (.ref aw) := at_of (j := wh) rfl (by rw [List.getElem?_map, eaw]; rfl)
    have fw : Five rw' := hf _ (List.mem_of_getElem? erw)
    -- if _law_way == 1
    refine ⟨fun σ H4 => ∃ (as : List Addr) (rs : List (List Int)), σ = [some (.ref a), some (.int wy), some (.int wh), some (.int pl), some (.ref ra), y5, none, none, none, none, none, none] ∧ Same H1 H4 ∧ RowsAt H4 ra as rs ∧ rs.length = 3 ∧ as.Nodup ∧ (∀ b, b ∈ as → b ≠ ra ∧ H1 b = none) ∧ (∀ r, r ∈ rs → r.length ≤ 10) ∧
        (wy = 1 → (Good3 rs ↔ pl = 5)) ∧ (wy ≠ 1 → Good3 rs), ?_, ?_⟩
    · refine ⟨_, rfl, rfl, _, rfl, ?_⟩
      refine ite2 (fun e => ?_) (fun e => ?_)
      · have e1 : wy = 1 := V.int.inj (of_decide_eq_true e)
        refine ⟨_, rfl, _, rfl, ra, _, _, _, rfl, rfl, SqL.of hra, gw, _, rfl, _, rfl, ra, _, _, _, rfl, rfl, SqL.of hra, gw, aw, aw, _, _, rfl, rfl, haw, haw, by rw [List.length_map, fw.1]; decide, fun c nc => ?_⟩
        have t1 : Same H3 _ := same_upd (o := .lst ((rw' ++ rw').map V.int)) nc
        refine ⟨_, rfl, pl, rfl, c, _, rfl, SqL.of upd_same, fun p np => ?_⟩
        rw [← List.map_append] at np ⊢
        rw [cut_take, ← List.map_take]
        have t2 := t1.trans (same_upd (o := .lst (((rw' ++ rw').take pl).map V.int)) np)
        have lw : ((rw' ++ rw').take pl).length = pl := by
          rw [List.length_take, List.length_append, fw.1]
          omega
        have nrp : ra ≠ p := ne_of_none (t1 _ _ hra) np
        refine ⟨_, rfl, _, rfl, ra, _, _, wh, rfl, rfl, t2 _ _ hra, ixN_nat (by rw [List.length_map, hA.len, hl3]; exact hwh), ?_⟩
        have ndp : ∀ b, b ∈ as → b ≠ p := fun b mb => by
          obtain ⟨j, hj⟩ := List.getElem?_of_mem mb
          obtain ⟨b', _, rb⟩ := hA.getL hj
          exact ne_of_none (t1 _ _ rb) np
        refine ⟨as.set wh p, rs.set wh ((rw' ++ rw').take pl), rfl, upd_out (s3.trans t2) nra, ⟨by rw [upd_same, List.map_set], all2_set2 (hA.imp_mem fun b r mb rb => ?_) ?_ wh⟩, by rw [List.length_set]; exact hl3, ?_, fun b mb => ?_, fun r mr => ?_, fun _ => ⟨fun g => ?_, fun g r mr => ?_⟩, fun z => absurd e1 z⟩
        · show upd _ ra _ b = _
          rw [upd_ne (hnew b mb).1]
          exact t2 _ _ rb
        · show upd _ ra _ p = _
          rw [upd_ne nrp.symm, upd_same]
        · exact nodup_set nd (fun mb => ndp p mb rfl) wh
        · rcases List.mem_or_eq_of_mem_set mb with mb | rfl
          · exact hnew b mb
          · exact ⟨nrp.symm, (s3.trans t1).free np⟩
        · rcases List.mem_or_eq_of_mem_set mr with mr | rfl
          · rw [(hf r mr).1]
            decide
          · omega
        · have := (g _ (List.mem_set (by rw [hl3]; exact hwh) _)).1
          omega
        · rcases List.mem_or_eq_of_mem_set mr with mr | rfl
          · exact hf r mr
          · refine ⟨by omega, fun x mx => ?_⟩
            rcases List.mem_append.mp (List.mem_of_mem_take mx) with mx | mx
            · exact fw.2 x mx
            · exact fw.2 x mx
      · have e1 : wy ≠ 1 := fun z => e (decide_eq_true (by rw [z]))
        exact ⟨as, rs, rfl, s3, ⟨hra, hA⟩, hl3, nd, hnew, fun r m => by rw [(hf r m).1]; decide, fun z => absurd z e1, fun _ => hf⟩
    clear gw fw eaw erw haw hra hA hf nd hnew hl3 s3 rw' aw as rs H3
    rintro σ H4 ⟨as, rs, rfl, s4, ⟨hra, hA⟩, hl3, nd, hnew, hlen, hg1, hg2⟩
    obtain ⟨aw, eaw⟩ : ∃ aw, as[wh]? = some aw := ⟨as[wh]'(by rw [hA.len, hl3]; exact hwh), List.getElem?_eq_getElem _⟩
    obtain ⟨rw', erw, haw⟩ := hA.getL eaw
    have gw : atI (as.map V.ref) (wh : Nat) = some (.ref aw) := at_of (j := wh) rfl (by rw [List.getElem?_map, eaw]; rfl)
    -- if _law_way == 2
    refine ⟨fun σ H5 => ∃ rs : List (List Int), σ = [some (.ref a), some (.int wy), some (.int wh), some (.int pl), some (.ref ra), y5, none, none, none, none, none, none] ∧ Same H1 H5 ∧ RowsAt H5 ra as rs ∧ rs.length = 3 ∧ (∀ r, r ∈ rs → r.length ≤ 10) ∧ (Good3 rs ↔ (wy = 0 ∨ (wy = 1 ∧ pl = 5))), ?_, ?_⟩
    · refine ⟨_, rfl, rfl, _, rfl, ?_⟩
      refine ite2 (fun e => ?_) (fun e => ?_)
      · have e1 : wy = 2 := V.int.inj (of_decide_eq_true e)
        have hf := hg2 (by omega)
        have fw : Five rw' := hf _ (List.mem_of_getElem? erw)
        refine ⟨_, rfl, _, rfl, a, ns, 1, rfl, s4.seq hS, _, _, rfl, rfl, ⟨by decide, by decide⟩, _, _, rfl, rfl, ⟨by decide, by decide, by decide⟩, _, _, rfl, rfl, by show (0 : Int) < _; decide, _, _, rfl, rfl, ?_⟩
        obtain ⟨nv, env⟩ : ∃ nv : Int, -1 - cell ns 1 / 10 % (10 ^ (12 : Int).toNat) = nv := ⟨_, rfl⟩
        have hnv : nv < 0 := by
          have := Int.emod_nonneg (cell ns 1 / 10) (b := 10 ^ (12 : Int).toNat) (by decide)
          omega
        have naw : ra ≠ aw := fun z => (hnew aw (List.mem_of_getElem? eaw)).1 z.symm
        have hp5 : pl % 5 < rw'.length := by
          rw [fw.1]
          omega
        refine ⟨_, rfl, _, rfl, ra, _, _, _, rfl, rfl, SqL.of hra, gw, _, rfl, _, _, rfl, rfl, by show (0 : Int) < 5; decide, aw, _, _, pl % 5, rfl, rfl, haw, ?_, ?_⟩
        · rw [List.length_map, show ((pl : Int) % 5) = ((pl % 5 : Nat) : Int) by omega]
          exact ixN_nat hp5
        · refine ⟨rs.set wh (rw'.set (pl % 5) nv), rfl, upd_out s4 (hnew aw (List.mem_of_getElem? eaw)).2, ⟨by rw [upd_ne naw]; exact hra, ?_⟩, by rw [List.length_set]; exact hl3, fun r mr => ?_, ⟨fun g => ?_, fun z => by omega⟩⟩
          · have := rows_upd (r := rw'.set (pl % 5) nv) hA nd eaw
            rw [List.map_set] at this
            rw [← env] at this ⊢
            exact this
          · rcases List.mem_or_eq_of_mem_set mr with mr | rfl
            · exact hlen r mr
            · rw [List.length_set, fw.1]
              decide
          · have := (g _ (List.mem_set (by rw [hl3]; exact hwh) _)).2 nv (List.mem_set hp5 _)
            omega
      · have e1 : wy ≠ 2 := fun z => e (decide_eq_true (by rw [z]))
        refine ⟨rs, rfl, s4, ⟨hra, hA⟩, hl3, hlen, ?_⟩
        by_cases z : wy = 1
        · rw [hg1 z]
          exact ⟨fun x => .inr ⟨z, x⟩, fun x => by omega⟩
        · exact ⟨fun _ => .inl (by omega), fun _ => hg2 z⟩
    clear hg1 hg2 gw erw haw hra hA hl3 hlen s4 rs H4
    rintro σ H5 ⟨rs, rfl, s5, ⟨hra, hA⟩, hl3, hlen, hg⟩
    -- _law_good
    refine ⟨fun σ H6 => H6 = H5 ∧ ∃ g : Bool, (g = true ↔ Good3 rs) ∧ σ = [some (.ref a), some (.int wy), some (.int wh), some (.int pl), some (.ref ra), y5, some (.bl g), none, none, none, none, none], ?_, ?_⟩
    · refine ⟨_, rfl, rfl, _, rfl, ?_⟩
      refine ite2 (fun e => ?_) (fun e => ?_)
      · exact ⟨rfl, true, by rw [hg]; exact ⟨fun _ => .inl (V.int.inj (of_decide_eq_true e)), fun _ => rfl⟩, rfl⟩
      · have e0 : wy ≠ 0 := fun z => e (decide_eq_true (by rw [z]))
        refine ⟨_, rfl, rfl, _, rfl, ?_⟩
        refine ite2 (fun e1 => ?_) (fun e1 => ?_)
        · have w1 : wy = 1 := V.int.inj (of_decide_eq_true e1)
          refine ⟨_, rfl, rfl, rfl, _, ?_, rfl⟩
          rw [hg, decide_eq_true_iff]
          exact ⟨fun z => .inr ⟨w1, by have := V.int.inj z; omega⟩, fun z => by rw [show (pl : Int) = 5 by omega]⟩
        · have w1 : wy ≠ 1 := fun z => e1 (decide_eq_true (by rw [z]))
          refine ⟨rfl, false, ?_, ?_⟩
          · rw [hg]
            exact ⟨fun z => Bool.noConfusion z, fun z => by omega⟩
          · rfl
    rintro σ H6 ⟨rfl, g, eg, rfl⟩
    -- the three rows by name
    obtain ⟨r0, rs1, rs2, rfl⟩ : ∃ r0 r1 r2, rs = [r0, r1, r2] := by
      match rs, hl3 with
      | [x, y, z], _ => exact ⟨x, y, z, rfl⟩
    have l0 := hlen r0 (by simp)
    have l1 := hlen rs1 (by simp)
    have l2 := hlen rs2 (by simp)
    have g3 : Good3 [r0, rs1, rs2] ↔ Five r0 ∧ Five rs1 ∧ Five rs2 := by
      constructor
      · intro z
        exact ⟨z _ (by simp), z _ (by simp), z _ (by simp)⟩
      · rintro ⟨x, y, z⟩ r m
        simp only [List.mem_cons, List.not_mem_nil, or_false] at m
        rcases m with rfl | rfl | rfl
        · exact x
        · exact y
        · exact z
    -- _law_tariff
    refine ⟨_, rfl, ra, rfl, ⟨_, SqL.of hra⟩, fun hd nhd => lc_list (K := K) (a := ra) (xs := as.map V.ref) (fun i H' => Same H6 H' ∧ ∃ hs : List Addr, H' hd = some (.lst (hs.map V.ref)) ∧ All2 (RowAt H') hs ([r0, rs1, rs2].take i) ∧ ∀ b, b ∈ hs → b ≠ hd)
      ⟨same_upd nhd, [], upd_same, .nil, by simp⟩ (fun i H' _ ⟨s', _⟩ => SqL.of (s' _ _ hra)) ?_ ?_⟩
    · rintro i y H' hi ⟨s', hs, hhd, hA', hnew'⟩
      obtain ⟨a0, ha0, rfl⟩ : ∃ a0, as[i]? = some a0 ∧ y = V.ref a0 := by
        rw [List.getElem?_map] at hi
        cases e : as[i]? with
        | none =>
          rw [e] at hi
          cases hi
        | some a0 =>
          rw [e] at hi
          exact ⟨a0, rfl, (Option.some.inj hi).symm⟩
      obtain ⟨r, hr', hra0⟩ := hA.getL ha0
      refine ⟨rfl, ?_⟩
      refine tYes_if ?_
      refine ⟨_, rfl, a0, _, rfl, .inl (SqL.of (s' _ _ hra0)), fun l nl => ?_⟩
      have ndl : hd ≠ l := ne_of_none hhd nl
      refine ⟨hs.map V.ref, by rw [upd_ne ndl]; exact hhd, small_line (by rw [List.length_map, hA'.len, List.length_take]; show min i 3 ≤ _; omega), ?_⟩
      have nlh : ∀ b, b ∈ hs → b ≠ l := fun b mb => by
        obtain ⟨j, hj⟩ := List.getElem?_of_mem mb
        obtain ⟨b', _, rb⟩ := hA'.getL hj
        exact ne_of_none rb nl
      refine ⟨upd_out (s'.trans (same_upd nl)) nhd, hs ++ [l], by rw [upd_same, List.map_append]; rfl, ?_, fun b mb => ?_⟩
      · rw [List.take_add_one, hr']
        refine All2.app (hA'.imp_mem fun b x mb rb => ?_) (All2.one ?_)
        · show upd (upd H' l _) hd _ b = _
          rw [upd_ne (hnew' b mb), upd_ne (nlh b mb)]
          exact rb
        · show upd (upd H' l _) hd _ l = _
          rw [upd_ne ndl.symm, upd_same]
      · rcases List.mem_append.mp mb with mb | mb
        · exact hnew' b mb
        · rw [List.mem_singleton.mp mb]
          exact ndl.symm
    rintro H7 ⟨s7, hs, hhd, hHA, _⟩
    rw [List.length_map, hA.len, List.take_of_length_le (Nat.le_refl _)] at hHA
    refine ⟨hd, hs, r0, rs1, rs2, rfl, ⟨hhd, hHA⟩, by omega, by omega, by omega, fun ok H8 x s8 TA => ?_, fun bad H8 s8 => ?_⟩
    rotate_left
    · -- it is refused
      have eg' : g = false := by
        cases g with
        | false => rfl
        | true => exact absurd (g3.mp (eg.mp rfl)) bad
      subst eg'
      refine ⟨_, rfl, rfl, _, rfl, ?_⟩
      refine iteT ?_
      refine ⟨_, rfl, false, rfl, true, rfl, ?_⟩
      refine iteT ?_
      have t8 := s7.trans s8
      exact ⟨_, rfl, ra, as, r0, rs1, rs2, rfl, ⟨t8 _ _ hra, hA.imp fun b r e => t8 _ _ e⟩, by omega, by omega, by omega, bad, fun H9 _ => q H9⟩
    have eg' : g = true := eg.mpr (g3.mpr ok)
    subst eg'
    refine ⟨_, rfl, rfl, _, rfl, ?_⟩
    refine iteF ?_
    refine ⟨_, rfl, true, rfl, ?_⟩
    refine iteF ?_
    have t18 := s5.trans (s7.trans s8)
    -- _law_zones
    refine ⟨_, rfl, a, ns, 2, rfl, t18.seq hS, _, _, rfl, rfl, by show (0 : Int) < 13; decide, _, _, rfl, rfl, ?_⟩
    refine ⟨fun σ H9 => H9 = H8 ∧ ∃ z : Int, σ = [some (.ref a), some (.int wy), some (.int wh), some (.int pl), some (.ref ra), y5, some (.bl true), some (.ref x), some (.int z), none, none, none], ?_, ?_⟩
    · refine ⟨_, rfl, a, ns, 2, rfl, t18.seq hS, _, _, rfl, rfl, ⟨by decide, by decide⟩, _, _, rfl, rfl, by show (0 : Int) < 4; decide, rfl, _, rfl, ?_⟩
      refine ite2 (fun e => ?_) (fun e => ?_)
      · exact ⟨_, rfl, _, rfl, a, ns, 2, rfl, t18.seq hS, _, _, rfl, rfl, ⟨by decide, by decide⟩, _, _, rfl, rfl, by show (0 : Int) < 2; decide, _, _, rfl, rfl, .inr ⟨by decide, by decide⟩, _, _, rfl, rfl, _, _, rfl, rfl, ⟨by decide, by decide, by decide⟩, _, _, rfl, rfl, .inl ⟨by omega, by omega⟩, _, _, rfl, rfl, rfl, _, rfl⟩
      · exact ⟨rfl, _, rfl⟩
    rintro σ H9 ⟨rfl, z, rfl⟩
    -- _law_due
    refine ⟨fun σ H' => H' = H9 ∧ σ = [some (.ref a), some (.int wy), some (.int wh), some (.int pl), some (.ref ra), y5, some (.bl true), some (.ref x), some (.int z), some (.bl (decide (¬ (1 ≤ z ∧ z ≤ 5)))), none, none], ?_, ?_⟩
    · refine ⟨_, rfl, _, _, rfl, rfl, _, rfl, ?_⟩
      refine ite2 (fun e => ?_) (fun e => ?_)
      · have e1 : z < 1 := of_decide_eq_true e
        refine ⟨rfl, ?_⟩
        rw [decide_eq_true (show ¬ (1 ≤ z ∧ z ≤ 5) by omega)]
        rfl
      · have e1 : ¬ z < 1 := fun y => e (decide_eq_true y)
        refine ⟨_, rfl, _, _, rfl, rfl, rfl, ?_⟩
        rw [show (decide (¬ (1 ≤ z ∧ z ≤ 5))) = decide (5 < z) from decide_eq_decide.mpr (by omega)]
        rfl
    rintro σ H' ⟨rfl, rfl⟩
    refine ⟨3, rfl, by decide, by decide, for_range (lo := 0) (n := 3) (fun i σ H1 => ∃ y5 : Option V, σ = [some (.ref a), some (.int wy), some (.int wh), some (.int pl), some (.ref ra), y5, some (.bl true), some (.ref x), some (.int z), some (.bl (decide (¬ (1 ≤ z ∧ z ≤ 5)))), none, none] ∧ Same H' H1)
      ⟨_, rfl, Same.refl _⟩ ?_ ?_⟩
    · rintro i σ H1 hi ⟨y5', rfl, s'⟩
      refine ⟨_, rfl, _, rfl, _, rfl, x, _, z, r0, rs1, rs2, rfl, TA.same s', fun H2 s2 => ⟨_, rfl, rfl, _, rfl, ?_⟩⟩
      refine iteNS rfl ?_
      refine ⟨_, rfl, _, rfl, ?_⟩
      refine ite2 (fun e => ?_) (fun e => ?_)
      · have no : ¬ (1 ≤ z ∧ z ≤ 5) := of_decide_eq_true e
        refine ⟨_, rfl, _, rfl, _, rfl, x, _, z, r0, rs1, rs2, rfl, TA.same (s'.trans s2), no, fun H3 s3 => ⟨true, rfl, ?_⟩⟩
        refine iteF ?_
        exact ⟨_, rfl, s'.trans (s2.trans s3)⟩
      · exact ⟨_, rfl, s'.trans s2⟩
    · rintro σ H1 ⟨y5', rfl, s'⟩
      exact q H1
end
end FW

namespace FW
open PySem PySem.Spec PyProof.Rows L2
theorem all_mk {l : PySem.W.OpenLaw} {w : World} {K : PySem.W.Frag} {h : Heap} {mg : Str → Option Value} {fa C CP CZ CF CL CS CN CD f1 f2 f3 f4 f5 f6 f7 f8 f9 f10 f11 f12 f13 f14 f15 f16 : Addr} (X : K.In h) (G : h.Ns mainGlobals mg) (hfa : mg "law" = some (.ref fa))
    {tMOST_ZONES : Tok}  {od1 an1 od2 an2 od3 an3 od4 an4 od5 an5 od6 an6 od7 an7 od8 an8 od9 an9 od10 an10 od11 an11 od12 an12 od13 an13 od14 an14 od15 an15 od16 an16 : Option Addr} {sl1 sl2 sl3 sl4 sl5 sl6 sl7 sl8 sl9 sl10 sl11 sl12 sl13 sl14 sl15 sl16 : Array (Option Value)} {oc1 kV1 dc1 pm1 cd1 ct1 oc2 kV2 dc2 pm2 cd2 ct2 oc3 kV3 dc3 pm3 cd3 ct3 oc4 kV4 dc4 pm4 cd4 ct4 oc5 kV5 dc5 pm5 cd5 ct5 oc6 kV6 dc6 pm6 cd6 ct6 oc7 kV7 dc7 pm7 cd7 ct7 oc8 kV8 dc8 pm8 cd8 ct8 oc9 kV9 dc9 pm9 cd9 ct9 oc10 kV10 dc10 pm10 cd10 ct10 oc11 kV11 dc11 pm11 cd11 ct11 oc12 kV12 dc12 pm12 cd12 ct12 oc13 kV13 dc13 pm13 cd13 ct13 oc14 kV14 dc14 pm14 cd14 ct14 oc15 kV15 dc15 pm15 cd15 ct15 oc16 kV16 dc16 pm16 cd16 ct16 : Value}
    (gC : PySem.W.nsIn K mainGlobals "Tariff" = some (some (.ref C)))
    (pgC : PySem.W.plainGet K C Str.empty = true)
    (hdC : PySem.W.hasDictIn K C = true)
    (poC : PySem.W.plainOver K C = true)
    (saC : PySem.W.findIn K (.ref C) "__setattr__" = some (some (.builtin "object.__setattr__")))
    (mkC : PySem.W.makesIn K C = true)
    (kcC : PySem.W.keepIn K (.ref C) = true)
    (a1 : PySem.W.findIn K (.ref C) "__init__" = some (some (.ref f1)))
    (i1 : PySem.W.isFn K (.ref f1) = true)
    (l1 : K.lookup f1 = some ⟨oc1, od1, .func (PySem.W.fnOf "__init__" "Tariff.__init__" (defArgs sTInit) (defBody sTInit) (defScope sTInit) .none kV1 dc1 pm1 an1 cd1 ct1), sl1⟩)
    (c1 : PySem.W.codeIn K cd1 "Tariff.__init__" = true)
    (k1 : PySem.W.keepIn K (.ref f1) = true)
    (a2 : PySem.W.findIn K (.ref C) "single" = some (some (.ref f2)))
    (i2 : PySem.W.isFn K (.ref f2) = true)
    (l2 : K.lookup f2 = some ⟨oc2, od2, .func (PySem.W.fnOf "single" "Tariff.single" (defArgs sTSingle) (defBody sTSingle) (defScope sTSingle) .none kV2 dc2 pm2 an2 cd2 ct2), sl2⟩)
    (c2 : PySem.W.codeIn K cd2 "Tariff.single" = true)
    (k2 : PySem.W.keepIn K (.ref f2) = true)
    (a3 : PySem.W.findIn K (.ref C) "day" = some (some (.ref f3)))
    (i3 : PySem.W.isFn K (.ref f3) = true)
    (l3 : K.lookup f3 = some ⟨oc3, od3, .func (PySem.W.fnOf "day" "Tariff.day" (defArgs sTDay) (defBody sTDay) (defScope sTDay) .none kV3 dc3 pm3 an3 cd3 ct3), sl3⟩)
    (c3 : PySem.W.codeIn K cd3 "Tariff.day" = true)
    (k3 : PySem.W.keepIn K (.ref f3) = true)
    (a4 : PySem.W.findIn K (.ref C) "week" = some (some (.ref f4)))
    (i4 : PySem.W.isFn K (.ref f4) = true)
    (l4 : K.lookup f4 = some ⟨oc4, od4, .func (PySem.W.fnOf "week" "Tariff.week" (defArgs sTWeek) (defBody sTWeek) (defScope sTWeek) .none kV4 dc4 pm4 an4 cd4 ct4), sl4⟩)
    (c4 : PySem.W.codeIn K cd4 "Tariff.week" = true)
    (k4 : PySem.W.keepIn K (.ref f4) = true)
    (a5 : PySem.W.nsIn K mainGlobals "cheapest" = some (some (.ref f5)))
    (l5 : K.lookup f5 = some ⟨oc5, od5, .func (PySem.W.fnOf "cheapest" "cheapest" (defArgs sCheapest) (defBody sCheapest) (defScope sCheapest) .none kV5 dc5 pm5 an5 cd5 ct5), sl5⟩)
    (c5 : PySem.W.codeIn K cd5 "cheapest" = true)
    (k5 : PySem.W.keepIn K (.ref f5) = true)
    (a6 : PySem.W.nsIn K mainGlobals "check_zones" = some (some (.ref f6)))
    (l6 : K.lookup f6 = some ⟨oc6, od6, .func (PySem.W.fnOf "check_zones" "check_zones" (defArgs sCheckZones) (defBody sCheckZones) (defScope sCheckZones) .none kV6 dc6 pm6 an6 cd6 ct6), sl6⟩)
    (c6 : PySem.W.codeIn K cd6 "check_zones" = true)
    (k6 : PySem.W.keepIn K (.ref f6) = true)
    (a7 : PySem.W.nsIn K mainGlobals "_least_price" = some (some (.ref f7)))
    (l7 : K.lookup f7 = some ⟨oc7, od7, .func (PySem.W.fnOf "_least_price" "_least_price" (defArgs sLeastPrice) (defBody sLeastPrice) (defScope sLeastPrice) .none kV7 dc7 pm7 an7 cd7 ct7), sl7⟩)
    (c7 : PySem.W.codeIn K cd7 "_least_price" = true)
    (k7 : PySem.W.keepIn K (.ref f7) = true)
    (a8 : PySem.W.nsIn K mainGlobals "_check_prices" = some (some (.ref f8)))
    (l8 : K.lookup f8 = some ⟨oc8, od8, .func (PySem.W.fnOf "_check_prices" "_check_prices" (defArgs sCheckPrices) (defBody sCheckPrices) (defScope sCheckPrices) .none kV8 dc8 pm8 an8 cd8 ct8), sl8⟩)
    (c8 : PySem.W.codeIn K cd8 "_check_prices" = true)
    (k8 : PySem.W.keepIn K (.ref f8) = true)
    (a9 : PySem.W.nsIn K mainGlobals "_law_cell_at" = some (some (.ref f9)))
    (l9 : K.lookup f9 = some ⟨oc9, od9, .func (PySem.W.fnOf "_law_cell_at" "_law_cell_at" (defArgs sCell) (defBody sCell) (defScope sCell) .none kV9 dc9 pm9 an9 cd9 ct9), sl9⟩)
    (c9 : PySem.W.codeIn K cd9 "_law_cell_at" = true)
    (k9 : PySem.W.keepIn K (.ref f9) = true)
    (a10 : PySem.W.nsIn K mainGlobals "_law_kind" = some (some (.ref f10)))
    (l10 : K.lookup f10 = some ⟨oc10, od10, .func (PySem.W.fnOf "_law_kind" "_law_kind" (defArgs sKind) (defBody sKind) (defScope sKind) .none kV10 dc10 pm10 an10 cd10 ct10), sl10⟩)
    (c10 : PySem.W.codeIn K cd10 "_law_kind" = true)
    (k10 : PySem.W.keepIn K (.ref f10) = true)
    (a11 : PySem.W.nsIn K mainGlobals "_law_made" = some (some (.ref f11)))
    (l11 : K.lookup f11 = some ⟨oc11, od11, .func (PySem.W.fnOf "_law_made" "_law_made" (defArgs sMade) (defBody sMade) (defScope sMade) .none kV11 dc11 pm11 an11 cd11 ct11), sl11⟩)
    (c11 : PySem.W.codeIn K cd11 "_law_made" = true)
    (k11 : PySem.W.keepIn K (.ref f11) = true)
    (a12 : PySem.W.nsIn K mainGlobals "_law_any_refusal" = some (some (.ref f12)))
    (l12 : K.lookup f12 = some ⟨oc12, od12, .func (PySem.W.fnOf "_law_any_refusal" "_law_any_refusal" (defArgs sAny) (defBody sAny) (defScope sAny) .none kV12 dc12 pm12 an12 cd12 ct12), sl12⟩)
    (c12 : PySem.W.codeIn K cd12 "_law_any_refusal" = true)
    (k12 : PySem.W.keepIn K (.ref f12) = true)
    (a13 : PySem.W.nsIn K mainGlobals "_law_asked" = some (some (.ref f13)))
    (l13 : K.lookup f13 = some ⟨oc13, od13, .func (PySem.W.fnOf "_law_asked" "_law_asked" (defArgs sAsked) (defBody sAsked) (defScope sAsked) .none kV13 dc13 pm13 an13 cd13 ct13), sl13⟩)
    (c13 : PySem.W.codeIn K cd13 "_law_asked" = true)
    (k13 : PySem.W.keepIn K (.ref f13) = true)
    (a14 : PySem.W.nsIn K mainGlobals "_law_zones_refused" = some (some (.ref f14)))
    (l14 : K.lookup f14 = some ⟨oc14, od14, .func (PySem.W.fnOf "_law_zones_refused" "_law_zones_refused" (defArgs sRef) (defBody sRef) (defScope sRef) .none kV14 dc14 pm14 an14 cd14 ct14), sl14⟩)
    (c14 : PySem.W.codeIn K cd14 "_law_zones_refused" = true)
    (k14 : PySem.W.keepIn K (.ref f14) = true)
    (a15 : PySem.W.nsIn K mainGlobals "_law_zones_refused_by_any" = some (some (.ref f15)))
    (l15 : K.lookup f15 = some ⟨oc15, od15, .func (PySem.W.fnOf "_law_zones_refused_by_any" "_law_zones_refused_by_any" (defArgs sRefA) (defBody sRefA) (defScope sRefA) .none kV15 dc15 pm15 an15 cd15 ct15), sl15⟩)
    (c15 : PySem.W.codeIn K cd15 "_law_zones_refused_by_any" = true)
    (k15 : PySem.W.keepIn K (.ref f15) = true)
    (a16 : PySem.W.nsIn K mainGlobals "law" = some (some (.ref f16)))
    (l16 : K.lookup f16 = some ⟨oc16, od16, .func (PySem.W.fnOf "law" "law" (defArgs sLaw) (defBody sLaw) (defScope sLaw) .none kV16 dc16 pm16 an16 cd16 ct16), sl16⟩)
    (c16 : PySem.W.codeIn K cd16 "law" = true)
    (k16 : PySem.W.keepIn K (.ref f16) = true)
    (nC_singles : PySem.W.findIn K (.ref C) "singles" = some none)
    (nC_days : PySem.W.findIn K (.ref C) "days" = some none)
    (nC_weeks : PySem.W.findIn K (.ref C) "weeks" = some none)
    (gCP : PySem.W.nsIn K mainGlobals "BadPrices" = some (some (.ref CP)))
    (xCP : PySem.W.excIn K CP [.type "ValueError", .type "Exception", .type "BaseException", .type "object"] "ValueError.__new__" = true)
    (kCP : PySem.W.keepIn K (.ref CP) = true)
    (bCP : PySem.W.subIn K (.ref CP) (.type "BaseException") = some true)
    (tCP : PySem.W.typeIn K (.ref CP) = some (.type "type"))
    (gCZ : PySem.W.nsIn K mainGlobals "BadZones" = some (some (.ref CZ)))
    (xCZ : PySem.W.excIn K CZ [.type "ValueError", .type "Exception", .type "BaseException", .type "object"] "ValueError.__new__" = true)
    (kCZ : PySem.W.keepIn K (.ref CZ) = true)
    (bCZ : PySem.W.subIn K (.ref CZ) (.type "BaseException") = some true)
    (tCZ : PySem.W.typeIn K (.ref CZ) = some (.type "type"))
    (z_len : PySem.W.nsIn K mainGlobals "len" = some none)
    (z_list : PySem.W.nsIn K mainGlobals "list" = some none)
    (z_range : PySem.W.nsIn K mainGlobals "range" = some none)
    (z_min : PySem.W.nsIn K mainGlobals "min" = some none)
    (z_isinstance : PySem.W.nsIn K mainGlobals "isinstance" = some none)
    (z_ValueError : PySem.W.nsIn K mainGlobals "ValueError" = some none)
    (hMOST_ZONES : PySem.W.nsIn K mainGlobals "MOST_ZONES" = some (some (.int 5 tMOST_ZONES)))
    (gCF : PySem.W.nsIn K mainGlobals "FareError" = some (some (.ref CF)))
    (gCL : PySem.W.nsIn K mainGlobals "BadLink" = some (some (.ref CL)))
    (gCS : PySem.W.nsIn K mainGlobals "BadStop" = some (some (.ref CS)))
    (gCN : PySem.W.nsIn K mainGlobals "NoWay" = some (some (.ref CN)))
    (gCD : PySem.W.nsIn K mainGlobals "PastDay" = some (some (.ref CD)))
    (bCF : PySem.W.subIn K (.ref CF) (.type "BaseException") = some true)
    (hdCF : PySem.W.hasDictIn K CF = true)
    (tCF : PySem.W.typeIn K (.ref CF) = some (.type "type"))
    (sp_cls : PySem.W.specialIn K (.builtin "object.__class__") "__get__" = some (some (.builtin "getset_descriptor.__get__")))
    (tk_cls : PySem.W.takesIn K (.builtin "object.__class__") = some true)
    (suCP : PySem.W.subIn K (.ref CP) (.ref CF) = some true)
    (hdCP : PySem.W.hasDictIn K CP = true)
    (gaCP : PySem.W.findIn K (.ref CP) "__getattribute__" = some (some (.builtin "BaseException.__getattribute__")))
    (gkCP : PySem.W.findIn K (.ref CP) "__getattr__" = some none)
    (caCP : PySem.W.findIn K (.ref CP) "__class__" = some (some (.builtin "object.__class__")))
    (moCP : PySem.W.mroIn K CP (.type "object") = some true)
    (kvCP : PySem.W.kitOne K (.ref CP) (.type "ValueError") = some true)
    (seCP : PySem.W.subIn K (.ref CP) (.ref CP) = some true)
    (kCP0 : PySem.W.kitOne K (.ref CP) (.ref CL) = some false)
    (kCP1 : PySem.W.kitOne K (.ref CP) (.ref CS) = some false)
    (kCP2 : PySem.W.kitOne K (.ref CP) (.ref CN) = some false)
    (kCP3 : PySem.W.kitOne K (.ref CP) (.ref CP) = some true)
    (kCP4 : PySem.W.kitOne K (.ref CP) (.ref CZ) = some false)
    (kCP5 : PySem.W.kitOne K (.ref CP) (.ref CD) = some false)
    (suCZ : PySem.W.subIn K (.ref CZ) (.ref CF) = some true)
    (hdCZ : PySem.W.hasDictIn K CZ = true)
    (gaCZ : PySem.W.findIn K (.ref CZ) "__getattribute__" = some (some (.builtin "BaseException.__getattribute__")))
    (gkCZ : PySem.W.findIn K (.ref CZ) "__getattr__" = some none)
    (caCZ : PySem.W.findIn K (.ref CZ) "__class__" = some (some (.builtin "object.__class__")))
    (moCZ : PySem.W.mroIn K CZ (.type "object") = some true)
    (kvCZ : PySem.W.kitOne K (.ref CZ) (.type "ValueError") = some true)
    (seCZ : PySem.W.subIn K (.ref CZ) (.ref CZ) = some true)
    (kCZ0 : PySem.W.kitOne K (.ref CZ) (.ref CL) = some false)
    (kCZ1 : PySem.W.kitOne K (.ref CZ) (.ref CS) = some false)
    (kCZ2 : PySem.W.kitOne K (.ref CZ) (.ref CN) = some false)
    (kCZ3 : PySem.W.kitOne K (.ref CZ) (.ref CP) = some false)
    (kCZ4 : PySem.W.kitOne K (.ref CZ) (.ref CZ) = some true)
    (kCZ5 : PySem.W.kitOne K (.ref CZ) (.ref CD) = some false)
    : ∃ fd : FuncData, (∀ (s : Shared) (v : Value), BindsTo s fd ⟨[v], []⟩ [("_law_script", v)]) ∧ ∀ base : Heap, K.In base → base.Ns mainGlobals mg → FnOk l.prog w K mg base CX0 8 fa fd ["_law_script"] (spLaw K) := by
  have e := hfa.symm.trans (PySem.W.mg_of X G a16)
  cases e
  have F1 := fun_mk (st := sTInit) l1 c1 k1
  have b1 := F1.binds (ps := ["self", "singles", "days", "weeks"]) fun _ _ _ _ _ _ us hl => match us, hl with | [_, _, _, _], _ => rfl
  have F2 := fun_mk (st := sTSingle) l2 c2 k2
  have b2 := F2.binds (ps := ["self", "zones"]) fun _ _ _ _ _ _ us hl => match us, hl with | [_, _], _ => rfl
  have F3 := fun_mk (st := sTDay) l3 c3 k3
  have b3 := F3.binds (ps := ["self", "zones"]) fun _ _ _ _ _ _ us hl => match us, hl with | [_, _], _ => rfl
  have F4 := fun_mk (st := sTWeek) l4 c4 k4
  have b4 := F4.binds (ps := ["self", "zones"]) fun _ _ _ _ _ _ us hl => match us, hl with | [_, _], _ => rfl
  have F5 := fun_mk (st := sCheapest) l5 c5 k5
  have b5 := F5.binds (ps := ["prices", "zones"]) fun _ _ _ _ _ _ us hl => match us, hl with | [_, _], _ => rfl
  have F6 := fun_mk (st := sCheckZones) l6 c6 k6
  have b6 := F6.binds (ps := ["zones"]) fun _ _ _ _ _ _ us hl => match us, hl with | [_], _ => rfl
  have F7 := fun_mk (st := sLeastPrice) l7 c7 k7
  have b7 := F7.binds (ps := ["prices", "zones"]) fun _ _ _ _ _ _ us hl => match us, hl with | [_, _], _ => rfl
  have F8 := fun_mk (st := sCheckPrices) l8 c8 k8
  have b8 := F8.binds (ps := ["prices"]) fun _ _ _ _ _ _ us hl => match us, hl with | [_], _ => rfl
  have F9 := fun_mk (st := sCell) l9 c9 k9
  have b9 := F9.binds (ps := ["_law_script", "_law_k"]) fun _ _ _ _ _ _ us hl => match us, hl with | [_, _], _ => rfl
  have F10 := fun_mk (st := sKind) l10 c10 k10
  have b10 := F10.binds (ps := ["_law_e"]) fun _ _ _ _ _ _ us hl => match us, hl with | [_], _ => rfl
  have F11 := fun_mk (st := sMade) l11 c11 k11
  have b11 := F11.binds (ps := ["_law_rows"]) fun _ _ _ _ _ _ us hl => match us, hl with | [_], _ => rfl
  have F12 := fun_mk (st := sAny) l12 c12 k12
  have b12 := F12.binds (ps := ["_law_rows"]) fun _ _ _ _ _ _ us hl => match us, hl with | [_], _ => rfl
  have F13 := fun_mk (st := sAsked) l13 c13 k13
  have b13 := F13.binds (ps := ["_law_tariff", "_law_sort", "_law_zones"]) fun _ _ _ _ _ _ us hl => match us, hl with | [_, _, _], _ => rfl
  have F14 := fun_mk (st := sRef) l14 c14 k14
  have b14 := F14.binds (ps := ["_law_tariff", "_law_sort", "_law_zones"]) fun _ _ _ _ _ _ us hl => match us, hl with | [_, _, _], _ => rfl
  have F15 := fun_mk (st := sRefA) l15 c15 k15
  have b15 := F15.binds (ps := ["_law_tariff", "_law_sort", "_law_zones"]) fun _ _ _ _ _ _ us hl => match us, hl with | [_, _, _], _ => rfl
  have F16 := fun_mk (st := sLaw) l16 c16 k16
  have T : PTx K mg C CP CZ := ⟨⟨pgC, hdC, poC, saC⟩, nC_singles, nC_days, nC_weeks, PySem.W.mg_none_of X G z_len, PySem.W.mg_none_of X G z_list, PySem.W.mg_none_of X G z_range, PySem.W.mg_none_of X G z_min, ⟨_, PySem.W.mg_of X G hMOST_ZONES⟩, ⟨PySem.W.mg_of X G gCP, xCP, kCP, bCP, tCP⟩, ⟨PySem.W.mg_of X G gCZ, xCZ, kCZ, bCZ, tCZ⟩⟩
  have B : LT mg := ⟨PySem.W.mg_none_of X G z_len, PySem.W.mg_none_of X G z_list, PySem.W.mg_none_of X G z_range⟩
  have KGs : KG mg CL CS CN CP CZ CD := ⟨PySem.W.mg_of X G gCL, PySem.W.mg_of X G gCS, PySem.W.mg_of X G gCN, PySem.W.mg_of X G gCP, PySem.W.mg_of X G gCZ, PySem.W.mg_of X G gCD, PySem.W.mg_none_of X G z_isinstance, PySem.W.mg_none_of X G z_ValueError⟩
  have ECP : ExcC K CP := ⟨gaCP, gkCP, bCP, hdCP, caCP, sp_cls, tk_cls, moCP⟩
  have KCP : KindT K CL CS CN CP CZ CD CP 3 := ⟨ECP, kCP0, kCP1, kCP2, kCP3, kCP4, kCP5, kvCP, by decide⟩
  have ECZ : ExcC K CZ := ⟨gaCZ, gkCZ, bCZ, hdCZ, caCZ, sp_cls, tk_cls, moCZ⟩
  have KCZ : KindT K CL CS CN CP CZ CD CZ 4 := ⟨ECZ, kCZ0, kCZ1, kCZ2, kCZ3, kCZ4, kCZ5, kvCZ, by decide⟩
  have D : DefsL K mg C CP CZ CF CL CS CN CD f1 f2 f3 f4 f9 f10 f11 f12 f13 f14 f15 _ _ _ _ _ _ _ _ _ _ _ := ⟨⟨pgC, hdC, poC, saC⟩, B, PySem.W.mg_of X G gCF, KGs, ⟨bCP, hdCP, tCP, seCP⟩, ⟨bCF, hdCF, tCF, suCP⟩, ⟨bCZ, hdCZ, tCZ, seCZ⟩, ⟨bCF, hdCF, tCF, suCZ⟩, KCP, KCZ, ⟨mkC, a1, i1, kcC⟩, PySem.W.mg_of X G gC, b1, b2, ⟨a2, i2, k2⟩, b3, ⟨a3, i3, k3⟩, b4, ⟨a4, i4, k4⟩, F9, b9, PySem.W.mg_of X G a9, F10, b10, PySem.W.mg_of X G a10, F11, b11, PySem.W.mg_of X G a11, F12, b12, PySem.W.mg_of X G a12, F13, b13, PySem.W.mg_of X G a13, F14, b14, PySem.W.mg_of X G a14, F15, b15, PySem.W.mg_of X G a15⟩
  exact ⟨PySem.W.fnOf "law" "law" (defArgs sLaw) (defBody sLaw) (defScope sLaw) .none kV16 dc16 pm16 an16 cd16 ct16, fun s v => .of_eq rfl, fun base _ _ => ok_law F16 D (by decide) (by decide) (ok_tInit F1 T F8 b8 (PySem.W.mg_of X G a8)) (ok_tSingle F2 T F6 b6 (PySem.W.mg_of X G a6) F5 b5 (PySem.W.mg_of X G a5) F7 b7 (PySem.W.mg_of X G a7)) (ok_tDay F3 T F6 b6 (PySem.W.mg_of X G a6) F5 b5 (PySem.W.mg_of X G a5) F7 b7 (PySem.W.mg_of X G a7)) (ok_tWeek F4 T F6 b6 (PySem.W.mg_of X G a6) F5 b5 (PySem.W.mg_of X G a5) F7 b7 (PySem.W.mg_of X G a7))⟩
theorem walk {l : PySem.W.OpenLaw} {q : Program} {loose : List Str} {XP : (Str → Option Value) → Heap → Prop} {YP : World → Heap → Prop} {d : DefRec} {K : Params → PySem.W.Frag} (hn : l.most = some 63) (hdf : d.params.defaults = [])
    (hY : ∀ (w : World) (h : Heap), YP w h → (K w.params).In h)
    (F : ∀ (w : World) (mg : Str → Option Value) (fa : Addr) (h : Heap), (K w.params).In h → h.Ns mainGlobals mg → mg d.name = some (.ref fa) →
      ∃ fd : FuncData, (∀ (s : Shared) (u : Value), BindsTo s fd ⟨[u], []⟩ [("_law_script", u)]) ∧ ∀ base : Heap, (K w.params).In base → base.Ns mainGlobals mg → FnOk l.prog w (K w.params) mg base CX0 8 fa fd ["_law_script"] (spLaw (K w.params))) :
    PySem.W.WalkO q loose XP YP l.row.toRowW d [] (fun f vs => PySem.call f vs) :=
  L2.walk_of (n := 63) (k := 8) (x := "_law_script") (CX := fun _ => CX0) (sp := fun w => spLaw (K w.params)) hn (by decide) hdf ⟨rfl, by decide, by decide⟩ hY F (fun _ _ a ns hl _ hS => ⟨a, ns, rfl, hS, hl, fun _ => rfl⟩) fun _ _ _ _ _ z => z
end FW
open PySem PySem.W PyProof.Rows
set_option maxRecDepth 100000 in
set_option maxHeartbeats 0 in
theorem PySem.Challenge.cw_fareweb_k02_prices_refused_holds : PySem.Challenge.rw_fareweb_k02_prices_refused.Holds := by
  w_on; o_law; k_head; (case hw => w_witness2)
  k_fill
  refine FW.walk (l := PySem.Challenge.rw_fareweb_k02_prices_refused) rfl rfl (fun w h Y => PySem.W.kIn_of Y) ?F
  case F =>
    intro w mg fa h KX G hmg
    refine' FW.all_mk KX G hmg ?gC ?pgC ?hdC ?poC ?saC ?mkC ?kcC ?a1 ?i1 ?l1 ?c1 ?k1 ?a2 ?i2 ?l2 ?c2 ?k2 ?a3 ?i3 ?l3 ?c3 ?k3 ?a4 ?i4 ?l4 ?c4 ?k4 ?a5 ?l5 ?c5 ?k5 ?a6 ?l6 ?c6 ?k6 ?a7 ?l7 ?c7 ?k7 ?a8 ?l8 ?c8 ?k8 ?a9 ?l9 ?c9 ?k9 ?a10 ?l10 ?c10 ?k10 ?a11 ?l11 ?c11 ?k11 ?a12 ?l12 ?c12 ?k12 ?a13 ?l13 ?c13 ?k13 ?a14 ?l14 ?c14 ?k14 ?a15 ?l15 ?c15 ?k15 ?a16 ?l16 ?c16 ?k16 ?nC_singles ?nC_days ?nC_weeks ?gCP ?xCP ?kCP ?bCP ?tCP ?gCZ ?xCZ ?kCZ ?bCZ ?tCZ ?z_len ?z_list ?z_range ?z_min ?z_isinstance ?z_ValueError ?hMOST_ZONES ?gCF ?gCL ?gCS ?gCN ?gCD ?bCF ?hdCF ?tCF ?sp_cls ?tk_cls ?suCP ?hdCP ?gaCP ?gkCP ?caCP ?moCP ?kvCP ?seCP ?kCP0 ?kCP1 ?kCP2 ?kCP3 ?kCP4 ?kCP5 ?suCZ ?hdCZ ?gaCZ ?gkCZ ?caCZ ?moCZ ?kvCZ ?seCZ ?kCZ0 ?kCZ1 ?kCZ2 ?kCZ3 ?kCZ4 ?kCZ5
    (case gC => k_is)
    (case pgC => k_is)
    (case hdC => k_is)
    (case poC => k_is)
    (case saC => k_is)
    (case mkC => k_is)
    (case kcC => k_is)
    (case a1 => k_is)
    (case i1 => k_is)
    (case l1 => k_is)
    (case c1 => k_is)
    (case k1 => k_is)
    (case a2 => k_is)
    (case i2 => k_is)
    (case l2 => k_is)
    (case c2 => k_is)
    (case k2 => k_is)
    (case a3 => k_is)
    (case i3 => k_is)
    (case l3 => k_is)
    (case c3 => k_is)
    (case k3 => k_is)
    (case a4 => k_is)
    (case i4 => k_is)
    (case l4 => k_is)
    (case c4 => k_is)
    (case k4 => k_is)
    (case a5 => k_is)
    (case l5 => k_is)
    (case c5 => k_is)
    (case k5 => k_is)
    (case a6 => k_is)
    (case l6 => k_is)
    (case c6 => k_is)
    (case k6 => k_is)
    (case a7 => k_is)
    (case l7 => k_is)
    (case c7 => k_is)
    (case k7 => k_is)
    (case a8 => k_is)
    (case l8 => k_is)
    (case c8 => k_is)
    (case k8 => k_is)
    (case a9 => k_is)
    (case l9 => k_is)
    (case c9 => k_is)
    (case k9 => k_is)
    (case a10 => k_is)
    (case l10 => k_is)
    (case c10 => k_is)
    (case k10 => k_is)
    (case a11 => k_is)
    (case l11 => k_is)
    (case c11 => k_is)
    (case k11 => k_is)
    (case a12 => k_is)
    (case l12 => k_is)
    (case c12 => k_is)
    (case k12 => k_is)
    (case a13 => k_is)
    (case l13 => k_is)
    (case c13 => k_is)
    (case k13 => k_is)
    (case a14 => k_is)
    (case l14 => k_is)
    (case c14 => k_is)
    (case k14 => k_is)
    (case a15 => k_is)
    (case l15 => k_is)
    (case c15 => k_is)
    (case k15 => k_is)
    (case a16 => k_is)
    (case l16 => k_is)
    (case c16 => k_is)
    (case k16 => k_is)
    (case nC_singles => k_is)
    (case nC_days => k_is)
    (case nC_weeks => k_is)
    (case gCP => k_is)
    (case xCP => k_exc)
    (case kCP => k_is)
    (case bCP => k_is)
    (case tCP => k_is)
    (case gCZ => k_is)
    (case xCZ => k_exc)
    (case kCZ => k_is)
    (case bCZ => k_is)
    (case tCZ => k_is)
    (case z_len => k_is)
    (case z_list => k_is)
    (case z_range => k_is)
    (case z_min => k_is)
    (case z_isinstance => k_is)
    (case z_ValueError => k_is)
    (case hMOST_ZONES => k_is)
    (case gCF => k_is)
    (case gCL => k_is)
    (case gCS => k_is)
    (case gCN => k_is)
    (case gCD => k_is)
    (case bCF => k_is)
    (case hdCF => k_is)
    (case tCF => k_is)
    (case sp_cls => k_is)
    (case tk_cls => k_is)
    (case suCP => k_is)
    (case hdCP => k_is)
    (case gaCP => k_is)
    (case gkCP => k_is)
    (case caCP => k_is)
    (case moCP => k_is)
    (case kvCP => kit_is)
    (case seCP => k_is)
    (case kCP0 => kit_is)
    (case kCP1 => kit_is)
    (case kCP2 => kit_is)
    (case kCP3 => kit_is)
    (case kCP4 => kit_is)
    (case kCP5 => kit_is)
    (case suCZ => k_is)
    (case hdCZ => k_is)
    (case gaCZ => k_is)
    (case gkCZ => k_is)
    (case caCZ => k_is)
    (case moCZ => k_is)
    (case kvCZ => kit_is)
    (case seCZ => k_is)
    (case kCZ0 => kit_is)
    (case kCZ1 => kit_is)
    (case kCZ2 => kit_is)
    (case kCZ3 => kit_is)
    (case kCZ4 => kit_is)
    (case kCZ5 => kit_is)
#print axioms PySem.Challenge.cw_fareweb_k02_prices_refused_holds

