import PyProof.Rows.All
import Wide.All
import OpenK.AllK
import Wide.FinOn
import Open.SpecLaws
import KE.OsHead
import KE.OsGo
import HandS.ForSpec
import HandS.Comp
import KE.DataMinMax
import PySem.Challenge.RW_middleseats_s05_centre
set_option Elab.async false
set_option linter.all false
set_option maxRecDepth 100000
set_option maxHeartbeats 2000000
namespace Ms
open Ks465

/-- a list of numbers from nought, as whole numbers -/
def zs (l : List Nat) : List Int := l.map (fun n : Nat => (n : Int))
theorem zs_len (l : List Nat) : (zs l).length = l.length := by simp [zs]
theorem zs_mem {l : List Nat} {m : Int} (h : m ∈ zs l) : ∃ n, n ∈ l ∧ m = (n : Int) := by
  obtain ⟨n, h1, h2⟩ := List.mem_map.mp h
  exact ⟨n, h1, h2.symm⟩
theorem mem_zs {l : List Nat} {n : Nat} (h : n ∈ l) : ((n : Nat) : Int) ∈ zs l := List.mem_map.mpr ⟨n, h, rfl⟩
theorem zs_sum : ∀ l : List Nat, (zs l).sum = ((l.sum : Nat) : Int)
  | [] => rfl
  | a :: r => by
    show ((a : Int) :: zs r).sum = (((a :: r).sum : Nat) : Int)
    rw [List.sum_cons, List.sum_cons, zs_sum r, Int.natCast_add]
theorem zs_toNat : ∀ {l : List Int}, (∀ x ∈ l, 0 ≤ x) → zs (l.map Int.toNat) = l
  | [], _ => rfl
  | a :: r, h => by
    show ((a.toNat : Nat) : Int) :: zs (r.map Int.toNat) = a :: r
    rw [Int.toNat_of_nonneg (h a List.mem_cons_self), zs_toNat fun x hx => h x (List.mem_cons_of_mem _ hx)]
theorem zs_get {l : List Nat} {i : Nat} (h : i < l.length) : (zs l)[i]? = some ((l.getD i 0 : Nat) : Int) := by
  unfold zs
  rw [List.getElem?_map, List.getElem?_eq_getElem h, List.getD_eq_getElem?_getD, List.getElem?_eq_getElem h]
  rfl

/-! sums -/
theorem fold_sum {α : Type} (g : α → Nat) : ∀ (l : List α) (a : Nat), l.foldl (fun k i => k + g i) a = a + (l.map g).sum
  | [], a => by simp
  | x :: r, a => by
    rw [List.foldl_cons, fold_sum g r, List.map_cons, List.sum_cons]
    omega
theorem seatsOf_sum (h : House) (l : List Nat) : seatsOf h l = (l.map (fun i => h.seats.getD i 0)).sum := by
  unfold seatsOf
  rw [fold_sum, Nat.zero_add]
theorem range_getD (l : List Nat) : (List.range l.length).map (fun i => l.getD i 0) = l := by
  apply List.ext_getElem
  · simp
  · intro i h1 h2
    simp [List.getD_eq_getElem?_getD, h2]
theorem all_sum (h : House) : Ks465.all h = h.seats.sum := by
  unfold Ks465.all parties
  rw [seatsOf_sum, range_getD]

/-! least and most -/
theorem foldmin_le : ∀ (l : List Nat) (a : Nat), l.foldl min a ≤ a ∧ ∀ x ∈ l, l.foldl min a ≤ x
  | [], a => ⟨Nat.le_refl _, by simp⟩
  | b :: r, a => by
    obtain ⟨h1, h2⟩ := foldmin_le r (min a b)
    rw [List.foldl_cons]
    refine ⟨by omega, fun x hx => ?_⟩
    rcases List.mem_cons.mp hx with rfl | hx
    · omega
    · exact h2 x hx
theorem foldmin_mem : ∀ (l : List Nat) (a : Nat), l.foldl min a = a ∨ l.foldl min a ∈ l
  | [], a => .inl rfl
  | b :: r, a => by
    rw [List.foldl_cons]
    rcases foldmin_mem r (min a b) with h | h
    · by_cases q : a ≤ b
      · left
        rw [h]
        omega
      · right
        rw [h, Nat.min_eq_right (by omega)]
        exact List.mem_cons_self
    · exact .inr (List.mem_cons_of_mem _ h)
theorem foldmax_le : ∀ (l : List Nat) (a : Nat), a ≤ l.foldl max a ∧ ∀ x ∈ l, x ≤ l.foldl max a
  | [], a => ⟨Nat.le_refl _, by simp⟩
  | b :: r, a => by
    obtain ⟨h1, h2⟩ := foldmax_le r (max a b)
    rw [List.foldl_cons]
    refine ⟨by omega, fun x hx => ?_⟩
    rcases List.mem_cons.mp hx with rfl | hx
    · omega
    · exact h2 x hx
theorem foldmax_mem : ∀ (l : List Nat) (a : Nat), l.foldl max a = a ∨ l.foldl max a ∈ l
  | [], a => .inl rfl
  | b :: r, a => by
    rw [List.foldl_cons]
    rcases foldmax_mem r (max a b) with h | h
    · by_cases q : b ≤ a
      · left
        rw [h]
        omega
      · right
        rw [h, Nat.max_eq_right (by omega)]
        exact List.mem_cons_self
    · exact .inr (List.mem_cons_of_mem _ h)
theorem least_le {l : List Nat} {x : Nat} (h : x ∈ l) : least l ≤ x := by
  cases l with
  | nil => cases h
  | cons a r =>
    obtain ⟨h1, h2⟩ := foldmin_le r a
    rcases List.mem_cons.mp h with rfl | h
    · exact h1
    · exact h2 x h
theorem least_mem {l : List Nat} (h : l ≠ []) : least l ∈ l := by
  cases l with
  | nil => exact absurd rfl h
  | cons a r =>
    show r.foldl min a ∈ a :: r
    rcases foldmin_mem r a with q | q
    · rw [q]
      exact List.mem_cons_self
    · exact List.mem_cons_of_mem _ q
theorem le_most {l : List Nat} {x : Nat} (h : x ∈ l) : x ≤ most l := by
  cases l with
  | nil => cases h
  | cons a r =>
    obtain ⟨h1, h2⟩ := foldmax_le r a
    rcases List.mem_cons.mp h with rfl | h
    · exact h1
    · exact h2 x h
theorem most_mem {l : List Nat} (h : l ≠ []) : most l ∈ l := by
  cases l with
  | nil => exact absurd rfl h
  | cons a r =>
    show r.foldl max a ∈ a :: r
    rcases foldmax_mem r a with q | q
    · rw [q]
      exact List.mem_cons_self
    · exact List.mem_cons_of_mem _ q
/-- what min hands back -/
theorem is_least {l : List Nat} {m : Int} (h : m ∈ zs l) (hl : ∀ y ∈ zs l, m ≤ y) : m = ((least l : Nat) : Int) := by
  obtain ⟨n, hn, rfl⟩ := zs_mem h
  have h1 := least_le hn
  have h2 := hl _ (mem_zs (least_mem (l := l) (fun e => by subst e; cases hn)))
  omega
theorem is_most {l : List Nat} {m : Int} (h : m ∈ zs l) (hl : ∀ y ∈ zs l, y ≤ m) : m = ((most l : Nat) : Int) := by
  obtain ⟨n, hn, rfl⟩ := zs_mem h
  have h1 := le_most hn
  have h2 := hl _ (mem_zs (most_mem (l := l) (fun e => by subst e; cases hn)))
  omega
theorem least_most {l : List Nat} : least l ≤ most l := by
  cases l with
  | nil => exact Nat.le_refl _
  | cons a r => exact Nat.le_trans (least_le List.mem_cons_self) (le_most List.mem_cons_self)

/-! as told -/
theorem ok_iff (a p : List Nat) : okHouse ⟨a, p⟩ = true ↔ 1 ≤ a.length ∧ a.length ≤ 7 ∧ p.length = a.length ∧ (∀ s ∈ a, 1 ≤ s ∧ s ≤ 200) ∧ ∀ x ∈ p, x ≤ 100 := by
  show (decide (1 ≤ a.length) && decide (a.length ≤ 7) && p.length == a.length && (a.all fun s => decide (1 ≤ s) && decide (s ≤ 200)) && p.all fun x => decide (x ≤ 100)) = true ↔ _
  simp only [Bool.and_eq_true, decide_eq_true_eq, List.all_eq_true, beq_iff_eq]
  constructor
  · rintro ⟨⟨⟨⟨h1, h2⟩, h3⟩, h4⟩, h5⟩
    exact ⟨h1, h2, h3, h4, h5⟩
  · rintro ⟨h1, h2, h3, h4, h5⟩
    exact ⟨⟨⟨⟨h1, h2⟩, h3⟩, h4⟩, h5⟩
theorem ok_len1 {a p : List Nat} (h : a.length < 1) : okHouse ⟨a, p⟩ = false := by
  rw [Bool.eq_false_iff]
  intro q
  have := (ok_iff a p).mp q
  omega
theorem ok_len2 {a p : List Nat} (h : 7 < a.length) : okHouse ⟨a, p⟩ = false := by
  rw [Bool.eq_false_iff]
  intro q
  have := (ok_iff a p).mp q
  omega
theorem ok_len3 {a p : List Nat} (h : p.length ≠ a.length) : okHouse ⟨a, p⟩ = false := by
  rw [Bool.eq_false_iff]
  intro q
  have := (ok_iff a p).mp q
  omega
theorem ok_few {a p : List Nat} (h0 : 1 ≤ a.length) (h : least a < 1) : okHouse ⟨a, p⟩ = false := by
  rw [Bool.eq_false_iff]
  intro q
  have q := (ok_iff a p).mp q
  have := q.2.2.2.1 _ (least_mem (l := a) (by intro e; subst e; simp at h0))
  omega
theorem ok_many {a p : List Nat} (h0 : 1 ≤ a.length) (h : 200 < most a) : okHouse ⟨a, p⟩ = false := by
  rw [Bool.eq_false_iff]
  intro q
  have q := (ok_iff a p).mp q
  have := q.2.2.2.1 _ (most_mem (l := a) (by intro e; subst e; simp at h0))
  omega
theorem ok_last {a p : List Nat} (h1 : 1 ≤ a.length) (h2 : a.length ≤ 7) (h3 : p.length = a.length) (h4 : ¬ least a < 1) (h5 : ¬ 200 < most a) : okHouse ⟨a, p⟩ = decide (most p ≤ 100) := by
  rw [Bool.eq_iff_iff, ok_iff, decide_eq_true_eq]
  constructor
  · rintro ⟨_, _, _, _, h⟩
    exact h _ (most_mem (by intro e; subst e; simp at h3; omega))
  · intro h
    refine ⟨h1, h2, h3, fun s hs => ?_, fun x hx => ?_⟩
    · have := least_le hs
      have := le_most hs
      omega
    · have := le_most hx
      omega

/-! middle -/
def mid (h : House) (i : Nat) : Bool := decide (2 * seatsOf h ((parties h).filter fun j => decide (place h j < place h i)) ≤ Ks465.all h) && decide (2 * seatsOf h ((parties h).filter fun j => decide (place h i < place h j)) ≤ Ks465.all h)
theorem middle_mid (h : House) : Ks465.middle h = (parties h).filter (mid h) := rfl

/-! sets -/
theorem has_eq (s i : Nat) : decide ((((s / 2 ^ i : Nat) : Int) % 2) = 1) = has s i := by
  unfold has
  rw [Nat.testBit_eq_decide_div_mod_eq]
  congr 1
  apply propext
  omega
theorem beyond {s n : Nat} : s / 2 ^ n ≠ 0 ↔ 2 ^ n ≤ s := by
  have hp : 0 < 2 ^ n := Nat.two_pow_pos n
  rw [Ne, Nat.div_eq_zero_iff]
  omega
theorem mem_members {h : House} {s i : Nat} : i ∈ members h s ↔ i < h.seats.length ∧ has s i = true := by
  unfold members parties
  rw [List.mem_filter, List.mem_range]
def taken (h : House) (s : Nat) : List Nat := (members h s).map (place h)
theorem wide_taken (h : House) (s : Nat) : wide h s = most (taken h s) - least (taken h s) := rfl
theorem joined_none {h : House} {s : Nat} (e : taken h s = []) : Ks465.joined h s = true := by
  unfold Ks465.joined
  have e' : members h s = [] := List.map_eq_nil_iff.mp e
  rw [e']
  rfl
theorem wide_none {h : House} {s : Nat} (e : taken h s = []) : wide h s = 0 := by
  rw [wide_taken, e]
  rfl
/-- who stands between the ends -/
def betw (h : House) (s : Nat) : List Nat := (parties h).filter fun j => decide (least (taken h s) < place h j) && decide (place h j < most (taken h s))
theorem joined_betw {h : House} {s : Nat} (ne : taken h s ≠ []) : Ks465.joined h s = (betw h s).all (has s) := by
  rw [Bool.eq_iff_iff]
  unfold Ks465.joined betw
  simp only [List.all_eq_true, List.mem_filter, Bool.and_eq_true, decide_eq_true_eq, Bool.or_eq_true, Bool.not_eq_true', Bool.and_eq_false_iff, decide_eq_false_iff_not]
  constructor
  · intro H j hj
    obtain ⟨i, hi, ei⟩ : ∃ i, i ∈ members h s ∧ place h i = least (taken h s) := List.mem_map.mp (least_mem ne)
    obtain ⟨k, hk, ek⟩ : ∃ k, k ∈ members h s ∧ place h k = most (taken h s) := List.mem_map.mp (most_mem ne)
    rcases H i hi k hk j hj.1 with q | q
    · rw [ei, ek] at q
      exact absurd hj.2 (by omega)
    · exact q
  · intro H i hi k hk j hj
    by_cases q : place h i < place h j ∧ place h j < place h k
    · right
      have h1 : least (taken h s) ≤ place h i := least_le (List.mem_map.mpr ⟨i, hi, rfl⟩ : place h i ∈ taken h s)
      have h2 : place h k ≤ most (taken h s) := le_most (List.mem_map.mpr ⟨k, hk, rfl⟩ : place h k ∈ taken h s)
      exact H j ⟨hj, by omega, by omega⟩
    · left
      omega

/-! the same by the lists alone -/
/-- the set's seats -/
def tot (xs : List Nat) (s : Nat) : Nat := (((List.range xs.length).filter (has s)).map (fun i => xs.getD i 0)).sum
theorem tot_eq (xs ys : List Nat) (s : Nat) : seatsOf ⟨xs, ys⟩ (members ⟨xs, ys⟩ s) = tot xs s := seatsOf_sum _ _
/-- the set's places -/
def tk (ys : List Nat) (s : Nat) : List Nat := ((List.range ys.length).filter (has s)).map (fun i => ys.getD i 0)
theorem tk_eq {xs ys : List Nat} (h : ys.length = xs.length) (s : Nat) : taken ⟨xs, ys⟩ s = tk ys s := by
  unfold tk
  rw [h]
  rfl
theorem tk_len (ys : List Nat) (s : Nat) : (tk ys s).length ≤ ys.length := by
  unfold tk
  rw [List.length_map]
  exact Nat.le_trans (List.length_filter_le _ _) (by rw [List.length_range]; exact Nat.le_refl _)
/-- how wide -/
def wd (ys : List Nat) (s : Nat) : Nat := most (tk ys s) - least (tk ys s)
theorem wd_eq {xs ys : List Nat} (h : ys.length = xs.length) (s : Nat) : wide ⟨xs, ys⟩ s = wd ys s := by
  rw [wide_taken, tk_eq h]
  rfl
theorem wd_none {ys : List Nat} {s : Nat} (h : tk ys s = []) : wd ys s = 0 := by
  unfold wd
  rw [h]
  rfl
def bt (ys : List Nat) (s : Nat) : List Nat := (List.range ys.length).filter fun j => decide (least (tk ys s) < ys.getD j 0) && decide (ys.getD j 0 < most (tk ys s))
theorem bt_len (ys : List Nat) (s : Nat) : (bt ys s).length ≤ ys.length := Nat.le_trans (List.length_filter_le _ _) (by rw [List.length_range]; exact Nat.le_refl _)
/-- a row of neighbours -/
def rw_ (ys : List Nat) (s : Nat) : Bool := (tk ys s).isEmpty || (bt ys s).all (has s)
theorem rw_none {ys : List Nat} {s : Nat} (h : tk ys s = []) : rw_ ys s = true := by
  unfold rw_
  rw [h]
  rfl
theorem rw_some {ys : List Nat} {s : Nat} (h : tk ys s ≠ []) : rw_ ys s = (bt ys s).all (has s) := by
  unfold rw_
  rw [List.isEmpty_eq_false_iff.mpr h, Bool.false_or]
theorem rw_eq {xs ys : List Nat} (h : ys.length = xs.length) (s : Nat) : Ks465.joined ⟨xs, ys⟩ s = rw_ ys s := by
  by_cases e : tk ys s = []
  · rw [rw_none e, joined_none (by rw [tk_eq h]; exact e)]
  · rw [rw_some e, joined_betw (by rw [tk_eq h]; exact e)]
    unfold betw bt parties
    rw [tk_eq h, h]
    rfl
/-! what is due -/
theorem nats_zs (a : List Nat) : Ks465Neutral.nats (zs a) = a := by
  unfold Ks465Neutral.nats zs
  rw [List.map_map]
  have : (Int.toNat ∘ fun n : Nat => (n : Int)) = id := by
    funext n
    simp
  rw [this, List.map_id]
theorem due_middle (a p : List Nat) : PyKs465.middle (zs a) (zs p) = if okHouse ⟨a, p⟩ = true then ((Ks465.middle ⟨a, p⟩).length : Int) :: zs (Ks465.middle ⟨a, p⟩) else [-22] := by
  show Ks465Neutral.out (Ks465.answer (.middle (Ks465Neutral.nats (zs a)) (Ks465Neutral.nats (zs p)))) = _
  rw [nats_zs, nats_zs]
  show Ks465Neutral.out (if okHouse ⟨a, p⟩ = true then _ else _) = _
  split <;> rfl
theorem due_joined (s : Nat) (a p : List Nat) : PyKs465.joined (s : Int) (zs a) (zs p) = if okHouse ⟨a, p⟩ = true then (if 2 ^ a.length ≤ s then [-2] else [if Ks465.joined ⟨a, p⟩ s = true then 1 else 0, (wide ⟨a, p⟩ s : Int), (seatsOf ⟨a, p⟩ (members ⟨a, p⟩ s) : Int)]) else [-22] := by
  show Ks465Neutral.out (Ks465.answer (.joined ((s : Int).toNat) (Ks465Neutral.nats (zs a)) (Ks465Neutral.nats (zs p)))) = _
  rw [nats_zs, nats_zs, Int.toNat_natCast]
  show Ks465Neutral.out (if okHouse ⟨a, p⟩ = true then (if 2 ^ a.length ≤ s then _ else _) else _) = _
  split
  · split
    · rfl
    · rfl
  · rfl
/-! sets that win -/
def wn (xs : List Nat) (s : Nat) : Bool := decide (xs.sum < 2 * tot xs s)
theorem wn_eq (xs ys : List Nat) (s : Nat) : Ks465.wins ⟨xs, ys⟩ s = wn xs s := by
  unfold Ks465.wins wn
  rw [tot_eq, all_sum]
def ww (xs : List Nat) : List Nat := (List.range (2 ^ xs.length)).filter (wn xs)
theorem pow_small {n : Nat} (h : n ≤ 7) : 2 ^ n ≤ 128 := Nat.pow_le_pow_right (by omega) h (n := 2)
theorem ww_len {xs : List Nat} (h : xs.length ≤ 7) : (ww xs).length ≤ 128 := Nat.le_trans (List.length_filter_le _ _) (by rw [List.length_range]; exact pow_small h)
theorem has_le {s i : Nat} (h : has s i = true) : 2 ^ i ≤ s := Nat.ge_two_pow_of_testBit h
theorem tot_full {xs : List Nat} : tot xs (2 ^ xs.length - 1) = xs.sum := by
  unfold tot
  rw [List.filter_eq_self.mpr, range_getD]
  intro i hi
  unfold has
  rw [Nat.testBit_two_pow_sub_one]
  exact decide_eq_true (List.mem_range.mp hi)
theorem ww_some {xs ys : List Nat} (h : okHouse ⟨xs, ys⟩ = true) : 2 ^ xs.length - 1 ∈ ww xs := by
  obtain ⟨h1, _, _, h4, _⟩ := (ok_iff xs ys).mp h
  refine List.mem_filter.mpr ⟨List.mem_range.mpr ?_, ?_⟩
  · have := Nat.two_pow_pos xs.length
    omega
  · show decide (_ < _) = true
    rw [tot_full]
    apply decide_eq_true
    cases xs with
    | nil => exact absurd h1 (by decide)
    | cons a r =>
      have := (h4 a List.mem_cons_self).1
      rw [List.sum_cons]
      omega
theorem winners_eq (xs ys : List Nat) : (sets ⟨xs, ys⟩).filter (Ks465.wins ⟨xs, ys⟩) = ww xs := by
  unfold ww sets
  exact List.filter_congr fun s _ => wn_eq xs ys s
/-! tight -/
def rws (xs ys : List Nat) : List Nat := (ww xs).filter (rw_ ys)
theorem rws_len {xs : List Nat} (ys : List Nat) (h : xs.length ≤ 7) : (rws xs ys).length ≤ 128 := Nat.le_trans (List.length_filter_le _ _) (ww_len h)
theorem rows_eq {xs ys : List Nat} (h : ys.length = xs.length) : Ks465.rows_ ⟨xs, ys⟩ = rws xs ys := by
  unfold Ks465.rows_ rws ww sets
  rw [List.filter_filter]
  refine List.filter_congr fun s _ => ?_
  rw [wn_eq, rw_eq h, Bool.and_comm]
def sm (s : Nat) : List Nat := ((List.range 7).filter (has s)).map fun i => s - 2 ^ i
theorem sm_len (s : Nat) : (sm s).length ≤ 7 := by
  unfold sm
  rw [List.length_map]
  exact Nat.le_trans (List.length_filter_le _ _) (by rw [List.length_range]; exact Nat.le_refl _)
def cm (rs : List Nat) (s : Nat) : Bool := !(sm s).any fun r => decide (r ∈ rs)
def tg (xs ys : List Nat) : List Nat := (rws xs ys).filter (cm (rws xs ys))
theorem tg_len {xs : List Nat} (ys : List Nat) (h : xs.length ≤ 7) : (tg xs ys).length ≤ 128 := Nat.le_trans (List.length_filter_le _ _) (rws_len ys h)
theorem tg_eq {xs ys : List Nat} (h : ys.length = xs.length) (h7 : xs.length ≤ 7) : Ks465.tight ⟨xs, ys⟩ = tg xs ys := by
  unfold Ks465.tight tg
  rw [rows_eq h]
  refine List.filter_congr fun s hs => ?_
  have hs1 : s < 2 ^ xs.length := List.mem_range.mp (List.mem_filter.mp (List.mem_filter.mp hs).1).1
  unfold cm
  rw [Bool.eq_iff_iff]
  simp only [List.all_eq_true, Bool.not_eq_true', List.any_eq_false, decide_eq_true_eq, Bool.and_eq_false_iff]
  have key : ∀ i, s - 2 ^ i ∈ rws xs ys ↔ wn xs (s - 2 ^ i) = true ∧ rw_ ys (s - 2 ^ i) = true := fun i => by
    unfold rws ww
    rw [List.mem_filter, List.mem_filter, List.mem_range]
    constructor
    · rintro ⟨⟨_, a⟩, b⟩
      exact ⟨a, b⟩
    · rintro ⟨a, b⟩
      exact ⟨⟨Nat.lt_of_le_of_lt (Nat.sub_le _ _) hs1, a⟩, b⟩
  constructor
  · intro H r hr
    unfold sm at hr
    obtain ⟨i, hi, rfl⟩ := List.mem_map.mp hr
    obtain ⟨_, hb⟩ := List.mem_filter.mp hi
    rw [key i]
    have hi2 : i < xs.length := Nat.lt_of_not_le fun q => by
      have := has_le hb
      have := Nat.pow_le_pow_right (n := 2) (by omega) q
      omega
    have := H i (mem_members.mpr ⟨hi2, hb⟩)
    rw [wn_eq, rw_eq h] at this
    rintro ⟨a, b⟩
    rcases this with q | q
    · rw [a] at q
      cases q
    · rw [b] at q
      cases q
  · intro H i hi
    obtain ⟨hi1, hb⟩ := mem_members.mp hi
    have hi1 : i < xs.length := hi1
    have := H (s - 2 ^ i) (List.mem_map.mpr ⟨i, List.mem_filter.mpr ⟨List.mem_range.mpr (by omega), hb⟩, rfl⟩)
    rw [key i] at this
    rw [wn_eq, rw_eq h]
    cases ha : wn xs (s - 2 ^ i) with
    | false => exact .inl rfl
    | true =>
      cases hc : rw_ ys (s - 2 ^ i) with
      | false => exact .inr rfl
      | true => exact absurd ⟨ha, hc⟩ this
theorem due_tight (a p : List Nat) : PyKs465.tight (zs a) (zs p) = if okHouse ⟨a, p⟩ = true then ((Ks465.tight ⟨a, p⟩).length : Int) :: zs (Ks465.tight ⟨a, p⟩) else [-22] := by
  show Ks465Neutral.out (Ks465.answer (.tight (Ks465Neutral.nats (zs a)) (Ks465Neutral.nats (zs p)))) = _
  rw [nats_zs, nats_zs]
  show Ks465Neutral.out (if okHouse ⟨a, p⟩ = true then _ else _) = _
  split <;> rfl
/-! narrowest -/
/-- not behind: by width, by seats, by number -/
def k3 (xs ys : List Nat) (b t : Nat) : Prop := wd ys b < wd ys t ∨ (wd ys b = wd ys t ∧ (tot xs b < tot xs t ∨ (tot xs b = tot xs t ∧ b ≤ t)))
def pick (xs ys : List Nat) (b s : Nat) : Nat := if (decide (wd ys s < wd ys b) || (wd ys s == wd ys b && decide (tot xs s < tot xs b))) = true then s else b
theorem pick_two (xs ys : List Nat) {b s : Nat} (h : b < s) : (pick xs ys b s = b ∨ pick xs ys b s = s) ∧ k3 xs ys (pick xs ys b s) b ∧ k3 xs ys (pick xs ys b s) s := by
  unfold pick
  by_cases q : (decide (wd ys s < wd ys b) || (wd ys s == wd ys b && decide (tot xs s < tot xs b))) = true
  · rw [if_pos q]
    simp only [Bool.or_eq_true, Bool.and_eq_true, decide_eq_true_eq, beq_iff_eq] at q
    unfold k3
    refine ⟨.inr rfl, ?_, ?_⟩ <;> omega
  · rw [if_neg q]
    simp only [Bool.or_eq_true, Bool.and_eq_true, decide_eq_true_eq, beq_iff_eq] at q
    unfold k3
    refine ⟨.inl rfl, ?_, ?_⟩ <;> omega
theorem k3_trans {xs ys : List Nat} {a b c : Nat} (h1 : k3 xs ys a b) (h2 : k3 xs ys b c) : k3 xs ys a c := by
  unfold k3 at *
  omega
theorem k3_anti {xs ys : List Nat} {a b : Nat} (h1 : k3 xs ys a b) (h2 : k3 xs ys b a) : a = b := by
  unfold k3 at *
  omega
theorem fold_pick (xs ys : List Nat) : ∀ (l : List Nat) (a : Nat), (a :: l).Pairwise (· < ·) → l.foldl (pick xs ys) a ∈ a :: l ∧ ∀ t ∈ a :: l, k3 xs ys (l.foldl (pick xs ys) a) t
  | [], a, _ => ⟨List.mem_cons_self, fun t ht => by
    rw [List.mem_singleton.mp ht]
    show k3 xs ys a a
    unfold k3
    omega⟩
  | x :: r, a, h => by
    obtain ⟨h1, h2⟩ := List.pairwise_cons.mp h
    obtain ⟨h3, h4⟩ := List.pairwise_cons.mp h2
    obtain ⟨p1, p2, p3⟩ := pick_two xs ys (h1 x List.mem_cons_self)
    have hp : (pick xs ys a x :: r).Pairwise (· < ·) := List.pairwise_cons.mpr ⟨fun y hy => by
      rcases p1 with e | e
      · rw [e]
        exact h1 y (List.mem_cons_of_mem _ hy)
      · rw [e]
        exact h3 y hy, h4⟩
    obtain ⟨i1, i2⟩ := fold_pick xs ys r (pick xs ys a x) hp
    rw [List.foldl_cons]
    have k0 := i2 _ List.mem_cons_self
    refine ⟨?_, fun t ht => ?_⟩
    · rcases List.mem_cons.mp i1 with e | e
      · rw [e]
        rcases p1 with e | e
        · rw [e]
          exact List.mem_cons_self
        · rw [e]
          exact List.mem_cons_of_mem _ List.mem_cons_self
      · exact List.mem_cons_of_mem _ (List.mem_cons_of_mem _ e)
    · rcases List.mem_cons.mp ht with rfl | ht
      · exact k3_trans k0 p2
      · rcases List.mem_cons.mp ht with rfl | ht
        · exact k3_trans k0 p3
        · exact i2 t (List.mem_cons_of_mem _ ht)
theorem ww_rises (xs : List Nat) : (ww xs).Pairwise (· < ·) := List.Pairwise.filter _ List.pairwise_lt_range
theorem narrowest_is {xs ys : List Nat} (h : ys.length = xs.length) {s : Nat} (hs : s ∈ ww xs) (hl : ∀ t ∈ ww xs, k3 xs ys s t) : Ks465.narrowest ⟨xs, ys⟩ = some s := by
  unfold Ks465.narrowest
  rw [winners_eq]
  have hr := ww_rises xs
  cases e : ww xs with
  | nil =>
    rw [e] at hs
    cases hs
  | cons a l =>
    rw [e] at hs hl hr
    obtain ⟨i1, i2⟩ := fold_pick xs ys l a hr
    have ef : (fun b s => if better ⟨xs, ys⟩ s b = true then s else b) = pick xs ys := by
      funext b s
      unfold better pick
      rw [wd_eq h, wd_eq h, tot_eq, tot_eq]
    show some (l.foldl (fun b s => if better ⟨xs, ys⟩ s b = true then s else b) a) = some s
    rw [ef]
    exact congrArg some (k3_anti (i2 s hs) (hl _ i1))
theorem due_narrowest {a p : List Nat} {s : Nat} (hk : okHouse ⟨a, p⟩ = true) (h : Ks465.narrowest ⟨a, p⟩ = some s) : PyKs465.narrowest (zs a) (zs p) = [(wide ⟨a, p⟩ s : Int), (s : Int), (seatsOf ⟨a, p⟩ (members ⟨a, p⟩ s) : Int)] := by
  show Ks465Neutral.out (Ks465.answer (.narrowest (Ks465Neutral.nats (zs a)) (Ks465Neutral.nats (zs p)))) = _
  rw [nats_zs, nats_zs]
  show Ks465Neutral.out (if okHouse ⟨a, p⟩ = true then (match Ks465.narrowest ⟨a, p⟩ with | none => Ks465.no (-33) | some s => { ret := wide ⟨a, p⟩ s, out := [s, seatsOf ⟨a, p⟩ (members ⟨a, p⟩ s)] }) else _) = _
  rw [if_pos hk, h]
  rfl
theorem due_narrowest_no {a p : List Nat} (hk : okHouse ⟨a, p⟩ = false) : PyKs465.narrowest (zs a) (zs p) = [-22] := by
  show Ks465Neutral.out (Ks465.answer (.narrowest (Ks465Neutral.nats (zs a)) (Ks465Neutral.nats (zs p)))) = _
  rw [nats_zs, nats_zs]
  show Ks465Neutral.out (if okHouse ⟨a, p⟩ = true then _ else _) = _
  rw [hk, if_neg Bool.false_ne_true]
  rfl
/-! centre -/
/-- how far two places are from one another -/
def ad (x y : Nat) : Nat := max x y - min x y
theorem ad_abs (x y : Nat) : ((ad x y : Nat) : Int) = ((((x : Int) - (y : Int)).natAbs : Nat) : Int) := by
  unfold ad
  omega
theorem ad_comm (x y : Nat) : ad x y = ad y x := by
  unfold ad
  omega
def aw (xs ys : List Nat) (x : Nat) : Nat := ((List.range xs.length).map fun i => xs.getD i 0 * ad x (ys.getD i 0)).sum
theorem away_eq (xs ys : List Nat) (x : Nat) : away ⟨xs, ys⟩ x = aw xs ys x := by
  unfold away aw
  rw [fold_sum, Nat.zero_add]
  rfl
theorem fold_first (g : Nat → Nat) : ∀ n, (List.range (n + 1)).foldl (fun b x => if g x < g b then x else b) 0 ≤ n ∧ (∀ x, x ≤ n → g ((List.range (n + 1)).foldl (fun b x => if g x < g b then x else b) 0) ≤ g x) ∧
    ∀ x, x < (List.range (n + 1)).foldl (fun b x => if g x < g b then x else b) 0 → g ((List.range (n + 1)).foldl (fun b x => if g x < g b then x else b) 0) < g x
  | 0 => by
    have e : (List.range (0 + 1)).foldl (fun b x => if g x < g b then x else b) 0 = 0 := by
      show (if g 0 < g 0 then 0 else 0) = 0
      split <;> rfl
    rw [e]
    refine ⟨Nat.le_refl _, fun x hx => ?_, fun x hx => absurd hx (by omega)⟩
    rw [Nat.le_zero.mp hx]
    exact Nat.le_refl _
  | n + 1 => by
    obtain ⟨h1, h2, h3⟩ := fold_first g n
    rw [List.range_succ, List.foldl_append, List.foldl_cons, List.foldl_nil]
    generalize (List.range (n + 1)).foldl (fun b x => if g x < g b then x else b) 0 = b at *
    by_cases q : g (n + 1) < g b
    · rw [if_pos q]
      refine ⟨Nat.le_refl _, fun x hx => ?_, fun x hx => ?_⟩
      · by_cases e : x = n + 1
        · rw [e]
          exact Nat.le_refl _
        · have := h2 x (by omega)
          omega
      · have := h2 x (by omega)
        omega
    · rw [if_neg q]
      refine ⟨by omega, fun x hx => ?_, h3⟩
      by_cases e : x = n + 1
      · rw [e]
        omega
      · exact h2 x (by omega)
theorem centre_is {xs ys : List Nat} {c : Nat} (hc : c ≤ 100) (h1 : ∀ x, x ≤ 100 → aw xs ys c ≤ aw xs ys x) (h2 : ∀ x, x < c → aw xs ys c < aw xs ys x) : Ks465.centre ⟨xs, ys⟩ = c := by
  have ef : (fun b x => if away ⟨xs, ys⟩ x < away ⟨xs, ys⟩ b then x else b) = fun b x => if aw xs ys x < aw xs ys b then x else b := by
    funext b x
    rw [away_eq, away_eq]
  obtain ⟨i1, i2, i3⟩ := fold_first (aw xs ys) 100
  show (List.range (100 + 1)).foldl (fun b x => if away ⟨xs, ys⟩ x < away ⟨xs, ys⟩ b then x else b) 0 = c
  rw [ef]
  generalize (List.range (100 + 1)).foldl (fun b x => if aw xs ys x < aw xs ys b then x else b) 0 = b at *
  rcases Nat.lt_trichotomy b c with q | q | q
  · have := h2 b q
    have := i2 c hc
    omega
  · exact q
  · have := i3 c q
    have := h1 b i1
    omega
theorem centre_facts (xs ys : List Nat) : Ks465.centre ⟨xs, ys⟩ ≤ 100 ∧ (∀ x, x ≤ 100 → aw xs ys (Ks465.centre ⟨xs, ys⟩) ≤ aw xs ys x) ∧ ∀ x, x < Ks465.centre ⟨xs, ys⟩ → aw xs ys (Ks465.centre ⟨xs, ys⟩) < aw xs ys x := by
  obtain ⟨i1, i2, i3⟩ := fold_first (aw xs ys) 100
  have e := centre_is i1 i2 i3
  rw [e]
  exact ⟨i1, i2, i3⟩
theorem due_centre (a p : List Nat) : PyKs465.centre (zs a) (zs p) = if okHouse ⟨a, p⟩ = true then [((Ks465.centre ⟨a, p⟩ : Nat) : Int), ((aw a p (Ks465.centre ⟨a, p⟩) : Nat) : Int)] else [-22] := by
  show Ks465Neutral.out (Ks465.answer (.centre (Ks465Neutral.nats (zs a)) (Ks465Neutral.nats (zs p)))) = _
  rw [nats_zs, nats_zs, ← away_eq]
  show Ks465Neutral.out (if okHouse ⟨a, p⟩ = true then _ else _) = _
  split <;> rfl
/-! motion -/
def nr (xs ys : List Nat) (x y : Nat) : Nat := (((List.range xs.length).filter fun i => decide (ad x (ys.getD i 0) < ad y (ys.getD i 0))).map fun i => xs.getD i 0).sum
theorem nearer_eq (xs ys : List Nat) (x y : Nat) : nearer ⟨xs, ys⟩ x y = nr xs ys x y := by
  unfold nearer nr
  rw [seatsOf_sum]
  rfl
theorem due_motion (x y : Nat) (a p : List Nat) : PyKs465.motion (x : Int) (y : Int) (zs a) (zs p) = if okHouse ⟨a, p⟩ = true then (if 100 < x ∨ 100 < y then [-22] else [((nr a p x y : Nat) : Int), ((nr a p y x : Nat) : Int)]) else [-22] := by
  show Ks465Neutral.out (Ks465.answer (.motion ((x : Int).toNat) ((y : Int).toNat) (Ks465Neutral.nats (zs a)) (Ks465Neutral.nats (zs p)))) = _
  rw [nats_zs, nats_zs, Int.toNat_natCast, Int.toNat_natCast, ← nearer_eq, ← nearer_eq]
  show Ks465Neutral.out (if okHouse ⟨a, p⟩ = true then (if LINE < x ∨ LINE < y then _ else _) else _) = _
  split
  · split
    · next q => rw [if_pos (show 100 < x ∨ 100 < y from q)]; rfl
    · next q => rw [if_neg (show ¬ (100 < x ∨ 100 < y) from q)]; rfl
  · rfl
/-! moved -/
theorem due_moved (i x : Nat) (a p : List Nat) : PyKs465.moved (i : Int) (x : Int) (zs a) (zs p) = if okHouse ⟨a, p⟩ = true then (if a.length ≤ i then [-2] else if 100 < x then [-22] else ((Ks465.middle ⟨a, p.set i x⟩).length : Int) :: zs (Ks465.middle ⟨a, p.set i x⟩)) else [-22] := by
  show Ks465Neutral.out (Ks465.answer (.moved ((i : Int).toNat) ((x : Int).toNat) (Ks465Neutral.nats (zs a)) (Ks465Neutral.nats (zs p)))) = _
  rw [nats_zs, nats_zs, Int.toNat_natCast, Int.toNat_natCast]
  show Ks465Neutral.out (if okHouse ⟨a, p⟩ = true then (if a.length ≤ i then _ else if LINE < x then _ else _) else _) = _
  split
  · split
    · rfl
    · split
      · next q => rw [if_pos (show 100 < x from q)]; rfl
      · next q => rw [if_neg (show ¬ 100 < x from q)]; rfl
  · rfl
/-- moved within the line, all is as told still -/
theorem ok_moved {a p : List Nat} {i x : Nat} (h : okHouse ⟨a, p⟩ = true) (hx : x ≤ 100) : okHouse ⟨a, p.set i x⟩ = true := by
  obtain ⟨h1, h2, h3, h4, h5⟩ := (ok_iff a p).mp h
  refine (ok_iff a (p.set i x)).mpr ⟨h1, h2, by rw [List.length_set]; exact h3, h4, fun y hy => ?_⟩
  rcases List.mem_or_eq_of_mem_set hy with q | q
  · exact h5 y q
  · rw [q]
    exact hx
end Ms
namespace Ms
open PySem PySem.Spec PyProof.Rows L2
/-! ### heaps, lists of numbers from nought -/
theorem same_upd {H : Hp} {p : Addr} {o : HO} (h : H p = none) : Same H (upd H p o) := fun b x e => by
  rw [upd_ne (ne_of_none e h)]
  exact e
/-- a list of numbers from nought, as values -/
abbrev vz (l : List Nat) : List V := (zs l).map V.int
theorem vz_len (l : List Nat) : (vz l).length = l.length := by
  show ((zs l).map V.int).length = _
  rw [List.length_map, zs_len]
theorem vz_map {α : Type} (g : α → Nat) (l : List α) : l.map (fun k => V.int ((g k : Nat) : Int)) = vz (l.map g) := by
  simp [vz, zs, Function.comp_def]
theorem at_vz {l : List Nat} {i : Nat} (h : i < l.length) : atI (vz l) (i : Int) = some (.int ((l.getD i 0 : Nat) : Int)) := atI_nat (by
  show ((zs l).map V.int)[i]? = _
  rw [List.getElem?_map, zs_get h]
  rfl)
theorem fits {n : Nat} (h : n ≤ 1000) : n ≤ sizeLine := Nat.le_of_lt (small1000 h)
theorem wipe_set (σ : L2.St) (iv : Nat) (v : Option V) : wipe ((wipe σ [iv]).set iv v) [iv] = wipe σ [iv] := by
  show ((σ.set iv none).set iv v).set iv none = σ.set iv none
  rw [List.set_set, List.set_set]
theorem dlt (m n : Nat) : decide ((m : Int) < (n : Int)) = decide (m < n) := decide_eq_decide.mpr (by omega)
theorem dle (m n : Nat) : decide ((m : Int) ≤ (n : Int)) = decide (m ≤ n) := decide_eq_decide.mpr (by omega)
/-- a module's number -/
theorem pe_cst {X : Cx} {x : Str} {i : Int} {t : Tok} {pos : Pos} (hg : Gl X x) (hm : X.mg x = some (.int i t)) (hd : (x == ("__debug__" : Str)) = false := by decide) : PE X (.Name x pos) (tC (.int i)) := pe_glob (v := V.int i) hg hm ⟨t, rfl⟩ hd
theorem nonneg_of {l : List Int} (h : (PySem.W.Codec.inLen 0 12 l && l.all (PySem.W.Codec.inInt 0 4294967295)) = true) : ∀ x ∈ l, 0 ≤ x := fun x hx =>
  (PySem.W.Codec.inInt_iff.mp (List.all_eq_true.mp (Bool.and_eq_true_iff.mp h).2 x hx)).1
theorem vz_back {l : List Int} (h : ∀ x ∈ l, 0 ≤ x) : vz (l.map Int.toNat) = l.map V.int := by
  show (zs (l.map Int.toNat)).map V.int = _
  rw [zs_toNat h]
/-- a def of the top, as a caller needs it -/
structure Cal (K : PySem.W.Frag) (mg : Str → Option Value) (x : Str) (st : Stmt) (ps : List Str) (f : Addr) (fd : FuncData) : Prop where
  F : Fun K x x st f fd
  b : Binds K fd ps []
  g : mg x = some (.ref f)
/-! ### rules that name the written part (within a comprehension) -/
theorem ixK (K : PySem.W.Frag) {X : Cx} (hK : X.K = K := by rfl) : IxR X (rIxL K) := by
  subst hK
  exact ix_list
theorem lenK (K : PySem.W.Frag) {X : Cx} (hK : X.K = K := by rfl) : CallR X (.builtin "len") (fun xs H Q => ∃ p ys, xs = [.ref p] ∧ (SqL K H p ys ∨ SqT K H p ys) ∧ Q (.int ys.length) H) := by
  subst hK
  exact call_len_seq
theorem sumK (K : PySem.W.Frag) {X : Cx} (hc : X.calm = true) (hK : X.K = K := by rfl) : CallR X (.builtin "sum") (rSum K) := by
  subst hK
  exact cr_sum hc
theorem maxK (K : PySem.W.Frag) {X : Cx} (hc : X.calm = true) (hK : X.K = K := by rfl) : CallR X (.builtin "max") (rMax K) := by
  subst hK
  exact cr_max hc
theorem minK (K : PySem.W.Frag) {X : Cx} (hc : X.calm = true) (hK : X.K = K := by rfl) : CallR X (.builtin "min") (rMin K) := by
  subst hK
  exact cr_min hc
theorem allK (K : PySem.W.Frag) {X : Cx} (hc : X.calm = true) (hK : X.K = K := by rfl) : CallR X (.builtin "all") (rAll K) := by
  subst hK
  exact cr_all hc
theorem anyK (K : PySem.W.Frag) {X : Cx} (hc : X.calm = true) (hK : X.K = K := by rfl) : CallR X (.builtin "any") (rAny K) := by
  subst hK
  exact cr_any hc
/-! ### comprehensions whose tests and items leave what was there as it was -/
/-- over range(n) -/
theorem lc_rng {n iv : Nat} {tt : TT} {te : TE} {σ : L2.St} {H1 : Hp} {D : Addr} {Qd : Hp → Prop} (p : Nat → Bool) (f : Nat → V) (hn : n ≤ 1000) (hD : H1 D = none)
    (ht : ∀ (k : Nat) (H' : Hp) (R : Bool → Hp → Prop), k < n → Same H1 H' → (∀ H'', Same H' H'' → R (p k) H'') → tt ((wipe σ [iv]).set iv (some (.int (k : Int)))) H' R)
    (he : ∀ (k : Nat) (H' : Hp) (R : VK), k < n → p k = true → Same H1 H' → (∀ H'', Same H' H'' → R (f k) H'') → te ((wipe σ [iv]).set iv (some (.int (k : Int)))) H' R)
    (hd : ∀ H', Same H1 H' → H' D = some (.lst (((List.range n).filter p).map f)) → Qd H') :
    ∃ W : Nat → Nat → Hp → Prop, (∃ m, W 0 m (upd H1 D (.lst []))) ∧ ∀ i m H, W i m H →
      ((Itr 0 n).stop i H ∧ Qd H) ∨ ((Itr 0 n).go i H ∧ ∃ Nx : Hp → Prop, (∀ H', Nx H' → ∃ m', m' < m ∧ W (i + 1) m' H') ∧ ∀ x H', (Itr 0 n).yld i H x H' → gName iv x (wipe σ [iv]) H' fun σ2 H2 => wipe σ2 [iv] = wipe σ [iv] ∧ tt σ2 H2 fun b H3 =>
        if b = true then te σ2 H3 fun y H4 => ∃ acc, H4 D = some (.lst acc) ∧ acc.length < sizeLine ∧ Nx (upd H4 D (.lst (acc ++ [y]))) else Nx H3) := by
  refine lc_range (lo := 0) (n := n) (g := gName iv) (vs := [iv]) (fun j H' => Same H1 H' ∧ H' D = some (.lst (((List.range j).filter p).map f))) ⟨same_upd hD, upd_same⟩ (fun i H' hi hP => ?_) (fun H' hP => hd H' hP.1 hP.2)
  obtain ⟨s1, e1⟩ := hP
  show wipe ((wipe σ [iv]).set iv (some (.int (0 + (i : Int))))) [iv] = wipe σ [iv] ∧ tt ((wipe σ [iv]).set iv (some (.int (0 + (i : Int))))) H' _
  rw [Int.zero_add]
  refine ⟨wipe_set _ _ _, ht i H' _ hi s1 fun H2 s2 => ?_⟩
  have e2 := s2 _ _ e1
  cases hp : p i with
  | false =>
    rw [if_neg Bool.false_ne_true]
    refine ⟨s1.trans s2, ?_⟩
    rw [e2, List.range_succ, List.filter_append, List.filter_cons, if_neg (by rw [hp]; exact Bool.false_ne_true), List.filter_nil, List.append_nil]
  | true =>
    rw [if_pos rfl]
    refine he i H2 _ hi hp (s1.trans s2) fun H3 s3 => ?_
    refine ⟨_, s3 _ _ e2, ?_, ?_, ?_⟩
    · rw [List.length_map]
      exact Nat.lt_of_le_of_lt (List.length_filter_le _ _) (by rw [List.length_range]; exact small1000 (by omega))
    · intro b o e
      rw [upd_ne (ne_of_none e hD)]
      exact s3 _ _ ((s1.trans s2) _ _ e)
    · rw [upd_same, List.range_succ, List.filter_append, List.filter_cons, if_pos hp, List.filter_nil, List.map_append]
      rfl
/-- over a list of numbers from nought -/
theorem lc_nats {K : PySem.W.Frag} {a : Addr} {ks : List Nat} {iv : Nat} {tt : TT} {te : TE} {σ : L2.St} {H1 : Hp} {D : Addr} {Qd : Hp → Prop} (p : Nat → Bool) (f : Nat → V) (hn : ks.length ≤ 1000) (hS : SqL K H1 a (vz ks)) (hD : H1 D = none)
    (ht : ∀ (k : Nat) (H' : Hp) (R : Bool → Hp → Prop), k ∈ ks → Same H1 H' → (∀ H'', Same H' H'' → R (p k) H'') → tt ((wipe σ [iv]).set iv (some (.int (k : Int)))) H' R)
    (he : ∀ (k : Nat) (H' : Hp) (R : VK), k ∈ ks → p k = true → Same H1 H' → (∀ H'', Same H' H'' → R (f k) H'') → te ((wipe σ [iv]).set iv (some (.int (k : Int)))) H' R)
    (hd : ∀ H', Same H1 H' → H' D = some (.lst ((ks.filter p).map f)) → Qd H') :
    ∃ W : Nat → Nat → Hp → Prop, (∃ m, W 0 m (upd H1 D (.lst []))) ∧ ∀ i m H, W i m H →
      ((Itl K a).stop i H ∧ Qd H) ∨ ((Itl K a).go i H ∧ ∃ Nx : Hp → Prop, (∀ H', Nx H' → ∃ m', m' < m ∧ W (i + 1) m' H') ∧ ∀ x H', (Itl K a).yld i H x H' → gName iv x (wipe σ [iv]) H' fun σ2 H2 => wipe σ2 [iv] = wipe σ [iv] ∧ tt σ2 H2 fun b H3 =>
        if b = true then te σ2 H3 fun y H4 => ∃ acc, H4 D = some (.lst acc) ∧ acc.length < sizeLine ∧ Nx (upd H4 D (.lst (acc ++ [y]))) else Nx H3) := by
  refine lc_list (K := K) (a := a) (xs := vz ks) (g := gName iv) (vs := [iv]) (fun j H' => Same H1 H' ∧ H' D = some (.lst (((ks.take j).filter p).map f))) ⟨same_upd hD, upd_same⟩ (fun i H' _ hP => hP.1.seq hS) (fun i x H' hx hP => ?_) (fun H' hP => hd H' hP.1 ?_)
  · obtain ⟨s1, e1⟩ := hP
    have hx' : ((zs ks).map V.int)[i]? = some x := hx
    obtain ⟨k, hk, rfl⟩ : ∃ k, ks[i]? = some k ∧ x = V.int (k : Int) := by
      rw [List.getElem?_map] at hx'
      unfold zs at hx'
      rw [List.getElem?_map] at hx'
      cases e : ks[i]? with
      | none =>
        rw [e] at hx'
        cases hx'
      | some k =>
        rw [e] at hx'
        exact ⟨k, rfl, (Option.some.inj hx').symm⟩
    have hm : k ∈ ks := List.mem_of_getElem? hk
    have tk : ks.take (i + 1) = ks.take i ++ [k] := by rw [List.take_add_one, hk]; rfl
    show wipe ((wipe σ [iv]).set iv (some (.int (k : Int)))) [iv] = wipe σ [iv] ∧ tt ((wipe σ [iv]).set iv (some (.int (k : Int)))) H' _
    refine ⟨wipe_set _ _ _, ht k H' _ hm s1 fun H2 s2 => ?_⟩
    have e2 := s2 _ _ e1
    cases hp : p k with
    | false =>
      rw [if_neg Bool.false_ne_true]
      refine ⟨s1.trans s2, ?_⟩
      rw [e2, tk, List.filter_append, List.filter_cons, if_neg (by rw [hp]; exact Bool.false_ne_true), List.filter_nil, List.append_nil]
    | true =>
      rw [if_pos rfl]
      refine he k H2 _ hm hp (s1.trans s2) fun H3 s3 => ?_
      refine ⟨_, s3 _ _ e2, ?_, ?_, ?_⟩
      · rw [List.length_map]
        exact Nat.lt_of_le_of_lt (List.length_filter_le _ _) (by rw [List.length_take]; exact small1000 (by omega))
      · intro b o e
        rw [upd_ne (ne_of_none e hD)]
        exact s3 _ _ ((s1.trans s2) _ _ e)
      · rw [upd_same, tk, List.filter_append, List.filter_cons, if_pos hp, List.filter_nil, List.map_append]
        rfl
  · have e := hP.2
    rw [vz_len, List.take_length] at e
    exact e
end Ms
namespace Ms
open PySem PySem.Spec PyProof.Rows L2
/-! ### min of a list of tuples of whole numbers -/
theorem lex_irr : ∀ a : List Int, HT.lexLt a a = false
  | [] => rfl
  | x :: r => by rw [HT.lexLt_cons, if_pos rfl, lex_irr r]
theorem lex_tr : ∀ a b c : List Int, HT.lexLt a b = true → HT.lexLt b c = true → HT.lexLt a c = true
  | [], [], c, h, _ => by cases h
  | [], _ :: _, [], _, h => by cases h
  | [], _ :: _, _ :: _, _, _ => rfl
  | _ :: _, [], _, h, _ => by cases h
  | _ :: _, _ :: _, [], _, h => by cases h
  | x :: r, y :: t, z :: u, h1, h2 => by
    rw [HT.lexLt_cons] at *
    by_cases e1 : x = y
    · subst e1
      rw [if_pos rfl] at h1
      by_cases e2 : x = z
      · subst e2
        rw [if_pos rfl] at h2 ⊢
        exact lex_tr r t u h1 h2
      · rw [if_neg e2] at h2 ⊢
        exact h2
    · rw [if_neg e1] at h1
      have h1 := of_decide_eq_true h1
      by_cases e2 : y = z
      · subst e2
        rw [if_neg e1]
        exact decide_eq_true h1
      · rw [if_neg e2] at h2
        have h2 := of_decide_eq_true h2
        rw [if_neg (by omega)]
        exact decide_eq_true (by omega)
theorem best_least (g : Nat → List Int) : ∀ k, argBest (fun i j => HT.lexLt (g i) (g j)) k ≤ k ∧ ∀ j, j ≤ k → HT.lexLt (g j) (g (argBest (fun i j => HT.lexLt (g i) (g j)) k)) = false
  | 0 => ⟨Nat.le_refl _, fun j hj => by
    have : j = 0 := by omega
    subst this
    exact lex_irr _⟩
  | k + 1 => by
    obtain ⟨h1, h2⟩ := best_least g k
    show (if HT.lexLt (g (k + 1)) (g (argBest (fun i j => HT.lexLt (g i) (g j)) k)) = true then k + 1 else argBest (fun i j => HT.lexLt (g i) (g j)) k) ≤ k + 1 ∧ ∀ j, j ≤ k + 1 → HT.lexLt (g j) (g (if HT.lexLt (g (k + 1)) (g (argBest (fun i j => HT.lexLt (g i) (g j)) k)) = true then k + 1 else argBest (fun i j => HT.lexLt (g i) (g j)) k)) = false
    cases hb : HT.lexLt (g (k + 1)) (g (argBest (fun i j => HT.lexLt (g i) (g j)) k)) with
    | true =>
      rw [if_pos rfl]
      refine ⟨Nat.le_refl _, fun j hj => ?_⟩
      by_cases e : j = k + 1
      · subst e
        exact lex_irr _
      · have := h2 j (by omega)
        cases hc : HT.lexLt (g j) (g (k + 1)) with
        | false => rfl
        | true =>
          rw [lex_tr _ _ _ hc hb] at this
          cases this
    | false =>
      rw [if_neg Bool.false_ne_true]
      refine ⟨by omega, fun j hj => ?_⟩
      by_cases e : j = k + 1
      · subst e
        exact hb
      · exact h2 j (by omega)
def rMinT (K : PySem.W.Frag) : List V → Hp → VK → Prop := fun vs H Q => ∃ (a : Addr) (ps : List (Addr × List Int)), vs = [V.ref a] ∧ SqL K H a (ps.map fun p => V.ref p.1) ∧ (∀ p ∈ ps, SqT K H p.1 (p.2.map V.int)) ∧ ps ≠ [] ∧
  ∀ p ∈ ps, (∀ q ∈ ps, HT.lexLt q.2 p.2 = false) → Q (.ref p.1) H
theorem vals_refs : ∀ {ps : List (Addr × List Int)} {us : List Value}, Vals (ps.map fun p => V.ref p.1) us → us = ps.map fun p => Value.ref p.1
  | [], us, h => by
    rw [List.map_nil] at h
    cases h
    rfl
  | p :: ps, us, h => by
    rw [List.map_cons] at h
    cases h with
    | cons r t =>
      cases r
      rw [vals_refs t, List.map_cons]
theorem cr_minT {X : Cx} (hc : X.calm = true) (hu : X.A.units + 64 < cLine) : CallR X (.builtin "min") (rMinT X.K) := by
  intro pins s σ H vs us Q I r h
  obtain ⟨a, ps, rfl, hs, ht, hne, q⟩ := h
  obtain ⟨its, rv, hl, _⟩ := I.list hs
  rw [Vals.ref1 r]
  have ei := vals_refs rv
  subst ei
  have hlen : 0 < ps.length := List.length_pos_iff.mpr hne
  have d : Addr × List Int := ps[0]
  have at_ : ∀ (i : Nat) (v : Value), (ps.map fun p => Value.ref p.1).toArray[i]? = some v → ∃ p, ps[i]? = some p ∧ v = Value.ref p.1 := fun i (v : Value) e => by
    rw [List.getElem?_toArray, List.getElem?_map] at e
    cases hp : ps[i]? with
    | none =>
      rw [hp] at e
      cases e
    | some p =>
      rw [hp] at e
      exact ⟨p, rfl, (Option.some.inj e).symm⟩
  have gd : ∀ {i : Nat} {p : Addr × List Int}, ps[i]? = some p → ps.getD i d = p := fun {i p} e => by
    rw [List.getD_eq_getElem?_getD, e]
    rfl
  have hsz : (ps.map fun p => Value.ref p.1).toArray.size = ps.length := by rw [List.size_toArray, List.length_map]
  refine call_min_walkH (PySem.W.iter_listW (A := X.A.in1) (I.ok.hd hc) hl.isList fun s₂ e W st hfp hw hk => ?_)
  refine ⟨_, _, _, _, _, _, _, s.heap, fun i j => HT.lexLt (ps.getD i d).2 (ps.getD j d).2, rfl, W, st, hfp, by rw [hsz]; exact hlen, hw, hk, fun i j vi vj s' Q' E' hk' hi hj hq => ?_, fun v s' hP m => ?_⟩
  · obtain ⟨p, hp, rfl⟩ := at_ i vi hi
    obtain ⟨p', hp', rfl⟩ := at_ j vj hj
    obtain ⟨i1, r1, t1, _⟩ := I.tuple (ht p (List.mem_of_getElem? hp))
    obtain ⟨i2, r2, t2, _⟩ := I.tuple (ht p' (List.mem_of_getElem? hp'))
    have n1 : IntsAre i1.toArray.toList p.2 := intsAre_of r1
    have n2 : IntsAre i2.toArray.toList p'.2 := intsAre_of r2
    have k1 : IsTup s'.heap p.1 i1.toArray := by
      obtain ⟨o, e, z⟩ := t1
      exact ⟨o, hk' _ _ e, z⟩
    have k2 : IsTup s'.heap p'.1 i2.toArray := by
      obtain ⟨o, e, z⟩ := t2
      exact ⟨o, hk' _ _ e, z⟩
    have hq : Q' (.bool (HT.lexLt (ps.getD i d).2 (ps.getD j d).2)) s' := hq
    rw [gd hp, gd hp'] at hq
    exact HT.lt_tupInts (A := X.A.in1) k1 k2 n1 n2 (by show X.A.units + 1 < cLine; omega) hq
  · obtain ⟨h', tk, rfl, hk'⟩ := PySem.W.moved_old e rfl m
    obtain ⟨p, hp, rfl⟩ := at_ _ v hP
    obtain ⟨b1, b2⟩ := best_least (fun i => (ps.getD i d).2) ((ps.map fun p => Value.ref p.1).toArray.size - 1)
    refine ⟨.ref p.1, H, I.kept hk', rfl, q p (List.mem_of_getElem? hp) fun q' hq' => ?_⟩
    obtain ⟨j, hj, ej⟩ := List.getElem_of_mem hq'
    have z := b2 j (by rw [hsz]; omega)
    have ep : ps.getD (argBest (fun i j => HT.lexLt (ps.getD i d).2 (ps.getD j d).2) ((ps.map fun p => Value.ref p.1).toArray.size - 1)) d = p := gd hp
    have eq : ps.getD j d = q' := gd (by rw [List.getElem?_eq_getElem hj, ej])
    have z : HT.lexLt (ps.getD j d).2 (ps.getD (argBest (fun i j => HT.lexLt (ps.getD i d).2 (ps.getD j d).2) ((ps.map fun p => Value.ref p.1).toArray.size - 1)) d).2 = false := z
    rw [ep, eq] at z
    exact z
theorem inK (K : PySem.W.Frag) {X : Cx} (hK : X.K = K := by rfl) : OpR X (compareOp .In) (rIn K false) := by
  subst hK
  exact op_in_seq
theorem minTK (K : PySem.W.Frag) {X : Cx} (hc : X.calm = true) (hu : X.A.units + 64 < cLine) (hK : X.K = K := by rfl) : CallR X (.builtin "min") (rMinT K) := by
  subst hK
  exact cr_minT hc hu
theorem flat_vz : ∀ l : List Nat, (vz l).all flatV = true
  | [] => rfl
  | _ :: r => flat_vz r
theorem in_vz (k : Nat) : ∀ l : List Nat, inV (.int (k : Int)) (vz l) = decide (k ∈ l)
  | [] => rfl
  | a :: r => by
    have h := in_vz k r
    unfold inV at h ⊢
    show (((a : Int) == (k : Int)) || (vz r).any fun y => eqV y (.int (k : Int))) = _
    rw [h, Bool.eq_iff_iff]
    simp only [Bool.or_eq_true, beq_iff_eq, decide_eq_true_eq, List.mem_cons]
    constructor
    · rintro (h | h)
      · exact .inl (by omega)
      · exact .inr h
    · rintro (h | h)
      · exact .inl (by omega)
      · exact .inr h
/-- a comprehension over a list of numbers from nought, its items new tuples of whole numbers -/
theorem lc_tups {K : PySem.W.Frag} {a : Addr} {ks : List Nat} {iv : Nat} {tt : TT} {te : TE} {σ : L2.St} {H1 : Hp} {D : Addr} {Qd : Hp → Prop} (g : Nat → List Int) (hn : ks.length ≤ 1000) (hS : SqL K H1 a (vz ks)) (hD : H1 D = none)
    (ht : ∀ (k : Nat) (H' : Hp) (R : Bool → Hp → Prop), k ∈ ks → Same H1 H' → (∀ H'', Same H' H'' → R true H'') → tt ((wipe σ [iv]).set iv (some (.int (k : Int)))) H' R)
    (he : ∀ (k : Nat) (H' : Hp) (R : VK), k ∈ ks → Same H1 H' → (∀ H'' p, Same H' H'' → H'' p = some (.tup ((g k).map V.int)) → R (.ref p) H'') → te ((wipe σ [iv]).set iv (some (.int (k : Int)))) H' R)
    (hd : ∀ H' (ps : List (Addr × List Int)), Same H1 H' → H' D = some (.lst (ps.map fun p => V.ref p.1)) → ps.map (fun p => p.2) = ks.map g → (∀ p ∈ ps, H' p.1 = some (.tup (p.2.map V.int))) → Qd H') :
    ∃ W : Nat → Nat → Hp → Prop, (∃ m, W 0 m (upd H1 D (.lst []))) ∧ ∀ i m H, W i m H →
      ((Itl K a).stop i H ∧ Qd H) ∨ ((Itl K a).go i H ∧ ∃ Nx : Hp → Prop, (∀ H', Nx H' → ∃ m', m' < m ∧ W (i + 1) m' H') ∧ ∀ x H', (Itl K a).yld i H x H' → gName iv x (wipe σ [iv]) H' fun σ2 H2 => wipe σ2 [iv] = wipe σ [iv] ∧ tt σ2 H2 fun b H3 =>
        if b = true then te σ2 H3 fun y H4 => ∃ acc, H4 D = some (.lst acc) ∧ acc.length < sizeLine ∧ Nx (upd H4 D (.lst (acc ++ [y]))) else Nx H3) := by
  refine lc_list (K := K) (a := a) (xs := vz ks) (g := gName iv) (vs := [iv]) (fun j H' => Same H1 H' ∧ ∃ ps : List (Addr × List Int), H' D = some (.lst (ps.map fun p => V.ref p.1)) ∧ ps.map (fun p => p.2) = (ks.take j).map g ∧ ∀ p ∈ ps, H' p.1 = some (.tup (p.2.map V.int)))
    ⟨same_upd hD, [], upd_same, rfl, fun _ h => nomatch h⟩ (fun i H' _ hP => hP.1.seq hS) (fun i x H' hx hP => ?_) (fun H' hP => ?_)
  · obtain ⟨s1, ps, e1, m1, t1⟩ := hP
    have hx' : ((zs ks).map V.int)[i]? = some x := hx
    obtain ⟨k, hk, rfl⟩ : ∃ k, ks[i]? = some k ∧ x = V.int (k : Int) := by
      rw [List.getElem?_map] at hx'
      unfold zs at hx'
      rw [List.getElem?_map] at hx'
      cases e : ks[i]? with
      | none =>
        rw [e] at hx'
        cases hx'
      | some k =>
        rw [e] at hx'
        exact ⟨k, rfl, (Option.some.inj hx').symm⟩
    have hm : k ∈ ks := List.mem_of_getElem? hk
    have tk : ks.take (i + 1) = ks.take i ++ [k] := by rw [List.take_add_one, hk]; rfl
    show wipe ((wipe σ [iv]).set iv (some (.int (k : Int)))) [iv] = wipe σ [iv] ∧ tt ((wipe σ [iv]).set iv (some (.int (k : Int)))) H' _
    refine ⟨wipe_set _ _ _, ht k H' _ hm s1 fun H2 s2 => ?_⟩
    have e2 := s2 _ _ e1
    rw [if_pos rfl]
    refine he k H2 _ hm (s1.trans s2) fun H3 p s3 hp => ?_
    have e3 := s3 _ _ e2
    have ln : ps.length = (ks.take i).length := by
      have := congrArg List.length m1
      rw [List.length_map, List.length_map] at this
      exact this
    have nD : ∀ q : Addr × List Int, H3 q.1 = some (.tup (q.2.map V.int)) → q.1 ≠ D := fun q hq z => by
      rw [z, e3] at hq
      cases hq
    refine ⟨_, e3, ?_, ?_, ps ++ [(p, g k)], ?_, ?_, ?_⟩
    · rw [List.length_map, ln, List.length_take]
      exact small1000 (by omega)
    · intro b o e
      rw [upd_ne (ne_of_none e hD)]
      exact s3 _ _ ((s1.trans s2) _ _ e)
    · rw [upd_same, List.map_append]
      rfl
    · rw [List.map_append, m1, tk, List.map_append]
      rfl
    · intro q hq
      rcases List.mem_append.mp hq with hq | hq
      · have h3 := s3 _ _ (s2 _ _ (t1 q hq))
        rw [upd_ne (nD q h3)]
        exact h3
      · rw [List.mem_singleton.mp hq]
        rw [upd_ne (nD (p, g k) hp)]
        exact hp
  · obtain ⟨s1, ps, e1, m1, t1⟩ := hP
    rw [vz_len, List.take_length] at m1
    exact hd H' ps s1 e1 m1 t1
/-- a comprehension over range(n), its items new tuples of whole numbers -/
theorem lc_tupr {n iv : Nat} {tt : TT} {te : TE} {σ : L2.St} {H1 : Hp} {D : Addr} {Qd : Hp → Prop} (g : Nat → List Int) (hn : n ≤ 1000) (hD : H1 D = none)
    (ht : ∀ (k : Nat) (H' : Hp) (R : Bool → Hp → Prop), k < n → Same H1 H' → (∀ H'', Same H' H'' → R true H'') → tt ((wipe σ [iv]).set iv (some (.int (k : Int)))) H' R)
    (he : ∀ (k : Nat) (H' : Hp) (R : VK), k < n → Same H1 H' → (∀ H'' p, Same H' H'' → H'' p = some (.tup ((g k).map V.int)) → R (.ref p) H'') → te ((wipe σ [iv]).set iv (some (.int (k : Int)))) H' R)
    (hd : ∀ H' (ps : List (Addr × List Int)), Same H1 H' → H' D = some (.lst (ps.map fun p => V.ref p.1)) → ps.map (fun p => p.2) = (List.range n).map g → (∀ p ∈ ps, H' p.1 = some (.tup (p.2.map V.int))) → Qd H') :
    ∃ W : Nat → Nat → Hp → Prop, (∃ m, W 0 m (upd H1 D (.lst []))) ∧ ∀ i m H, W i m H →
      ((Itr 0 n).stop i H ∧ Qd H) ∨ ((Itr 0 n).go i H ∧ ∃ Nx : Hp → Prop, (∀ H', Nx H' → ∃ m', m' < m ∧ W (i + 1) m' H') ∧ ∀ x H', (Itr 0 n).yld i H x H' → gName iv x (wipe σ [iv]) H' fun σ2 H2 => wipe σ2 [iv] = wipe σ [iv] ∧ tt σ2 H2 fun b H3 =>
        if b = true then te σ2 H3 fun y H4 => ∃ acc, H4 D = some (.lst acc) ∧ acc.length < sizeLine ∧ Nx (upd H4 D (.lst (acc ++ [y]))) else Nx H3) := by
  refine lc_range (lo := 0) (n := n) (g := gName iv) (vs := [iv]) (fun j H' => Same H1 H' ∧ ∃ ps : List (Addr × List Int), H' D = some (.lst (ps.map fun p => V.ref p.1)) ∧ ps.map (fun p => p.2) = (List.range j).map g ∧ ∀ p ∈ ps, H' p.1 = some (.tup (p.2.map V.int)))
    ⟨same_upd hD, [], upd_same, rfl, fun _ h => nomatch h⟩ (fun i H' hi hP => ?_) (fun H' hP => ?_)
  · obtain ⟨s1, ps, e1, m1, t1⟩ := hP
    show wipe ((wipe σ [iv]).set iv (some (.int (0 + (i : Int))))) [iv] = wipe σ [iv] ∧ tt ((wipe σ [iv]).set iv (some (.int (0 + (i : Int))))) H' _
    rw [Int.zero_add]
    refine ⟨wipe_set _ _ _, ht i H' _ hi s1 fun H2 s2 => ?_⟩
    have e2 := s2 _ _ e1
    rw [if_pos rfl]
    refine he i H2 _ hi (s1.trans s2) fun H3 p s3 hp => ?_
    have e3 := s3 _ _ e2
    have ln : ps.length = i := by
      have := congrArg List.length m1
      rw [List.length_map, List.length_map, List.length_range] at this
      exact this
    have nD : ∀ q : Addr × List Int, H3 q.1 = some (.tup (q.2.map V.int)) → q.1 ≠ D := fun q hq z => by
      rw [z, e3] at hq
      cases hq
    refine ⟨_, e3, ?_, ?_, ps ++ [(p, g i)], ?_, ?_, ?_⟩
    · rw [List.length_map, ln]
      exact small1000 (by omega)
    · intro b o e
      rw [upd_ne (ne_of_none e hD)]
      exact s3 _ _ ((s1.trans s2) _ _ e)
    · rw [upd_same, List.map_append]
      rfl
    · rw [List.map_append, m1, List.range_succ, List.map_append]
      rfl
    · intro q hq
      rcases List.mem_append.mp hq with hq | hq
      · have h3 := s3 _ _ (s2 _ _ (t1 q hq))
        rw [upd_ne (nD q h3)]
        exact h3
      · rw [List.mem_singleton.mp hq]
        rw [upd_ne (nD (p, g i) hp)]
        exact hp
  · obtain ⟨s1, ps, e1, m1, t1⟩ := hP
    exact hd H' ps s1 e1 m1 t1
theorem ixN_lt {n j : Nat} (hj : j < n) : ixN n (j : Int) = some j := by
  unfold ixN
  rw [if_pos (by omega), if_pos (by omega)]
  simp
end Ms
namespace Ms
open PySem PySem.Spec PyProof.Rows L2
def topS (i : Nat) : Stmt := PySem.Challenge.pw_middleseats_s05_centre.main.body.getD i (.Pass ⟨0, 0, 0, 0⟩)
abbrev s_are_as_told : Stmt := topS 5
abbrev n_are_as_told : List Str := ["seats", "places"]
theorem sc_are_as_told : FnScope n_are_as_told ["seats", "places"] (defScope s_are_as_told) := ⟨rfl, rfl, rfl, by decide +kernel, rfl, by decide +kernel, by decide +kernel⟩
abbrev s_away_together : Stmt := topS 6
abbrev n_away_together : List Str := ["place", "seats", "places", "i"]
theorem sc_away_together : FnScope n_away_together ["place", "seats", "places"] (defScope s_away_together) := ⟨rfl, rfl, rfl, by decide +kernel, rfl, by decide +kernel, by decide +kernel⟩
abbrev s_centre : Stmt := topS 7
abbrev n_centre : List Str := ["seats", "places", "best", "place"]
theorem sc_centre : FnScope n_centre ["seats", "places"] (defScope s_centre) := ⟨rfl, rfl, rfl, by decide +kernel, rfl, by decide +kernel, by decide +kernel⟩
/-- what the top's names hold -/
structure Tops (K : PySem.W.Frag) (mg : Str → Option Value) : Prop where
  len : mg "len" = none
  min : mg "min" = none
  max : mg "max" = none
  sum : mg "sum" = none
  range : mg "range" = none
  all : mg "all" = none
  any : mg "any" = none
  abs : mg "abs" = none
  list : mg "list" = none
  MOST_PARTIES : ∃ t, mg "MOST_PARTIES" = some (.int (7) t)
  MOST_SEATS : ∃ t, mg "MOST_SEATS" = some (.int (200) t)
  LAST_PLACE : ∃ t, mg "LAST_PLACE" = some (.int (100) t)
  NOT_AS_TOLD : ∃ t, mg "NOT_AS_TOLD" = some (.int (-22) t)
  are_as_told : ∃ f fd, Cal K mg "are_as_told" s_are_as_told ["seats", "places"] f fd
  away_together : ∃ f fd, Cal K mg "away_together" s_away_together ["place", "seats", "places"] f fd
  centre : ∃ f fd, Cal K mg "centre" s_centre ["seats", "places"] f fd
section
variable {P : Program} {w : World} {K : PySem.W.Frag} {mg : Str → Option Value} {base : Heap}
def spTold (K : PySem.W.Frag) : Sp := fun vs H Q _ => ∃ (a b : Addr) (xs ys : List Nat), vs = [.ref a, .ref b] ∧ SqL K H a (vz xs) ∧ SqL K H b (vz ys) ∧ Q (.bl (Ks465.okHouse ⟨xs, ys⟩)) H
theorem ok_told {f : Addr} {fd : FuncData} {k : Nat} (D : Tops K mg) (F : Fun K "are_as_told" "are_as_told" s_are_as_told f fd) : FnOk P w K mg base CX0 (k + 1) f fd ["seats", "places"] (spTold K) := by
  refine F.ok sc_are_as_told (fun vs H Q E h => ?_) (fun cdv A outer s H vs Q E hr h => ?_)
  · obtain ⟨a, b, xs, ys, rfl, _⟩ := h
    rfl
  · obtain ⟨a, b, xs, ys, rfl, hA, hB, q⟩ := h
    obtain ⟨t1, c1⟩ := D.MOST_PARTIES
    obtain ⟨t2, c2⟩ := D.MOST_SEATS
    obtain ⟨t3, c3⟩ := D.LAST_PLACE
    refine ⟨_, pss_cons (ps_if (PW.pt (pw_or (pt_cmpR op_lt (pe_callB (lenK K) (by rfl) D.len PySem.boot_len (pa_cons (pv 0) pa_nil)) pe_int (nomark _)) (pw_or1 (pt_cmpR op_gt (pe_callB (lenK K) (by rfl) D.len PySem.boot_len (pa_cons (pv 0) pa_nil)) (pe_cst (by rfl) c1) (nomark _)))))
        (pss_one (ps_ret pe_bl)) pss_nil)
      (pss_cons (ps_if (pt_cmpR op_ne (pe_callB (lenK K) (by rfl) D.len PySem.boot_len (pa_cons (pv 1) pa_nil)) (pe_callB (lenK K) (by rfl) D.len PySem.boot_len (pa_cons (pv 0) pa_nil)) (nomark _)) (pss_one (ps_ret pe_bl)) pss_nil)
      (pss_cons (ps_if (PW.pt (pw_or (pt_cmpR op_lt (pe_callB (minK K rfl) (by rfl) D.min (by decide +kernel) (pa_cons (pv 0) pa_nil)) pe_int (nomark _)) (pw_or1 (pt_cmpR op_gt (pe_callB (maxK K rfl) (by rfl) D.max (by decide +kernel) (pa_cons (pv 0) pa_nil)) (pe_cst (by rfl) c2) (nomark _)))))
        (pss_one (ps_ret pe_bl)) pss_nil)
      (pss_one (ps_ret (pe_and (pe_cmpR op_ge (pe_callB (minK K rfl) (by rfl) D.min (by decide +kernel) (pa_cons (pv 1) pa_nil)) pe_int (nomark _)) (pe_one (pe_cmpR op_le (pe_callB (maxK K rfl) (by rfl) D.max (by decide +kernel) (pa_cons (pv 1) pa_nil)) (pe_cst (by rfl) c3) (nomark _)))))))), ?_⟩
    have no : Ks465.okHouse ⟨xs, ys⟩ = false → Q (.bl false) H := fun e => by
      rw [e] at q
      exact q
    refine ⟨_, rfl, a, _, rfl, .inl hA, _, _, rfl, rfl, _, rfl, ite2 (fun e => iteT ?_) (fun e => ?_)⟩
    · have e := of_decide_eq_true e
      rw [vz_len] at e
      exact no (ok_len1 (by omega))
    have g1 : 1 ≤ xs.length := by
      rw [decide_eq_true_iff, vz_len] at e
      omega
    refine ⟨_, rfl, a, _, rfl, .inl hA, _, _, rfl, rfl, _, rfl, ite2 (fun e => ?_) (fun e => ?_)⟩
    · have e := of_decide_eq_true e
      rw [vz_len] at e
      exact no (ok_len2 (by omega))
    have g2 : xs.length ≤ 7 := by
      rw [decide_eq_true_iff, vz_len] at e
      omega
    refine ⟨_, rfl, b, _, rfl, .inl hB, _, rfl, a, _, rfl, .inl hA, rfl, _, rfl, ?_⟩
    rw [vz_len, vz_len]
    by_cases g3 : ys.length = xs.length
    · rw [g3]
      refine iteNS rfl ?_
      have z1 : 0 < (zs xs).length := by
        rw [zs_len]
        omega
      have z2 : 0 < (zs ys).length := by
        rw [zs_len]
        omega
      refine ⟨_, rfl, a, zs xs, rfl, hA, z1, fun m m1 m2 => ⟨_, _, rfl, rfl, _, rfl, ?_⟩⟩
      have em := is_least m1 m2
      subst em
      refine ite2 (fun e => iteT ?_) (fun e => ?_)
      · have e := of_decide_eq_true e
        exact no (ok_few g1 (by omega))
      have g4 : ¬ Ks465.least xs < 1 := by
        rw [decide_eq_true_iff] at e
        omega
      refine ⟨_, rfl, a, zs xs, rfl, hA, z1, fun m m1 m2 => ⟨_, _, rfl, rfl, _, rfl, ?_⟩⟩
      have em := is_most m1 m2
      subst em
      refine ite2 (fun e => ?_) (fun e => ?_)
      · have e := of_decide_eq_true e
        exact no (ok_many g1 (by omega))
      have g5 : ¬ 200 < Ks465.most xs := by
        rw [decide_eq_true_iff] at e
        omega
      refine ⟨_, rfl, b, zs ys, rfl, hB, z2, fun m m1 m2 => ⟨_, _, rfl, rfl, _, rfl, ?_⟩⟩
      have em := is_least m1 m2
      subst em
      rw [decide_eq_true (show (0 : Int) ≤ ((Ks465.least ys : Nat) : Int) by omega)]
      refine iteT ⟨_, rfl, b, zs ys, rfl, hB, z2, fun m m1 m2 => ⟨_, _, rfl, rfl, ?_⟩⟩
      have em := is_most m1 m2
      subst em
      rw [ok_last g1 g2 g3 g4 g5] at q
      have ed : decide (((Ks465.most ys : Nat) : Int) ≤ 100) = decide (Ks465.most ys ≤ 100) := by
        apply decide_eq_decide.mpr
        omega
      show Q (.bl (decide (((Ks465.most ys : Nat) : Int) ≤ 100))) H
      rw [ed]
      exact q
    · rw [show (!decide (V.int ((ys.length : Nat) : Int) = V.int ((xs.length : Nat) : Int))) = true by
        rw [decide_eq_false (fun z => g3 (by have := V.int.inj z; omega))]
        rfl]
      exact iteT (no (ok_len3 g3))
theorem abs_ad (x y : Nat) : (if ((x : Int) - (y : Int)) < 0 then -((x : Int) - (y : Int)) else ((x : Int) - (y : Int))) = ((ad y x : Nat) : Int) := by
  unfold ad
  split <;> omega
def spAway (K : PySem.W.Frag) : Sp := fun vs H Q _ => ∃ (x : Nat) (a b : Addr) (xs ys : List Nat), vs = [.int (x : Int), .ref a, .ref b] ∧ SqL K H a (vz xs) ∧ SqL K H b (vz ys) ∧ ys.length = xs.length ∧ xs.length ≤ 1000 ∧ (∀ s ∈ xs, s ≤ 200) ∧
  ∀ H', Same H H' → Q (.int ((aw xs ys x : Nat) : Int)) H'
theorem ok_away {f : Addr} {fd : FuncData} {k : Nat} (D : Tops K mg) (F : Fun K "away_together" "away_together" s_away_together f fd) : FnOk P w K mg base CX0 (k + 1) f fd ["place", "seats", "places"] (spAway K) := by
  refine F.ok sc_away_together (fun vs H Q E h => ?_) (fun cdv A outer st H vs Q E hr h => ?_)
  · obtain ⟨x, a, b, xs, ys, rfl, _⟩ := h
    rfl
  · obtain ⟨x, a, b, xs, ys, rfl, hA, hB, hl, hn, hb, q⟩ := h
    refine ⟨_, pss_one (ps_ret (pe_callB (sumK K rfl) (by rfl) D.sum (by decide +kernel) (pa_cons
        (pe_lc (own := [("i", 3)]) (g := gName 3) rfl sc_away_together.nd (pi_range1 (by rfl) D.range (pa_cons (pe_callB (lenK K) (by rfl) D.len PySem.boot_len (pa_cons (pv 1) pa_nil)) pa_nil)) (blkOk_by (N := n_away_together) (sc := defScope s_away_together) (by decide +kernel))
          (fun _ _ _ _ _ => pg_name (i := 3) sc_away_together.nd rfl (Or.inl rfl)) (fun _ _ _ _ _ => pts_nil) (fun _ _ _ _ _ => pe_op op_mul (pe_ix (ixK K) (pv 1) (pv 3) (fun _ _ => rfl)) (pe_callB call_abs (by rfl) D.abs (by decide +kernel) (pa_cons (pe_op op_sub (pe_ix (ixK K) (pv 2) (pv 3) (fun _ _ => rfl)) (pv 0)) pa_nil)))) pa_nil))), ?_⟩
    refine ⟨_, rfl, a, _, rfl, .inl hA, (xs.length : Int), by rw [vz_len], by omega, by omega, fun D1 hD1 => lc_rng (n := xs.length) (iv := 3) (fun _ => true) (fun j => V.int ((xs.getD j 0 * ad x (ys.getD j 0) : Nat) : Int)) hn hD1
      (fun j H' R hj s' hR => hR H' (Same.refl _))
      (fun j H' R hj _ s' hR => ⟨_, rfl, _, rfl, a, _, _, _, rfl, rfl, s'.seq hA, at_vz hj, _, rfl, _, rfl, b, _, _, _, rfl, rfl, s'.seq hB, at_vz (by omega), _, rfl, _, _, rfl, rfl, _, rfl, ?_⟩) (fun H1 s1 e1 => ?_)⟩
    · have h2 : xs.getD j 0 ≤ 200 := hb _ (by
        rw [List.getD_eq_getElem?_getD, List.getElem?_eq_getElem hj]
        exact List.getElem_mem hj)
      rw [abs_ad]
      refine ⟨_, _, rfl, rfl, .inl ⟨by omega, by omega⟩, ?_⟩
      have z := hR H' (Same.refl _)
      rw [Int.natCast_mul] at z
      exact z
    rw [vz_map (fun j => xs.getD j 0 * ad x (ys.getD j 0)), List.filter_eq_self.mpr (fun _ _ => rfl)] at e1
    refine ⟨D1, _, rfl, SqL.of e1, ?_⟩
    rw [zs_sum]
    exact q H1 s1
def g2 (xs ys : List Nat) (x : Nat) : List Int := [((aw xs ys x : Nat) : Int), (x : Int)]
theorem g2_lt {xs ys : List Nat} {s t : Nat} (h : HT.lexLt (g2 xs ys t) (g2 xs ys s) = false) : aw xs ys s < aw xs ys t ∨ (aw xs ys s = aw xs ys t ∧ s ≤ t) := by
  unfold g2 at h
  rw [HT.lexLt_cons, HT.lexLt_cons, HT.lexLt_nil_nil] at h
  by_cases e1 : ((aw xs ys t : Nat) : Int) = ((aw xs ys s : Nat) : Int)
  · rw [if_pos e1] at h
    by_cases e3 : (t : Int) = (s : Int)
    · omega
    · rw [if_neg e3] at h
      have := of_decide_eq_false h
      omega
  · rw [if_neg e1] at h
    have := of_decide_eq_false h
    omega
def spCentre (K : PySem.W.Frag) : Sp := fun vs H Q _ => ∃ (a b : Addr) (xs ys : List Nat), vs = [.ref a, .ref b] ∧ SqL K H a (vz xs) ∧ SqL K H b (vz ys) ∧
  ∀ (H' : Hp) (p : Addr), Same H H' → H' p = some (.lst ((PyKs465.centre (zs xs) (zs ys)).map V.int)) → Q (.ref p) H'
theorem ok_centre {f : Addr} {fd : FuncData} {k : Nat} (D : Tops K mg) (F : Fun K "centre" "centre" s_centre f fd) : FnOk P w K mg base CX0 (k + 2) f fd ["seats", "places"] (spCentre K) := by
  obtain ⟨fT, fdT, cT⟩ := D.are_as_told
  obtain ⟨fA, fdA, cA⟩ := D.away_together
  have GT : FnOk P w K mg base CX0 (k + 1) fT fdT ["seats", "places"] (spTold K) := ok_told D cT.F
  have GA : FnOk P w K mg base CX0 (k + 1) fA fdA ["place", "seats", "places"] (spAway K) := ok_away D cA.F
  refine F.ok sc_centre (fun vs H Q E h => ?_) (fun cdv A outer st H vs Q E hr h => ?_)
  · obtain ⟨a, b, xs, ys, rfl, _⟩ := h
    rfl
  · obtain ⟨a, b, xs, ys, rfl, hA, hB, q⟩ := h
    obtain ⟨t4, c4⟩ := D.NOT_AS_TOLD
    obtain ⟨t3, c3⟩ := D.LAST_PLACE
    refine ⟨_, pss_cons (ps_if (pt_not (pt_val (pe_call GT hr (by rfl) cT.g cT.F.kp cT.b .nil pass0 (pa_cons (pv 0) (pa_cons (pv 1) pa_nil))))) (pss_one (ps_ret (pe_lst (pa_cons (pe_cst (by rfl) c4) pa_nil)))) pss_nil)
      (pss_cons (ps_set (i := 2) sc_centre.nd rfl (.inl rfl) (pe_callB (minTK K rfl hr.units) (by rfl) D.min (by decide +kernel) (pa_cons (pe_lc (own := [("place", 3)]) (g := gName 3) rfl sc_centre.nd (pi_range1 (by rfl) D.range (pa_cons (pe_op op_add (pe_cst (by rfl) c3) pe_int) pa_nil)) (blkOk_by (N := n_centre) (sc := defScope s_centre) (by decide +kernel))
          (fun _ _ _ _ _ => pg_name (i := 3) sc_centre.nd rfl (Or.inl rfl)) (fun _ _ _ _ _ => pts_nil) (fun _ _ _ _ _ => pe_tup (pa_cons (pe_call GA hr (by rfl) cA.g cA.F.kp cA.b .nil pass0 (pa_cons (pv 3) (pa_cons (pv 0) (pa_cons (pv 1) pa_nil)))) (pa_cons (pv 3) pa_nil)))) pa_nil)))
      (pss_one (ps_ret (pe_lst (pa_cons (pe_ix ix_tup (pv 2) pe_int (fun _ _ => rfl)) (pa_cons (pe_ix ix_tup (pv 2) pe_int (fun _ _ => rfl)) pa_nil)))))), ?_⟩
    refine ⟨_, rfl, _, rfl, a, b, xs, ys, rfl, hA, hB, _, rfl, ?_⟩
    rw [due_centre] at q
    cases hk : Ks465.okHouse ⟨xs, ys⟩ with
    | false =>
      rw [hk, if_neg Bool.false_ne_true] at q
      refine iteT ⟨by show 1 ≤ sizeLine; decide, fun p hp => ?_⟩
      exact q _ p (same_upd hp) upd_same
    | true =>
      rw [hk, if_pos rfl] at q
      obtain ⟨o1, o2, o3, o4, _⟩ := (ok_iff xs ys).mp hk
      refine iteF ?_
      refine ⟨_, _, rfl, rfl, 101, rfl, by decide, by decide, fun D1 hD1 => lc_tupr (n := 101) (iv := 3) (g2 xs ys) (by decide) hD1
        (fun j H' R hj s' hR => hR H' (Same.refl _))
        (fun j H' R hj s' hR => ⟨_, rfl, _, rfl, _, rfl, j, a, b, xs, ys, rfl, s'.seq hA, s'.seq hB, o3, by omega, fun s hs => (o4 s hs).2, fun H2 s2 => ⟨_, rfl, by show 2 ≤ sizeLine; decide, fun p hp => ?_⟩⟩)
        (fun H1 ps s1 e1 m1 t1 => ?_)⟩
      · exact hR _ p (s2.trans (same_upd hp)) upd_same
      have hne : ps ≠ [] := fun z => by
        rw [z, List.map_nil] at m1
        have := congrArg List.length m1
        rw [List.length_map, List.length_range] at this
        cases this
      refine ⟨D1, ps, rfl, SqL.of e1, fun p hp => SqT.of (t1 p hp), hne, fun p hp hleast => ?_⟩
      obtain ⟨s, hs, es⟩ : ∃ s, s ∈ List.range 101 ∧ g2 xs ys s = p.2 := by
        have : p.2 ∈ ps.map (fun p => p.2) := List.mem_map.mpr ⟨p, hp, rfl⟩
        rw [m1] at this
        exact List.mem_map.mp this
      have hs := List.mem_range.mp hs
      have key : ∀ t, t ≤ 100 → aw xs ys s < aw xs ys t ∨ (aw xs ys s = aw xs ys t ∧ s ≤ t) := fun t ht => by
        have : g2 xs ys t ∈ ps.map (fun p => p.2) := by
          rw [m1]
          exact List.mem_map.mpr ⟨t, List.mem_range.mpr (by omega), rfl⟩
        obtain ⟨p', hp', e'⟩ := List.mem_map.mp this
        have := hleast p' hp'
        rw [e', ← es] at this
        exact g2_lt this
      have hc : Ks465.centre ⟨xs, ys⟩ = s := centre_is (by omega) (fun x hx => by have := key x hx; omega) (fun x hx => by have := key x (by omega); omega)
      rw [hc] at q
      have ht : H1 p.1 = some (.tup [.int ((aw xs ys s : Nat) : Int), .int (s : Int)]) := by
        rw [t1 p hp, ← es]
        rfl
      refine ⟨_, rfl, p.1, _, _, _, rfl, rfl, SqT.of ht, rfl, _, rfl, p.1, _, _, _, rfl, rfl, SqT.of ht, rfl, by show 2 ≤ sizeLine; decide, fun l hl => ?_⟩
      exact q _ l (s1.trans (same_upd hl)) upd_same
end
theorem all_mk {P : Program} {w : World} {K : PySem.W.Frag} {h : Heap} {mg : Str → Option Value} {fa f1 f2 f3 : Addr} (X : K.In h) (G : h.Ns mainGlobals mg) (hfa : mg "centre" = some (.ref fa))
    {od1 an1 od2 an2 od3 an3 : Option Addr} {sl1 sl2 sl3 : Array (Option Value)} {oc1 kV1 dc1 pm1 cd1 ct1 oc2 kV2 dc2 pm2 cd2 ct2 oc3 kV3 dc3 pm3 cd3 ct3 : Value} {t1 t2 t3 t4 : Tok}
    (a1 : PySem.W.nsIn K mainGlobals "are_as_told" = some (some (.ref f1))) (l1 : K.lookup f1 = some ⟨oc1, od1, .func (PySem.W.fnOf "are_as_told" "are_as_told" (defArgs s_are_as_told) (defBody s_are_as_told) (defScope s_are_as_told) .none kV1 dc1 pm1 an1 cd1 ct1), sl1⟩) (c1 : PySem.W.codeIn K cd1 "are_as_told" = true) (k1 : PySem.W.keepIn K (.ref f1) = true)
    (a2 : PySem.W.nsIn K mainGlobals "away_together" = some (some (.ref f2))) (l2 : K.lookup f2 = some ⟨oc2, od2, .func (PySem.W.fnOf "away_together" "away_together" (defArgs s_away_together) (defBody s_away_together) (defScope s_away_together) .none kV2 dc2 pm2 an2 cd2 ct2), sl2⟩) (c2 : PySem.W.codeIn K cd2 "away_together" = true) (k2 : PySem.W.keepIn K (.ref f2) = true)
    (a3 : PySem.W.nsIn K mainGlobals "centre" = some (some (.ref f3))) (l3 : K.lookup f3 = some ⟨oc3, od3, .func (PySem.W.fnOf "centre" "centre" (defArgs s_centre) (defBody s_centre) (defScope s_centre) .none kV3 dc3 pm3 an3 cd3 ct3), sl3⟩) (c3 : PySem.W.codeIn K cd3 "centre" = true) (k3 : PySem.W.keepIn K (.ref f3) = true)
    (z1 : PySem.W.nsIn K mainGlobals "len" = some none)
    (z2 : PySem.W.nsIn K mainGlobals "min" = some none)
    (z3 : PySem.W.nsIn K mainGlobals "max" = some none)
    (z4 : PySem.W.nsIn K mainGlobals "sum" = some none)
    (z5 : PySem.W.nsIn K mainGlobals "range" = some none)
    (z6 : PySem.W.nsIn K mainGlobals "all" = some none)
    (z7 : PySem.W.nsIn K mainGlobals "any" = some none)
    (z8 : PySem.W.nsIn K mainGlobals "abs" = some none)
    (z9 : PySem.W.nsIn K mainGlobals "list" = some none)
    (n1 : PySem.W.nsIn K mainGlobals "MOST_PARTIES" = some (some (.int (7) t1)))
    (n2 : PySem.W.nsIn K mainGlobals "MOST_SEATS" = some (some (.int (200) t2)))
    (n3 : PySem.W.nsIn K mainGlobals "LAST_PLACE" = some (some (.int (100) t3)))
    (n4 : PySem.W.nsIn K mainGlobals "NOT_AS_TOLD" = some (some (.int (-22) t4)))
    : ∃ fd : FuncData, (∀ (s : Shared) (us : List Value), us.length = (["seats", "places"] : List Str).length → BindsTo s fd ⟨us, []⟩ ((["seats", "places"] : List Str).zip us)) ∧ ∀ base : Heap, K.In base → base.Ns mainGlobals mg → FnOk P w K mg base CX0 2 fa fd ["seats", "places"] (spCentre K) := by
  have e := hfa.symm.trans (PySem.W.mg_of X G a3)
  cases e
  have F1 := fun_mk (st := s_are_as_told) l1 c1 k1
  have b1 := F1.binds (ps := ["seats", "places"]) fun _ _ _ _ _ _ us hl => match us, hl with | [_, _], _ => rfl
  have F2 := fun_mk (st := s_away_together) l2 c2 k2
  have b2 := F2.binds (ps := ["place", "seats", "places"]) fun _ _ _ _ _ _ us hl => match us, hl with | [_, _, _], _ => rfl
  have F3 := fun_mk (st := s_centre) l3 c3 k3
  have b3 := F3.binds (ps := ["seats", "places"]) fun _ _ _ _ _ _ us hl => match us, hl with | [_, _], _ => rfl
  have D : Tops K mg := ⟨PySem.W.mg_none_of X G z1, PySem.W.mg_none_of X G z2, PySem.W.mg_none_of X G z3, PySem.W.mg_none_of X G z4, PySem.W.mg_none_of X G z5, PySem.W.mg_none_of X G z6, PySem.W.mg_none_of X G z7, PySem.W.mg_none_of X G z8, PySem.W.mg_none_of X G z9, ⟨_, PySem.W.mg_of X G n1⟩, ⟨_, PySem.W.mg_of X G n2⟩, ⟨_, PySem.W.mg_of X G n3⟩, ⟨_, PySem.W.mg_of X G n4⟩, ⟨_, _, F1, b1, PySem.W.mg_of X G a1⟩, ⟨_, _, F2, b2, PySem.W.mg_of X G a2⟩, ⟨_, _, F3, b3, PySem.W.mg_of X G a3⟩⟩
  exact ⟨PySem.W.fnOf "centre" "centre" (defArgs s_centre) (defBody s_centre) (defScope s_centre) .none kV3 dc3 pm3 an3 cd3 ct3, fun s us hu => match us, hu with | [_, _], _ => .of_eq rfl, fun base _ _ => ok_centre D F3⟩
end Ms
open PySem PySem.W PyProof.Rows
set_option maxRecDepth 100000 in
set_option maxHeartbeats 0 in
theorem PySem.Challenge.cw_middleseats_s05_centre_holds : PySem.Challenge.rw_middleseats_s05_centre.Holds := by
  w_on; k_headS; (case hw => exact ⟨[.list [], .list []], by decide +kernel, by decide +kernel⟩)
  k_fillS
  refine L2.walk_specK (r := PySem.Challenge.rw_middleseats_s05_centre) (k := 2) (CX := L2.CX0) (ps := ["seats", "places"]) (sp := Ms.spCentre) (by decide +kernel) rfl rfl ⟨rfl, by decide, by decide⟩ (fun w h Y => PySem.W.kIn_of Y) ?F ?S (fun _ _ _ _ z => z)
  case F =>
    intro w mg fa h Y KX G hmg
    refine' Ms.all_mk KX G hmg ?a1 ?l1 ?c1 ?k1 ?a2 ?l2 ?c2 ?k2 ?a3 ?l3 ?c3 ?k3 ?z1 ?z2 ?z3 ?z4 ?z5 ?z6 ?z7 ?z8 ?z9 ?n1 ?n2 ?n3 ?n4
    (case a1 => k_is); (case l1 => k_is); (case c1 => k_is); (case k1 => k_is); (case a2 => k_is); (case l2 => k_is)
    (case c2 => k_is); (case k2 => k_is); (case a3 => k_is); (case l3 => k_is); (case c3 => k_is); (case k3 => k_is)
    (case z1 => k_is); (case z2 => k_is); (case z3 => k_is); (case z4 => k_is); (case z5 => k_is); (case z6 => k_is)
    (case z7 => k_is); (case z8 => k_is); (case z9 => k_is); (case n1 => k_is); (case n2 => k_is); (case n3 => k_is)
    (case n4 => k_is)
  case S =>
    intro K H vs a hO hwi hask hx
    obtain ⟨v1, v2, u⟩ := a
    cases hx with
    | cons h1 r1 =>
      cases r1 with
      | cons h2 r2 =>
        cases r2
        cases h1 with
        | lst hs1 ha1 =>
          have e1 := L2.ints_dw v1 _ ha1
          subst e1
          cases h2 with
          | lst hs2 ha2 =>
            have e2 := L2.ints_dw v2 _ ha2
            subst e2
            have q : ((Codec.inLen 0 12 v1 && v1.all (Codec.inInt 0 4294967295)) && ((Codec.inLen 0 12 v2 && v2.all (Codec.inInt 0 4294967295)) && true)) = true := hwi
            simp only [Bool.and_true] at q
            obtain ⟨q1, q⟩ := Bool.and_eq_true_iff.mp q
            have q2 := q
            have z1 := Ms.nonneg_of q1
            have z2 := Ms.nonneg_of q2
            refine ⟨_, _, v1.map Int.toNat, v2.map Int.toNat, rfl, by rw [Ms.vz_back z1]; exact hs1, by rw [Ms.vz_back z2]; exact hs2, fun H' p _ hp => ?_⟩
            rw [Ms.zs_toNat z1, Ms.zs_toNat z2] at hp
            exact .lst (L2.SqL.of hp) (L2.dw_ints _)
#print axioms PySem.Challenge.cw_middleseats_s05_centre_holds
