import PyProof.Rows.All
import Wide.All
import OpenK.AllK
import Wide.FinOn
import Open.SpecLaws
import KE.OsGo
import KE.GoesMore
import KE.GoesEnum
import HandS.ForSpec
import HandS.ForMost
import HandS.More
import HandS.IterVal
import KE.DatumOrd
import KE.OsArith
import HandS.Walk
import HandS.WordsDict
import PySem.Challenge.RW_sleepers_s01_answers
set_option Elab.async false
set_option maxRecDepth 100000
set_option maxHeartbeats 8000000
namespace SjA
open Sj54
theorem cut_le (k n : Nat) : cutTo k n ≤ n := by
  unfold cutTo
  exact Nat.div_mul_le_self n (2 ^ k)
theorem cut_zero (n : Nat) : cutTo 0 n = n := by
  unfold cutTo
  simp
theorem cut_succ (k n : Nat) : cutTo (k + 1) n = 2 * cutTo k (n / 2) := by
  unfold cutTo
  rw [Nat.pow_succ, Nat.mul_comm (2 ^ k) 2, ← Nat.div_div_eq_div_mul, Nat.mul_left_comm]
theorem cut_anti : ∀ {j k : Nat} (n : Nat), j ≤ k → cutTo k n ≤ cutTo j n
  | 0, k, n, _ => by
    rw [cut_zero]
    exact cut_le k n
  | j + 1, 0, n, h => absurd h (by omega)
  | j + 1, k + 1, n, h => by
    rw [cut_succ, cut_succ]
    have := cut_anti (j := j) (k := k) (n / 2) (by omega)
    omega
theorem cut_cut : ∀ {j k : Nat} (n : Nat), j ≤ k → cutTo k (cutTo j n) = cutTo k n
  | 0, k, n, _ => by rw [cut_zero]
  | j + 1, 0, n, h => absurd h (by omega)
  | j + 1, k + 1, n, h => by
    rw [cut_succ k, cut_succ j, cut_succ k n]
    rw [show 2 * cutTo j (n / 2) / 2 = cutTo j (n / 2) by omega]
    rw [cut_cut (j := j) (k := k) (n / 2) (by omega)]
theorem cut_cut2 : ∀ {j k : Nat} (n : Nat), k ≤ j → cutTo k (cutTo j n) = cutTo j n
  | j, 0, n, _ => by rw [cut_zero]
  | 0, k + 1, n, h => absurd h (by omega)
  | j + 1, k + 1, n, h => by
    rw [cut_succ k, cut_succ j]
    rw [show 2 * cutTo j (n / 2) / 2 = cutTo j (n / 2) by omega]
    rw [cut_cut2 (j := j) (k := k) (n / 2) (by omega)]
/-- without its lowest bit -/
def clr (n : Nat) : Nat := n &&& (n - 1)
theorem clr_even {q : Nat} (h : 0 < q) : clr (2 * q) = 2 * clr q := by
  unfold clr
  have h1 : (2 * q &&& (2 * q - 1)) / 2 = q &&& (q - 1) := by
    rw [Nat.and_div_two]
    rw [show 2 * q / 2 = q by omega, show (2 * q - 1) / 2 = q - 1 by omega]
  have h2 : (2 * q &&& (2 * q - 1)) % 2 = 0 := by
    have := Nat.and_mod_two_eq_one (a := 2 * q) (b := 2 * q - 1)
    omega
  omega
theorem clr_odd (q : Nat) : clr (2 * q + 1) = 2 * q := by
  unfold clr
  have h1 : (2 * q + 1 &&& (2 * q + 1 - 1)) / 2 = q := by
    rw [Nat.and_div_two]
    rw [show (2 * q + 1) / 2 = q by omega, show (2 * q + 1 - 1) / 2 = q by omega, Nat.and_self]
  have h2 : (2 * q + 1 &&& (2 * q + 1 - 1)) % 2 = 0 := by
    have := Nat.and_mod_two_eq_one (a := 2 * q + 1) (b := 2 * q + 1 - 1)
    omega
  omega
theorem clr_is : ∀ (f n : Nat), n ≤ f → 0 < n → ∃ v, clr n = cutTo (v + 1) n ∧ ∀ m, v + 1 ≤ m ∨ cutTo m n = n
  | 0, n, h, h' => absurd h (by omega)
  | f + 1, n, h, h' => by
    by_cases c : n % 2 = 0
    · obtain ⟨q, rfl⟩ : ∃ q, n = 2 * q := ⟨n / 2, by omega⟩
      obtain ⟨v, e, k⟩ := clr_is f q (by omega) (by omega)
      refine ⟨v + 1, ?_, fun m => ?_⟩
      · rw [clr_even (by omega), cut_succ, show 2 * q / 2 = q by omega, e]
      · cases m with
        | zero => exact .inr (cut_zero _)
        | succ m =>
          rw [cut_succ, show 2 * q / 2 = q by omega]
          rcases k m with z | z
          · exact .inl (by omega)
          · exact .inr (by rw [z])
    · obtain ⟨q, rfl⟩ : ∃ q, n = 2 * q + 1 := ⟨n / 2, by omega⟩
      refine ⟨0, ?_, fun m => ?_⟩
      · rw [clr_odd, cut_succ, cut_zero]
        omega
      · cases m with
        | zero => exact .inr (cut_zero _)
        | succ m => exact .inl (by omega)
theorem clr_lt {n : Nat} (h : 0 < n) : clr n < n := by
  unfold clr
  have : n &&& (n - 1) ≤ n - 1 := Nat.and_le_right
  omega
/-- what the specification chooses: the cut by the most places that is not too early -/
theorem fast_is : ∀ (K d e : Nat), 0 < d → d ≤ e → ∃ j, j ≤ K ∧ alignedFast K d e = cutTo j e ∧ d ≤ cutTo j e ∧ ∀ j', j' ≤ K → d ≤ cutTo j' e → j' ≤ j
  | 0, d, e, h, h2 => ⟨0, Nat.le_refl _, by rw [cut_zero]; rfl, by rw [cut_zero]; exact h2, fun j' h _ => h⟩
  | K + 1, d, e, h, h2 => by
    by_cases c : d ≤ cutTo (K + 1) e
    · refine ⟨K + 1, Nat.le_refl _, ?_, c, fun j' h _ => h⟩
      show (if d ≤ cutTo (K + 1) e ∧ 0 < cutTo (K + 1) e then cutTo (K + 1) e else alignedFast K d e) = _
      rw [if_pos ⟨c, by omega⟩]
    · obtain ⟨j, h3, h4, h5, h6⟩ := fast_is K d e h h2
      refine ⟨j, by omega, ?_, h5, fun j' h7 h8 => ?_⟩
      · show (if d ≤ cutTo (K + 1) e ∧ 0 < cutTo (K + 1) e then cutTo (K + 1) e else alignedFast K d e) = _
        rw [if_neg (fun z => c z.1)]
        exact h4
      · by_cases z : j' = K + 1
        · subst z
          exact absurd h8 c
        · exact h6 j' (by omega) h8
/-- a cut that is not too early, and would be without its lowest bit, is the chosen one -/
theorem at_of_cut {d s j : Nat} (h : 0 < d) (hs : d + s < 2 ^ 41) (h1 : d ≤ cutTo j (d + s)) (h2 : clr (cutTo j (d + s)) < d) : Sj54.at_ d s = cutTo j (d + s) := by
  obtain ⟨j', a1, a2, a3, a4⟩ := fast_is 40 d (d + s) h (by omega)
  unfold Sj54.at_
  rw [a2]
  have hj : j ≤ 40 := by
    apply Classical.byContradiction
    intro hn
    have : cutTo j (d + s) ≤ cutTo 41 (d + s) := cut_anti _ (by omega)
    have e0 : cutTo 41 (d + s) = 0 := by
      unfold cutTo
      rw [Nat.div_eq_of_lt hs]
    omega
  have hjj := a4 j hj h1
  obtain ⟨v, b1, b2⟩ := clr_is (cutTo j (d + s)) _ (Nat.le_refl _) (by omega)
  rcases b2 j' with z | z
  · have e1 : cutTo j' (cutTo j (d + s)) ≤ cutTo (v + 1) (cutTo j (d + s)) := cut_anti _ z
    rw [cut_cut _ hjj] at e1
    omega
  · rw [cut_cut _ hjj] at z
    exact z
theorem clr_cut {j n : Nat} (h : 0 < cutTo j n) : ∃ j', clr (cutTo j n) = cutTo j' n := by
  obtain ⟨v, b1, _⟩ := clr_is (cutTo j n) _ (Nat.le_refl _) h
  by_cases c : j ≤ v + 1
  · exact ⟨v + 1, by rw [b1, cut_cut _ c]⟩
  · exact ⟨j, by rw [b1, cut_cut2 _ (by omega)]⟩
/-- bounds of what is chosen -/
theorem at_ge {d s : Nat} (h : 0 < d) : d ≤ Sj54.at_ d s := by
  obtain ⟨j', a1, a2, a3, a4⟩ := fast_is 40 d (d + s) h (by omega)
  unfold Sj54.at_
  rw [a2]
  exact a3
theorem at_le {d s : Nat} (h : 0 < d) : Sj54.at_ d s ≤ d + s := by
  obtain ⟨j', a1, a2, a3, a4⟩ := fast_is 40 d (d + s) h (by omega)
  unfold Sj54.at_
  rw [a2]
  exact cut_le _ _
end SjA
namespace SjF
open Sj54
/-- what holds of a house between two calls, and in a tick's middle -/
structure Ok (h : House) : Prop where
  nw : h.now ≤ 1073741824
  tl : h.timers.length = 64
  wl : h.words.length = 64
  cl : h.counts.length = 4
  tm : ∀ (i : Nat) (t : Timer), h.timers[i]? = some (some t) → h.now < t.due ∧ (t.period = 0 ∨ (16 ≤ t.period ∧ t.period ≤ 16777216)) ∧ t.slack ≤ 65535 ∧ t.order < h.order
  sl : ∀ s ∈ h.asleep, s.hand < 16 ∧ s.word < 64 ∧ s.order < h.order ∧ ∀ t, s.till = some t → h.now < t
  nd : (h.asleep.map (·.hand)).Nodup
  wd : ∀ w ∈ h.words, w < 4294967296
  ct : ∀ c ∈ h.counts, c < 4294967296
  tt : ∀ (i j : Nat) (t u : Timer), h.timers[i]? = some (some t) → h.timers[j]? = some (some u) → t.order = u.order → i = j
  ts : ∀ (i : Nat) (t : Timer), h.timers[i]? = some (some t) → ∀ s ∈ h.asleep, t.order ≠ s.order
  ss : (h.asleep.map (·.order)).Nodup
/-! ### how much can still happen -/
def tcost (to : Nat) : Option Timer → Nat
  | none => 0
  | some t => if t.due ≤ to then (to - t.due) / 16 + 1 else 0
def scost (to : Nat) (s : Sleeper) : Nat := match s.till with
  | none => 0
  | some t => if t ≤ to then 1 else 0
def cost (to : Nat) (h : House) : Nat := (h.timers.map (tcost to)).sum + (h.asleep.map (scost to)).sum
theorem sum_set {α : Type} (g : α → Nat) : ∀ (l : List α) (i : Nat) (x y : α), l[i]? = some x → ((l.set i y).map g).sum + g x = (l.map g).sum + g y
  | [], i, x, y, h => by simp at h
  | a :: l, 0, x, y, h => by
    have e : a = x := by simpa using h
    subst e
    simp only [List.set_cons_zero, List.map_cons, List.sum_cons]
    omega
  | a :: l, i + 1, x, y, h => by
    have ih := sum_set g l i x y (by simpa using h)
    simp only [List.set_cons_succ, List.map_cons, List.sum_cons]
    omega
theorem sum_filter_le {α : Type} (g : α → Nat) (p : α → Bool) : ∀ (l : List α), ((l.filter p).map g).sum ≤ (l.map g).sum
  | [] => Nat.le_refl _
  | a :: l => by
    have ih := sum_filter_le g p l
    rw [List.filter_cons]
    split
    · simp only [List.map_cons, List.sum_cons]
      omega
    · simp only [List.map_cons, List.sum_cons]
      omega
theorem sum_filter_lt {α : Type} (g : α → Nat) (p : α → Bool) : ∀ (l : List α) (x : α), x ∈ l → p x = false → ((l.filter p).map g).sum + g x ≤ (l.map g).sum
  | [], x, h, _ => by simp at h
  | a :: l, x, h, hp => by
    rcases List.mem_cons.mp h with e | e
    · subst e
      have := sum_filter_le g p l
      rw [List.filter_cons, if_neg (by rw [hp]; exact Bool.false_ne_true)]
      simp only [List.map_cons, List.sum_cons]
      omega
    · have ih := sum_filter_lt g p l x e hp
      rw [List.filter_cons]
      split
      · simp only [List.map_cons, List.sum_cons]
        omega
      · simp only [List.map_cons, List.sum_cons]
        omega
theorem sum_le {α : Type} (g : α → Nat) (b : Nat) : ∀ (l : List α), (∀ x ∈ l, g x ≤ b) → (l.map g).sum ≤ l.length * b
  | [], _ => by simp
  | a :: l, h => by
    have ih := sum_le g b l fun x hx => h x (List.mem_cons_of_mem _ hx)
    have h1 := h a (List.mem_cons_self ..)
    simp only [List.map_cons, List.sum_cons, List.length_cons, Nat.add_mul]
    omega
/-! ### what is due -/
theorem least_mem : ∀ (l : List ((Nat × Nat) × Bool × Nat)) (x), least l = some x → x ∈ l
  | [], x, h => by simp [least] at h
  | a :: l, x, h => by
    unfold least at h
    cases e : least l with
    | none =>
      rw [e] at h
      simp at h
      subst h
      exact List.mem_cons_self ..
    | some y =>
      rw [e] at h
      by_cases c : earlier y.1 a.1 = true
      · simp [c] at h
        subst h
        exact List.mem_cons_of_mem _ (least_mem l _ e)
      · simp [c] at h
        subst h
        exact List.mem_cons_self ..
theorem least_none : ∀ (l : List ((Nat × Nat) × Bool × Nat)), least l = none → l = []
  | [], _ => rfl
  | a :: l, h => by
    unfold least at h
    cases e : least l with
    | none => rw [e] at h; simp at h
    | some y =>
      rw [e] at h
      by_cases c : earlier y.1 a.1 = true <;> simp [c] at h
theorem earlier_iff (a b : Nat × Nat) : earlier a b = true ↔ a.1 < b.1 ∨ (a.1 = b.1 ∧ a.2 < b.2) := by
  unfold earlier
  simp
/-- nothing in the list is earlier than the least -/
theorem least_le : ∀ (l : List ((Nat × Nat) × Bool × Nat)) (x), least l = some x → ∀ y ∈ l, earlier y.1 x.1 = false
  | [], x, h => by simp [least] at h
  | a :: l, x, h => by
    unfold least at h
    intro y hy
    cases e : least l with
    | none =>
      rw [e] at h
      have e2 := least_none l e
      subst e2
      simp at h hy
      subst h hy
      rw [Bool.eq_false_iff]
      intro z
      rw [earlier_iff] at z
      omega
    | some z =>
      rw [e] at h
      have ih := least_le l z e
      by_cases c : earlier z.1 a.1 = true
      · simp [c] at h
        subst h
        rcases List.mem_cons.mp hy with q | q
        · subst q
          rw [Bool.eq_false_iff]
          intro w
          rw [earlier_iff] at w c
          omega
        · exact ih y q
      · simp [c] at h
        subst h
        rcases List.mem_cons.mp hy with q | q
        · subst q
          rw [Bool.eq_false_iff]
          intro w
          rw [earlier_iff] at w
          omega
        · have i2 := ih y q
          rw [Bool.eq_false_iff] at i2 ⊢
          intro w
          rw [ne_eq, earlier_iff] at i2
          rw [earlier_iff] at w c
          omega
/-- what stands in the list of what is due -/
theorem mem_dues {h : House} {to : Nat} {x : (Nat × Nat) × Bool × Nat} : x ∈ h.dues to ↔
    (x.2.1 = true ∧ ∃ t, h.timers[x.2.2]? = some (some t) ∧ t.due ≤ to ∧ x.1 = (t.due, t.order)) ∨
    (x.2.1 = false ∧ ∃ s ∈ h.asleep, ∃ t, s.till = some t ∧ t ≤ to ∧ x.1 = (t, s.order) ∧ x.2.2 = s.hand) := by
  obtain ⟨k, b, i⟩ := x
  unfold House.dues
  rw [List.mem_append, List.mem_filterMap, List.mem_filterMap]
  constructor
  · rintro (⟨⟨o, j⟩, hm, he⟩ | ⟨s, hm, he⟩)
    · rw [List.mem_zipIdx_iff_getElem?] at hm
      cases o with
      | none => simp at he
      | some t =>
        simp at he
        obtain ⟨h1, h2, h3, h4⟩ := he
        subst h2 h3 h4
        exact .inl ⟨rfl, t, hm, h1, rfl⟩
    · cases e : s.till with
      | none => simp [e] at he
      | some t =>
        simp [e] at he
        obtain ⟨h1, h2, h3, h4⟩ := he
        subst h2 h3 h4
        exact .inr ⟨rfl, s, hm, t, e, h1, rfl, rfl⟩
  · rintro (⟨h1, t, h2, h3, h4⟩ | ⟨h1, s, h2, t, h3, h4, h5, h6⟩)
    · simp only at h1 h2 h4
      subst h1 h4
      exact .inl ⟨(some t, i), List.mem_zipIdx_iff_getElem?.mpr h2, by simp [h3]⟩
    · simp only at h1 h5 h6
      subst h1 h5 h6
      exact .inr ⟨s, h2, by simp [h3, h4]⟩
/-! ### one thing happens -/
theorem counted_len (c : List Nat) (k n : Nat) : (counted c k n).length = c.length := by
  unfold counted
  exact List.length_set
theorem counted_lt {c : List Nat} (k n : Nat) (h : ∀ x ∈ c, x < 4294967296) : ∀ x ∈ counted c k n, x < 4294967296 := by
  unfold counted
  intro x hx
  rcases List.mem_or_eq_of_mem_set hx with z | z
  · exact h x z
  · rw [z]
    exact Nat.mod_lt _ (by decide)
/-- the timer anew, or not any more -/
def again (t : Timer) (tick order : Nat) : Option Timer := if t.period = 0 then none else some ⟨Sj54.at_ (tick + t.period) t.slack, t.period, t.slack, order⟩
theorem happens_timer {h : House} {i d o : Nat} {t : Timer} (ht : h.timers[i]? = some (some t)) :
    h.happens ((d, o), true, i) = { h with timers := h.timers.set i (again t d h.order), order := h.order + 1, events := h.events ++ [(0, i, d)], counts := counted h.counts 0 1 } := by
  unfold House.happens
  have e : h.timers.getD i none = some t := by rw [List.getD_eq_getElem?_getD, ht]; rfl
  simp only [if_true]
  rw [e]
  rfl
theorem happens_hand {h : House} {i d o : Nat} :
    h.happens ((d, o), false, i) = { h with asleep := h.asleep.filter fun s => s.hand != i, events := h.events ++ [(3, i, d)], counts := counted h.counts 3 1 } := by
  unfold House.happens
  simp
theorem set_get {α : Type} {l : List α} {i j : Nat} {x y : α} (h : (l.set i x)[j]? = some y) : (j = i ∧ y = x) ∨ (j ≠ i ∧ l[j]? = some y) := by
  rw [List.getElem?_set] at h
  by_cases c : i = j
  · subst c
    rw [if_pos rfl] at h
    split at h
    · exact .inl ⟨rfl, (Option.some.inj h).symm⟩
    · cases h
  · rw [if_neg c] at h
    exact .inr ⟨fun q => c q.symm, h⟩
theorem again_some {t u : Timer} {d o : Nat} (h : again t d o = some u) : t.period ≠ 0 ∧ u = ⟨Sj54.at_ (d + t.period) t.slack, t.period, t.slack, o⟩ := by
  unfold again at h
  split at h
  · cases h
  · rename_i c
    exact ⟨c, (Option.some.inj h).symm⟩
theorem nodup_filter {α β : Type} (g : α → β) (p : α → Bool) {l : List α} (h : (l.map g).Nodup) : ((l.filter p).map g).Nodup :=
  h.sublist ((List.filter_sublist).map g)
theorem Ok.happens {h : House} {to : Nat} {x} (k : Ok h) (hx : x ∈ h.dues to) : Ok (h.happens x) ∧ (h.happens x).now = h.now := by
  obtain ⟨⟨d, o⟩, b, i⟩ := x
  rcases mem_dues.mp hx with ⟨hb, t, ht, hd, e⟩ | ⟨hb, s, hs, t, ht, hd, e, hi⟩
  · simp only at hb ht e
    subst hb
    cases e
    rw [happens_timer ht]
    obtain ⟨t1, t2, t3, t4⟩ := k.tm i t ht
    refine ⟨⟨k.nw, by rw [List.length_set]; exact k.tl, k.wl, by rw [counted_len]; exact k.cl, fun j u hu => ?_, fun s hs => ?_, k.nd, k.wd, counted_lt _ _ k.ct, fun j j' u u' hu hu' ho => ?_, fun j u hu s hs => ?_, k.ss⟩, rfl⟩
    · rcases set_get hu with ⟨z1, z2⟩ | ⟨z1, z2⟩
      · obtain ⟨p0, rfl⟩ := again_some z2.symm
        have := SjA.at_ge (d := t.due + t.period) (s := t.slack) (by omega)
        exact ⟨by show h.now < _; simp only; omega, t2, t3, Nat.lt_succ_self _⟩
      · obtain ⟨u1, u2, u3, u4⟩ := k.tm j u z2
        exact ⟨u1, u2, u3, Nat.lt_succ_of_lt u4⟩
    · obtain ⟨u1, u2, u3, u4⟩ := k.sl s hs
      exact ⟨u1, u2, Nat.lt_succ_of_lt u3, u4⟩
    · rcases set_get hu with ⟨z1, z2⟩ | ⟨z1, z2⟩
      · obtain ⟨p0, rfl⟩ := again_some z2.symm
        rcases set_get hu' with ⟨y1, y2⟩ | ⟨y1, y2⟩
        · rw [z1, y1]
        · have := (k.tm j' u' y2).2.2.2
          simp only at ho
          omega
      · rcases set_get hu' with ⟨y1, y2⟩ | ⟨y1, y2⟩
        · obtain ⟨p0, rfl⟩ := again_some y2.symm
          have := (k.tm j u z2).2.2.2
          simp only at ho
          omega
        · exact k.tt j j' u u' z2 y2 ho
    · rcases set_get hu with ⟨z1, z2⟩ | ⟨z1, z2⟩
      · obtain ⟨p0, rfl⟩ := again_some z2.symm
        have := (k.sl s hs).2.2.1
        simp only
        omega
      · exact k.ts j u z2 s hs
  · simp only at hb hi
    subst hb hi
    cases e
    rw [happens_hand]
    have sub : ∀ s', s' ∈ (h.asleep.filter fun r => r.hand != s.hand) → s' ∈ h.asleep := fun s' h => (List.mem_filter.mp h).1
    exact ⟨⟨k.nw, k.tl, k.wl, by rw [counted_len]; exact k.cl, k.tm, fun s' h' => k.sl s' (sub s' h'), nodup_filter _ _ k.nd, k.wd, counted_lt _ _ k.ct, k.tt, fun j u hu s' h' => k.ts j u hu s' (sub s' h'), nodup_filter _ _ k.ss⟩, rfl⟩
theorem cost_happens {h : House} {to : Nat} {x} (k : Ok h) (hx : x ∈ h.dues to) : cost to (h.happens x) + 1 ≤ cost to h := by
  obtain ⟨⟨d, o⟩, b, i⟩ := x
  rcases mem_dues.mp hx with ⟨hb, t, ht, hd, e⟩ | ⟨hb, s, hs, t, ht, hd, e, hi⟩
  · simp only at hb ht e
    subst hb
    cases e
    rw [happens_timer ht]
    unfold cost
    simp only
    have e1 := sum_set (tcost to) h.timers i (some t) (again t t.due h.order) ht
    have e2 : tcost to (some t) = (to - t.due) / 16 + 1 := if_pos hd
    have e3 : tcost to (again t t.due h.order) ≤ (to - t.due) / 16 := by
      cases z : again t t.due h.order with
      | none => exact Nat.zero_le _
      | some u =>
        obtain ⟨p0, rfl⟩ := again_some z
        have hp := (k.tm i t ht).2.1
        have := SjA.at_ge (d := t.due + t.period) (s := t.slack) (by omega)
        show (if Sj54.at_ (t.due + t.period) t.slack ≤ to then (to - Sj54.at_ (t.due + t.period) t.slack) / 16 + 1 else 0) ≤ _
        split <;> omega
    omega
  · simp only at hb hi
    subst hb hi
    cases e
    rw [happens_hand]
    unfold cost
    simp only
    have e1 := sum_filter_lt (scost to) (fun r => r.hand != s.hand) h.asleep s hs (by simp)
    have e2 : scost to s = 1 := by
      unfold scost
      rw [ht]
      exact if_pos hd
    omega
theorem nodup_lt_len : ∀ (n : Nat) (l : List Nat), l.Nodup → (∀ x ∈ l, x < n) → l.length ≤ n
  | 0, [], _, _ => Nat.le_refl _
  | 0, a :: l, _, h => absurd (h a (List.mem_cons_self ..)) (Nat.not_lt_zero _)
  | n + 1, l, nd, h => by
    have ih := nodup_lt_len n (l.filter fun x => x != n) (nd.sublist List.filter_sublist) fun x hx => by
      have := List.mem_filter.mp hx
      have h1 := h x this.1
      have h2 : x ≠ n := by simpa using this.2
      omega
    have e : l.length ≤ (l.filter fun x => x != n).length + 1 := by
      clear ih h
      induction l with
      | nil => exact Nat.zero_le _
      | cons a l ih =>
        have nd' := List.nodup_cons.mp nd
        rw [List.filter_cons]
        by_cases c : (a != n) = true
        · rw [if_pos c]
          have := ih nd'.2
          simp only [List.length_cons]
          omega
        · rw [if_neg c]
          have ea : a = n := by simpa using c
          subst ea
          have : (l.filter fun x => x != a) = l := List.filter_eq_self.mpr fun x hx => by
            simp only [bne_iff_ne, ne_eq]
            intro q
            subst q
            exact nd'.1 hx
          rw [this]
          simp
    omega
theorem Ok.asleep_len {h : House} (k : Ok h) : h.asleep.length ≤ 16 := by
  have := nodup_lt_len 16 (h.asleep.map (·.hand)) k.nd fun x hx => by
    obtain ⟨s, hs, rfl⟩ := List.mem_map.mp hx
    exact (k.sl s hs).1
  rwa [List.length_map] at this
theorem cost_le {h : House} (k : Ok h) {n : Nat} (hn : n ≤ 1000) : cost (h.now + n) h ≤ 4048 := by
  unfold cost
  have h1 : (h.timers.map (tcost (h.now + n))).sum ≤ h.timers.length * 63 := sum_le _ _ _ fun x hx => by
    cases x with
    | none => exact Nat.zero_le _
    | some t =>
      obtain ⟨i, hi⟩ := List.getElem?_of_mem hx
      have := (k.tm i t hi).1
      show (if t.due ≤ h.now + n then (h.now + n - t.due) / 16 + 1 else 0) ≤ 63
      split <;> omega
  have h2 : (h.asleep.map (scost (h.now + n))).sum ≤ h.asleep.length * 1 := sum_le _ _ _ fun x hx => by
    unfold scost
    split
    · exact Nat.zero_le _
    · split <;> omega
  have := k.asleep_len
  rw [k.tl] at h1
  omega
/-! ### until -/
theorem until_stop {f to : Nat} {h : House} (e : least (h.dues to) = none) : House.until f to h = h := by
  cases f with
  | zero => rfl
  | succ f =>
    unfold House.until
    rw [e]
theorem until_go {f to : Nat} {h : House} {x} (e : least (h.dues to) = some x) : House.until (f + 1) to h = House.until f to (h.happens x) := by
  conv => lhs; unfold House.until
  rw [e]
/-- what stands behind so many happenings -/
inductive Goes (to : Nat) : House → House → Prop where
  | here (h) : Goes to h h
  | more {h h' x} : least (h.dues to) = some x → Goes to (h.happens x) h' → Goes to h h'
/-- the end that until comes to, where its number is enough -/
theorem until_end : ∀ (f : Nat) {to : Nat} {h : House}, Ok h → cost to h ≤ f → Ok (House.until f to h) ∧ (House.until f to h).now = h.now ∧ (House.until f to h).dues to = [] ∧ (House.until f to h).events.length ≤ h.events.length + cost to h
  | 0, to, h, k, hc => by
    have : h.dues to = [] := by
      cases e : h.dues to with
      | nil => rfl
      | cons x l =>
        have := cost_happens k (show x ∈ h.dues to by rw [e]; exact List.mem_cons_self ..)
        omega
    exact ⟨k, rfl, this, Nat.le_add_right _ _⟩
  | f + 1, to, h, k, hc => by
    cases e : least (h.dues to) with
    | none =>
      rw [until_stop e]
      exact ⟨k, rfl, least_none _ e, Nat.le_add_right _ _⟩
    | some x =>
      have hx := least_mem _ _ e
      have h1 := cost_happens k hx
      obtain ⟨k2, n2⟩ := k.happens hx
      obtain ⟨a1, a2, a3, a4⟩ := until_end f (to := to) (h := h.happens x) k2 (by omega)
      rw [until_go e]
      refine ⟨a1, a2.trans n2, a3, ?_⟩
      have : (h.happens x).events.length ≤ h.events.length + 1 := by
        unfold House.happens
        split
        · split
          · omega
          · simp
        · simp
      omega
end SjF
namespace SjF
open Sj54
theorem isIn_iff {a b z : Int} : isIn a b z = true ↔ a ≤ z ∧ z ≤ b := by
  unfold isIn
  simp
theorem not_isIn {a b z : Int} : (!isIn a b z) = true ↔ ¬ (a ≤ z ∧ z ≤ b) := by
  rw [← isIn_iff]
  simp
theorem Ok.fresh : Ok ⟨0, 0, List.replicate TIMERS none, [], List.replicate WORDS 0, [], List.replicate 4 0⟩ := by
  have no : ∀ (i : Nat) (t : Timer), (List.replicate TIMERS (none : Option Timer))[i]? = some (some t) → False := fun i t h => by
    rw [List.getElem?_replicate] at h
    split at h <;> simp at h
  refine ⟨by decide, by simp [TIMERS], by simp [WORDS], by simp, fun i t h => (no i t h).elim, fun s h => by simp at h, by simp, fun w h => ?_, fun w h => ?_, fun i j t u h => (no i t h).elim, fun i t h => (no i t h).elim, by simp⟩
  · have := List.eq_of_mem_replicate h
    omega
  · have := List.eq_of_mem_replicate h
    omega
/-- a part of those asleep, with their order kept or not: what is asked of them alone -/
theorem Ok.part {h : House} (k : Ok h) (p : Sleeper → Bool) : Ok { h with asleep := h.asleep.filter p } := by
  have sub : ∀ s', s' ∈ (h.asleep.filter p) → s' ∈ h.asleep := fun s' h => (List.mem_filter.mp h).1
  exact ⟨k.nw, k.tl, k.wl, k.cl, k.tm, fun s' h' => k.sl s' (sub s' h'), nodup_filter _ _ k.nd, k.wd, k.ct, k.tt, fun j u hu s' h' => k.ts j u hu s' (sub s' h'), nodup_filter _ _ k.ss⟩
theorem Ok.woken {h : House} (k : Ok h) (c : Nat) (l : List Sleeper) : Ok (h.woken c l) := by
  have k2 := k.part fun s => !l.contains s
  exact ⟨k2.nw, k2.tl, k2.wl, (counted_len _ _ _).trans k2.cl, k2.tm, k2.sl, k2.nd, k2.wd, counted_lt _ _ k2.ct, k2.tt, k2.ts, k2.ss⟩
theorem Ok.words {h : House} (k : Ok h) (w v : Nat) (hv : v < 4294967296) : Ok { h with words := h.words.set w v } :=
  ⟨k.nw, k.tl, by show (h.words.set w v).length = 64; rw [List.length_set]; exact k.wl, k.cl, k.tm, k.sl, k.nd, fun x hx => by
    rcases List.mem_or_eq_of_mem_set hx with z | z
    · exact k.wd x z
    · rw [z]; exact hv, k.ct, k.tt, k.ts, k.ss⟩
theorem Ok.store {h : House} (k : Ok h) (w v : Nat) (hv : v < 4294967296) : Ok (h.store w v).1 := (k.words w v hv).woken _ _
theorem Ok.wake {h : House} (k : Ok h) (w n : Nat) : Ok (h.wake w n).1 := k.woken _ _
theorem at_sub (h : House) (w : Nat) (b : Bool) : (h.at_ w b).Sublist h.asleep := List.filter_sublist
theorem nodup_of_map {α β : Type} (g : α → β) {l : List α} (h : (l.map g).Nodup) : l.Nodup := by
  induction l with
  | nil => simp
  | cons a l ih =>
    rw [List.map_cons, List.nodup_cons] at h
    exact List.nodup_cons.mpr ⟨fun q => h.1 (List.mem_map_of_mem q), ih h.2⟩
/-- of a list without two alike, a part and what is not in it, in any order, have by a sign just the signs there were -/
theorem parted {α β : Type} [BEq α] [LawfulBEq α] (g g' : α → β) {l m : List α} (h : (l.map g).Nodup) (hm : m.Sublist l) (hg : ∀ x, g' x = g x) : ((l.filter (fun s => !m.contains s)).map g ++ m.map g').Nodup := by
  have em : m.map g' = m.map g := List.map_congr_left fun x _ => hg x
  rw [em, List.nodup_append]
  refine ⟨nodup_filter g _ h, h.sublist (hm.map g), fun a ha b hb e => ?_⟩
  subst e
  obtain ⟨x, hx, rfl⟩ := List.mem_map.mp ha
  obtain ⟨y, hy, ey⟩ := List.mem_map.mp hb
  obtain ⟨hx1, hx2⟩ := List.mem_filter.mp hx
  have hy1 := hm.subset hy
  have : y = x := by
    clear ha hb hx hx2 hg em hm hy
    induction l with
    | nil => simp at hx1
    | cons a l ih =>
      rw [List.map_cons, List.nodup_cons] at h
      rcases List.mem_cons.mp hx1 with rfl | q
      · rcases List.mem_cons.mp hy1 with rfl | r
        · rfl
        · exact absurd (List.mem_map.mpr ⟨y, r, ey⟩) h.1
      · rcases List.mem_cons.mp hy1 with rfl | r
        · exact absurd (List.mem_map.mpr ⟨x, q, ey.symm⟩) h.1
        · exact ih h.2 q r
  subst this
  simp at hx2
  exact hx2 hy
theorem Ok.move {h : House} (k : Ok h) (w to n : Nat) (ht : to < 64) : Ok (h.move w to n).1 := by
  have hm : ((h.at_ w false).take n).Sublist h.asleep := (List.take_sublist _ _).trans (at_sub h w false)
  have mem : ∀ s, s ∈ (h.asleep.filter (fun s => !((h.at_ w false).take n).contains s)) ++ ((h.at_ w false).take n).map (fun s => { s with word := to }) → ∃ s', s' ∈ h.asleep ∧ (s = s' ∨ s = { s' with word := to }) := fun s hs => by
    rcases List.mem_append.mp hs with q | q
    · exact ⟨s, (List.mem_filter.mp q).1, .inl rfl⟩
    · obtain ⟨s', h1, rfl⟩ := List.mem_map.mp q
      exact ⟨s', hm.subset h1, .inr rfl⟩
  refine ⟨k.nw, k.tl, k.wl, k.cl, k.tm, fun s hs => ?_, ?_, k.wd, k.ct, k.tt, fun i t hi s hs => ?_, ?_⟩
  · obtain ⟨s', h1, h2⟩ := mem s hs
    obtain ⟨a1, a2, a3, a4⟩ := k.sl s' h1
    rcases h2 with rfl | rfl
    · exact ⟨a1, a2, a3, a4⟩
    · exact ⟨a1, ht, a3, a4⟩
  · show (List.map (fun (x : Sleeper) => x.hand) (_ ++ _)).Nodup
    rw [List.map_append, List.map_map]
    exact parted (fun (x : Sleeper) => x.hand) _ k.nd hm fun _ => rfl
  · obtain ⟨s', h1, h2⟩ := mem s hs
    have := k.ts i t hi s' h1
    rcases h2 with rfl | rfl
    · exact this
    · exact this
  · show (List.map (fun (x : Sleeper) => x.order) (_ ++ _)).Nodup
    rw [List.map_append, List.map_map]
    exact parted (fun (x : Sleeper) => x.order) _ k.ss hm fun _ => rfl
theorem Ok.set {h : House} (k : Ok h) (i due period slack : Nat) (h1 : h.now < due) (h2 : period = 0 ∨ (16 ≤ period ∧ period ≤ 16777216)) (h3 : slack ≤ 65535) :
    Ok { h with timers := h.timers.set i (some ⟨due, period, slack, h.order⟩), order := h.order + 1 } := by
  refine ⟨k.nw, by show (h.timers.set _ _).length = 64; rw [List.length_set]; exact k.tl, k.wl, k.cl, fun j u hu => ?_, fun s hs => ?_, k.nd, k.wd, k.ct, fun j j' u u' hu hu' ho => ?_, fun j u hu s hs => ?_, k.ss⟩
  · rcases set_get hu with ⟨z1, z2⟩ | ⟨z1, z2⟩
    · cases z2
      exact ⟨h1, h2, h3, Nat.lt_succ_self _⟩
    · obtain ⟨u1, u2, u3, u4⟩ := k.tm j u z2
      exact ⟨u1, u2, u3, Nat.lt_succ_of_lt u4⟩
  · obtain ⟨u1, u2, u3, u4⟩ := k.sl s hs
    exact ⟨u1, u2, Nat.lt_succ_of_lt u3, u4⟩
  · rcases set_get hu with ⟨z1, z2⟩ | ⟨z1, z2⟩
    · cases z2
      rcases set_get hu' with ⟨y1, y2⟩ | ⟨y1, y2⟩
      · rw [z1, y1]
      · have := (k.tm j' u' y2).2.2.2
        simp only at ho
        omega
    · rcases set_get hu' with ⟨y1, y2⟩ | ⟨y1, y2⟩
      · cases y2
        have := (k.tm j u z2).2.2.2
        simp only at ho
        omega
      · exact k.tt j j' u u' z2 y2 ho
  · rcases set_get hu with ⟨z1, z2⟩ | ⟨z1, z2⟩
    · cases z2
      have := (k.sl s hs).2.2.1
      simp only
      omega
    · exact k.ts j u z2 s hs
theorem Ok.halt {h : House} (k : Ok h) (i : Nat) : Ok { h with timers := h.timers.set i none } := by
  have sub : ∀ (j : Nat) (u : Timer), (h.timers.set i none)[j]? = some (some u) → h.timers[j]? = some (some u) := fun j u hu => by
    rcases set_get hu with ⟨z1, z2⟩ | ⟨z1, z2⟩
    · cases z2
    · exact z2
  exact ⟨k.nw, by show (h.timers.set _ _).length = 64; rw [List.length_set]; exact k.tl, k.wl, k.cl, fun j u hu => k.tm j u (sub j u hu), k.sl, k.nd, k.wd, k.ct, fun j j' u u' hu hu' ho => k.tt j j' u u' (sub j u hu) (sub j' u' hu') ho, fun j u hu s hs => k.ts j u (sub j u hu) s hs, k.ss⟩
theorem Ok.sleep {h : House} (k : Ok h) (s : Sleeper) (h1 : s.hand < 16) (h2 : s.word < 64) (h3 : s.order = h.order) (h4 : ∀ t, s.till = some t → h.now < t) (h5 : ∀ r ∈ h.asleep, r.hand ≠ s.hand) :
    Ok { h with asleep := h.asleep ++ [s], order := h.order + 1 } := by
  refine ⟨k.nw, k.tl, k.wl, k.cl, fun j u hu => ?_, fun r hr => ?_, ?_, k.wd, k.ct, k.tt, fun j u hu r hr => ?_, ?_⟩
  · obtain ⟨u1, u2, u3, u4⟩ := k.tm j u hu
    exact ⟨u1, u2, u3, Nat.lt_succ_of_lt u4⟩
  · rcases List.mem_append.mp hr with q | q
    · obtain ⟨u1, u2, u3, u4⟩ := k.sl r q
      exact ⟨u1, u2, Nat.lt_succ_of_lt u3, u4⟩
    · have e : r = s := by simpa using q
      subst e
      exact ⟨h1, h2, by rw [h3]; exact Nat.lt_succ_self _, h4⟩
  · show (List.map (·.hand) (h.asleep ++ [s])).Nodup
    rw [List.map_append, List.nodup_append]
    refine ⟨k.nd, by simp, fun a ha b hb e => ?_⟩
    obtain ⟨r, hr, rfl⟩ := List.mem_map.mp ha
    have : b = s.hand := by simpa using hb
    exact h5 r hr (e.trans this)
  · rcases List.mem_append.mp hr with q | q
    · exact k.ts j u hu r q
    · have e : r = s := by simpa using q
      subst e
      have := (k.tm j u hu).2.2.2
      omega
  · show (List.map (·.order) (h.asleep ++ [s])).Nodup
    rw [List.map_append, List.nodup_append]
    refine ⟨k.ss, by simp, fun a ha b hb e => ?_⟩
    obtain ⟨r, hr, rfl⟩ := List.mem_map.mp ha
    have : b = s.order := by simpa using hb
    have := (k.sl r hr).2.2.1
    omega
theorem Ok.tick {h : House} (k : Ok h) {n : Nat} (hn : n ≤ 1000) (h2 : h.now + n ≤ 1073741824) : Ok (h.tick n) := by
  obtain ⟨k2, e2, e3, _⟩ := until_end 8192 (to := h.now + n) k (by have := cost_le k hn; omega)
  have no : ∀ x, x ∉ (House.until 8192 (h.now + n) h).dues (h.now + n) := fun x hx => by rw [e3] at hx; simp at hx
  refine ⟨h2, k2.tl, k2.wl, k2.cl, fun i t hi => ?_, fun s hs => ?_, k2.nd, k2.wd, k2.ct, k2.tt, k2.ts, k2.ss⟩
  · obtain ⟨a1, a2, a3, a4⟩ := k2.tm i t hi
    refine ⟨?_, a2, a3, a4⟩
    show h.now + n < t.due
    apply Classical.byContradiction
    intro c
    exact no ((t.due, t.order), true, i) (mem_dues.mpr (.inl ⟨rfl, t, hi, by omega, rfl⟩))
  · obtain ⟨a1, a2, a3, a4⟩ := k2.sl s hs
    refine ⟨a1, a2, a3, fun t ht => ?_⟩
    show h.now + n < t
    apply Classical.byContradiction
    intro c
    exact no ((t, s.order), false, s.hand) (mem_dues.mpr (.inr ⟨rfl, s, hs, t, ht, by omega, rfl, rfl⟩))
theorem tick_events {h : House} (k : Ok h) {n : Nat} (hn : n ≤ 1000) : (h.tick n).events.length ≤ h.events.length + 4048 := by
  obtain ⟨_, _, _, e4⟩ := until_end 8192 (to := h.now + n) k (by have := cost_le k hn; omega)
  have := cost_le k hn
  show (House.until 8192 (h.now + n) h).events.length ≤ _
  omega
/-- **each call leaves a house that is as told** -/
theorem Ok.on {h : House} (k : Ok h) (c : Call) : Ok (Sj54.on h c).1 := by
  cases c with
  | open_ => exact k
  | set t d p s =>
    show Ok (ite _ _ _ : House × Ans).1
    split
    · exact k
    · rename_i c
      simp only [Bool.or_eq_true, not_or, not_isIn, Classical.not_not] at c
      obtain ⟨⟨⟨c1, c2⟩, c3⟩, c4⟩ := c
      have c3' : p = 0 ∨ (16 ≤ p ∧ p ≤ 2 ^ 24) := by
        have : (p == 0 || isIn 16 (2 ^ 24) p) = true := by
          cases z : (p == 0 || isIn 16 (2 ^ 24) p)
          · rw [z] at c3; simp at c3
          · rfl
        rw [Bool.or_eq_true, isIn_iff] at this
        simpa using this
      have g := SjA.at_ge (d := h.now + d.toNat) (s := s.toNat) (by omega)
      exact k.set _ _ _ _ (by omega) (by omega) (by omega)
  | halt_ t =>
    show Ok (ite _ _ _ : House × Ans).1
    split
    · exact k
    · exact k.halt _
  | left t =>
    show Ok (ite _ _ _ : House × Ans).1
    split
    · exact k
    · split <;> exact k
  | sleep kk w v b l =>
    show Ok (ite _ _ (ite _ _ (ite _ _ _)) : House × Ans).1
    split
    · exact k
    · rename_i c
      split
      · exact k
      · rename_i c5
        split
        · exact k
        · simp only [Bool.or_eq_true, not_or, isWord, isValue, not_isIn, Classical.not_not] at c
          obtain ⟨⟨⟨⟨c1, c2⟩, c3⟩, c4⟩, c6⟩ := c
          refine k.sleep _ (by show kk.toNat < 16; omega) (by show w.toNat < 64; omega) rfl (fun t ht => ?_) (fun r hr e => c5 ?_)
          · by_cases z : l = 0
            · simp [z] at ht
            · simp [z] at ht
              omega
          · rw [List.any_eq_true]
            exact ⟨r, hr, by simpa using e⟩
  | store w v =>
    show Ok (ite _ _ _ : House × Ans).1
    split
    · exact k
    · rename_i c
      simp only [Bool.or_eq_true, not_or, isWord, isValue, not_isIn, Classical.not_not] at c
      exact k.store _ _ (by omega)
  | add w v =>
    show Ok (ite _ _ _ : House × Ans).1
    split
    · exact k
    · exact k.store _ _ (Nat.mod_lt _ (by decide))
  | wake w n =>
    show Ok (ite _ _ _ : House × Ans).1
    split
    · exact k
    · exact k.wake _ _
  | move w t n =>
    show Ok (ite _ _ _ : House × Ans).1
    split
    · exact k
    · rename_i c
      simp only [Bool.or_eq_true, not_or, isWord, not_isIn, Classical.not_not] at c
      exact k.move _ _ _ (by omega)
  | tick n =>
    show Ok (ite _ _ (ite _ _ _) : House × Ans).1
    split
    · exact k
    · rename_i c
      split
      · exact k
      · simp only [Bool.or_eq_true, not_or, not_isIn, Classical.not_not, nat] at c
        obtain ⟨c1, c2⟩ := c
        have c3 : ¬ ((2 : Int) ^ 30 < (h.now : Int) + n) := fun z => c2 (decide_eq_true z)
        exact k.tick (by omega) (by omega)
  | next =>
    show Ok (match h.events with | [] => _ | e :: l => _ : House × Ans).1
    split
    · exact k
    · exact ⟨k.nw, k.tl, k.wl, k.cl, k.tm, k.sl, k.nd, k.wd, k.ct, k.tt, k.ts, k.ss⟩
  | hand kk =>
    show Ok (ite _ _ _ : House × Ans).1
    split
    · exact k
    · split <;> exact k
  | word w =>
    show Ok (ite _ _ _ : House × Ans).1
    split <;> exact k
  | counts => exact k
end SjF
namespace SjP
open Sj54
theorem whole_id (c : List (List Int)) : PySj54.whole c = c := by
  unfold PySj54.whole
  split <;> rfl
theorem map_whole (l : List (List (List Int))) : l.map PySj54.whole = l := by
  induction l with
  | nil => rfl
  | cons a l ih => rw [List.map_cons, whole_id, ih]
theorem shape_row {p : Int} {n k : Nat} (h : PySj54.shape p = some (n, k)) : k = 0 ∧ ((p = 1 ∧ n = 0) ∨ (p = 2 ∧ n = 4) ∨ (p = 3 ∧ n = 1) ∨ (p = 4 ∧ n = 1) ∨ (p = 5 ∧ n = 5) ∨ (p = 6 ∧ n = 2) ∨ (p = 7 ∧ n = 2) ∨ (p = 8 ∧ n = 2) ∨ (p = 9 ∧ n = 3) ∨ (p = 10 ∧ n = 1) ∨ (p = 11 ∧ n = 0) ∨ (p = 12 ∧ n = 1) ∨ (p = 13 ∧ n = 1) ∨ (p = 14 ∧ n = 0)) := by
  have fin : ∀ {a b : Nat}, some (a, b) = some (n, k) → n = a ∧ k = b := fun e => by
    cases e
    exact ⟨rfl, rfl⟩
  unfold PySj54.shape at h
  by_cases c1 : p = 1
  · rw [if_pos c1] at h
    have e := fin h
    exact ⟨e.2, .inl ⟨c1, e.1⟩⟩
  rw [if_neg c1] at h
  by_cases c2 : p = 2
  · rw [if_pos c2] at h
    have e := fin h
    exact ⟨e.2, .inr (.inl ⟨c2, e.1⟩)⟩
  rw [if_neg c2] at h
  by_cases c3 : p = 3
  · rw [if_pos c3] at h
    have e := fin h
    exact ⟨e.2, .inr (.inr (.inl ⟨c3, e.1⟩))⟩
  rw [if_neg c3] at h
  by_cases c4 : p = 4
  · rw [if_pos c4] at h
    have e := fin h
    exact ⟨e.2, .inr (.inr (.inr (.inl ⟨c4, e.1⟩)))⟩
  rw [if_neg c4] at h
  by_cases c5 : p = 5
  · rw [if_pos c5] at h
    have e := fin h
    exact ⟨e.2, .inr (.inr (.inr (.inr (.inl ⟨c5, e.1⟩))))⟩
  rw [if_neg c5] at h
  by_cases c6 : p = 6
  · rw [if_pos c6] at h
    have e := fin h
    exact ⟨e.2, .inr (.inr (.inr (.inr (.inr (.inl ⟨c6, e.1⟩)))))⟩
  rw [if_neg c6] at h
  by_cases c7 : p = 7
  · rw [if_pos c7] at h
    have e := fin h
    exact ⟨e.2, .inr (.inr (.inr (.inr (.inr (.inr (.inl ⟨c7, e.1⟩))))))⟩
  rw [if_neg c7] at h
  by_cases c8 : p = 8
  · rw [if_pos c8] at h
    have e := fin h
    exact ⟨e.2, .inr (.inr (.inr (.inr (.inr (.inr (.inr (.inl ⟨c8, e.1⟩)))))))⟩
  rw [if_neg c8] at h
  by_cases c9 : p = 9
  · rw [if_pos c9] at h
    have e := fin h
    exact ⟨e.2, .inr (.inr (.inr (.inr (.inr (.inr (.inr (.inr (.inl ⟨c9, e.1⟩))))))))⟩
  rw [if_neg c9] at h
  by_cases c10 : p = 10
  · rw [if_pos c10] at h
    have e := fin h
    exact ⟨e.2, .inr (.inr (.inr (.inr (.inr (.inr (.inr (.inr (.inr (.inl ⟨c10, e.1⟩)))))))))⟩
  rw [if_neg c10] at h
  by_cases c11 : p = 11
  · rw [if_pos c11] at h
    have e := fin h
    exact ⟨e.2, .inr (.inr (.inr (.inr (.inr (.inr (.inr (.inr (.inr (.inr (.inl ⟨c11, e.1⟩))))))))))⟩
  rw [if_neg c11] at h
  by_cases c12 : p = 12
  · rw [if_pos c12] at h
    have e := fin h
    exact ⟨e.2, .inr (.inr (.inr (.inr (.inr (.inr (.inr (.inr (.inr (.inr (.inr (.inl ⟨c12, e.1⟩)))))))))))⟩
  rw [if_neg c12] at h
  by_cases c13 : p = 13
  · rw [if_pos c13] at h
    have e := fin h
    exact ⟨e.2, .inr (.inr (.inr (.inr (.inr (.inr (.inr (.inr (.inr (.inr (.inr (.inr (.inl ⟨c13, e.1⟩))))))))))))⟩
  rw [if_neg c13] at h
  by_cases c14 : p = 14
  · rw [if_pos c14] at h
    have e := fin h
    exact ⟨e.2, .inr (.inr (.inr (.inr (.inr (.inr (.inr (.inr (.inr (.inr (.inr (.inr (.inr (⟨c14, e.1⟩)))))))))))))⟩
  rw [if_neg c14] at h
  cases h
theorem calls_cons {f : Nat} {p : Int} {r : List Int} {raw : List (List (List Int))} (h : PyFlat.calls PySj54.shape f (p :: r) = some raw) :
    ∃ n args t raw' f', PySj54.shape p = some (n, 0) ∧ r = args ++ t ∧ args.length = n ∧ raw = [p :: args] :: raw' ∧ PyFlat.calls PySj54.shape f' t = some raw' := by
  cases f with
  | zero => simp [PyFlat.calls] at h
  | succ f =>
    unfold PyFlat.calls at h
    cases e : PyFlat.call PySj54.shape (p :: r) with
    | none => rw [e] at h; simp at h
    | some ct =>
      obtain ⟨c, t⟩ := ct
      rw [e] at h
      simp only at h
      cases e2 : PyFlat.calls PySj54.shape f t with
      | none => rw [e2] at h; simp at h
      | some cs =>
        rw [e2] at h
        simp only [Option.some.injEq] at h
        cases e3 : PySj54.shape p with
        | none => simp [PyFlat.call, e3] at e
        | some nk =>
          obtain ⟨n, k⟩ := nk
          obtain ⟨rfl, _⟩ := shape_row e3
          simp only [PyFlat.call, e3, PyFlat.rows] at e
          split at e
          · cases e
          · rename_i hl
            simp only [Option.some.injEq, Prod.mk.injEq] at e
            obtain ⟨e4, e5⟩ := e
            exact ⟨n, r.take n, t, cs, f, rfl, by rw [← e5, List.take_append_drop], by rw [List.length_take]; omega, by rw [← h, ← e4], e2⟩
theorem calls_nil {f : Nat} {raw : List (List (List Int))} (h : PyFlat.calls PySj54.shape f [] = some raw) : raw = [] := by
  cases f <;> simp [PyFlat.calls] at h <;> exact h
/-- what the rest of a list's calls is told to answer -/
def rest (s : State) (raw : List (List (List Int))) : List Int := PyFlat.told (PyFlat.played Sj54Neutral.step s raw)
theorem rest_nil (s : State) : rest s [] = [] := rfl
theorem rest_cons (s : State) (c : List (List Int)) (raw : List (List (List Int))) :
    rest s (c :: raw) = (((Sj54Neutral.step s c).2.length : Int) :: (Sj54Neutral.step s c).2) ++ rest (Sj54Neutral.step s c).1 raw := by
  show PyFlat.told ((Sj54Neutral.step s c).2 :: PyFlat.played Sj54Neutral.step (Sj54Neutral.step s c).1 raw) = _
  unfold rest PyFlat.told
  rw [List.flatMap_cons]
structure Asked (l : List Int) (raw : List (List (List Int))) : Prop where
  ne : raw ≠ []
  most : raw.length ≤ 60
  ins : ∀ c ∈ raw, PyInside.call PySj54.bound c = true
  one : ∀ c ∈ raw, Sj54Neutral.asked1 c = true
  eq : PySj54.answers l = rest none raw
theorem asked_of {l : List Int} (h : PySj54.answers_asked l = true) : ∃ raw, PyFlat.calls PySj54.shape l.length l = some raw ∧ Asked l raw := by
  unfold PySj54.answers_asked at h
  cases e : PyFlat.calls PySj54.shape l.length l with
  | none => rw [e] at h; simp at h
  | some raw =>
    rw [e] at h
    simp only [Bool.and_eq_true] at h
    obtain ⟨⟨⟨⟨h1, h2⟩, h3⟩, h4⟩, h5⟩ := h
    refine ⟨raw, rfl, ?_, ?_, ?_, ?_, ?_⟩
    · intro q
      subst q
      simp at h1
    · simpa [PyFlat.atMost] using h2
    · exact List.all_eq_true.mp h3
    · rw [map_whole] at h4
      unfold Sj54Neutral.asked at h4
      rw [Bool.and_eq_true] at h4
      exact List.all_eq_true.mp h4.1
    · unfold PySj54.answers PySj54.calls
      rw [e]
      simp only
      rw [map_whole]
      rfl
/-- a call's answer by its kind -/
theorem step_of {s : State} {l : List Int} {q : Call} (h : Sj54Neutral.callOf l = some q) : Sj54Neutral.step s [l] = ((Sj54.step s q).1, (Sj54.step s q).2.v :: (Sj54.step s q).2.l) := by
  unfold Sj54Neutral.step
  show (match Sj54Neutral.callOf l with | none => _ | some q => _) = _
  rw [h]
/-- the kinds of calls, by their numbers -/
inductive Kind : Int → List Int → Call → Prop where
  | k1 : Kind 1 [] .open_
  | k2 (a b c d) : Kind 2 [a, b, c, d] (.set a b c d)
  | k3 (a) : Kind 3 [a] (.halt_ a)
  | k4 (a) : Kind 4 [a] (.left a)
  | k5 (a b c d e) : 0 ≤ c → Kind 5 [a, b, c, d, e] (.sleep a b c d e)
  | k6 (a b) : 0 ≤ b → Kind 6 [a, b] (.store a b)
  | k7 (a b) : 0 ≤ b → Kind 7 [a, b] (.add a b)
  | k8 (a b) : Kind 8 [a, b] (.wake a b)
  | k9 (a b c) : Kind 9 [a, b, c] (.move a b c)
  | k10 (a) : Kind 10 [a] (.tick a)
  | k11 : Kind 11 [] .next
  | k12 (a) : Kind 12 [a] (.hand a)
  | k13 (a) : Kind 13 [a] (.word a)
  | k14 : Kind 14 [] .counts
theorem callOf_kind {p : Int} {args : List Int} {q : Call} (h : Sj54Neutral.callOf (p :: args) = some q) : Kind p args q := by
  unfold Sj54Neutral.callOf at h
  split at h
  all_goals first
    | (cases h; done)
    | (rename_i e; cases e; cases h; constructor; done)
    | (rename_i e; cases e; split at h
       · cases h
         first
           | (constructor; done)
           | (rename_i c; constructor; exact c.2)
       · cases h)
theorem asked1_kind {p : Int} {args : List Int} (h : Sj54Neutral.asked1 [p :: args] = true) : (∀ x ∈ args, -2147483648 ≤ x ∧ x < 4294967296) ∧ ∃ q, Kind p args q ∧ ∀ s, Sj54Neutral.step s [p :: args] = ((Sj54.step s q).1, (Sj54.step s q).2.v :: (Sj54.step s q).2.l) := by
  unfold Sj54Neutral.asked1 at h
  simp only [Bool.and_eq_true] at h
  obtain ⟨_, h2, h3⟩ := h
  refine ⟨fun x hx => ?_, ?_⟩
  · have := List.all_eq_true.mp h2 x (List.mem_cons_of_mem _ hx)
    rw [Bool.and_eq_true] at this
    have a := of_decide_eq_true this.1
    have b := of_decide_eq_true this.2
    exact ⟨by omega, by omega⟩
  · obtain ⟨q, hq⟩ := Option.isSome_iff_exists.mp h3
    exact ⟨q, callOf_kind hq, fun s => step_of hq⟩
/-- how many numbers each kind has -/
theorem Kind.shape {p : Int} {args : List Int} {q : Call} (k : Kind p args q) : PySj54.shape p = some (args.length, 0) := by
  cases k <;> rfl
end SjP
namespace SjF
open Sj54
/-- one hand wakes: it is taken out, and that is kept -/
def one (k : Nat) (h : House) (s : Sleeper) : House :=
  { h with asleep := h.asleep.filter fun r => r.hand != s.hand, events := h.events ++ [(k, s.hand, h.now)], counts := counted h.counts k 1 }
def wakes (k : Nat) (h : House) (l : List Sleeper) : House := l.foldl (one k) h
theorem counted_zero {c : List Nat} {k : Nat} (h : ∀ x ∈ c, x < 4294967296) : counted c k 0 = c := by
  unfold counted
  by_cases hk : k < c.length
  · have e : c[k]? = some c[k] := List.getElem?_eq_getElem hk
    rw [List.getD_eq_getElem?_getD, e]
    show c.set k ((c[k] + 0) % W) = c
    have : c[k] < 4294967296 := h _ (List.getElem_mem hk)
    rw [Nat.add_zero, Nat.mod_eq_of_lt (by show c[k] < 2 ^ 32; omega)]
    exact List.set_getElem_self hk
  · exact List.set_eq_of_length_le (by omega)
theorem counted_more (c : List Nat) (k n : Nat) : counted (counted c k 1) k n = counted c k (n + 1) := by
  unfold counted
  by_cases hk : k < c.length
  · rw [List.set_set]
    congr 1
    rw [List.getD_eq_getElem?_getD, List.getElem?_set_self hk]
    show ((c.getD k 0 + 1) % W + n) % W = _
    rw [Nat.mod_add_mod]
    congr 1
    omega
  · rw [List.set_eq_of_length_le (by omega : c.length ≤ k), List.set_eq_of_length_le (by omega : c.length ≤ k), List.set_eq_of_length_le (by omega : c.length ≤ k)]
theorem wakes_form (k : Nat) : ∀ (l : List Sleeper) (h : House), (∀ x ∈ h.counts, x < 4294967296) →
    wakes k h l = { h with asleep := h.asleep.filter fun s => !(l.map (·.hand)).contains s.hand, events := h.events ++ l.map (fun s => (k, s.hand, h.now)), counts := counted h.counts k l.length }
  | [], h, hc => by
    have e : h.asleep.filter (fun s => !(([] : List Sleeper).map (·.hand)).contains s.hand) = h.asleep := List.filter_eq_self.mpr fun _ _ => rfl
    show h = { h with asleep := _, events := h.events ++ [], counts := counted h.counts k 0 }
    rw [e, counted_zero hc, List.append_nil]
  | s :: l, h, hc => by
    show wakes k (one k h s) l = _
    rw [wakes_form k l (one k h s) (counted_lt _ _ hc)]
    unfold one
    simp only [counted_more, List.filter_filter, List.append_assoc, List.map_cons, List.length_cons, List.cons_append, List.nil_append]
    congr 1
    apply List.filter_congr
    intro r _
    rw [List.contains_cons]
    cases e1 : (r.hand == s.hand) <;> simp [bne, e1]
/-- of those asleep, those whose hand is in a part are just those in the part -/
theorem hands_in {l m : List Sleeper} (nd : (m.map (·.hand)).Nodup) (sub : ∀ s ∈ l, s ∈ m) : m.filter (fun s => !(l.map (·.hand)).contains s.hand) = m.filter fun s => !l.contains s := by
  apply List.filter_congr
  intro r hr
  congr 1
  rw [Bool.eq_iff_iff, List.contains_iff_mem, List.contains_iff_mem]
  constructor
  · intro z
    obtain ⟨s, hs, e⟩ := List.mem_map.mp z
    have hs2 := sub s hs
    have : s = r := by
      clear z hs sub
      induction m with
      | nil => simp at hr
      | cons a m ih =>
        rw [List.map_cons, List.nodup_cons] at nd
        rcases List.mem_cons.mp hr with rfl | q
        · rcases List.mem_cons.mp hs2 with rfl | q2
          · rfl
          · exact absurd (List.mem_map.mpr ⟨s, q2, e⟩) nd.1
        · rcases List.mem_cons.mp hs2 with rfl | q2
          · exact absurd (List.mem_map.mpr ⟨r, q, e.symm⟩) nd.1
          · exact ih nd.2 q q2
    rw [← this]
    exact hs
  · intro z
    exact List.mem_map.mpr ⟨r, z, rfl⟩
theorem wakes_is {h : House} (k : Ok h) (c : Nat) (l : List Sleeper) (sub : ∀ s ∈ l, s ∈ h.asleep) : wakes c h l = h.woken c l := by
  rw [wakes_form c l h k.ct, hands_in k.nd sub]
  rfl
theorem wakes_snoc (k : Nat) (h : House) (l : List Sleeper) (s : Sleeper) : wakes k h (l ++ [s]) = one k (wakes k h l) s := by
  unfold wakes
  rw [List.foldl_append]
  rfl
theorem wakes_now (k : Nat) (h : House) (l : List Sleeper) (hc : ∀ x ∈ h.counts, x < 4294967296) : (wakes k h l).now = h.now := by rw [wakes_form k l h hc]
theorem wakes_counts (k : Nat) (h : House) (l : List Sleeper) (hc : ∀ x ∈ h.counts, x < 4294967296) : (wakes k h l).counts.length = h.counts.length := by
  rw [wakes_form k l h hc]
  exact counted_len _ _ _
theorem wakes_events (k : Nat) (h : House) (l : List Sleeper) (hc : ∀ x ∈ h.counts, x < 4294967296) : (wakes k h l).events.length = h.events.length + l.length := by
  rw [wakes_form k l h hc]
  simp
/-- who is next is still asleep -/
theorem wakes_next {h : House} {k : Nat} {l : List Sleeper} {s : Sleeper} (hc : ∀ x ∈ h.counts, x < 4294967296) (hs : s ∈ h.asleep) (n : s.hand ∉ l.map (·.hand)) : s ∈ (wakes k h l).asleep := by
  rw [wakes_form k l h hc]
  refine List.mem_filter.mpr ⟨hs, ?_⟩
  simp only [Bool.not_eq_true', ← Bool.not_eq_true, List.contains_iff_mem]
  exact n
end SjF
namespace SjF
open Sj54
theorem woken_events {h : House} (k : Ok h) (c : Nat) {l : List Sleeper} (hl : l.Sublist h.asleep) : (h.woken c l).events.length ≤ h.events.length + 16 := by
  have e : (h.woken c l).events.length = h.events.length + l.length := by
    unfold House.woken
    simp
  have := hl.length_le
  have := k.asleep_len
  omega
/-- how many things more there may be behind a call -/
theorem on_events {h : House} (k : Ok h) (c : Call) : (on h c).1.events.length ≤ h.events.length + 16 ∨ (on h c).1.events.length ≤ 5072 := by
  cases c with
  | open_ => exact .inl (Nat.le_add_right _ _)
  | set t d p s =>
    show (ite _ _ _ : House × Ans).1.events.length ≤ _ ∨ _
    split <;> exact .inl (Nat.le_add_right _ _)
  | halt_ t =>
    show (ite _ _ _ : House × Ans).1.events.length ≤ _ ∨ _
    split <;> exact .inl (Nat.le_add_right _ _)
  | left t =>
    show (ite _ _ _ : House × Ans).1.events.length ≤ _ ∨ _
    split
    · exact .inl (Nat.le_add_right _ _)
    · split <;> exact .inl (Nat.le_add_right _ _)
  | sleep kk w v b l =>
    show (ite _ _ (ite _ _ (ite _ _ _)) : House × Ans).1.events.length ≤ _ ∨ _
    split
    · exact .inl (Nat.le_add_right _ _)
    · split
      · exact .inl (Nat.le_add_right _ _)
      · split <;> exact .inl (Nat.le_add_right _ _)
  | store w v =>
    show (ite _ _ _ : House × Ans).1.events.length ≤ _ ∨ _
    split
    · exact .inl (Nat.le_add_right _ _)
    · rename_i c
      simp only [Bool.or_eq_true, not_or, isWord, isValue, not_isIn, Classical.not_not] at c
      exact .inl (woken_events (h := { h with words := h.words.set w.toNat v.toNat }) (k.words _ _ (by omega)) 1 (at_sub h w.toNat true))
  | add w v =>
    show (ite _ _ _ : House × Ans).1.events.length ≤ _ ∨ _
    split
    · exact .inl (Nat.le_add_right _ _)
    · exact .inl (woken_events (h := { h with words := h.words.set w.toNat ((h.words.getD w.toNat 0 + v.toNat) % W) }) (k.words _ _ (Nat.mod_lt _ (by decide))) 1 (at_sub h w.toNat true))
  | wake w n =>
    show (ite _ _ _ : House × Ans).1.events.length ≤ _ ∨ _
    split
    · exact .inl (Nat.le_add_right _ _)
    · exact .inl (woken_events k 2 ((List.take_sublist _ _).trans (at_sub h w.toNat false)))
  | move w t n =>
    show (ite _ _ _ : House × Ans).1.events.length ≤ _ ∨ _
    split <;> exact .inl (Nat.le_add_right _ _)
  | tick n =>
    by_cases c : (!isIn 1 1000 n || decide (2 ^ 30 < nat h.now + n)) = true
    · have e : on h (.tick n) = (h, just (-2)) := if_pos c
      rw [e]
      exact .inl (Nat.le_add_right _ _)
    · by_cases c2 : 1024 < h.events.length
      · have e : on h (.tick n) = (h, just (-5)) := (if_neg c).trans (if_pos c2)
        rw [e]
        exact .inl (Nat.le_add_right _ _)
      · have e : (on h (.tick n)).1 = h.tick n.toNat := congrArg Prod.fst ((if_neg c).trans (if_neg c2))
        rw [e]
        simp only [Bool.or_eq_true, not_or, not_isIn, Classical.not_not] at c
        have := tick_events k (n := n.toNat) (by omega)
        exact .inr (by omega)
  | next =>
    show (match h.events with | [] => _ | e :: l => _ : House × Ans).1.events.length ≤ _ ∨ _
    split
    · exact .inl (Nat.le_add_right _ _)
    · rename_i e l he
      refine .inl ?_
      show l.length ≤ h.events.length + 16
      rw [he, List.length_cons]
      omega
  | hand kk =>
    show (ite _ _ _ : House × Ans).1.events.length ≤ _ ∨ _
    split
    · exact .inl (Nat.le_add_right _ _)
    · split <;> exact .inl (Nat.le_add_right _ _)
  | word w =>
    show (ite _ _ _ : House × Ans).1.events.length ≤ _ ∨ _
    split <;> exact .inl (Nat.le_add_right _ _)
  | counts => exact .inl (Nat.le_add_right _ _)
/-- an answer has nine numbers at most -/
theorem on_len {h : House} (k : Ok h) (c : Call) : (on h c).2.l.length ≤ 8 := by
  cases c with
  | open_ => exact Nat.zero_le _
  | set t d p s =>
    show (ite _ _ _ : House × Ans).2.l.length ≤ _
    split <;> exact Nat.zero_le _
  | halt_ t =>
    show (ite _ _ _ : House × Ans).2.l.length ≤ _
    split <;> exact Nat.zero_le _
  | left t =>
    show (ite _ _ _ : House × Ans).2.l.length ≤ _
    split
    · exact Nat.zero_le _
    · split <;> exact Nat.zero_le _
  | sleep kk w v b l =>
    show (ite _ _ (ite _ _ (ite _ _ _)) : House × Ans).2.l.length ≤ _
    split
    · exact Nat.zero_le _
    · split
      · exact Nat.zero_le _
      · split <;> exact Nat.zero_le _
  | store w v =>
    show (ite _ _ _ : House × Ans).2.l.length ≤ _
    split <;> exact Nat.zero_le _
  | add w v =>
    show (ite _ _ _ : House × Ans).2.l.length ≤ _
    split
    · exact Nat.zero_le _
    · exact (by decide : 1 ≤ 8)
  | wake w n =>
    show (ite _ _ _ : House × Ans).2.l.length ≤ _
    split <;> exact Nat.zero_le _
  | move w t n =>
    show (ite _ _ _ : House × Ans).2.l.length ≤ _
    split <;> exact Nat.zero_le _
  | tick n =>
    show (ite _ _ (ite _ _ _) : House × Ans).2.l.length ≤ _
    split
    · exact Nat.zero_le _
    · split <;> exact Nat.zero_le _
  | next =>
    show (match h.events with | [] => _ | e :: l => _ : House × Ans).2.l.length ≤ _
    split
    · exact Nat.zero_le _
    · exact (by decide : 2 ≤ 8)
  | hand kk =>
    show (ite _ _ _ : House × Ans).2.l.length ≤ _
    split
    · exact Nat.zero_le _
    · split
      · exact (by decide : 3 ≤ 8)
      · exact (by decide : 3 ≤ 8)
  | word w =>
    show (ite _ _ _ : House × Ans).2.l.length ≤ _
    split
    · exact Nat.zero_le _
    · exact (by decide : 3 ≤ 8)
  | counts =>
    show (Sj54.ints h.counts ++ [_, _, _, _]).length ≤ 8
    rw [List.length_append]
    unfold Sj54.ints
    rw [List.length_map, k.cl]
    exact Nat.le_refl 8
end SjF
/-! The program gives a place only to what is set or falls asleep; the specification counts one more also where a timer without period happens. A house with the program's numbers against one with the specification's. -/
namespace SjS
open Sj54 SjF
/-- the order number behind a happening, as the program counts it -/
def ordOf (h : House) (x : (Nat × Nat) × Bool × Nat) : Nat :=
  if x.2.1 then match h.timers.getD x.2.2 none with
    | none => h.order
    | some t => if t.period = 0 then h.order else h.order + 1
  else h.order
def happens (h : House) (x : (Nat × Nat) × Bool × Nat) : House := { h.happens x with order := ordOf h x }
def until_ : Nat → Nat → House → House
  | 0, _, h => h
  | f + 1, to, h => match least (h.dues to) with
    | none => h
    | some x => until_ f to (happens h x)
def tick (h : House) (n : Nat) : House := { until_ 8192 (h.now + n) h with now := h.now + n }
def on (h : House) (c : Call) : House × Ans := match c with
  | .tick n => if !isIn 1 1000 n || decide (2 ^ 30 < nat h.now + n) then (h, just (-2)) else if 1024 < h.events.length then (h, just (-5)) else
    (tick h n.toNat, just (nat (tick h n.toNat).events.length - nat h.events.length))
  | c => Sj54.on h c
theorem until_stop {f to : Nat} {h : House} (e : least (h.dues to) = none) : until_ f to h = h := by
  cases f with
  | zero => rfl
  | succ f =>
    unfold until_
    rw [e]
theorem until_go {f to : Nat} {h : House} {x} (e : least (h.dues to) = some x) : until_ (f + 1) to h = until_ f to (happens h x) := by
  conv => lhs; unfold until_
  rw [e]
/-- the timer's happening, with the program's numbers -/
theorem happens_timer {h : House} {i d o : Nat} {t : Timer} (ht : h.timers[i]? = some (some t)) :
    happens h ((d, o), true, i) = { h with timers := h.timers.set i (again t d h.order), order := (if t.period = 0 then h.order else h.order + 1), events := h.events ++ [(0, i, d)], counts := counted h.counts 0 1 } := by
  unfold happens ordOf
  rw [SjF.happens_timer ht]
  have e : h.timers.getD i none = some t := by rw [List.getD_eq_getElem?_getD, ht]; rfl
  simp only [if_true]
  rw [e]
theorem happens_hand {h : House} {i d o : Nat} :
    happens h ((d, o), false, i) = { h with asleep := h.asleep.filter fun s => s.hand != i, events := h.events ++ [(3, i, d)], counts := counted h.counts 3 1 } := by
  unfold happens ordOf
  rw [SjF.happens_hand]
  simp
theorem ok_order {h : House} {o : Nat} (k : Ok h) (h1 : ∀ (i : Nat) (t : Timer), h.timers[i]? = some (some t) → t.order < o) (h2 : ∀ s ∈ h.asleep, s.order < o) : Ok { h with order := o } :=
  ⟨k.nw, k.tl, k.wl, k.cl, fun i t e => ⟨(k.tm i t e).1, (k.tm i t e).2.1, (k.tm i t e).2.2.1, h1 i t e⟩, fun s hs => ⟨(k.sl s hs).1, (k.sl s hs).2.1, h2 s hs, (k.sl s hs).2.2.2⟩, k.nd, k.wd, k.ct, k.tt, k.ts, k.ss⟩
theorem ok_happens {h : House} {to : Nat} {x} (k : Ok h) (hx : x ∈ h.dues to) : Ok (happens h x) ∧ (happens h x).now = h.now := by
  obtain ⟨k2, e2⟩ := k.happens hx
  refine ⟨?_, e2⟩
  obtain ⟨⟨d, o⟩, b, i⟩ := x
  refine ok_order k2 (fun j t e => ?_) (fun s hs => ?_)
  · have lt := (k2.tm j t e).2.2.2
    rcases mem_dues.mp hx with ⟨hb, u, hu, hd, ee⟩ | ⟨hb, s, hs, u, hu, hd, ee, hi⟩
    · simp only at hb hu ee
      subst hb
      rw [SjF.happens_timer hu] at e lt
      have eg : h.timers.getD i none = some u := by rw [List.getD_eq_getElem?_getD, hu]; rfl
      unfold ordOf
      simp only [if_true]
      rw [eg]
      show t.order < if u.period = 0 then h.order else h.order + 1
      by_cases c : u.period = 0
      · rw [if_pos c]
        rcases set_get e with ⟨_, z⟩ | ⟨_, z⟩
        · exact absurd c (again_some z.symm).1
        · exact (k.tm j t z).2.2.2
      · rw [if_neg c]
        exact lt
    · simp only at hb hi
      subst hb hi
      rw [SjF.happens_hand] at lt
      exact lt
  · have lt := (k2.sl s hs).2.2.1
    rcases mem_dues.mp hx with ⟨hb, u, hu, hd, ee⟩ | ⟨hb, s', hs', u, hu, hd, ee, hi⟩
    · simp only at hb hu ee
      subst hb
      rw [SjF.happens_timer hu] at hs
      have l2 := (k.sl s hs).2.2.1
      have eg : h.timers.getD i none = some u := by rw [List.getD_eq_getElem?_getD, hu]; rfl
      unfold ordOf
      simp only [if_true]
      rw [eg]
      show s.order < if u.period = 0 then h.order else h.order + 1
      split <;> omega
    · simp only at hb hi
      subst hb hi
      rw [SjF.happens_hand] at lt
      exact lt
theorem cost_happens {h : House} {to : Nat} {x} (k : Ok h) (hx : x ∈ h.dues to) : cost to (happens h x) + 1 ≤ cost to h := SjF.cost_happens k hx
/-! ### the two houses -/
def tm (f : Nat → Nat) (t : Timer) : Timer := { t with order := f t.order }
def sm (f : Nat → Nat) (s : Sleeper) : Sleeper := { s with order := f s.order }
/-- an order number that something in the house bears -/
def Used (h : House) (a : Nat) : Prop := (∃ (i : Nat) (t : Timer), h.timers[i]? = some (some t) ∧ t.order = a) ∨ ∃ s ∈ h.asleep, s.order = a
structure SimBy (f : Nat → Nat) (g h : House) : Prop where
  nw : g.now = h.now
  wd : g.words = h.words
  ev : g.events = h.events
  ct : g.counts = h.counts
  tms : g.timers = h.timers.map (Option.map (tm f))
  sls : g.asleep = h.asleep.map (sm f)
  od : g.order = f h.order
  mono : ∀ a b, a ≤ b → f a ≤ f b
  strict : ∀ a, Used h a → f a < f (a + 1)
def Sim (g h : House) : Prop := ∃ f, SimBy f g h
theorem SimBy.lt_iff {f : Nat → Nat} {g h : House} (s : SimBy f g h) {a b : Nat} (ha : Used h a) (hb : Used h b) : f a < f b ↔ a < b := by
  constructor
  · intro z
    apply Classical.byContradiction
    intro c
    have := s.mono b a (by omega)
    omega
  · intro z
    have h1 := s.strict a ha
    have h2 := s.mono (a + 1) b z
    omega
theorem SimBy.inj {f : Nat → Nat} {g h : House} (s : SimBy f g h) {a b : Nat} (ha : Used h a) (hb : Used h b) (e : f a = f b) : a = b := by
  have h1 := s.lt_iff ha hb
  have h2 := s.lt_iff hb ha
  omega
theorem SimBy.tget {f : Nat → Nat} {g h : House} (s : SimBy f g h) {i : Nat} {u : Timer} (e : g.timers[i]? = some (some u)) : ∃ t, h.timers[i]? = some (some t) ∧ u = tm f t := by
  rw [s.tms, List.getElem?_map] at e
  obtain ⟨o, h1, h2⟩ := Option.map_eq_some_iff.mp e
  cases o with
  | none => cases h2
  | some t => exact ⟨t, h1, (Option.some.inj h2).symm⟩
theorem SimBy.sget {f : Nat → Nat} {g h : House} (s : SimBy f g h) {u : Sleeper} (e : u ∈ g.asleep) : ∃ t ∈ h.asleep, u = sm f t := by
  rw [s.sls] at e
  obtain ⟨t, h1, h2⟩ := List.mem_map.mp e
  exact ⟨t, h1, h2.symm⟩
theorem SimBy.ok {f : Nat → Nat} {g h : House} (s : SimBy f g h) (k : Ok h) : Ok g := by
  have below : ∀ a, Used h a → a < h.order → f a < g.order := fun a ha lt => by
    rw [s.od]
    have h1 := s.strict a ha
    have h2 := s.mono (a + 1) h.order lt
    omega
  refine ⟨by rw [s.nw]; exact k.nw, by rw [s.tms, List.length_map]; exact k.tl, by rw [s.wd]; exact k.wl, by rw [s.ct]; exact k.cl, fun i u e => ?_, fun u e => ?_, ?_, by rw [s.wd]; exact k.wd, by rw [s.ct]; exact k.ct, fun i j u v e1 e2 eo => ?_, fun i u e r hr => ?_, ?_⟩
  · obtain ⟨t, ht, rfl⟩ := s.tget e
    obtain ⟨a1, a2, a3, a4⟩ := k.tm i t ht
    exact ⟨by rw [s.nw]; exact a1, a2, a3, below _ (.inl ⟨i, t, ht, rfl⟩) a4⟩
  · obtain ⟨t, ht, rfl⟩ := s.sget e
    obtain ⟨a1, a2, a3, a4⟩ := k.sl t ht
    exact ⟨a1, a2, below _ (.inr ⟨t, ht, rfl⟩) a3, fun q hq => by rw [s.nw]; exact a4 q hq⟩
  · rw [s.sls, List.map_map]
    exact k.nd
  · obtain ⟨t, ht, rfl⟩ := s.tget e1
    obtain ⟨t', ht', rfl⟩ := s.tget e2
    exact k.tt i j t t' ht ht' (s.inj (.inl ⟨i, t, ht, rfl⟩) (.inl ⟨j, t', ht', rfl⟩) eo)
  · obtain ⟨t, ht, rfl⟩ := s.tget e
    obtain ⟨t', ht', rfl⟩ := s.sget hr
    intro eo
    exact k.ts i t ht t' ht' (s.inj (.inl ⟨i, t, ht, rfl⟩) (.inr ⟨t', ht', rfl⟩) eo)
  · have key : ∀ l : List Sleeper, (∀ x ∈ l, x ∈ h.asleep) → (l.map (·.order)).Nodup → ((l.map (sm f)).map (·.order)).Nodup := by
      intro l
      induction l with
      | nil => intro _ _; exact List.nodup_nil
      | cons a l ih =>
        intro sub nd
        rw [List.map_cons, List.nodup_cons] at nd
        rw [List.map_cons, List.map_cons, List.nodup_cons]
        refine ⟨fun z => nd.1 ?_, ih (fun x hx => sub x (List.mem_cons_of_mem _ hx)) nd.2⟩
        obtain ⟨y, hy, ey⟩ := List.mem_map.mp z
        obtain ⟨x, hx, rfl⟩ := List.mem_map.mp hy
        have := s.inj (.inr ⟨x, sub x (List.mem_cons_of_mem _ hx), rfl⟩) (.inr ⟨a, sub a (List.mem_cons_self ..), rfl⟩) ey
        exact List.mem_map.mpr ⟨x, hx, this⟩
    rw [s.sls]
    exact key _ (fun _ h => h) k.ss
theorem Sim.ok {g h : House} (s : Sim g h) (k : Ok h) : Ok g := let ⟨_, b⟩ := s; b.ok k
/-! ### what is due -/
def km (f : Nat → Nat) (x : (Nat × Nat) × Bool × Nat) : (Nat × Nat) × Bool × Nat := ((x.1.1, f x.1.2), x.2)
theorem fm_map {α β γ δ : Type} (p : α → Option β) (q : γ → Option δ) (m : α → γ) (k : β → δ) (hpq : ∀ a, q (m a) = (p a).map k) : ∀ l : List α, (l.map m).filterMap q = (l.filterMap p).map k
  | [] => rfl
  | a :: l => by
    rw [List.map_cons, List.filterMap_cons, List.filterMap_cons, hpq a]
    cases p a with
    | none => exact fm_map p q m k hpq l
    | some b =>
      show k b :: _ = k b :: _
      rw [fm_map p q m k hpq l]
      
theorem SimBy.dues {f : Nat → Nat} {g h : House} (s : SimBy f g h) (to : Nat) : g.dues to = (h.dues to).map (km f) := by
  unfold House.dues
  rw [List.map_append, s.tms, s.sls]
  congr 1
  · rw [List.zipIdx_map]
    apply fm_map
    rintro ⟨o, i⟩
    cases o with
    | none => rfl
    | some t =>
      show (if (tm f t).due ≤ to then some (((tm f t).due, (tm f t).order), true, i) else none) = Option.map (km f) (if t.due ≤ to then some ((t.due, t.order), true, i) else none)
      show (if t.due ≤ to then _ else none) = _
      split <;> rfl
  · apply fm_map
    intro r
    show (r.till.bind fun t => if t ≤ to then some ((t, f r.order), false, r.hand) else none) = Option.map (km f) (r.till.bind fun t => if t ≤ to then some ((t, r.order), false, r.hand) else none)
    cases r.till with
    | none => rfl
    | some t =>
      show (if t ≤ to then _ else none) = Option.map (km f) (if t ≤ to then _ else none)
      split <;> rfl
theorem least_map {f : Nat → Nat} : ∀ (l : List ((Nat × Nat) × Bool × Nat)), (∀ x ∈ l, ∀ y ∈ l, (f x.1.2 < f y.1.2 ↔ x.1.2 < y.1.2)) → least (l.map (km f)) = (least l).map (km f)
  | [], _ => rfl
  | a :: l, h => by
    have ih := least_map l fun x hx y hy => h x (List.mem_cons_of_mem _ hx) y (List.mem_cons_of_mem _ hy)
    rw [List.map_cons]
    unfold least
    rw [ih]
    cases e : least l with
    | none => rfl
    | some y =>
      have hy := least_mem _ _ e
      have c : earlier (km f y).1 (km f a).1 = earlier y.1 a.1 := by
        rw [Bool.eq_iff_iff, earlier_iff, earlier_iff]
        have := h y (List.mem_cons_of_mem _ hy) a (List.mem_cons_self ..)
        show y.1.1 < a.1.1 ∨ (y.1.1 = a.1.1 ∧ f y.1.2 < f a.1.2) ↔ _
        rw [this]
      show (if earlier (km f y).1 (km f a).1 = true then some (km f y) else some (km f a)) = Option.map (km f) (if earlier y.1 a.1 = true then some y else some a)
      rw [c]
      split <;> rfl
theorem used_due {h : House} {to : Nat} {x} (hx : x ∈ h.dues to) : Used h x.1.2 := by
  rcases mem_dues.mp hx with ⟨_, t, ht, _, e⟩ | ⟨_, s, hs, t, ht, _, e, _⟩
  · exact .inl ⟨_, t, ht, by rw [e]⟩
  · exact .inr ⟨s, hs, by rw [e]⟩
theorem SimBy.least {f : Nat → Nat} {g h : House} (s : SimBy f g h) (to : Nat) : Sj54.least (g.dues to) = (Sj54.least (h.dues to)).map (km f) := by
  rw [s.dues]
  exact least_map _ fun x hx y hy => s.lt_iff (used_due hx) (used_due hy)
/-! ### how the numbers go on -/
/-- one number more on both sides -/
def more (f : Nat → Nat) (o : Nat) : Nat → Nat := fun x => if x ≤ o then f x else f o + 1
/-- one number more for the specification alone -/
def stay (f : Nat → Nat) (o : Nat) : Nat → Nat := fun x => if x ≤ o then f x else f o
theorem more_le {f : Nat → Nat} {o a : Nat} (h : a ≤ o) : more f o a = f a := if_pos h
theorem more_gt {f : Nat → Nat} {o a : Nat} (h : o < a) : more f o a = f o + 1 := if_neg (by omega)
theorem stay_le {f : Nat → Nat} {o a : Nat} (h : a ≤ o) : stay f o a = f a := if_pos h
theorem stay_gt {f : Nat → Nat} {o a : Nat} (h : o < a) : stay f o a = f o := if_neg (by omega)
theorem more_mono {f : Nat → Nat} {o : Nat} (m : ∀ a b, a ≤ b → f a ≤ f b) : ∀ a b, a ≤ b → more f o a ≤ more f o b := fun a b hab => by
  by_cases ha : a ≤ o
  · rw [more_le ha]
    by_cases hb : b ≤ o
    · rw [more_le hb]
      exact m a b hab
    · rw [more_gt (by omega)]
      have := m a o ha
      omega
  · rw [more_gt (by omega), more_gt (by omega)]
    exact Nat.le_refl _
theorem stay_mono {f : Nat → Nat} {o : Nat} (m : ∀ a b, a ≤ b → f a ≤ f b) : ∀ a b, a ≤ b → stay f o a ≤ stay f o b := fun a b hab => by
  by_cases ha : a ≤ o
  · rw [stay_le ha]
    by_cases hb : b ≤ o
    · rw [stay_le hb]
      exact m a b hab
    · rw [stay_gt (by omega)]
      exact m a o ha
  · rw [stay_gt (by omega), stay_gt (by omega)]
    exact Nat.le_refl _
theorem tmap_congr {f f' : Nat → Nat} {l : List (Option Timer)} (h : ∀ (i : Nat) (t : Timer), l[i]? = some (some t) → f' t.order = f t.order) : l.map (Option.map (tm f')) = l.map (Option.map (tm f)) := by
  apply List.map_congr_left
  intro o ho
  obtain ⟨i, hi⟩ := List.getElem?_of_mem ho
  cases o with
  | none => rfl
  | some t =>
    show some (tm f' t) = some (tm f t)
    unfold tm
    rw [h i t hi]
theorem smap_congr {f f' : Nat → Nat} {l : List Sleeper} (h : ∀ s ∈ l, f' s.order = f s.order) : l.map (sm f') = l.map (sm f) := by
  apply List.map_congr_left
  intro s hs
  unfold sm
  rw [h s hs]
theorem ok_used {h : House} (k : Ok h) {a : Nat} (u : Used h a) : a < h.order := by
  rcases u with ⟨i, t, ht, rfl⟩ | ⟨s, hs, rfl⟩
  · exact (k.tm i t ht).2.2.2
  · exact (k.sl s hs).2.2.1
end SjS
namespace SjS
open Sj54 SjF
theorem again_map {f f' : Nat → Nat} {t : Timer} {d o o' : Nat} (h : f' o = o') : again (tm f t) d o' = (again t d o).map (tm f') := by
  unfold again
  show (if t.period = 0 then none else _) = Option.map _ (if t.period = 0 then none else _)
  split
  · rfl
  · show some _ = some _
    congr 1
    show (⟨_, _, _, o'⟩ : Timer) = ⟨_, _, _, f' o⟩
    rw [h]
    rfl
theorem SimBy.happens {f : Nat → Nat} {g h : House} (s : SimBy f g h) (k : Ok h) {to : Nat} {x} (hx : x ∈ h.dues to) : Sim (SjS.happens g (km f x)) (h.happens x) := by
  obtain ⟨⟨d, o⟩, b, i⟩ := x
  rcases mem_dues.mp hx with ⟨hb, t, ht, hd, e⟩ | ⟨hb, r, hr, t, ht, hd, e, hi⟩
  · simp only at hb ht e
    subst hb
    have gt : g.timers[i]? = some (some (tm f t)) := by
      rw [s.tms, List.getElem?_map, ht]
      rfl
    show Sim (SjS.happens g ((d, f o), true, i)) _
    rw [happens_timer gt, SjF.happens_timer ht]
    by_cases c : t.period = 0
    · have a1 : again t d h.order = none := if_pos c
      have a2 : again (tm f t) d g.order = none := if_pos c
      have c' : (tm f t).period = 0 := c
      rw [a1, a2, if_pos c']
      refine ⟨stay f h.order, s.nw, s.wd, ?_, ?_, ?_, ?_, ?_, stay_mono s.mono, ?_⟩
      · show g.events ++ _ = _
        rw [s.ev]
      · show counted g.counts 0 1 = _
        rw [s.ct]
      · show g.timers.set i none = (h.timers.set i none).map _
        rw [List.map_set, s.tms]
        show _ = (h.timers.map (Option.map (tm (stay f h.order)))).set i none
        congr 1
        exact (tmap_congr fun j u hu => stay_le (Nat.le_of_lt (k.tm j u hu).2.2.2)).symm
      · show g.asleep = h.asleep.map _
        rw [s.sls]
        exact (smap_congr fun r hr => stay_le (Nat.le_of_lt (k.sl r hr).2.2.1)).symm
      · show g.order = stay f h.order (h.order + 1)
        rw [stay_gt (Nat.lt_succ_self _), s.od]
      · intro a ha
        have ua : Used h a := by
          rcases ha with ⟨j, u, hu, rfl⟩ | ⟨r, hr, rfl⟩
          · rcases set_get hu with ⟨_, z⟩ | ⟨_, z⟩
            · cases z
            · exact .inl ⟨j, u, z, rfl⟩
          · exact .inr ⟨r, hr, rfl⟩
        have lt := ok_used k ua
        rw [stay_le (by omega), stay_le (by omega)]
        exact s.strict a ua
    · have c' : ¬ (tm f t).period = 0 := c
      rw [if_neg c']
      refine ⟨more f h.order, s.nw, s.wd, ?_, ?_, ?_, ?_, ?_, more_mono s.mono, ?_⟩
      · show g.events ++ _ = _
        rw [s.ev]
      · show counted g.counts 0 1 = _
        rw [s.ct]
      · show g.timers.set i _ = (h.timers.set i _).map _
        rw [List.map_set, s.tms, s.od, again_map (f' := more f h.order) (more_le (Nat.le_refl _))]
        congr 1
        exact (tmap_congr fun j u hu => more_le (Nat.le_of_lt (k.tm j u hu).2.2.2)).symm
      · show g.asleep = h.asleep.map _
        rw [s.sls]
        exact (smap_congr fun r hr => more_le (Nat.le_of_lt (k.sl r hr).2.2.1)).symm
      · show g.order + 1 = more f h.order (h.order + 1)
        rw [more_gt (Nat.lt_succ_self _), s.od]
      · intro a ha
        have ua : a = h.order ∨ Used h a := by
          rcases ha with ⟨j, u, hu, rfl⟩ | ⟨r, hr, rfl⟩
          · rcases set_get hu with ⟨_, z⟩ | ⟨_, z⟩
            · obtain ⟨_, rfl⟩ := again_some z.symm
              exact .inl rfl
            · exact .inr (.inl ⟨j, u, z, rfl⟩)
          · exact .inr (.inr ⟨r, hr, rfl⟩)
        rcases ua with rfl | ua
        · rw [more_le (Nat.le_refl _), more_gt (Nat.lt_succ_self _)]
          exact Nat.lt_succ_self _
        · have lt := ok_used k ua
          rw [more_le (by omega), more_le (by omega)]
          exact s.strict a ua
  · simp only at hb hi
    subst hb hi
    show Sim (SjS.happens g ((d, f o), false, r.hand)) _
    rw [happens_hand, SjF.happens_hand]
    refine ⟨f, s.nw, s.wd, ?_, ?_, s.tms, ?_, s.od, s.mono, ?_⟩
    · show g.events ++ _ = _
      rw [s.ev]
    · show counted g.counts 3 1 = _
      rw [s.ct]
    · show g.asleep.filter _ = (h.asleep.filter _).map _
      rw [s.sls, List.filter_map]
      rfl
    · intro a ha
      refine s.strict a ?_
      rcases ha with ⟨j, u, hu, rfl⟩ | ⟨r', hr', rfl⟩
      · exact .inl ⟨j, u, hu, rfl⟩
      · exact .inr ⟨r', (List.mem_filter.mp hr').1, rfl⟩
theorem sim_until : ∀ (n to : Nat) {g h : House}, Sim g h → Ok h → Sim (until_ n to g) (House.until n to h)
  | 0, _, _, _, s, _ => s
  | n + 1, to, g, h, ⟨f, s⟩, k => by
    have e := s.least to
    cases q : least (h.dues to) with
    | none =>
      rw [q] at e
      rw [until_stop e, SjF.until_stop q]
      exact ⟨f, s⟩
    | some x =>
      rw [q] at e
      have hx := least_mem _ _ q
      rw [until_go e, SjF.until_go q]
      exact sim_until n to (s.happens k hx) (k.happens hx).1
theorem sim_tick {g h : House} (s : Sim g h) (k : Ok h) (n : Nat) : Sim (tick g n) (h.tick n) := by
  obtain ⟨f, b⟩ := s
  obtain ⟨f', q⟩ := sim_until 8192 (h.now + n) ⟨f, b⟩ k
  unfold tick House.tick
  rw [b.nw]
  exact ⟨f', rfl, q.wd, q.ev, q.ct, q.tms, q.sls, q.od, q.mono, q.strict⟩
theorem hand_inj : ∀ {l : List Sleeper}, (l.map (·.hand)).Nodup → ∀ {x y : Sleeper}, x ∈ l → y ∈ l → x.hand = y.hand → x = y
  | [], _, _, _, hx, _, _ => by simp at hx
  | a :: l, nd, x, y, hx, hy, e => by
    rw [List.map_cons, List.nodup_cons] at nd
    rcases List.mem_cons.mp hx with h1 | h1
    · rcases List.mem_cons.mp hy with h2 | h2
      · rw [h1, h2]
      · exact absurd (List.mem_map.mpr ⟨y, h2, by rw [← h1]; exact e.symm⟩) nd.1
    · rcases List.mem_cons.mp hy with h2 | h2
      · exact absurd (List.mem_map.mpr ⟨x, h1, by rw [← h2]; exact e⟩) nd.1
      · exact hand_inj nd.2 h1 h2 e
theorem SimBy.at_ {f : Nat → Nat} {g h : House} (s : SimBy f g h) (w : Nat) (b : Bool) : g.at_ w b = (h.at_ w b).map (sm f) := by
  unfold House.at_
  rw [s.sls, List.filter_map]
  rfl
theorem SimBy.rest {f : Nat → Nat} {g h : House} (s : SimBy f g h) (k : Ok h) {l : List Sleeper} (hl : ∀ x ∈ l, x ∈ h.asleep) : (g.asleep.filter fun r => !(l.map (sm f)).contains r) = (h.asleep.filter fun r => !l.contains r).map (sm f) := by
  rw [s.sls, List.filter_map]
  congr 1
  apply List.filter_congr
  intro r hr
  show (!(l.map (sm f)).contains (sm f r)) = !l.contains r
  congr 1
  rw [Bool.eq_iff_iff, List.contains_iff_mem, List.contains_iff_mem]
  constructor
  · intro z
    obtain ⟨y, hy, ey⟩ := List.mem_map.mp z
    have : y = r := hand_inj k.nd (hl y hy) hr (show (sm f y).hand = (sm f r).hand by rw [ey])
    rw [← this]
    exact hy
  · intro z
    exact List.mem_map.mpr ⟨r, z, rfl⟩
theorem SimBy.woken {f : Nat → Nat} {g h : House} (s : SimBy f g h) (k : Ok h) (c : Nat) {l : List Sleeper} (hl : ∀ x ∈ l, x ∈ h.asleep) : SimBy f (g.woken c (l.map (sm f))) (h.woken c l) := by
  refine ⟨s.nw, s.wd, ?_, ?_, s.tms, s.rest k hl, s.od, s.mono, fun a ha => s.strict a ?_⟩
  · show g.events ++ (l.map (sm f)).map _ = h.events ++ l.map _
    rw [s.ev, List.map_map, s.nw]
    rfl
  · show counted g.counts c (l.map (sm f)).length = counted h.counts c l.length
    rw [s.ct, List.length_map]
  · rcases ha with ⟨j, u, hu, rfl⟩ | ⟨r', hr', rfl⟩
    · exact .inl ⟨j, u, hu, rfl⟩
    · exact .inr ⟨r', (List.mem_filter.mp hr').1, rfl⟩
theorem SimBy.words {f : Nat → Nat} {g h : House} (s : SimBy f g h) (w v : Nat) : SimBy f { g with words := g.words.set w v } { h with words := h.words.set w v } :=
  ⟨s.nw, by show g.words.set w v = _; rw [s.wd], s.ev, s.ct, s.tms, s.sls, s.od, s.mono, s.strict⟩
theorem SimBy.store {f : Nat → Nat} {g h : House} (s : SimBy f g h) (k : Ok h) (w v : Nat) (hv : v < 4294967296) : SimBy f (g.store w v).1 (h.store w v).1 ∧ (g.store w v).2 = (h.store w v).2 := by
  constructor
  · show SimBy f (House.woken { g with words := g.words.set w v } 1 (g.at_ w true)) (House.woken { h with words := h.words.set w v } 1 (h.at_ w true))
    rw [s.at_]
    exact (s.words w v).woken (k.words w v hv) 1 fun x hx => (at_sub h w true).subset hx
  · show (g.at_ w true).length = (h.at_ w true).length
    rw [s.at_, List.length_map]
theorem take_sub {h : House} {w n : Nat} : ∀ x ∈ (h.at_ w false).take n, x ∈ h.asleep := fun _ hx => ((List.take_sublist _ _).trans (at_sub h w false)).subset hx
theorem SimBy.wake {f : Nat → Nat} {g h : House} (s : SimBy f g h) (k : Ok h) (w n : Nat) : SimBy f (g.wake w n).1 (h.wake w n).1 ∧ (g.wake w n).2 = (h.wake w n).2 := by
  constructor
  · show SimBy f (g.woken 2 ((g.at_ w false).take n)) (h.woken 2 ((h.at_ w false).take n))
    rw [s.at_, ← List.map_take]
    exact s.woken k 2 take_sub
  · show ((g.at_ w false).take n).length = ((h.at_ w false).take n).length
    rw [s.at_, ← List.map_take, List.length_map]
theorem SimBy.move {f : Nat → Nat} {g h : House} (s : SimBy f g h) (k : Ok h) (w to n : Nat) : SimBy f (g.move w to n).1 (h.move w to n).1 ∧ (g.move w to n).2 = (h.move w to n).2 := by
  constructor
  · refine ⟨s.nw, s.wd, s.ev, s.ct, s.tms, ?_, s.od, s.mono, fun a ha => s.strict a ?_⟩
    · show (g.asleep.filter fun r => !((g.at_ w false).take n).contains r) ++ ((g.at_ w false).take n).map (fun (r : Sleeper) => { r with word := to }) = ((h.asleep.filter fun r => !((h.at_ w false).take n).contains r) ++ ((h.at_ w false).take n).map (fun (r : Sleeper) => { r with word := to })).map (sm f)
      rw [s.at_, ← List.map_take, s.rest k take_sub, List.map_append, List.map_map, List.map_map]
      rfl
    · rcases ha with ⟨j, u, hu, rfl⟩ | ⟨r', hr', rfl⟩
      · exact .inl ⟨j, u, hu, rfl⟩
      · rcases List.mem_append.mp hr' with z | z
        · exact .inr ⟨r', (List.mem_filter.mp z).1, rfl⟩
        · obtain ⟨q, hq, rfl⟩ := List.mem_map.mp z
          exact .inr ⟨q, take_sub q hq, rfl⟩
  · show ((g.at_ w false).take n).length = ((h.at_ w false).take n).length
    rw [s.at_, ← List.map_take, List.length_map]
theorem SimBy.set {f : Nat → Nat} {g h : House} (s : SimBy f g h) (k : Ok h) (i a b c : Nat) : Sim { g with timers := g.timers.set i (some ⟨a, b, c, g.order⟩), order := g.order + 1 } { h with timers := h.timers.set i (some ⟨a, b, c, h.order⟩), order := h.order + 1 } := by
  refine ⟨more f h.order, s.nw, s.wd, s.ev, s.ct, ?_, ?_, ?_, more_mono s.mono, fun a ha => ?_⟩
  · show g.timers.set i _ = (h.timers.set i _).map _
    rw [List.map_set, s.tms, s.od]
    show _ = (h.timers.map (Option.map (tm (more f h.order)))).set i (some ⟨a, b, c, more f h.order h.order⟩)
    rw [more_le (Nat.le_refl _)]
    congr 1
    exact (tmap_congr fun j u hu => more_le (Nat.le_of_lt (k.tm j u hu).2.2.2)).symm
  · show g.asleep = h.asleep.map _
    rw [s.sls]
    exact (smap_congr fun r hr => more_le (Nat.le_of_lt (k.sl r hr).2.2.1)).symm
  · show g.order + 1 = more f h.order (h.order + 1)
    rw [more_gt (Nat.lt_succ_self _), s.od]
  · have ua : a = h.order ∨ Used h a := by
      rcases ha with ⟨j, u, hu, rfl⟩ | ⟨r, hr, rfl⟩
      · rcases set_get hu with ⟨_, z⟩ | ⟨_, z⟩
        · cases z
          exact .inl rfl
        · exact .inr (.inl ⟨j, u, z, rfl⟩)
      · exact .inr (.inr ⟨r, hr, rfl⟩)
    rcases ua with rfl | ua
    · rw [more_le (Nat.le_refl _), more_gt (Nat.lt_succ_self _)]
      exact Nat.lt_succ_self _
    · have lt := ok_used k ua
      rw [more_le (by omega), more_le (by omega)]
      exact s.strict a ua
theorem SimBy.halt {f : Nat → Nat} {g h : House} (s : SimBy f g h) (i : Nat) : SimBy f { g with timers := g.timers.set i none } { h with timers := h.timers.set i none } := by
  refine ⟨s.nw, s.wd, s.ev, s.ct, ?_, s.sls, s.od, s.mono, fun a ha => s.strict a ?_⟩
  · show g.timers.set i none = (h.timers.set i none).map _
    rw [List.map_set, s.tms]
    rfl
  · rcases ha with ⟨j, u, hu, rfl⟩ | ⟨r, hr, rfl⟩
    · rcases set_get hu with ⟨_, z⟩ | ⟨_, z⟩
      · cases z
      · exact .inl ⟨j, u, z, rfl⟩
    · exact .inr ⟨r, hr, rfl⟩
theorem SimBy.sleep {f : Nat → Nat} {g h : House} (s : SimBy f g h) (k : Ok h) (a b : Nat) (c : Bool) (d : Option Nat) : Sim { g with asleep := g.asleep ++ [⟨a, b, c, d, g.order⟩], order := g.order + 1 } { h with asleep := h.asleep ++ [⟨a, b, c, d, h.order⟩], order := h.order + 1 } := by
  refine ⟨more f h.order, s.nw, s.wd, s.ev, s.ct, ?_, ?_, ?_, more_mono s.mono, fun z0 ha => ?_⟩
  · show g.timers = h.timers.map _
    rw [s.tms]
    exact (tmap_congr fun j u hu => more_le (Nat.le_of_lt (k.tm j u hu).2.2.2)).symm
  · show g.asleep ++ [_] = (h.asleep ++ [_]).map _
    rw [List.map_append, s.sls, s.od]
    show _ = h.asleep.map (sm (more f h.order)) ++ [⟨a, b, c, d, more f h.order h.order⟩]
    rw [more_le (Nat.le_refl _)]
    congr 1
    exact (smap_congr fun r hr => more_le (Nat.le_of_lt (k.sl r hr).2.2.1)).symm
  · show g.order + 1 = more f h.order (h.order + 1)
    rw [more_gt (Nat.lt_succ_self _), s.od]
  · have ua : z0 = h.order ∨ Used h z0 := by
      rcases ha with ⟨j, u, hu, rfl⟩ | ⟨r, hr, rfl⟩
      · exact .inr (.inl ⟨j, u, hu, rfl⟩)
      · rcases List.mem_append.mp hr with z | z
        · exact .inr (.inr ⟨r, z, rfl⟩)
        · have : r = ⟨a, b, c, d, h.order⟩ := by simpa using z
          rw [this]
          exact .inl rfl
    rcases ua with rfl | ua
    · rw [more_le (Nat.le_refl _), more_gt (Nat.lt_succ_self _)]
      exact Nat.lt_succ_self _
    · have lt := ok_used k ua
      rw [more_le (by omega), more_le (by omega)]
      exact s.strict z0 ua
theorem SimBy.getD {f : Nat → Nat} {g h : House} (s : SimBy f g h) (i : Nat) : g.timers.getD i none = (h.timers.getD i none).map (tm f) := by
  rw [s.tms, List.getD_eq_getElem?_getD, List.getD_eq_getElem?_getD, List.getElem?_map]
  cases h.timers[i]? with
  | none => rfl
  | some o => rfl
/-- **the program's numbers and the specification's give the same answers** -/
theorem sim_on {g h : House} (s : Sim g h) (k : Ok h) (c : Call) : Sim (on g c).1 (Sj54.on h c).1 ∧ (on g c).2 = (Sj54.on h c).2 := by
  obtain ⟨f, b⟩ := s
  have here : Sim g h := ⟨f, b⟩
  cases c with
  | open_ => exact ⟨here, rfl⟩
  | set t d p s =>
    show Sim (ite _ _ _ : House × Ans).1 (ite _ _ _ : House × Ans).1 ∧ (ite _ _ _ : House × Ans).2 = (ite _ _ _ : House × Ans).2
    rw [b.nw]
    split
    · exact ⟨here, rfl⟩
    · have q := b.set k t.toNat (Sj54.at_ (h.now + d.toNat) s.toNat) p.toNat s.toNat
      rw [b.nw] at q
      exact ⟨q, rfl⟩
  | halt_ t =>
    show Sim (ite _ _ _ : House × Ans).1 (ite _ _ _ : House × Ans).1 ∧ (ite _ _ _ : House × Ans).2 = (ite _ _ _ : House × Ans).2
    split
    · exact ⟨here, rfl⟩
    · refine ⟨⟨f, b.halt _⟩, ?_⟩
      rw [b.getD, Option.isSome_map]
  | left t =>
    show Sim (ite _ _ _ : House × Ans).1 (ite _ _ _ : House × Ans).1 ∧ (ite _ _ _ : House × Ans).2 = (ite _ _ _ : House × Ans).2
    split
    · exact ⟨here, rfl⟩
    · rw [b.getD]
      cases h.timers.getD t.toNat none with
      | none => exact ⟨here, rfl⟩
      | some u =>
        refine ⟨here, ?_⟩
        show just _ = just _
        rw [b.nw]
        rfl
  | sleep kk w v bb l =>
    have ea : g.asleep.any (fun s => s.hand == kk.toNat) = h.asleep.any (fun s => s.hand == kk.toNat) := by
      rw [b.sls, List.any_map]
      rfl
    show Sim (ite _ _ (ite _ _ (ite _ _ _)) : House × Ans).1 (ite _ _ (ite _ _ (ite _ _ _)) : House × Ans).1 ∧ (ite _ _ (ite _ _ (ite _ _ _)) : House × Ans).2 = (ite _ _ (ite _ _ (ite _ _ _)) : House × Ans).2
    rw [ea, b.wd, b.nw]
    split
    · exact ⟨here, rfl⟩
    · split
      · exact ⟨here, rfl⟩
      · split
        · exact ⟨here, rfl⟩
        · have q := b.sleep k kk.toNat w.toNat (bb == 1) (if l = 0 then none else some (h.now + l.toNat))
          rw [b.nw, b.wd] at q
          exact ⟨q, rfl⟩
  | store w v =>
    show Sim (ite _ _ _ : House × Ans).1 (ite _ _ _ : House × Ans).1 ∧ (ite _ _ _ : House × Ans).2 = (ite _ _ _ : House × Ans).2
    split
    · exact ⟨here, rfl⟩
    · rename_i c
      simp only [Bool.or_eq_true, not_or, isWord, isValue, not_isIn, Classical.not_not] at c
      obtain ⟨h1, h2⟩ := b.store k w.toNat v.toNat (by omega)
      refine ⟨⟨f, h1⟩, ?_⟩
      show just _ = just _
      rw [h2]
  | add w v =>
    show Sim (ite _ _ _ : House × Ans).1 (ite _ _ _ : House × Ans).1 ∧ (ite _ _ _ : House × Ans).2 = (ite _ _ _ : House × Ans).2
    rw [b.wd]
    split
    · exact ⟨here, rfl⟩
    · obtain ⟨h1, h2⟩ := b.store k w.toNat ((h.words.getD w.toNat 0 + v.toNat) % W) (Nat.mod_lt _ (by decide))
      refine ⟨⟨f, h1⟩, ?_⟩
      show (⟨_, _⟩ : Ans) = ⟨_, _⟩
      rw [h2]
  | wake w n =>
    show Sim (ite _ _ _ : House × Ans).1 (ite _ _ _ : House × Ans).1 ∧ (ite _ _ _ : House × Ans).2 = (ite _ _ _ : House × Ans).2
    split
    · exact ⟨here, rfl⟩
    · obtain ⟨h1, h2⟩ := b.wake k w.toNat n.toNat
      refine ⟨⟨f, h1⟩, ?_⟩
      show just _ = just _
      rw [h2]
  | move w t n =>
    show Sim (ite _ _ _ : House × Ans).1 (ite _ _ _ : House × Ans).1 ∧ (ite _ _ _ : House × Ans).2 = (ite _ _ _ : House × Ans).2
    split
    · exact ⟨here, rfl⟩
    · obtain ⟨h1, h2⟩ := b.move k w.toNat t.toNat n.toNat
      refine ⟨⟨f, h1⟩, ?_⟩
      show just _ = just _
      rw [h2]
  | tick n =>
    have st := sim_tick here k n.toNat
    obtain ⟨f', b'⟩ := st
    show Sim (ite _ _ (ite _ _ _) : House × Ans).1 (ite _ _ (ite _ _ _) : House × Ans).1 ∧ (ite _ _ (ite _ _ _) : House × Ans).2 = (ite _ _ (ite _ _ _) : House × Ans).2
    rw [b.nw, b.ev]
    split
    · exact ⟨here, rfl⟩
    · split
      · exact ⟨here, rfl⟩
      · refine ⟨⟨f', b'⟩, ?_⟩
        show just _ = just _
        rw [b'.ev]
  | next =>
    show Sim (match g.events with | [] => _ | e :: l => _ : House × Ans).1 (match h.events with | [] => _ | e :: l => _ : House × Ans).1 ∧ (match g.events with | [] => _ | e :: l => _ : House × Ans).2 = (match h.events with | [] => _ | e :: l => _ : House × Ans).2
    rw [b.ev]
    cases h.events with
    | nil => exact ⟨here, rfl⟩
    | cons e l => exact ⟨⟨f, b.nw, b.wd, rfl, b.ct, b.tms, b.sls, b.od, b.mono, b.strict⟩, rfl⟩
  | hand kk =>
    have ef : (g.asleep.find? fun s => s.hand == kk.toNat) = (h.asleep.find? fun s => s.hand == kk.toNat).map (sm f) := by
      rw [b.sls, List.find?_map]
      rfl
    show Sim (ite _ _ _ : House × Ans).1 (ite _ _ _ : House × Ans).1 ∧ (ite _ _ _ : House × Ans).2 = (ite _ _ _ : House × Ans).2
    split
    · exact ⟨here, rfl⟩
    · rw [ef]
      cases h.asleep.find? fun s => s.hand == kk.toNat with
      | none => exact ⟨here, rfl⟩
      | some r =>
        refine ⟨here, ?_⟩
        show (⟨1, [_, _, _]⟩ : Ans) = ⟨1, [_, _, _]⟩
        rw [b.nw]
        rfl
  | word w =>
    show Sim (ite _ _ _ : House × Ans).1 (ite _ _ _ : House × Ans).1 ∧ (ite _ _ _ : House × Ans).2 = (ite _ _ _ : House × Ans).2
    rw [b.wd, b.at_, b.at_, List.length_map, List.length_map]
    split
    · exact ⟨here, rfl⟩
    · exact ⟨here, rfl⟩
  | counts =>
    have et : (g.timers.filter Option.isSome).length = (h.timers.filter Option.isSome).length := by
      rw [b.tms, List.filter_map, List.length_map]
      congr 1
      apply List.filter_congr
      intro o _
      exact Option.isSome_map
    refine ⟨here, ?_⟩
    show (⟨0, Sj54.ints g.counts ++ [nat g.now, nat (g.timers.filter Option.isSome).length, nat g.asleep.length, nat g.events.length]⟩ : Ans) = ⟨0, Sj54.ints h.counts ++ [nat h.now, nat (h.timers.filter Option.isSome).length, nat h.asleep.length, nat h.events.length]⟩
    rw [b.ct, b.nw, et, b.ev, b.sls, List.length_map]
theorem sim_fresh {h : House} : Sim h h := ⟨id, rfl, rfl, rfl, rfl, by
    show h.timers = h.timers.map (Option.map fun t => t)
    simp, by
    show h.asleep = h.asleep.map fun s => s
    simp, rfl, fun _ _ h => h, fun a _ => Nat.lt_succ_self a⟩
end SjS
/-! Rules of one's own for the hand layer: zip of a tuple and a list; an item of a written dict with whole numbers as keys; a reading that leaves open which of several holds. -/
namespace SjR
open PySem PySem.Spec PyProof.Rows L2
/-! ### zip of a tuple and a list -/
/-- a pair's coming, turn by turn: the tuple at a and the list at b as they stand -/
def ItTL (K : PySem.W.Frag) (a b : Addr) : It where
  go i H := ∃ (us vs : List V) (u v : V), SqT K H a us ∧ SqL K H b vs ∧ us[i]? = some u ∧ vs[i]? = some v
  yld i H r H' := ∃ T u v, r = .ref T ∧ H T = none ∧ H' = upd H T (.tup [u, v]) ∧ (∀ us, SqT K H a us → us[i]? = some u) ∧ (∀ vs, SqL K H b vs → vs[i]? = some v)
  stop i H := ∃ us vs : List V, SqT K H a us ∧ SqL K H b vs ∧ i ≤ us.length ∧ i ≤ vs.length ∧ (i = us.length ∨ i = vs.length)
theorem five {z t o p q c : Addr} (h : c ∈ [z, t, o, p, q]) : c = z ∨ c = t ∨ c = o ∨ c = p ∨ c = q := by simpa using h
theorem turnTL {P : Program} {w : World} {K : PySem.W.Frag} {es : List Expr} {n : Nat} {tp : Pos} {a b z t o p q : Addr} (D : ZipSep2 z t o p q [p, a] [q, b]) :
    Turn P w K (.Tuple es n tp) (ItTL K a b) [z, t, o, p, q] z (fun i h => IsZip h z t o .none ∧ IsTupOf2 h t (.ref p) (.ref q) ∧ (∃ u v, IsTupOf2 h o u v) ∧ h.IsTupleIter p a i ∧ h.IsListIter q b i) where
  mem := List.mem_cons_self ..
  obj := by
    rintro i h ⟨g1, g2, ⟨u, v, g3⟩, ⟨o4, e4, _, d4⟩, ⟨o5, e5, _, d5⟩⟩ c hc
    rcases five hc with rfl | rfl | rfl | rfl | rfl
    · exact ⟨_, g1, nofun⟩
    · exact ⟨_, g2, nofun⟩
    · exact ⟨_, g3, nofun⟩
    · exact ⟨o4, e4, fun v e => by rw [d4] at e; cases e⟩
    · exact ⟨o5, e5, fun v e => by rw [d5] at e; cases e⟩
  keep := by
    rintro i h h' ⟨g1, g2, ⟨u, v, g3⟩, g4, g5⟩ st
    exact ⟨st _ (by simp) _ g1, st _ (by simp) _ g2, ⟨u, v, st _ (by simp) _ g3⟩, g4.at (fun r => st _ (by simp) r), g5.at (fun r => st _ (by simp) r)⟩
  item := by
    rintro X rfl rfl rfl calm i pins s σ H E I fp ⟨g1, g2, ⟨u0, v0, g3⟩, g4, g5⟩ ⟨us, vs, u, v, q1, q2, e1, e2⟩
    obtain ⟨is1, r1, t1, _⟩ := I.tuple q1
    obtain ⟨is2, r2, t2, _⟩ := I.list q2
    obtain ⟨x, ex, rx⟩ := r1.get e1
    obtain ⟨y, ey, ry⟩ := r2.get e2
    have hd : X.A.in1.handled = none := I.ok.hd calm
    have na : a ≠ p := by
      rintro rfl
      obtain ⟨o1, f1, c1, _⟩ := t1
      obtain ⟨o2, f2, c2, _⟩ := g4
      rw [f1] at f2
      cases f2
      rw [c1] at c2
      exact absurd c2 (by decide)
    have nb : b ≠ q := by
      rintro rfl
      obtain ⟨o1, m1, f1, c1, _⟩ := t2
      obtain ⟨o2, f2, c2, _⟩ := g5
      rw [f1] at f2
      cases f2
      rw [c1] at c2
      exact absurd c2 (by decide)
    have lz : z < s.heap.objs.size := Heap.lt_size g1
    refine wpAny_pyNext_zipD2_item D (Draws.tuple hd p a na is1.toArray) (Draws.list hd q b nb is2.toArray) g1 g2 g3 ⟨g4, t1⟩ ⟨g5, t2.isList⟩ (by
      rw [List.size_toArray]
      exact (List.getElem?_eq_some_iff.mp ex).1) (by
      rw [List.size_toArray]
      exact (List.getElem?_eq_some_iff.mp ey).1) fun x' y' h' tk p1 p2 b1 b2 b3 b4 b5 b6 b7 => ?_
    obtain rfl : x = x' := Option.some.inj (ex.symm.trans (by simpa using p1))
    obtain rfl : y = y' := Option.some.inj (ey.symm.trans (by simpa using p2))
    refine ⟨_, rfl, wpAny_letOwnedTupleGo_zip (s := { s with heap := h', toks := tk }) b1 fun h2 c1 c2 => ?_⟩
    have far : ∀ c r, c ≠ z → h'.get? c = some r → h2.get? c = some r := fun c r hc e => (c2.2 c hc).trans e
    have made : h2.get? s.heap.objs.size = some { cls := .type "tuple", data := .seq #[x, y] } := far _ _ (Nat.ne_of_gt lz) b5
    have I2 : Inv X pins σ (upd H s.heap.objs.size (.tup [u, v])) { s with heap := h2, toks := tk } :=
      I.turnedNew (ch := [z, t, o, p, q]) (fun c r nc e => far c r (fun k => nc (by simp [k])) (b7 c r (fun k => nc (by simp [k])) (fun k => nc (by simp [k])) (fun k => nc (by simp [k])) (fun k => nc (by simp [k])) e)) fp (Nat.le_refl _)
        ⟨(by show 2 ≤ sizeLine; decide), [x, y], .cons rx (.cons ry .nil), ⟨_, made, rfl, _, rfl⟩⟩
    refine ⟨.ref s.heap.objs.size, _, I2, rfl, ⟨_, u, v, rfl, I.hok.fresh (Nat.le_refl _), rfl, fun us' k => by rw [I.tuple_inj k q1]; exact e1, fun vs' k => by rw [I.list_inj k q2]; exact e2⟩,
      ⟨c1, far _ _ D.TIz (b7 _ _ D.TIz D.TITO D.TIi1 D.TIi2 g2), ⟨x, y, far _ _ D.TOz b2⟩, b3.1.at fun r => far _ r D.zi1.symm, b4.1.at fun r => far _ r D.zi2.symm⟩, fun c hc => ?_⟩
    have lc : c < s.heap.objs.size := by
      rcases five hc with rfl | rfl | rfl | rfl | rfl
      · exact lz
      · exact Heap.lt_size g2
      · exact Heap.lt_size g3
      · obtain ⟨_, e, _⟩ := g4
        exact Heap.lt_size e
      · obtain ⟨_, e, _⟩ := g5
        exact Heap.lt_size e
    rw [upd_ne (Nat.ne_of_lt lc)]
    exact (fp c hc).1
  done := by
    rintro X rfl rfl rfl calm i pins s σ H E I fp ⟨g1, g2, ⟨u0, v0, g3⟩, g4, g5⟩ ⟨us, vs, q1, q2, l1, l2, last⟩
    obtain ⟨is1, r1, t1, _⟩ := I.tuple q1
    obtain ⟨is2, r2, t2, _⟩ := I.list q2
    have hd : X.A.in1.handled = none := I.ok.hd calm
    have na : a ≠ p := by
      rintro rfl
      obtain ⟨o1, f1, c1, _⟩ := t1
      obtain ⟨o2, f2, c2, _⟩ := g4
      rw [f1] at f2
      cases f2
      rw [c1] at c2
      exact absurd c2 (by decide)
    have nb : b ≠ q := by
      rintro rfl
      obtain ⟨o1, m1, f1, c1, _⟩ := t2
      obtain ⟨o2, f2, c2, _⟩ := g5
      rw [f1] at f2
      cases f2
      rw [c1] at c2
      exact absurd c2 (by decide)
    have m1 : is1.toArray.size = us.length := by rw [List.size_toArray]; exact r1.length.symm
    have m2 : is2.toArray.size = vs.length := by rw [List.size_toArray]; exact r2.length.symm
    refine wpAny_pyNext_zipD2_end D (Draws.tuple hd p a na is1.toArray) (Draws.list hd q b nb is2.toArray) g1 g2 g3 ⟨g4, t1⟩ ⟨g5, t2.isList⟩ (by omega) (by omega) (by omega) fun h' tk kp => ⟨rfl, ?_⟩
    exact I.turnedL (ch := [z, t, o, p, q]) (fun c r nc e => kp c r (fun k => nc (by simp [k])) (fun k => nc (by simp [k])) (fun k => nc (by simp [k])) (fun k => nc (by simp [k])) e) fp
  self := by
    rintro A i s Q E ⟨g1, _⟩ h
    exact wpAny_pyIter_zip g1 h
def iTL (K : PySem.W.Frag) (ta : TA) : TI := fun σ H R => ta σ H fun vs H1 => ∃ a b us ws, vs = [.ref a, .ref b] ∧ SqT K H1 a us ∧ SqL K H1 b ws ∧ R (ItTL K a b) H1
theorem pi_zipTL {X : Cx} {e e2 : Expr} {ta : TA} {p pos tp : Pos} {es : List Expr} {n : Nat} (hg : Gl X "zip") (hm : X.mg "zip" = none) (ha : PA X [e, e2] ta)
    (hs : starEach [e, e2] X.env = (false, eval e X.env) :: starEach [e2] X.env := by rfl) (hp : (backTo pos (starEach [e2] X.env)).any (·.1) = false := by rfl) :
    PI X (.Tuple es n tp) (.Call (.Name "zip" p) [e, e2] [] pos) (iTL X.K ta) := by
  constructor
  intro pins s σ H R I h
  refine Call_ (ld_blt I hg hm PyProof.Rows.boot_zip (PyProof.Rows.callWith_type1 (thn (ha.run pos pins s σ H _ I h) ?_) hs hp))
  rintro us s1 ⟨vs, H1, I1, rel, a, b, xs, ys, rfl, q1, q2, fin⟩
  cases rel with
  | cons k1 rel =>
    cases rel with
    | cons k2 rel =>
      cases rel
      cases k1
      cases k2
      obtain ⟨is1, r1, t1, _⟩ := I1.tuple q1
      obtain ⟨is2, r2, t2, _⟩ := I1.list q2
      have la : a < s1.heap.objs.size := by
        obtain ⟨_, e, _⟩ := t1
        exact Heap.lt_size e
      have sep : ZipSep2 (s1.heap.objs.size + 4) (s1.heap.objs.size + 2) (s1.heap.objs.size + 3) s1.heap.objs.size (s1.heap.objs.size + 1) [s1.heap.objs.size, a] [s1.heap.objs.size + 1, b] :=
        zip_sep2 (fun c hc => by rw [List.mem_singleton] at hc; rw [hc]; exact la) (fun c hc => by rw [List.mem_singleton] at hc; rw [hc]; exact t2.lt)
      refine zip_begins2 (begins_tuple a is1.toArray) (begins_list b is2.toArray) t1 t2.isList fun h' g1 g2 g3 g4 g5 _ kp => wpAny_pyIter_zip g1 ?_
      refine ⟨_, [s1.heap.objs.size + 4, s1.heap.objs.size + 2, s1.heap.objs.size + 3, s1.heap.objs.size, s1.heap.objs.size + 1], _, _, H1, rfl, I1.kept (t' := s1.toks) kp, turnTL sep, ⟨g1, g2, ⟨_, _, g3⟩, ⟨_, g4, rfl, rfl⟩, ⟨_, g5, rfl, rfl⟩⟩, fun c hc => ?_, fin⟩
      have lc : s1.heap.objs.size ≤ c := by
        rcases five hc with rfl | rfl | rfl | rfl | rfl
        · exact Nat.le_add_right _ _
        · exact Nat.le_add_right _ _
        · exact Nat.le_add_right _ _
        · exact Nat.le_refl _
        · exact Nat.le_add_right _ _
      exact I1.fpOk lc (I1.hok.fresh lc)
/-- a loop over zip of a tuple and a list of one length -/
theorem for_zipTL {K : PySem.W.Frag} {a b : Addr} {us vs : List V} {g : TG} {tb : TS} {D : Ends} {σ : L2.St} {H : Hp} (hl : us.length = vs.length) (Pv : Nat → L2.St → Hp → Prop) (h0 : Pv 0 σ H)
    (hq : ∀ i σ H, Pv i σ H → SqT K H a us ∧ SqL K H b vs)
    (hs : ∀ (i : Nat) (u v : V) (T : Addr) (σ : L2.St) (H : Hp), us[i]? = some u → vs[i]? = some v → Pv i σ H → H T = none →
      g (.ref T) σ (upd H T (.tup [u, v])) fun σ2 H2 => tb { D with nx := Pv (i + 1), ct := Pv (i + 1), bk := D.nx } σ2 H2)
    (hd : ∀ σ H, Pv us.length σ H → D.nx σ H) :
    ∃ W : Nat → Nat → L2.St → Hp → Prop, (∃ m, W 0 m σ H) ∧ ∀ i m σ H, W i m σ H → ((ItTL K a b).stop i H ∧ D.nx σ H) ∨
      ((ItTL K a b).go i H ∧ ∃ N : L2.St → Hp → Prop, (∀ σ' H', N σ' H' → ∃ m', m' < m ∧ W (i + 1) m' σ' H') ∧ ∀ v H', (ItTL K a b).yld i H v H' → g v σ H' fun σ2 H2 => tb { D with nx := N, ct := N, bk := D.nx } σ2 H2) := by
  refine ⟨fun i m σ H => i + m = us.length ∧ Pv i σ H, ⟨us.length, Nat.zero_add _, h0⟩, ?_⟩
  rintro i m σ H ⟨e, pv⟩
  obtain ⟨q1, q2⟩ := hq i σ H pv
  cases m with
  | zero =>
    have e' : i = us.length := by omega
    subst e'
    exact .inl ⟨⟨us, vs, q1, q2, Nat.le_refl _, by omega, .inl rfl⟩, hd σ H pv⟩
  | succ m =>
    have l1 : i < us.length := by omega
    have l2 : i < vs.length := by omega
    refine .inr ⟨⟨us, vs, us[i], vs[i], q1, q2, List.getElem?_eq_getElem l1, List.getElem?_eq_getElem l2⟩, Pv (i + 1), fun σ' H' pv' => ⟨m, Nat.lt_succ_self _, by omega, pv'⟩, ?_⟩
    rintro r H' ⟨T, u, v, rfl, nT, rfl, f1, f2⟩
    exact hs i u v T σ H (f1 us q1) (f2 vs q2) pv nT
/-! ### d[k] of a written dict, k a whole number -/
/-- each key of the entries is a whole number with its own hash -/
def IntKeys : List DictEntry → Prop
  | [] => True
  | e :: r => (∃ i t, e.key = .int i t ∧ e.hash = hashInt i) ∧ IntKeys r
theorem IntKeys.all : ∀ {l : List DictEntry}, IntKeys l → ∀ e ∈ l, ∃ i t, e.key = .int i t ∧ e.hash = hashInt i
  | [], _, _, m => by cases m
  | _ :: _, h, e, m => by
    rcases List.mem_cons.mp m with rfl | m
    · exact h.1
    · exact IntKeys.all h.2 e m
/-- at the address a the top has written a dict that holds u at i -/
def IntDict (K : PySem.W.Frag) (a : Addr) (i : Int) (u : Value) : Prop :=
  ∃ es n, K.lookup a = some ⟨.type "dict", none, .dict es n, #[]⟩ ∧ IntKeys es.toList ∧ findBy Value.isInt es i = some u
def rIntDict (K : PySem.W.Frag) : R2 := fun x y H Q => ∃ a i v u, x = .ref a ∧ y = .int i ∧ IntDict K a i u ∧ RelV v u ∧ Q v H
theorem ix_intDict {X : Cx} : IxR X (rIntDict X.K) := by
  rintro value slice pins s σ H x y v u Q I rx ry ⟨a, i, r, u0, rfl, rfl, ⟨es, n, hl, hk, hf⟩, ru, q⟩ hs
  obtain rfl : v = Value.ref a := rx
  obtain ⟨t, rfl⟩ := ry
  have hm : s.heap.MapOf (intKind X.prog X.w) a (fun k => findBy Value.isInt es k) := ⟨_, es, n, I.kIn _ _ hl, ⟨rfl, rfl, rfl⟩, rfl, fun e he => by
    obtain ⟨j, t', e1, e2⟩ := hk.all e (Array.mem_toList_iff.mpr he)
    exact ⟨j, by rw [e1]; exact intKind_is X.prog X.w j t', e2⟩, fun _ => rfl⟩
  exact tail_any hm.typeIs slot_dict_getitem.lookup (wpAny_getItem_of (intKind_is X.prog X.w i t) hm hf ⟨r, H, I.tok _, ru, q⟩) hs
/-! ### which of several is left open -/
theorem pe_any {X : Cx} {J : Type} {e : Expr} {t : J → TE} (h : ∀ j, PE X e (t j)) : PE X e (fun σ H Q => ∃ j, t j σ H Q) :=
  ⟨fun pins s σ H Q I ⟨j, q⟩ => (h j).run pins s σ H Q I q⟩
/-- .. where it is known of which it may be -/
theorem pe_anyIf {X : Cx} {J : Type} {e : Expr} {p : J → Prop} {t : J → TE} (h : ∀ j, p j → PE X e (t j)) : PE X e (fun σ H Q => ∃ j, p j ∧ t j σ H Q) :=
  ⟨fun pins s σ H Q I ⟨j, pj, q⟩ => (h j pj).run pins s σ H Q I q⟩
end SjR
/-! A rule of one's own: min of a list of tuples of whole numbers. -/
namespace SjR
open PySem PySem.Spec PyProof.Rows L2
abbrev lt (a b : List Int) : Bool := PySem.W.listLt a b
theorem lt_cons (x y : Int) (xs ys : List Int) : lt (x :: xs) (y :: ys) = if x = y then lt xs ys else decide (x < y) := rfl
theorem lt_irrefl : ∀ a : List Int, lt a a = false
  | [] => rfl
  | x :: xs => by
    rw [lt_cons, if_pos rfl]
    exact lt_irrefl xs
theorem lt_trans : ∀ a b c : List Int, lt a b = true → lt b c = true → lt a c = true
  | [], [], c, h, _ => by cases h
  | [], _ :: _, [], _, h => by cases h
  | [], _ :: _, _ :: _, _, _ => rfl
  | _ :: _, [], _, h, _ => by cases h
  | _ :: _, _ :: _, [], _, h => by cases h
  | x :: xs, y :: ys, z :: zs, h1, h2 => by
    rw [lt_cons] at h1 h2 ⊢
    by_cases e1 : x = y
    · rw [if_pos e1] at h1
      subst e1
      by_cases e2 : x = z
      · rw [if_pos e2] at h2
        rw [if_pos e2]
        exact lt_trans xs ys zs h1 h2
      · rw [if_neg e2] at h2
        rw [if_neg e2]
        exact h2
    · rw [if_neg e1] at h1
      have h1' := of_decide_eq_true h1
      by_cases e2 : y = z
      · subst e2
        rw [if_neg e1]
        exact h1
      · rw [if_neg e2] at h2
        have h2' := of_decide_eq_true h2
        rw [if_neg (by omega)]
        exact decide_eq_true (by omega)
theorem best_is (bt : Nat → Nat → Bool) (f : Nat → List Int) (n : Nat) (hb : ∀ i j, i < n → j < n → bt i j = lt (f i) (f j)) : ∀ k, k < n → argBest bt k ≤ k ∧ ∀ j, j ≤ k → lt (f j) (f (argBest bt k)) = false
  | 0, h => ⟨Nat.le_refl _, fun j hj => by
    have : j = 0 := by omega
    subst this
    exact lt_irrefl _⟩
  | k + 1, h => by
    obtain ⟨i1, i2⟩ := best_is bt f n hb k (by omega)
    unfold argBest
    by_cases c : bt (k + 1) (argBest bt k) = true
    · rw [if_pos c]
      rw [hb _ _ h (by omega)] at c
      refine ⟨Nat.le_refl _, fun j hj => ?_⟩
      by_cases e : j = k + 1
      · subst e
        exact lt_irrefl _
      · cases q : lt (f j) (f (k + 1)) with
        | false => rfl
        | true =>
          have := lt_trans _ _ _ q c
          rw [i2 j (by omega)] at this
          cases this
    · rw [if_neg c]
      refine ⟨by omega, fun j hj => ?_⟩
      by_cases e : j = k + 1
      · subst e
        rw [← hb _ _ h (by omega)]
        simpa using c
      · exact i2 j (by omega)
/-- min(xs), xs a list of tuples of whole numbers -/
def rMinT (K : PySem.W.Frag) : List V → Hp → VK → Prop := fun vs H Q => ∃ (a : Addr) (es : List (List Int × Addr)), vs = [V.ref a] ∧ SqL K H a (es.map fun e => V.ref e.2) ∧ (∀ e ∈ es, SqT K H e.2 (e.1.map V.int)) ∧ es ≠ [] ∧
  ∀ e ∈ es, (∀ e' ∈ es, lt e'.1 e.1 = false) → Q (.ref e.2) H
theorem hold_ints {h : Heap} : ∀ {ns : List Int} {us : List Value}, Vals (ns.map V.int) us → PySem.W.HoldAll h us ns
  | [], _, r => by
    cases r
    exact PySem.W.HoldAll.nil
  | n :: ns, _, r => by
    cases r with
    | cons k r =>
      obtain ⟨t, rfl⟩ := k
      exact PySem.W.HoldAll.cons (PySem.W.holds_int n t) (hold_ints r)
theorem hold_tups {X : Cx} {pins : List (Addr × Obj)} {s : Shared} {σ : L2.St} {H : Hp} (I : Inv X pins σ H s) : ∀ {es : List (List Int × Addr)} {us : List Value}, (∀ e ∈ es, SqT X.K H e.2 (e.1.map V.int)) → Vals (es.map fun e => V.ref e.2) us → PySem.W.HoldAll s.heap us (es.map fun e => PySem.W.Tup.mk e.1)
  | [], _, _, r => by
    cases r
    exact PySem.W.HoldAll.nil
  | e :: es, _, h, r => by
    cases r with
    | cons k r =>
      cases k
      obtain ⟨its, r1, t1, _⟩ := I.tuple (h e (List.mem_cons_self ..))
      exact PySem.W.HoldAll.cons (PySem.W.holds_tup t1 (hold_ints r1)) (hold_tups I (fun e' he' => h e' (List.mem_cons_of_mem _ he')) r)
theorem cr_minT {X : Cx} (hc : X.calm = true) (hu : X.A.units + 64 < cLine) : CallR X (.builtin "min") (rMinT X.K) := by
  intro pins s σ H vs us Q I r h
  obtain ⟨a, es, rfl, hs, ht, hne, q⟩ := h
  obtain ⟨its, rv, hl, _⟩ := I.list hs
  rw [Vals.ref1 r]
  have HA := hold_tups I ht rv
  obtain ⟨as, ra⟩ := HA
  have hlen : its.length = es.length := by
    have := rv.length
    rw [List.length_map] at this
    exact this.symm
  have hpos : 0 < es.length := List.length_pos_iff.mpr hne
  have hh : X.A.handled = none := I.ok.hd hc
  refine PySem.call_min_walkH (PySem.W.iter_listW (A := X.A.in1) hh hl.isList fun s2 e W st hfp hw hk => ?_)
  have hsz : its.toArray.size = es.length := by rw [List.size_toArray]; exact hlen
  refine ⟨_, _, _, _, _, _, _, s.heap, _, rfl, W, st, hfp, by omega, hw, hk, PySem.W.cmpIn_lt (A := X.A.in1) (by simpa using ra) (PySem.W.alikeAll_datum (es.map fun e => PySem.W.Tup.mk e.1)) ?_, fun v s' hP m => ?_⟩
  · have := PySem.W.depthAll_map (es.map fun e => PySem.W.Tup.mk e.1)
    have h2 : PySem.W.Datum.depth (PySem.W.Tup Int) = 1 := rfl
    show X.A.units + 1 + _ < _
    omega
  · obtain ⟨h', tk, rfl, hk'⟩ := PySem.W.moved_old e rfl m
    have get : ∀ i, i < es.length → ((es.map fun e => PySem.W.Tup.mk e.1).map PySem.W.Datum.toD).getD i .none = PySem.W.Datum.toD (PySem.W.Tup.mk (es.getD i ([], 0)).1) := fun i hi => by
      rw [List.getD_eq_getElem?_getD, List.getElem?_map, List.getElem?_map, List.getD_eq_getElem?_getD, List.getElem?_eq_getElem hi]
      rfl
    obtain ⟨b1, b2⟩ := best_is (fun i j => PySem.W.dataLt (((es.map fun e => PySem.W.Tup.mk e.1).map PySem.W.Datum.toD).getD i .none) (((es.map fun e => PySem.W.Tup.mk e.1).map PySem.W.Datum.toD).getD j .none)) (fun i => (es.getD i ([], 0)).1) es.length (fun i j hi hj => by
      show PySem.W.dataLt _ _ = _
      rw [get i hi, get j hj, PySem.W.DatumOrd.lt_eq]
      rfl) (es.length - 1) (by omega)
    rw [hsz] at hP
    generalize argBest _ (es.length - 1) = i0 at *
    have hi0 : i0 < es.length := by omega
    have ei : es[i0]? = some es[i0] := List.getElem?_eq_getElem hi0
    obtain ⟨u, eu, ru⟩ := rv.get (i := i0) (show (es.map fun e => V.ref e.2)[i0]? = some (.ref es[i0].2) by rw [List.getElem?_map, ei]; rfl)
    have : u = v := by
      have h1 : its.toArray[i0]? = some v := hP
      rw [List.getElem?_toArray, eu] at h1
      exact Option.some.inj h1
    subst this
    refine ⟨.ref es[i0].2, H, I.kept hk', ru, q _ (List.getElem_mem hi0) fun e' he' => ?_⟩
    obtain ⟨j, hj, rfl⟩ := List.getElem_of_mem he'
    have := b2 j (by omega)
    have g1 : es.getD j ([], 0) = es[j] := by rw [List.getD_eq_getElem?_getD, List.getElem?_eq_getElem hj]; rfl
    have g2 : es.getD i0 ([], 0) = es[i0] := by rw [List.getD_eq_getElem?_getD, ei]; rfl
    rw [g1, g2] at this
    exact this
end SjR
namespace Sj
open PySem PySem.Spec PyProof.Rows L2
def top (i : Nat) : Stmt := PySem.Challenge.pw_sleepers_s01_answers.main.body.getD i (.Pass ⟨0, 0, 0, 0⟩)
abbrev sIsTimer : Stmt := top 18
abbrev sIsHand : Stmt := top 19
abbrev sIsWord : Stmt := top 20
abbrev sIsDelay : Stmt := top 21
abbrev sIsPeriod : Stmt := top 22
abbrev sIsSlack : Stmt := top 23
abbrev sIsContent : Stmt := top 24
abbrev sIsChoice : Stmt := top 25
abbrev sIsSpan : Stmt := top 26
abbrev sIsHandCount : Stmt := top 27
abbrev sIsTickCount : Stmt := top 28
abbrev sMoved : Stmt := top 29
/-- one number in, a truth value out, nothing changed -/
def spIs (p : Int → Bool) : Sp := fun vs H Q _ => ∃ n : Int, vs = [.int n] ∧ Q (.bl (p n)) H
section
variable {P : Program} {w : World} {K : PySem.W.Frag} {mg : Str → Option Value} {base : Heap}
theorem chain_le {a b n : Int} {Q : VK} {H : Hp} (h : Q (.bl (Sj54.isIn a b n)) H) :
    ∃ k : Bool, V.bl (decide (a ≤ n)) = .bl k ∧ (if k = true then ∃ i j, V.int n = .int i ∧ V.int b = .int j ∧ Q (.bl (decide (i ≤ j))) H else Q (.bl false) H) := by
  refine ⟨_, rfl, ?_⟩
  have e : Sj54.isIn a b n = (decide (a ≤ n) && decide (n ≤ b)) := rfl
  rw [e] at h
  cases c : decide (a ≤ n) with
  | true =>
    rw [c] at h
    exact iteT ⟨n, b, rfl, rfl, h⟩
  | false =>
    rw [c] at h
    exact iteF h
theorem scIsTimer : FnScope ["number"] ["number"] (defScope sIsTimer) := ⟨rfl, rfl, rfl, by decide +kernel, rfl, by decide +kernel, by decide +kernel⟩
theorem ok_isTimer {f : Addr} {fd : FuncData} (F : Fun K "is_timer" "is_timer" sIsTimer f fd) : FnOk P w K mg base CX0 1 f fd ["number"] (spIs (Sj54.isIn 0 63)) := by
  refine F.ok scIsTimer (fun vs H Q E h => ?_) (fun cdv A outer s H vs Q E hr h => ?_)
  · obtain ⟨n, rfl, _⟩ := h
    rfl
  · obtain ⟨n, rfl, k⟩ := h
    refine ⟨_, pss_one (ps_ret (pe_chain op_le op_le pe_int (pv 0) pe_int)), ?_⟩
    refine ⟨_, rfl, _, _, rfl, rfl, ?_⟩
    exact chain_le k
theorem scIsHand : FnScope ["number"] ["number"] (defScope sIsHand) := ⟨rfl, rfl, rfl, by decide +kernel, rfl, by decide +kernel, by decide +kernel⟩
theorem ok_isHand {f : Addr} {fd : FuncData} (F : Fun K "is_hand" "is_hand" sIsHand f fd) : FnOk P w K mg base CX0 1 f fd ["number"] (spIs (Sj54.isIn 0 15)) := by
  refine F.ok scIsHand (fun vs H Q E h => ?_) (fun cdv A outer s H vs Q E hr h => ?_)
  · obtain ⟨n, rfl, _⟩ := h
    rfl
  · obtain ⟨n, rfl, k⟩ := h
    refine ⟨_, pss_one (ps_ret (pe_chain op_le op_le pe_int (pv 0) pe_int)), ?_⟩
    refine ⟨_, rfl, _, _, rfl, rfl, ?_⟩
    exact chain_le k
theorem scIsWord : FnScope ["number"] ["number"] (defScope sIsWord) := ⟨rfl, rfl, rfl, by decide +kernel, rfl, by decide +kernel, by decide +kernel⟩
theorem ok_isWord {f : Addr} {fd : FuncData} (F : Fun K "is_word" "is_word" sIsWord f fd) : FnOk P w K mg base CX0 1 f fd ["number"] (spIs (Sj54.isIn 0 63)) := by
  refine F.ok scIsWord (fun vs H Q E h => ?_) (fun cdv A outer s H vs Q E hr h => ?_)
  · obtain ⟨n, rfl, _⟩ := h
    rfl
  · obtain ⟨n, rfl, k⟩ := h
    refine ⟨_, pss_one (ps_ret (pe_chain op_le op_le pe_int (pv 0) pe_int)), ?_⟩
    refine ⟨_, rfl, _, _, rfl, rfl, ?_⟩
    exact chain_le k
theorem scIsSlack : FnScope ["number"] ["number"] (defScope sIsSlack) := ⟨rfl, rfl, rfl, by decide +kernel, rfl, by decide +kernel, by decide +kernel⟩
theorem ok_isSlack {f : Addr} {fd : FuncData} (F : Fun K "is_slack" "is_slack" sIsSlack f fd) : FnOk P w K mg base CX0 1 f fd ["number"] (spIs (Sj54.isIn 0 65535)) := by
  refine F.ok scIsSlack (fun vs H Q E h => ?_) (fun cdv A outer s H vs Q E hr h => ?_)
  · obtain ⟨n, rfl, _⟩ := h
    rfl
  · obtain ⟨n, rfl, k⟩ := h
    refine ⟨_, pss_one (ps_ret (pe_chain op_le op_le pe_int (pv 0) pe_int)), ?_⟩
    refine ⟨_, rfl, _, _, rfl, rfl, ?_⟩
    exact chain_le k
theorem scIsChoice : FnScope ["number"] ["number"] (defScope sIsChoice) := ⟨rfl, rfl, rfl, by decide +kernel, rfl, by decide +kernel, by decide +kernel⟩
theorem ok_isChoice {f : Addr} {fd : FuncData} (F : Fun K "is_choice" "is_choice" sIsChoice f fd) : FnOk P w K mg base CX0 1 f fd ["number"] (spIs (Sj54.isIn 0 1)) := by
  refine F.ok scIsChoice (fun vs H Q E h => ?_) (fun cdv A outer s H vs Q E hr h => ?_)
  · obtain ⟨n, rfl, _⟩ := h
    rfl
  · obtain ⟨n, rfl, k⟩ := h
    refine ⟨_, pss_one (ps_ret (pe_chain op_le op_le pe_int (pv 0) pe_int)), ?_⟩
    refine ⟨_, rfl, _, _, rfl, rfl, ?_⟩
    exact chain_le k
theorem scIsHandCount : FnScope ["number"] ["number"] (defScope sIsHandCount) := ⟨rfl, rfl, rfl, by decide +kernel, rfl, by decide +kernel, by decide +kernel⟩
theorem ok_isHandCount {f : Addr} {fd : FuncData} (F : Fun K "is_hand_count" "is_hand_count" sIsHandCount f fd) : FnOk P w K mg base CX0 1 f fd ["number"] (spIs (Sj54.isIn 0 16)) := by
  refine F.ok scIsHandCount (fun vs H Q E h => ?_) (fun cdv A outer s H vs Q E hr h => ?_)
  · obtain ⟨n, rfl, _⟩ := h
    rfl
  · obtain ⟨n, rfl, k⟩ := h
    refine ⟨_, pss_one (ps_ret (pe_chain op_le op_le pe_int (pv 0) pe_int)), ?_⟩
    refine ⟨_, rfl, _, _, rfl, rfl, ?_⟩
    exact chain_le k
theorem scIsTickCount : FnScope ["number"] ["number"] (defScope sIsTickCount) := ⟨rfl, rfl, rfl, by decide +kernel, rfl, by decide +kernel, by decide +kernel⟩
theorem ok_isTickCount {f : Addr} {fd : FuncData} (F : Fun K "is_tick_count" "is_tick_count" sIsTickCount f fd) : FnOk P w K mg base CX0 1 f fd ["number"] (spIs (Sj54.isIn 1 1000)) := by
  refine F.ok scIsTickCount (fun vs H Q E h => ?_) (fun cdv A outer s H vs Q E hr h => ?_)
  · obtain ⟨n, rfl, _⟩ := h
    rfl
  · obtain ⟨n, rfl, k⟩ := h
    refine ⟨_, pss_one (ps_ret (pe_chain op_le op_le pe_int (pv 0) pe_int)), ?_⟩
    refine ⟨_, rfl, _, _, rfl, rfl, ?_⟩
    exact chain_le k
theorem scIsDelay : FnScope ["number"] ["number"] (defScope sIsDelay) := ⟨rfl, rfl, rfl, by decide +kernel, rfl, by decide +kernel, by decide +kernel⟩
theorem ok_isDelay {f : Addr} {fd : FuncData} {t : Tok} (F : Fun K "is_delay" "is_delay" sIsDelay f fd) (gL : mg "LONGEST" = some (.int 16777216 t)) : FnOk P w K mg base CX0 1 f fd ["number"] (spIs (Sj54.isIn 1 16777216)) := by
  refine F.ok scIsDelay (fun vs H Q E h => ?_) (fun cdv A outer s H vs Q E hr h => ?_)
  · obtain ⟨n, rfl, _⟩ := h
    rfl
  · obtain ⟨n, rfl, k⟩ := h
    refine ⟨_, pss_one (ps_ret (pe_chain op_le op_le pe_int (pv 0) (pe_glob (v := .int 16777216) rfl gL ⟨_, rfl⟩))), ?_⟩
    refine ⟨_, rfl, _, _, rfl, rfl, ?_⟩
    exact chain_le k
theorem scIsSpan : FnScope ["number"] ["number"] (defScope sIsSpan) := ⟨rfl, rfl, rfl, by decide +kernel, rfl, by decide +kernel, by decide +kernel⟩
theorem ok_isSpan {f : Addr} {fd : FuncData} {t : Tok} (F : Fun K "is_span" "is_span" sIsSpan f fd) (gL : mg "LONGEST" = some (.int 16777216 t)) : FnOk P w K mg base CX0 1 f fd ["number"] (spIs (Sj54.isIn 0 16777216)) := by
  refine F.ok scIsSpan (fun vs H Q E h => ?_) (fun cdv A outer s H vs Q E hr h => ?_)
  · obtain ⟨n, rfl, _⟩ := h
    rfl
  · obtain ⟨n, rfl, k⟩ := h
    refine ⟨_, pss_one (ps_ret (pe_chain op_le op_le pe_int (pv 0) (pe_glob (v := .int 16777216) rfl gL ⟨_, rfl⟩))), ?_⟩
    refine ⟨_, rfl, _, _, rfl, rfl, ?_⟩
    exact chain_le k
theorem scIsContent : FnScope ["number"] ["number"] (defScope sIsContent) := ⟨rfl, rfl, rfl, by decide +kernel, rfl, by decide +kernel, by decide +kernel⟩
theorem ok_isContent {f : Addr} {fd : FuncData} {t : Tok} (F : Fun K "is_content" "is_content" sIsContent f fd) (gL : mg "WORD_LIMIT" = some (.int 4294967296 t)) : FnOk P w K mg base CX0 1 f fd ["number"] (spIs (Sj54.isIn 0 4294967295)) := by
  refine F.ok scIsContent (fun vs H Q E h => ?_) (fun cdv A outer s H vs Q E hr h => ?_)
  · obtain ⟨n, rfl, _⟩ := h
    rfl
  · obtain ⟨n, rfl, k⟩ := h
    refine ⟨_, pss_one (ps_ret (pe_chain op_le op_lt pe_int (pv 0) (pe_glob (v := .int 4294967296) rfl gL ⟨_, rfl⟩))), ?_⟩
    refine ⟨_, rfl, _, _, rfl, rfl, ?_⟩
    refine ⟨_, rfl, ?_⟩
    have e : Sj54.isIn 0 4294967295 n = (decide ((0 : Int) ≤ n) && decide (n < 4294967296)) := by
      rw [Bool.eq_iff_iff, SjF.isIn_iff, Bool.and_eq_true, decide_eq_true_eq, decide_eq_true_eq]
      omega
    rw [e] at k
    cases c : decide ((0 : Int) ≤ n) with
    | true =>
      rw [c] at k
      exact iteT ⟨n, 4294967296, rfl, rfl, k⟩
    | false =>
      rw [c] at k
      exact iteF k
theorem scIsPeriod : FnScope ["number"] ["number"] (defScope sIsPeriod) := ⟨rfl, rfl, rfl, by decide +kernel, rfl, by decide +kernel, by decide +kernel⟩
theorem ok_isPeriod {f : Addr} {fd : FuncData} {t : Tok} (F : Fun K "is_period" "is_period" sIsPeriod f fd) (gL : mg "LONGEST" = some (.int 16777216 t)) : FnOk P w K mg base CX0 1 f fd ["number"] (spIs fun p => p == 0 || Sj54.isIn 16 16777216 p) := by
  refine F.ok scIsPeriod (fun vs H Q E h => ?_) (fun cdv A outer s H vs Q E hr h => ?_)
  · obtain ⟨n, rfl, _⟩ := h
    rfl
  · obtain ⟨n, rfl, k⟩ := h
    refine ⟨_, pss_one (ps_ret (pe_or (pe_cmpR op_eq (pv 0) pe_int (nomark _)) (pe_one (pe_chain op_le op_le pe_int (pv 0) (pe_glob (v := .int 16777216) rfl gL ⟨_, rfl⟩))))), ?_⟩
    refine ⟨_, rfl, rfl, _, rfl, ?_⟩
    refine ite2 (fun c => ?_) (fun c => ?_)
    · have e : n = 0 := by simpa using c
      subst e
      exact k
    · have e : (n == 0) = false := by
        rw [beq_eq_false_iff_ne]
        intro z
        subst z
        simp at c
      simp only [e, Bool.false_or] at k
      refine ⟨_, rfl, _, _, rfl, rfl, ?_⟩
      exact chain_le k
theorem scMoved : FnScope ["earliest", "slack", "tick", "lower"] ["earliest", "slack"] (defScope sMoved) := ⟨rfl, rfl, rfl, by decide +kernel, rfl, by decide +kernel, by decide +kernel⟩
def spMoved : Sp := fun vs H Q _ => ∃ d s : Nat, vs = [.int d, .int s] ∧ 0 < d ∧ d + s < 2 ^ 41 ∧ Q (.int (Sj54.at_ d s : Nat)) H
theorem ok_moved {f : Addr} {fd : FuncData} (F : Fun K "moved_a_little" "moved_a_little" sMoved f fd) : FnOk P w K mg base CX0 1 f fd ["earliest", "slack"] spMoved := by
  refine F.ok scMoved (fun vs H Q E h => ?_) (fun cdv A outer s H vs Q E hr h => ?_)
  · obtain ⟨d, s, rfl, _⟩ := h
    rfl
  · obtain ⟨d, s, rfl, h0, h1, k⟩ := h
    refine ⟨_, pss_cons (ps_set (i := 2) scMoved.nd rfl (Or.inl rfl) (pe_op op_add (pv 0) (pv 1)))
      (pss_cons (ps_set (i := 3) scMoved.nd rfl (Or.inl rfl) (pe_op op_and (pv 2) (pe_op op_sub (pv 2) pe_int)))
      (pss_cons (ps_while PassesOwn.never (pt_cmpR op_ge (pv 3) (pv 0) (nomark _))
        (pss_cons (ps_set (i := 2) scMoved.nd rfl (Or.inl rfl) (pv 3))
          (pss_one (ps_set (i := 3) scMoved.nd rfl (Or.inl rfl) (pe_op op_and (pv 2) (pe_op op_sub (pv 2) pe_int))))))
      (pss_one (ps_ret (pv 2))))), ?_⟩
    refine ⟨_, rfl, _, rfl, _, _, rfl, rfl, ?_⟩
    refine ⟨_, rfl, _, rfl, _, _, rfl, rfl, _, _, rfl, rfl, ?_⟩
    have ec : ∀ t : Nat, 0 < t → Builtin.bitAnd (t : Int) ((t : Int) - 1) = (SjA.clr t : Nat) := fun t ht => by
      rw [show ((t : Int) - 1) = ((t - 1 : Nat) : Int) by omega]
      exact PySem.W.os_band _ _
    refine ⟨fun m σ H' => ∃ t j : Nat, t = m ∧ σ = [some (.int d), some (.int s), some (.int t), some (.int (SjA.clr t : Nat))] ∧ H' = H ∧ d ≤ t ∧ t = Sj54.cutTo j (d + s),
      ⟨d + s, d + s, 0, rfl, ?_, rfl, Nat.le_add_right _ _, (SjA.cut_zero _).symm⟩, ?_⟩
    · rw [← ec (d + s) (by omega)]
      rfl
    · rintro m σ H' ⟨t, j, rfl, rfl, rfl, h2, h3⟩
      refine ⟨_, rfl, _, rfl, _, _, rfl, rfl, _, rfl, ?_⟩
      refine ite2 (fun c => ?_) (fun c => ?_)
      · have c' : d ≤ SjA.clr t := by
          have := of_decide_eq_true c
          omega
        have lt := SjA.clr_lt (n := t) (by omega)
        obtain ⟨j', ej⟩ := SjA.clr_cut (j := j) (n := d + s) (by omega)
        rw [← h3] at ej
        refine ⟨fun σ' H2 => ∃ t' j : Nat, t' < t ∧ σ' = [some (.int d), some (.int s), some (.int t'), some (.int (SjA.clr t' : Nat))] ∧ H2 = H' ∧ d ≤ t' ∧ t' = Sj54.cutTo j (d + s),
          fun σ' H2 ⟨t', j2, a1, a2, a3, a4, a5⟩ => ⟨t', a1, t', j2, rfl, a2, a3, a4, a5⟩, ?_⟩
        refine ⟨_, rfl, ?_⟩
        refine ⟨_, rfl, _, rfl, _, _, rfl, rfl, _, _, rfl, rfl, ?_⟩
        refine ⟨SjA.clr t, j', lt, ?_, rfl, c', ej⟩
        rw [← ec (SjA.clr t) (by omega)]
        rfl
      · have c' : SjA.clr t < d := by
          have c2 : ¬ ((d : Int) ≤ (SjA.clr t : Nat)) := fun z => c (decide_eq_true z)
          omega
        refine ⟨_, rfl, ?_⟩
        have e := SjA.at_of_cut (j := j) h0 h1 (by omega) (by rw [← h3]; exact c')
        rw [e, ← h3] at k
        exact k
end
end Sj
namespace Sj
open PySem PySem.Spec PyProof.Rows L2
open Sj54 (House Sleeper)
abbrev Ev3 := Nat × Nat × Nat
/-! ### how a house lies in the heap -/
/-- the classes: of timers, of those asleep, of houses -/
structure Cl where
  T : Addr
  S : Addr
  H : Addr
/-- the places of a house's parts -/
structure Ad where
  x : Addr
  dT : Addr
  dS : Addr
  lW : Addr
  lH : Addr
  lC : Addr
def Ad.six (A : Ad) : List Addr := [A.x, A.dT, A.dS, A.lW, A.lH, A.lC]
def nat (n : Nat) : V := .int (n : Int)
def till : Option Nat → V
  | none => .non
  | some t => nat t
def tF (t : Sj54.Timer) : List (Str × V) := [("due", nat t.due), ("period", nat t.period), ("slack", nat t.slack), ("place", nat (t.order + 1))]
def sF (s : Sleeper) : List (Str × V) := [("word", nat s.word), ("watches", .bl s.watch), ("late_at", till s.till), ("place", nat (s.order + 1))]
def hF (A : Ad) (now order : Nat) : List (Str × V) := [("now", nat now), ("timers", .ref A.dT), ("sleepers", .ref A.dS), ("words", .ref A.lW), ("happened", .ref A.lH), ("counts", .ref A.lC), ("places", nat order)]
def Ins (H : Hp) (a C : Addr) (fs : List (Str × V)) : Prop := ∃ dx, H a = some (.ins C dx fs)
abbrev TE3 := Nat × Sj54.Timer × Addr
/-- the timers that are set: the dict's entries, in its own order -/
structure TmAt (C : Addr) (H : Hp) (es : List TE3) (ts : List (Option Sj54.Timer)) : Prop where
  nd : (es.map (·.1)).Nodup
  get : ∀ e ∈ es, ts[e.1]? = some (some e.2.1) ∧ Ins H e.2.2 C (tF e.2.1)
  all : ∀ (n : Nat) (t : Sj54.Timer), ts[n]? = some (some t) → ∃ p, (n, t, p) ∈ es
def tK (es : List TE3) : List (Key × V) := es.map fun e => (Sum.inl (e.1 : Int), V.ref e.2.2)
abbrev SE := Sleeper × Addr
def sK (es : List SE) : List (Key × V) := es.map fun e => (Sum.inl (e.1.hand : Int), V.ref e.2)
abbrev EE := Ev3 × Addr
def eV (e : Ev3) : List V := [nat e.1, nat e.2.1, nat e.2.2]
structure HouseAt (C : Cl) (H : Hp) (A : Ad) (h : House) : Prop where
  ob : Ins H A.x C.H (hF A h.now h.order)
  tm : ∃ es, H A.dT = some (.dK (tK es)) ∧ TmAt C.T H es h.timers
  sl : ∃ es : List SE, H A.dS = some (.dK (sK es)) ∧ es.map (·.1) = h.asleep ∧ (∀ e ∈ es, Ins H e.2 C.S (sF e.1)) ∧ (es.map (·.2)).Nodup
  wd : H A.lW = some (.lst (h.words.map nat))
  ev : ∃ es : List EE, H A.lH = some (.lst (es.map fun e => V.ref e.2)) ∧ es.map (·.1) = h.events ∧ ∀ e ∈ es, H e.2 = some (.tup (eV e.1))
  ct : H A.lC = some (.lst (h.counts.map nat))
  n1 : A.dT ≠ A.dS
  n2 : A.lW ≠ A.lH
  n3 : A.lW ≠ A.lC
  n4 : A.lH ≠ A.lC
/-- what stands behind a change within the house: all else that is no instance -/
def Fr (A : Ad) (H H' : Hp) : Prop := ∀ b o, H b = some o → b ∉ A.six → (∀ C dx fs, o ≠ .ins C dx fs) → H' b = some o
theorem Fr.refl (A : Ad) (H : Hp) : Fr A H H := fun _ _ e _ _ => e
theorem Fr.trans {A : Ad} {H H1 H2 : Hp} (a : Fr A H H1) (b : Fr A H1 H2) : Fr A H H2 := fun c o e n i => b c o (a c o e n i) n i
theorem Fr.of_same {A : Ad} {H H' : Hp} (s : Same H H') : Fr A H H' := fun b o e _ _ => s b o e
theorem same_new {H : Hp} {p : Addr} {o : HO} (h : H p = none) : Same H (upd H p o) := fun a u e => by
  rw [upd_ne (ne_of_none e h)]
  exact e
theorem Fr.put {A : Ad} {H H' : Hp} {a : Addr} {o : HO} (f : Fr A H H') (ha : a ∈ A.six) : Fr A H (upd H' a o) := fun b u e n i => by
  rw [upd_ne (fun z => n (by rw [z]; exact ha))]
  exact f b u e n i
theorem Fr.made {A : Ad} {H H' : Hp} {a : Addr} {o : HO} (f : Fr A H H') (ha : H' a = none) : Fr A H (upd H' a o) := f.trans (Fr.of_same (same_new ha))
/-- what is no instance and not of the house is where it was -/
theorem Fr.seq {K : PySem.W.Frag} {A : Ad} {H H' : Hp} {a : Addr} {xs : List V} (f : Fr A H H') (na : (∃ o, H a = some o) → a ∉ A.six) (h : SqL K H a xs) : SqL K H' a xs := by
  rcases h with (h | ⟨o, h⟩) | h
  · exact .inl (.inl (f _ _ h (na ⟨_, h⟩) nofun))
  · exact .inl (.inr ⟨o, f _ _ h (na ⟨_, h⟩) nofun⟩)
  · exact .inr h
theorem ins_keep {H H' : Hp} {a C : Addr} {fs : List (Str × V)} (k : ∀ b C dx fs, H b = some (.ins C dx fs) → H' b = some (.ins C dx fs)) (h : Ins H a C fs) : Ins H' a C fs := let ⟨dx, e⟩ := h; ⟨dx, k _ _ _ _ e⟩
theorem TmAt.keep {C : Addr} {H H' : Hp} {es : List TE3} {ts : List (Option Sj54.Timer)} (h : TmAt C H es ts) (k : ∀ b C dx fs, H b = some (.ins C dx fs) → H' b = some (.ins C dx fs)) : TmAt C H' es ts :=
  ⟨h.nd, fun e he => ⟨(h.get e he).1, ins_keep k (h.get e he).2⟩, h.all⟩
/-- a change at a place that is not the house's -/
theorem HouseAt.over {C : Cl} {H H' : Hp} {A : Ad} {h : House} (s : HouseAt C H A h) (g : Addr) (hg : H g = none ∨ ∃ xs, H g = some (.lst xs)) (n : g ∉ A.six) (k : ∀ b o, H b = some o → b ≠ g → H' b = some o) : HouseAt C H' A h := by
  have no : ∀ {b o}, H b = some o → (∀ xs, o ≠ .lst xs) → H' b = some o := fun {b o} e no => k b o e (by
    rcases hg with z | ⟨xs, z⟩
    · exact ne_of_none e z
    · exact ne_of e z (no xs))
  have ki : ∀ b C dx fs, H b = some (.ins C dx fs) → H' b = some (.ins C dx fs) := fun b C dx fs e => no e nofun
  have m : ∀ a, a ∈ A.six → a ≠ g := fun a ha z => n (by rw [← z]; exact ha)
  obtain ⟨te, t1, t2⟩ := s.tm
  obtain ⟨se, s1, s2, s3, s4⟩ := s.sl
  obtain ⟨ee, e1, e2, e3⟩ := s.ev
  exact ⟨ins_keep ki s.ob, ⟨te, no t1 nofun, t2.keep ki⟩, ⟨se, no s1 nofun, s2, fun e he => ins_keep ki (s3 e he), s4⟩, k _ _ s.wd (m _ (by simp [Ad.six])), ⟨ee, k _ _ e1 (m _ (by simp [Ad.six])), e2, fun e he => no (e3 e he) nofun⟩, k _ _ s.ct (m _ (by simp [Ad.six])), s.n1, s.n2, s.n3, s.n4⟩
theorem HouseAt.same {C : Cl} {H H' : Hp} {A : Ad} {h : House} (s : HouseAt C H A h) (k : Same H H') : HouseAt C H' A h := by
  obtain ⟨te, t1, t2⟩ := s.tm
  obtain ⟨se, s1, s2, s3, s4⟩ := s.sl
  obtain ⟨ee, e1, e2, e3⟩ := s.ev
  have ki : ∀ b C dx fs, H b = some (.ins C dx fs) → H' b = some (.ins C dx fs) := fun b C dx fs e => k _ _ e
  exact ⟨ins_keep ki s.ob, ⟨te, k _ _ t1, t2.keep ki⟩, ⟨se, k _ _ s1, s2, fun e he => ins_keep ki (s3 e he), s4⟩, k _ _ s.wd, ⟨ee, k _ _ e1, e2, fun e he => k _ _ (e3 e he)⟩, k _ _ s.ct, s.n1, s.n2, s.n3, s.n4⟩
/-- what the house's own places hold is tracked -/
theorem HouseAt.here {C : Cl} {H : Hp} {A : Ad} {h : House} (s : HouseAt C H A h) {a : Addr} (ha : a ∈ A.six) : ∃ o, H a = some o := by
  obtain ⟨dx, ob⟩ := s.ob
  obtain ⟨te, t1, t2⟩ := s.tm
  obtain ⟨se, s1, s2, s3, s4⟩ := s.sl
  obtain ⟨ee, e1, e2, e3⟩ := s.ev
  simp only [Ad.six, List.mem_cons, List.not_mem_nil, or_false] at ha
  rcases ha with rfl | rfl | rfl | rfl | rfl | rfl
  · exact ⟨_, ob⟩
  · exact ⟨_, t1⟩
  · exact ⟨_, s1⟩
  · exact ⟨_, s.wd⟩
  · exact ⟨_, e1⟩
  · exact ⟨_, s.ct⟩
theorem HouseAt.fresh {C : Cl} {H : Hp} {A : Ad} {h : House} (s : HouseAt C H A h) {p : Addr} (hp : H p = none) : p ∉ A.six := fun z => by
  obtain ⟨o, e⟩ := s.here z
  rw [hp] at e
  cases e
/-! ### one part changed -/
theorem HouseAt.setWords {C : Cl} {H : Hp} {A : Ad} {h : House} (s : HouseAt C H A h) (ws : List Nat) : HouseAt C (upd H A.lW (.lst (ws.map nat))) A { h with words := ws } := by
  obtain ⟨te, t1, t2⟩ := s.tm
  obtain ⟨se, s1, s2, s3, s4⟩ := s.sl
  obtain ⟨ee, e1, e2, e3⟩ := s.ev
  have no : ∀ {b o}, H b = some o → (∀ xs, o ≠ .lst xs) → upd H A.lW (.lst (ws.map nat)) b = some o := fun {b o} e z => by
    rw [upd_ne (ne_of e s.wd (z _))]
    exact e
  have ki : ∀ b C dx fs, H b = some (.ins C dx fs) → upd H A.lW (.lst (ws.map nat)) b = some (.ins C dx fs) := fun b C dx fs e => no e nofun
  exact ⟨ins_keep ki s.ob, ⟨te, no t1 nofun, t2.keep ki⟩, ⟨se, no s1 nofun, s2, fun e he => ins_keep ki (s3 e he), s4⟩, upd_same, ⟨ee, by rw [upd_ne s.n2.symm]; exact e1, e2, fun e he => no (e3 e he) nofun⟩, by rw [upd_ne s.n3.symm]; exact s.ct, s.n1, s.n2, s.n3, s.n4⟩
theorem HouseAt.setCounts {C : Cl} {H : Hp} {A : Ad} {h : House} (s : HouseAt C H A h) (cs : List Nat) : HouseAt C (upd H A.lC (.lst (cs.map nat))) A { h with counts := cs } := by
  obtain ⟨te, t1, t2⟩ := s.tm
  obtain ⟨se, s1, s2, s3, s4⟩ := s.sl
  obtain ⟨ee, e1, e2, e3⟩ := s.ev
  have no : ∀ {b o}, H b = some o → (∀ xs, o ≠ .lst xs) → upd H A.lC (.lst (cs.map nat)) b = some o := fun {b o} e z => by
    rw [upd_ne (ne_of e s.ct (z _))]
    exact e
  have ki : ∀ b C dx fs, H b = some (.ins C dx fs) → upd H A.lC (.lst (cs.map nat)) b = some (.ins C dx fs) := fun b C dx fs e => no e nofun
  exact ⟨ins_keep ki s.ob, ⟨te, no t1 nofun, t2.keep ki⟩, ⟨se, no s1 nofun, s2, fun e he => ins_keep ki (s3 e he), s4⟩, by rw [upd_ne s.n3]; exact s.wd, ⟨ee, by rw [upd_ne s.n4]; exact e1, e2, fun e he => no (e3 e he) nofun⟩, upd_same, s.n1, s.n2, s.n3, s.n4⟩
/-- one thing more happened: its tuple stands at T -/
theorem HouseAt.addEvent {C : Cl} {H : Hp} {A : Ad} {h : House} (s : HouseAt C H A h) {T : Addr} {e : Ev3} {xs : List V} (hT : H T = some (.tup (eV e))) (hx : H A.lH = some (.lst xs)) : HouseAt C (upd H A.lH (.lst (xs ++ [.ref T]))) A { h with events := h.events ++ [e] } := by
  obtain ⟨te, t1, t2⟩ := s.tm
  obtain ⟨se, s1, s2, s3, s4⟩ := s.sl
  obtain ⟨ee, e1, e2, e3⟩ := s.ev
  have no : ∀ {b o}, H b = some o → (∀ xs, o ≠ .lst xs) → upd H A.lH (.lst (xs ++ [.ref T])) b = some o := fun {b o} q z => by
    rw [upd_ne (ne_of q hx (z _))]
    exact q
  have ki : ∀ b C dx fs, H b = some (.ins C dx fs) → upd H A.lH (.lst (xs ++ [.ref T])) b = some (.ins C dx fs) := fun b C dx fs e => no e nofun
  have ex : xs = ee.map fun e => V.ref e.2 := by
    rw [e1] at hx
    injection hx with q
    injection q with q
    exact q.symm
  subst ex
  refine ⟨ins_keep ki s.ob, ⟨te, no t1 nofun, t2.keep ki⟩, ⟨se, no s1 nofun, s2, fun e he => ins_keep ki (s3 e he), s4⟩, by rw [upd_ne s.n2]; exact s.wd, ⟨ee ++ [(e, T)], ?_, ?_, fun q hq => ?_⟩, by rw [upd_ne s.n4.symm]; exact s.ct, s.n1, s.n2, s.n3, s.n4⟩
  · rw [upd_same, List.map_append]
    rfl
  · rw [List.map_append, e2]
    rfl
  · rcases List.mem_append.mp hq with z | z
    · exact no (e3 q z) nofun
    · have : q = (e, T) := by simpa using z
      subst this
      exact no hT nofun
theorem HouseAt.setSleepers {C : Cl} {H : Hp} {A : Ad} {h : House} (s : HouseAt C H A h) (es : List SE) (h2 : ∀ e ∈ es, Ins H e.2 C.S (sF e.1)) (h3 : (es.map (·.2)).Nodup) : HouseAt C (upd H A.dS (.dK (sK es))) A { h with asleep := es.map (·.1) } := by
  obtain ⟨te, t1, t2⟩ := s.tm
  obtain ⟨se, s1, s2, s3, s4⟩ := s.sl
  obtain ⟨ee, e1, e2, e3⟩ := s.ev
  have no : ∀ {b u}, H b = some u → (∀ xs, u ≠ .dK xs) → upd H A.dS (.dK (sK es)) b = some u := fun {b u} q z => by
    rw [upd_ne (ne_of q s1 (z _))]
    exact q
  have ki : ∀ b C dx fs, H b = some (.ins C dx fs) → upd H A.dS (.dK (sK es)) b = some (.ins C dx fs) := fun b C dx fs e => no e nofun
  exact ⟨ins_keep ki s.ob, ⟨te, by rw [upd_ne s.n1]; exact t1, t2.keep ki⟩, ⟨es, upd_same, rfl, fun e he => ins_keep ki (h2 e he), h3⟩, no s.wd nofun, ⟨ee, no e1 nofun, e2, fun e he => no (e3 e he) nofun⟩, no s.ct nofun, s.n1, s.n2, s.n3, s.n4⟩
theorem HouseAt.setTimers {C : Cl} {H : Hp} {A : Ad} {h : House} (s : HouseAt C H A h) (es : List TE3) (ts : List (Option Sj54.Timer)) (h2 : TmAt C.T H es ts) : HouseAt C (upd H A.dT (.dK (tK es))) A { h with timers := ts } := by
  obtain ⟨te, t1, t2⟩ := s.tm
  obtain ⟨se, s1, s2, s3, s4⟩ := s.sl
  obtain ⟨ee, e1, e2, e3⟩ := s.ev
  have no : ∀ {b u}, H b = some u → (∀ xs, u ≠ .dK xs) → upd H A.dT (.dK (tK es)) b = some u := fun {b u} q z => by
    rw [upd_ne (ne_of q t1 (z _))]
    exact q
  have ki : ∀ b C dx fs, H b = some (.ins C dx fs) → upd H A.dT (.dK (tK es)) b = some (.ins C dx fs) := fun b C dx fs e => no e nofun
  exact ⟨ins_keep ki s.ob, ⟨es, upd_same, h2.keep ki⟩, ⟨se, by rw [upd_ne s.n1.symm]; exact s1, s2, fun e he => ins_keep ki (s3 e he), s4⟩, no s.wd nofun, ⟨ee, no e1 nofun, e2, fun e he => no (e3 e he) nofun⟩, no s.ct nofun, s.n1, s.n2, s.n3, s.n4⟩
/-- the house's own attributes: now, how many places were given out -/
theorem sH {A : Ad} {n o : Nat} {C C' dx dx' : Addr} {s : Sleeper} : HO.ins C dx (sF s) ≠ HO.ins C' dx' (hF A n o) := fun z => by
  injection z with _ _ z
  injection z with z _
  injection z with z _
  exact absurd z (by decide +kernel)
theorem tH {A : Ad} {n o : Nat} {C C' dx dx' : Addr} {s : Sj54.Timer} : HO.ins C dx (tF s) ≠ HO.ins C' dx' (hF A n o) := fun z => by
  injection z with _ _ z
  injection z with z _
  injection z with z _
  exact absurd z (by decide +kernel)
theorem tS {s : Sleeper} {C C' dx dx' : Addr} {t : Sj54.Timer} : HO.ins C dx (tF t) ≠ HO.ins C' dx' (sF s) := fun z => by
  injection z with _ _ z
  injection z with z _
  injection z with z _
  exact absurd z (by decide +kernel)
theorem HouseAt.setObj {C : Cl} {H : Hp} {A : Ad} {h : House} (s : HouseAt C H A h) {dx : Addr} (hx : H A.x = some (.ins C.H dx (hF A h.now h.order))) (n o : Nat) : HouseAt C (upd H A.x (.ins C.H dx (hF A n o))) A { h with now := n, order := o } := by
  obtain ⟨te, t1, t2⟩ := s.tm
  obtain ⟨se, s1, s2, s3, s4⟩ := s.sl
  obtain ⟨ee, e1, e2, e3⟩ := s.ev
  have no : ∀ {b u}, H b = some u → (u ≠ .ins C.H dx (hF A h.now h.order)) → upd H A.x (.ins C.H dx (hF A n o)) b = some u := fun {b u} q z => by
    rw [upd_ne (ne_of q hx z)]
    exact q
  exact ⟨⟨dx, upd_same⟩, ⟨te, no t1 nofun, t2.nd, fun e he => ⟨(t2.get e he).1, let ⟨d, q⟩ := (t2.get e he).2; ⟨d, no q tH⟩⟩, t2.all⟩, ⟨se, no s1 nofun, s2, fun e he => let ⟨d, q⟩ := s3 e he; ⟨d, no q sH⟩, s4⟩, no s.wd nofun, ⟨ee, no e1 nofun, e2, fun e he => no (e3 e he) nofun⟩, no s.ct nofun, s.n1, s.n2, s.n3, s.n4⟩
/-- the first thing that happened is taken -/
theorem HouseAt.dropEvent {C : Cl} {H : Hp} {A : Ad} {h : House} (s : HouseAt C H A h) {e : Ev3} {l : List Ev3} (he : h.events = e :: l) :
    ∃ (T : Addr) (xs : List V), H A.lH = some (.lst (.ref T :: xs)) ∧ H T = some (.tup (eV e)) ∧ HouseAt C (upd H A.lH (.lst xs)) A { h with events := l } := by
  obtain ⟨te, t1, t2⟩ := s.tm
  obtain ⟨se, s1, s2, s3, s4⟩ := s.sl
  obtain ⟨ee, e1, e2, e3⟩ := s.ev
  cases ee with
  | nil =>
    rw [he] at e2
    cases e2
  | cons q ee =>
    rw [he] at e2
    injection e2 with q1 q2
    have no : ∀ {b u}, H b = some u → (∀ xs, u ≠ .lst xs) → upd H A.lH (.lst (ee.map fun e => V.ref e.2)) b = some u := fun {b u} y z => by
      rw [upd_ne (ne_of y e1 (z _))]
      exact y
    have ki : ∀ b C dx fs, H b = some (.ins C dx fs) → upd H A.lH (.lst (ee.map fun e => V.ref e.2)) b = some (.ins C dx fs) := fun b C dx fs e => no e nofun
    refine ⟨q.2, ee.map fun (e : EE) => V.ref e.2, e1, by rw [← q1]; exact e3 q (List.mem_cons_self ..), ?_⟩
    exact ⟨ins_keep ki s.ob, ⟨te, no t1 nofun, t2.keep ki⟩, ⟨se, no s1 nofun, s2, fun e he => ins_keep ki (s3 e he), s4⟩, by rw [upd_ne s.n2]; exact s.wd, ⟨ee, upd_same, q2, fun e he => no (e3 e (List.mem_cons_of_mem _ he)) nofun⟩, by rw [upd_ne s.n4.symm]; exact s.ct, s.n1, s.n2, s.n3, s.n4⟩
/-- an instance that is not the house's own object changes: what is no instance stands -/
theorem Fr.ins {A : Ad} {H H' : Hp} {p C dx : Addr} {fs : List (Str × V)} {o : HO} (f : Fr A H H') (hp : H' p = some (.ins C dx fs)) : Fr A H (upd H' p o) := fun b u e n i => by
  have q := f b u e n i
  rw [upd_ne (ne_of q hp (i _ _ _))]
  exact q
/-! ### the dicts as tables -/
theorem valV_cons {k k' : Key} {v : V} {r : List (Key × V)} : valV ((k', v) :: r) k = if k' = k then some v else valV r k := by
  by_cases e : k' = k
  · rw [if_pos e]
    exact valV_pos e
  · rw [if_neg e]
    exact valV_neg e
theorem sK_val (es : List SE) (n : Nat) : valV (sK es) (.inl (n : Int)) = (es.find? fun e => e.1.hand == n).map fun e => V.ref e.2 := by
  induction es with
  | nil => rfl
  | cons e es ih =>
    show valV ((Sum.inl (e.1.hand : Int), V.ref e.2) :: sK es) _ = _
    rw [valV_cons, List.find?_cons, ih]
    by_cases c : e.1.hand = n
    · rw [if_pos (by rw [c])]
      simp [c]
    · have c2 : ¬ ((Sum.inl (e.1.hand : Int) : Key) = Sum.inl (n : Int)) := fun z => c (by injection z with z; omega)
      rw [if_neg c2]
      have c3 : (e.1.hand == n) = false := by simpa using c
      rw [c3]
theorem sK_drop (es : List SE) (n : Nat) : dropK (sK es) (.inl (n : Int)) = sK (es.filter fun e => e.1.hand != n) := by
  induction es with
  | nil => rfl
  | cons e es ih =>
    show dropK ((Sum.inl (e.1.hand : Int), V.ref e.2) :: sK es) _ = _
    unfold dropK at ih ⊢
    rw [List.filter_cons, List.filter_cons, ih]
    by_cases c : e.1.hand = n
    · subst c
      simp
    · have c2 : ¬ ((Sum.inl (e.1.hand : Int) : Key) = Sum.inl (n : Int)) := fun z => c (by injection z with z; omega)
      have c3 : (e.1.hand != n) = true := by simpa using c
      rw [if_pos (decide_eq_true c2), if_pos c3]
      rfl
theorem tK_val (es : List TE3) (n : Nat) : valV (tK es) (.inl (n : Int)) = (es.find? fun e => e.1 == n).map fun e => V.ref e.2.2 := by
  induction es with
  | nil => rfl
  | cons e es ih =>
    show valV ((Sum.inl (e.1 : Int), V.ref e.2.2) :: tK es) _ = _
    rw [valV_cons, List.find?_cons, ih]
    by_cases c : e.1 = n
    · rw [if_pos (by rw [c])]
      simp [c]
    · have c2 : ¬ ((Sum.inl (e.1 : Int) : Key) = Sum.inl (n : Int)) := fun z => c (by injection z with z; omega)
      rw [if_neg c2]
      have c3 : (e.1 == n) = false := by simpa using c
      rw [c3]
theorem tK_drop (es : List TE3) (n : Nat) : dropK (tK es) (.inl (n : Int)) = tK (es.filter fun e => e.1 != n) := by
  induction es with
  | nil => rfl
  | cons e es ih =>
    show dropK ((Sum.inl (e.1 : Int), V.ref e.2.2) :: tK es) _ = _
    unfold dropK at ih ⊢
    rw [List.filter_cons, List.filter_cons, ih]
    by_cases c : e.1 = n
    · subst c
      simp
    · have c2 : ¬ ((Sum.inl (e.1 : Int) : Key) = Sum.inl (n : Int)) := fun z => c (by injection z with z; omega)
      have c3 : (e.1 != n) = true := by simpa using c
      rw [if_pos (decide_eq_true c2), if_pos c3]
      rfl
/-- in its place, or behind all -/
def tPut (es : List TE3) (n : Nat) (t : Sj54.Timer) (p : Addr) : List TE3 := if es.any (fun e => e.1 == n) then es.map (fun e => if e.1 = n then (n, t, p) else e) else es ++ [(n, t, p)]
theorem tK_put (es : List TE3) (n : Nat) (t : Sj54.Timer) (p : Addr) : putK (tK es) (.inl (n : Int)) (.ref p) = tK (tPut es n t p) := by
  have ea : ((tK es).any fun kv => decide (kv.1 = Sum.inl (n : Int))) = es.any (fun e => e.1 == n) := by
    unfold tK
    rw [List.any_map]
    congr 1
    funext e
    simp only [Function.comp]
    by_cases c : e.1 = n
    · simp [c]
    · have c2 : ¬ ((Sum.inl (e.1 : Int) : Key) = Sum.inl (n : Int)) := fun z => c (by injection z with z; omega)
      rw [decide_eq_false c2]
      exact (by simpa using c : (e.1 == n) = false).symm
  unfold putK tPut
  rw [ea]
  split
  · unfold tK
    rw [List.map_map, List.map_map]
    apply List.map_congr_left
    intro e _
    simp only [Function.comp]
    by_cases c : e.1 = n
    · rw [if_pos c, if_pos (by rw [c]), c]
    · have c2 : ¬ ((Sum.inl (e.1 : Int) : Key) = Sum.inl (n : Int)) := fun z => c (by injection z with z; omega)
      rw [if_neg c, if_neg c2]
  · unfold tK
    rw [List.map_append]
    rfl
theorem TmAt.has {C : Addr} {H : Hp} {es : List TE3} {ts : List (Option Sj54.Timer)} (h : TmAt C H es ts) {n : Nat} {t : Sj54.Timer} (ht : ts[n]? = some (some t)) : ∃ p, (es.find? fun e => e.1 == n) = some (n, t, p) ∧ Ins H p C (tF t) := by
  obtain ⟨p, hp⟩ := h.all n t ht
  cases e : es.find? fun e => e.1 == n with
  | none =>
    have := List.find?_eq_none.mp e _ hp
    simp at this
  | some q =>
    have h1 := List.mem_of_find?_eq_some e
    have h2 : q.1 = n := by simpa using List.find?_some e
    obtain ⟨g1, g2⟩ := h.get q h1
    rw [h2, ht] at g1
    injection g1 with g1
    injection g1 with g1
    obtain ⟨a, b, c⟩ := q
    simp only at h2 g1 g2
    subst h2 g1
    exact ⟨c, rfl, g2⟩
theorem TmAt.hasNot {C : Addr} {H : Hp} {es : List TE3} {ts : List (Option Sj54.Timer)} (h : TmAt C H es ts) {n : Nat} (ht : ∀ t, ts[n]? ≠ some (some t)) : (es.find? fun e => e.1 == n) = none := by
  rw [List.find?_eq_none]
  intro q hq z
  have h2 : q.1 = n := by simpa using z
  have := (h.get q hq).1
  rw [h2] at this
  exact ht _ this
theorem TmAt.drop {C : Addr} {H : Hp} {es : List TE3} {ts : List (Option Sj54.Timer)} (h : TmAt C H es ts) (n : Nat) : TmAt C H (es.filter fun e => e.1 != n) (ts.set n none) := by
  refine ⟨SjF.nodup_filter _ _ h.nd, fun e he => ?_, fun m t hm => ?_⟩
  · obtain ⟨h1, h2⟩ := List.mem_filter.mp he
    obtain ⟨g1, g2⟩ := h.get e h1
    have h3 : e.1 ≠ n := by simpa using h2
    exact ⟨by rw [List.getElem?_set_ne (fun z => h3 z.symm)]; exact g1, g2⟩
  · rcases SjF.set_get hm with ⟨_, z⟩ | ⟨z1, z2⟩
    · cases z
    · obtain ⟨p, hp⟩ := h.all m t z2
      exact ⟨p, List.mem_filter.mpr ⟨hp, by simpa using z1⟩⟩
theorem TmAt.put {C : Addr} {H : Hp} {es : List TE3} {ts : List (Option Sj54.Timer)} (h : TmAt C H es ts) (n : Nat) (t : Sj54.Timer) (p : Addr) (hn : n < ts.length) (hp : Ins H p C (tF t)) : TmAt C H (tPut es n t p) (ts.set n (some t)) := by
  have new : (ts.set n (some t))[n]? = some (some t) := List.getElem?_set_self hn
  unfold tPut
  split
  · rename_i c
    obtain ⟨q, hq, hq2⟩ := List.any_eq_true.mp c
    have hq3 : q.1 = n := by simpa using hq2
    refine ⟨?_, fun e he => ?_, fun m u hm => ?_⟩
    · rw [List.map_map, show ((fun x : TE3 => x.1) ∘ fun e : TE3 => if e.1 = n then (n, t, p) else e) = fun e : TE3 => e.1 from funext fun e => by
        show (if e.1 = n then (n, t, p) else e).1 = e.1
        by_cases z : e.1 = n
        · rw [if_pos z, z]
        · rw [if_neg z]]
      exact h.nd
    · obtain ⟨e0, h0, rfl⟩ := List.mem_map.mp he
      by_cases z : e0.1 = n
      · rw [if_pos z]
        exact ⟨new, hp⟩
      · rw [if_neg z]
        obtain ⟨g1, g2⟩ := h.get e0 h0
        exact ⟨by rw [List.getElem?_set_ne (fun y => z y.symm)]; exact g1, g2⟩
    · rcases SjF.set_get hm with ⟨z1, z2⟩ | ⟨z1, z2⟩
      · subst z1
        injection z2 with z2
        subst z2
        exact ⟨p, List.mem_map.mpr ⟨q, hq, if_pos hq3⟩⟩
      · obtain ⟨r, hr⟩ := h.all m u z2
        exact ⟨r, List.mem_map.mpr ⟨_, hr, if_neg z1⟩⟩
  · rename_i c
    have c' : ∀ e ∈ es, e.1 ≠ n := fun e he z => c (List.any_eq_true.mpr ⟨e, he, by simpa using z⟩)
    refine ⟨?_, fun e he => ?_, fun m u hm => ?_⟩
    · rw [List.map_append, List.nodup_append]
      refine ⟨h.nd, by simp, fun a ha b hb z => ?_⟩
      obtain ⟨e, he, rfl⟩ := List.mem_map.mp ha
      have : b = n := by simpa using hb
      exact c' e he (z.trans this)
    · rcases List.mem_append.mp he with z | z
      · obtain ⟨g1, g2⟩ := h.get e z
        exact ⟨by rw [List.getElem?_set_ne (fun y => c' e z y.symm)]; exact g1, g2⟩
      · have : e = (n, t, p) := by simpa using z
        subst this
        exact ⟨new, hp⟩
    · rcases SjF.set_get hm with ⟨z1, z2⟩ | ⟨z1, z2⟩
      · subst z1
        injection z2 with z2
        subst z2
        exact ⟨p, List.mem_append.mpr (.inr (by simp))⟩
      · obtain ⟨r, hr⟩ := h.all m u z2
        exact ⟨r, List.mem_append.mpr (.inl hr)⟩
end Sj
namespace Sj
open PySem PySem.Spec PyProof.Rows L2
open Sj54 (House Sleeper)
/-- what the top has written, by names -/
structure Txt (K : PySem.W.Frag) (mg : Str → Option Value) (C : Cl) : Prop where
  cT : Cls K C.T
  cS : Cls K C.S
  cH : Cls K C.H
  t1 : NoAttr K C.T "due"
  t2 : NoAttr K C.T "period"
  t3 : NoAttr K C.T "slack"
  t4 : NoAttr K C.T "place"
  s1 : NoAttr K C.S "word"
  s2 : NoAttr K C.S "watches"
  s3 : NoAttr K C.S "late_at"
  s4 : NoAttr K C.S "place"
  h1 : NoAttr K C.H "now"
  h2 : NoAttr K C.H "timers"
  h3 : NoAttr K C.H "sleepers"
  h4 : NoAttr K C.H "words"
  h5 : NoAttr K C.H "happened"
  h6 : NoAttr K C.H "counts"
  h7 : NoAttr K C.H "places"
  gT : mg "Timer" = some (.ref C.T)
  gS : mg "Sleeper" = some (.ref C.S)
  gH : mg "House" = some (.ref C.H)
  len : mg "len" = none
  zip : mg "zip" = none
  lim : ∃ t, mg "WORD_LIMIT" = some (.int 4294967296 t)
  min : mg "min" = none
  lst : mg "list" = none
  due : ∃ t, mg "TIMER_DUE" = some (.int 0 t)
  sto : ∃ t, mg "STORED_IN" = some (.int 1 t)
  wok : ∃ t, mg "WOKEN" = some (.int 2 t)
  lat : ∃ t, mg "LATE" = some (.int 3 t)
theorem lk_here {k : Str} {v : V} {r : List (Str × V)} : List.lookup k ((k, v) :: r) = some v := by
  simp only [List.lookup, beq_self_eq_true]
theorem lk_past {k g : Str} {v u : V} {r : List (Str × V)} (h : List.lookup k r = some u) (n : (k == g) = false := by decide +kernel) : List.lookup k ((g, v) :: r) = some u := by
  simp only [List.lookup, n]
  exact h
theorem hF_now (A : Ad) (n o : Nat) : (hF A n o).lookup ("now" : Str) = some (nat n) := lk_here
theorem hF_timers (A : Ad) (n o : Nat) : (hF A n o).lookup ("timers" : Str) = some (.ref A.dT) := lk_past lk_here
theorem hF_sleepers (A : Ad) (n o : Nat) : (hF A n o).lookup ("sleepers" : Str) = some (.ref A.dS) := lk_past (lk_past lk_here)
theorem hF_words (A : Ad) (n o : Nat) : (hF A n o).lookup ("words" : Str) = some (.ref A.lW) := lk_past (lk_past (lk_past lk_here))
theorem hF_happened (A : Ad) (n o : Nat) : (hF A n o).lookup ("happened" : Str) = some (.ref A.lH) := lk_past (lk_past (lk_past (lk_past lk_here)))
theorem hF_counts (A : Ad) (n o : Nat) : (hF A n o).lookup ("counts" : Str) = some (.ref A.lC) := lk_past (lk_past (lk_past (lk_past (lk_past lk_here))))
theorem hF_places (A : Ad) (n o : Nat) : (hF A n o).lookup ("places" : Str) = some (nat o) := lk_past (lk_past (lk_past (lk_past (lk_past (lk_past lk_here)))))
theorem sF_word (s : Sleeper) : (sF s).lookup ("word" : Str) = some (nat s.word) := lk_here
theorem sF_watches (s : Sleeper) : (sF s).lookup ("watches" : Str) = some (.bl s.watch) := lk_past lk_here
theorem tF_due (t : Sj54.Timer) : (tF t).lookup ("due" : Str) = some (nat t.due) := lk_here
theorem sF_late (s : Sleeper) : (sF s).lookup ("late_at" : Str) = some (till s.till) := lk_past (lk_past lk_here)
theorem sF_place (s : Sleeper) : (sF s).lookup ("place" : Str) = some (nat (s.order + 1)) := lk_past (lk_past (lk_past lk_here))
theorem tF_period (t : Sj54.Timer) : (tF t).lookup ("period" : Str) = some (nat t.period) := lk_past lk_here
theorem tF_slack (t : Sj54.Timer) : (tF t).lookup ("slack" : Str) = some (nat t.slack) := lk_past (lk_past lk_here)
theorem tF_place (t : Sj54.Timer) : (tF t).lookup ("place" : Str) = some (nat (t.order + 1)) := lk_past (lk_past (lk_past lk_here))
abbrev sNextPlace : Stmt := top 30
abbrev sNote : Stmt := top 31
abbrev sPutTimer : Stmt := top 32
abbrev sWakeHand : Stmt := top 33
abbrev sMoveHand : Stmt := top 34
abbrev sAsleepAt : Stmt := top 35
abbrev sStoreIn : Stmt := top 36
abbrev sDueUpTo : Stmt := top 37
abbrev sTimerHappen : Stmt := top 38
abbrev sTicksGoBy : Stmt := top 39
abbrev sTillLate : Stmt := top 40
section
variable {P : Program} {w : World} {K : PySem.W.Frag} {mg : Str → Option Value} {base : Heap} {C : Cl}
def noted (h : House) (k i t : Nat) : House := { h with events := h.events ++ [(k, i, t)], counts := Sj54.counted h.counts k 1 }
/-- all that is not the house's own stands -/
def Keep (A : Ad) (H H' : Hp) : Prop := ∀ b o, H b = some o → b ∉ A.six → H' b = some o
theorem Keep.fr {A : Ad} {H H' : Hp} (k : Keep A H H') : Fr A H H' := fun b o e n _ => k b o e n
theorem Keep.same {A : Ad} {H H' : Hp} (s : Same H H') : Keep A H H' := fun b o e _ => s b o e
theorem Keep.put {A : Ad} {H H' : Hp} {a : Addr} {o : HO} (k : Keep A H H') (ha : a ∈ A.six) : Keep A H (upd H' a o) := fun b u e n => by
  rw [upd_ne (fun z => n (by rw [z]; exact ha))]
  exact k b u e n
def spNote (C : Cl) : Sp := fun vs H Q _ => ∃ (A : Ad) (h : House) (k i : Nat), vs = [.ref A.x, nat k, nat i] ∧ HouseAt C H A h ∧ k < h.counts.length ∧ h.events.length < sizeLine ∧
  ∀ H', HouseAt C H' A (noted h k i h.now) → Keep A H H' → Q .non H'
theorem scNote : FnScope ["house", "sort", "who"] ["house", "sort", "who"] (defScope sNote) := ⟨rfl, rfl, rfl, by decide +kernel, rfl, by decide +kernel, by decide +kernel⟩
theorem map_set_nat (l : List Nat) (i x : Nat) : (l.map nat).set i (nat x) = (l.set i x).map nat := by rw [List.map_set]
theorem ixN_nat {n k : Nat} (h : k < n) : ixN n (k : Int) = some k := by
  unfold ixN
  rw [if_pos (by omega), if_pos (by omega)]
  simp
theorem ok_note {f : Addr} {fd : FuncData} (F : Fun K "note_happening" "note_happening" sNote f fd) (T : Txt K mg C) : FnOk P w K mg base CX0 1 f fd ["house", "sort", "who"] (spNote C) := by
  obtain ⟨tl, gl⟩ := T.lim
  refine F.ok scNote (fun vs H Q E h => ?_) (fun cdv A0 outer s H vs Q E hr h => ?_)
  · obtain ⟨A, h, k, i, rfl, _⟩ := h
    rfl
  · obtain ⟨A, h, k, i, rfl, hA, hk, hl, fin⟩ := h
    refine ⟨_, pss_cons (ps_expr (pe_bm PySem.F.plainAttrs_list PySem.F.slot_list_append PySem.F.type_list_append mt_append (pe_fld (pv 0) rfl) (pa_cons (pe_tup (pa_cons (pv 1) (pa_cons (pv 2) (pa_cons (pe_fld (pv 0) rfl) pa_nil)))) pa_nil)))
      (pss_one (ps_asg (pe_op op_mod (pe_op op_add (pe_ix ix_list (pe_fld (pv 0) rfl) (pv 1) (fun _ _ => rfl)) pe_int) (pe_glob (v := .int 4294967296) rfl gl ⟨_, rfl⟩)) (pg_sub (pe_fld (pv 0) rfl) (pv 1) set_list))), ?_⟩
    obtain ⟨dx, ob⟩ := hA.ob
    obtain ⟨ee, e1, e2, e3⟩ := hA.ev
    have le : ee.length = h.events.length := by rw [← e2, List.length_map]
    refine ⟨_, rfl, A.x, C.H, dx, _, _, rfl, ob, T.cH, T.h5, hF_happened _ _ _, .inl ⟨rfl, _, SqL.of e1⟩, _, rfl, _, rfl, _, rfl, A.x, C.H, dx, _, _, rfl, ob, T.cH, T.h1, hF_now _ _ _, (by show 3 ≤ sizeLine; decide), fun p np => ?_⟩
    have sm : Same H (upd H p (.tup (eV (k, i, h.now)))) := same_new np
    have hB := hA.same sm
    refine ⟨A.lH, _, _, rfl, rfl, sm _ _ e1, (by rw [List.length_map, le]; exact hl), ?_⟩
    have hC := hB.addEvent (e := (k, i, h.now)) (T := p) upd_same (sm _ _ e1)
    obtain ⟨dx2, ob2⟩ := hC.ob
    have ck : h.counts[k]? = some h.counts[k] := List.getElem?_eq_getElem hk
    refine ⟨_, rfl, A.x, C.H, dx2, _, _, rfl, ob2, T.cH, T.h6, hF_counts _ _ _, _, rfl, A.lC, _, _, _, rfl, rfl, SqL.of hC.ct, (atI_nat (j := k) (by rw [List.getElem?_map, ck]; rfl)), _, _, rfl, rfl, _, _, rfl, rfl, (by show (0 : Int) < 4294967296; decide), ?_⟩
    refine ⟨_, rfl, A.x, C.H, dx2, _, _, rfl, ob2, T.cH, T.h6, hF_counts _ _ _, _, rfl, A.lC, _, _, k, rfl, rfl, hC.ct, ixN_nat (by rw [List.length_map]; exact hk), ?_⟩
    have ev : V.int (((h.counts[k] : Nat) + 1 : Int) % 4294967296) = nat ((h.counts[k] + 1) % Sj54.W) := by
      show _ = V.int _
      congr 1
    have eg : Sj54.counted h.counts k 1 = h.counts.set k ((h.counts[k] + 1) % Sj54.W) := by
      unfold Sj54.counted
      rw [List.getD_eq_getElem?_getD, ck]
      rfl
    have hD := hC.setCounts (Sj54.counted h.counts k 1)
    rw [eg, ← map_set_nat, ← ev] at hD
    refine fin _ ?_ (Keep.put (Keep.put (Keep.same sm) (by simp [Ad.six])) (by simp [Ad.six]))
    unfold noted
    rw [eg]
    exact hD
/-- one place more is given out -/
def spNextPlace (C : Cl) : Sp := fun vs H Q _ => ∃ (A : Ad) (h : House), vs = [.ref A.x] ∧ HouseAt C H A h ∧
  ∀ H', HouseAt C H' A { h with order := h.order + 1 } → Fr A H H' → (∀ b o, H b = some o → b ≠ A.x → H' b = some o) → (∀ b, H' b = none → H b = none) → Q (nat (h.order + 1)) H'
theorem scNextPlace : FnScope ["house"] ["house"] (defScope sNextPlace) := ⟨rfl, rfl, rfl, by decide +kernel, rfl, by decide +kernel, by decide +kernel⟩
theorem put_here {f : Str} {v x : V} {r : List (Str × V)} : putF f v ((f, x) :: r) = (f, v) :: r := if_pos rfl
theorem put_past {f g : Str} {v x : V} {r : List (Str × V)} (h : ¬ g = f) : putF f v ((g, x) :: r) = (g, x) :: putF f v r := if_neg h
theorem hF_put (A : Ad) (n o o' : Nat) : putF "places" (nat o') (hF A n o) = hF A n o' := by
  unfold hF
  rw [put_past (by decide +kernel), put_past (by decide +kernel), put_past (by decide +kernel), put_past (by decide +kernel), put_past (by decide +kernel), put_past (by decide +kernel), put_here]
theorem hF_putNow (A : Ad) (n o n' : Nat) : putF "now" (nat n') (hF A n o) = hF A n' o := by
  unfold hF
  rw [put_here]
theorem free_put {H : Hp} {a r : Addr} {u : HO} (n : upd H a u r = none) : H r = none := by
  by_cases z : r = a
  · rw [z, upd_same] at n
    cases n
  · rwa [upd_ne z] at n
theorem ok_nextPlace {f : Addr} {fd : FuncData} (F : Fun K "next_place" "next_place" sNextPlace f fd) (T : Txt K mg C) : FnOk P w K mg base CX0 1 f fd ["house"] (spNextPlace C) := by
  refine F.ok scNextPlace (fun vs H Q E h => ?_) (fun cdv A0 outer s H vs Q E hr h => ?_)
  · obtain ⟨A, h, rfl, _⟩ := h
    rfl
  · obtain ⟨A, h, rfl, hA, fin⟩ := h
    refine ⟨_, pss_cons (ps_fld (pv 0) (pe_op op_add (pe_fld (pv 0) rfl) pe_int) rfl) (pss_one (ps_ret (pe_fld (pv 0) rfl))), ?_⟩
    obtain ⟨dx, ob⟩ := hA.ob
    refine ⟨_, rfl, A.x, C.H, dx, _, _, rfl, ob, T.cH, T.h7, hF_places _ _ _, _, _, rfl, rfl, _, rfl, A.x, C.H, dx, _, rfl, ob, T.cH, T.h7, (by show 7 < 1000; decide), ?_⟩
    rw [show putF "places" (V.int ((h.order : Int) + 1)) (hF A h.now h.order) = hF A h.now (h.order + 1) from hF_put ..]
    refine ⟨_, rfl, A.x, C.H, dx, _, _, rfl, upd_same, T.cH, T.h7, hF_places _ _ _, ?_⟩
    exact fin _ (hA.setObj ob h.now (h.order + 1)) (Fr.put (Fr.refl A H) (by simp [Ad.six])) (fun b o e n => by rw [upd_ne n]; exact e) (fun b => free_put)
end
end Sj
namespace Sj
open PySem PySem.Spec PyProof.Rows L2
open Sj54 (House Sleeper)
/-- a def of the top, by its name -/
structure Df (K : PySem.W.Frag) (mg : Str → Option Value) (x : Str) (st : Stmt) (ps : List Str) (f : Addr) (fd : FuncData) : Prop where
  F : Fun K x x st f fd
  b : Binds K fd ps []
  g : mg x = some (.ref f)
section
variable {P : Program} {w : World} {K : PySem.W.Frag} {mg : Str → Option Value} {base : Heap} {C : Cl}
def spWake (C : Cl) : Sp := fun vs H Q _ => ∃ (A : Ad) (h : House) (i k : Nat), vs = [.ref A.x, nat i, nat k] ∧ HouseAt C H A h ∧ (∃ s ∈ h.asleep, s.hand = i) ∧ k < h.counts.length ∧ h.events.length < sizeLine ∧
  ∀ H', HouseAt C H' A (noted { h with asleep := h.asleep.filter fun s => s.hand != i } k i h.now) → Fr A H H' → Q .non H'
theorem scWake : FnScope ["house", "hand", "sort"] ["house", "hand", "sort"] (defScope sWakeHand) := ⟨rfl, rfl, rfl, by decide +kernel, rfl, by decide +kernel, by decide +kernel⟩
theorem ok_wake {f fN : Addr} {fd fdN : FuncData} (F : Fun K "wake_hand" "wake_hand" sWakeHand f fd) (T : Txt K mg C) (N : Df K mg "note_happening" sNote ["house", "sort", "who"] fN fdN) : FnOk P w K mg base CX0 2 f fd ["house", "hand", "sort"] (spWake C) := by
  have G : FnOk P w K mg base CX0 1 fN fdN ["house", "sort", "who"] (spNote C) := ok_note N.F T
  refine F.ok scWake (fun vs H Q E h => ?_) (fun cdv A0 outer s H vs Q E hr h => ?_)
  · obtain ⟨A, h, i, k, rfl, _⟩ := h
    rfl
  · obtain ⟨A, h, i, k, rfl, hA, ⟨s0, hs0, es0⟩, hk, hl, fin⟩ := h
    refine ⟨_, pss_cons (ps_expr (pe_dpop1 (pe_fld (pv 0) rfl) (pv 1) ⟨rfl, rfl, rfl, rfl⟩))
      (pss_one (ps_expr (pe_call G hr rfl N.g N.F.kp N.b .nil pass0 (pa_cons (pv 0) (pa_cons (pv 2) (pa_cons (pv 1) pa_nil)))))), ?_⟩
    obtain ⟨dx, ob⟩ := hA.ob
    obtain ⟨se, s1, s2, s3, s4⟩ := hA.sl
    obtain ⟨e, he, ee⟩ : ∃ e, e ∈ se ∧ e.1.hand = i := by
      rw [← s2] at hs0
      obtain ⟨e, he, rfl⟩ := List.mem_map.mp hs0
      exact ⟨e, he, es0⟩
    obtain ⟨v, hv⟩ : ∃ v, valV (sK se) (.inl (i : Int)) = some v := by
      rw [sK_val]
      cases q : se.find? fun e => e.1.hand == i with
      | none => exact absurd (List.find?_eq_none.mp q e he) (by simp [ee])
      | some z => exact ⟨_, rfl⟩
    refine ⟨_, rfl, A.x, C.H, dx, _, _, rfl, ob, T.cH, T.h3, hF_sleepers _ _ _, A.dS, rfl, .inl ⟨_, .inl s1⟩, _, rfl, sK se, .inl (i : Int), v, s1, rfl, hv, ?_⟩
    rw [sK_drop]
    have hB := hA.setSleepers (se.filter fun e => e.1.hand != i) (fun e he => s3 e (List.mem_filter.mp he).1) (SjF.nodup_filter _ _ s4)
    have eq : (se.filter fun e => e.1.hand != i).map (·.1) = h.asleep.filter fun s => s.hand != i := by
      rw [← s2, List.filter_map]
      rfl
    rw [eq] at hB
    refine ⟨_, rfl, _, rfl, _, rfl, A, _, k, i, rfl, hB, hk, hl, fun H' hC fr => ?_⟩
    exact fin H' hC ((Fr.put (Fr.refl A H) (by simp [Ad.six])).trans fr.fr)
def spAt (C : Cl) : Sp := fun vs H Q _ => ∃ (A : Ad) (h : House) (wd : Nat) (b : Bool), vs = [.ref A.x, nat wd, .bl b] ∧ HouseAt C H A h ∧ h.asleep.length < 1000 ∧
  ∀ H' p, Same H H' → H p = none → H' p = some (.lst ((h.at_ wd b).map fun s => nat s.hand)) → Q (.ref p) H'
theorem scAt : FnScope ["house", "word", "watches", "hand", "sleeper"] ["house", "word", "watches"] (defScope sAsleepAt) := ⟨rfl, rfl, rfl, by decide +kernel, rfl, by decide +kernel, by decide +kernel⟩
def t_at (K : PySem.W.Frag) : TS := tRet (tLockE (tLc (iItems (tFld K (tVar 0) "sleepers")) (gTup K 2 (gCons (gName 3) (gCons (gName 4) gNil))) (tAnd (tTest (tOp rEq (tFld K (tVar 4) "word") (tVar 1))) (tTest (tOp rEq (tFld K (tVar 4) "watches") (tVar 2)))) (tVar 3) [3, 4]))
theorem take_more {α : Type} {l : List α} {i : Nat} {x : α} (h : l[i]? = some x) : l.take (i + 1) = l.take i ++ [x] := by
  rw [List.take_add_one, h]
  rfl
theorem ok_at {f : Addr} {fd : FuncData} (F : Fun K "hands_asleep_at" "hands_asleep_at" sAsleepAt f fd) (T : Txt K mg C) : FnOk P w K mg base CX0 1 f fd ["house", "word", "watches"] (spAt C) := by
  refine F.ok scAt (fun vs H Q E h => ?_) (fun cdv A0 outer s H vs Q E hr h => ?_)
  · obtain ⟨A, h, i, k, rfl, _⟩ := h
    rfl
  · obtain ⟨A, h, wd, b, rfl, hA, hlen, fin⟩ := h
    refine ⟨t_at K, ?d, ?_⟩
    case d =>
      refine pss_one (ps_ret (pe_lock ?_))
      refine pe_lc (own := [("hand", 3), ("sleeper", 4)]) rfl scAt.nd (pi_items (pe_fld (pv 0) rfl)) (blkOk_by (N := ["house", "word", "watches", "hand", "sleeper"]) (sc := defScope sAsleepAt) (by decide +kernel)) (fun _ _ _ _ _ => ?_) (fun _ _ _ _ _ => ?_) (fun _ _ _ _ _ => ?_)
      · exact pg_tup rfl (pgs_cons (pg_name (i := 3) scAt.nd rfl (Or.inl rfl)) (pgs_cons (pg_name (i := 4) scAt.nd rfl (Or.inl rfl)) pgs_nil))
      · exact pts_one (PW.pt (pw_and (pt_cmpR op_eq (pe_fld (pv 4) rfl) (pv 1) (nomark _)) (pw_and1 (pt_cmpR op_eq (pe_fld (pv 4) rfl) (pv 2) (nomark _)))))
      · exact pv 3
    obtain ⟨dx, ob⟩ := hA.ob
    obtain ⟨se, s1, s2, s3, s4⟩ := hA.sl
    refine ⟨A.dS, _, s1, trivial, fun od => ?_⟩
    have nx : A.x ≠ A.dS := ne_of ob s1 nofun
    refine ⟨_, rfl, A.x, C.H, dx, _, _, rfl, (by rw [upd_ne nx]; exact ob), T.cH, T.h3, hF_sleepers _ _ _, A.dS, od, sK se, rfl, upd_same, fun D hD => ?_⟩
    have nD : H D = none := by
      by_cases z : D = A.dS
      · rw [z, upd_same] at hD
        cases hD
      · rwa [upd_ne z] at hD
    have cond : ∀ e : SE, (e.1.word == wd && e.1.watch == b) = (decide (nat e.1.word = nat wd) && decide (V.bl e.1.watch = V.bl b)) := fun e => by
      have c1 : (e.1.word == wd) = decide (nat e.1.word = nat wd) := by
        by_cases z : e.1.word = wd
        · simp [z]
        · have : ¬ nat e.1.word = nat wd := fun y => z (by injection y with y; omega)
          simp [z, this]
      have c2 : (e.1.watch == b) = decide (V.bl e.1.watch = V.bl b) := by
        cases e.1.watch <;> cases b <;> rfl
      rw [c1, c2]
    refine lc_it walk_items (fun i H' => Same (upd H A.dS (.frz od (.dK (sK se)))) H' ∧ H' D = some (.lst (((se.take i).filter fun e => e.1.word == wd && e.1.watch == b).map fun e => nat e.1.hand)))
      ⟨same_new hD, upd_same⟩ (fun i H' _ pv => pv.1 _ _ upd_same) (fun i x H1 H2 hi pv y => ?_) (fun H' pv => ?_)
    · obtain ⟨sm, hD1⟩ := pv
      obtain ⟨T0, kx, vy, rfl, hT, rfl, e1, e2⟩ := y
      have hi2 : i < se.length := by simpa [sK] using hi
      have ei : se[i]? = some se[i] := List.getElem?_eq_getElem hi2
      have ek : (sK se)[i]? = some (Sum.inl (se[i].1.hand : Int), V.ref se[i].2) := by
        unfold sK
        rw [List.getElem?_map, ei]
        rfl
      simp only [ek, Option.map_some, Option.some.injEq] at e1 e2
      subst e1 e2
      obtain ⟨dxs, hp⟩ := s3 _ (List.mem_of_getElem? ei)
      have sm2 : Same H1 (upd H1 T0 (.tup [nat se[i].1.hand, .ref se[i].2])) := same_new hT
      have hp2 : upd H1 T0 (.tup [nat se[i].1.hand, .ref se[i].2]) se[i].2 = some (.ins C.S dxs (sF se[i].1)) := sm2 _ _ (sm _ _ (by rw [upd_ne (ne_of hp s1 nofun)]; exact hp))
      have hD2 := sm2 _ _ hD1
      have step : ((se.take (i + 1)).filter fun e => e.1.word == wd && e.1.watch == b) = ((se.take i).filter fun e => e.1.word == wd && e.1.watch == b) ++ (if (se[i].1.word == wd && se[i].1.watch == b) = true then [se[i]] else []) := by
        rw [take_more ei, List.filter_append, List.filter_cons, List.filter_nil]
      rw [cond] at step
      refine ⟨T0, _, rfl, SqT.of upd_same, rfl, _, _, rfl, _, _, rfl, rfl, rfl, ?_⟩
      refine ⟨_, rfl, se[i].2, C.S, dxs, _, _, rfl, hp2, T.cS, T.s1, sF_word _, _, rfl, rfl, _, rfl, ?_⟩
      cases c1 : decide (nat se[i].1.word = nat wd) with
      | false =>
        rw [c1, Bool.false_and, if_neg Bool.false_ne_true, List.append_nil] at step
        refine iteF (iteF ⟨sm.trans sm2, ?_⟩)
        rw [step]
        exact hD2
      | true =>
        rw [c1, Bool.true_and] at step
        refine iteT ⟨_, rfl, se[i].2, C.S, dxs, _, _, rfl, hp2, T.cS, T.s2, sF_watches _, _, rfl, rfl, _, rfl, ?_⟩
        cases c2 : decide (V.bl se[i].1.watch = V.bl b) with
        | false =>
          rw [c2, if_neg Bool.false_ne_true, List.append_nil] at step
          refine iteF ⟨sm.trans sm2, ?_⟩
          rw [step]
          exact hD2
        | true =>
          rw [c2, if_pos rfl] at step
          refine iteT ⟨_, rfl, _, hD2, ?_, fun a o e => ?_, ?_⟩
          · rw [List.length_map]
            refine Nat.lt_of_le_of_lt (List.length_filter_le _ _) (Nat.lt_of_le_of_lt (List.length_take_le _ _) (small1000 ?_))
            have := congrArg List.length s2
            rw [List.length_map] at this
            omega
          · rw [upd_ne (ne_of_none e hD)]
            exact (sm.trans sm2) a o e
          · rw [upd_same, step, List.map_append]
            rfl
    · obtain ⟨sm, hD1⟩ := pv
      refine ⟨sm _ _ upd_same, fin _ D (fun a o e => ?_) nD ?_⟩
      · by_cases z : a = A.dS
        · rw [z, upd_same]
          rw [z, s1] at e
          exact e
        · rw [upd_ne z]
          exact sm a o (by rw [upd_ne z]; exact e)
      · rw [upd_ne (fun z => by rw [z, s1] at nD; cases nD), hD1]
        have ll : (sK se).length = se.length := by
          unfold sK
          rw [List.length_map]
        rw [ll, List.take_length]
        have q : h.at_ wd b = (se.filter fun e => e.1.word == wd && e.1.watch == b).map (·.1) := by
          unfold Sj54.House.at_
          rw [← s2, List.filter_map]
          rfl
        rw [q, List.map_map]
        rfl
end
end Sj
namespace Sj
open PySem PySem.Spec PyProof.Rows L2
open Sj54 (House Sleeper)
section
variable {P : Program} {w : World} {K : PySem.W.Frag} {mg : Str → Option Value} {base : Heap} {C : Cl}
/-- the house is as told, and there is room for what may happen -/
structure Good (h : House) : Prop where
  ok : SjF.Ok h
  ev : h.events.length ≤ 100000
def spStore (C : Cl) : Sp := fun vs H Q _ => ∃ (A : Ad) (h : House) (wd v : Nat), vs = [.ref A.x, nat wd, nat v] ∧ HouseAt C H A h ∧ Good h ∧ wd < 64 ∧ v < 4294967296 ∧
  ∀ H', HouseAt C H' A (h.store wd v).1 → Fr A H H' → Q (nat (h.store wd v).2) H'
theorem scStore : FnScope ["house", "word", "number", "watching", "hand"] ["house", "word", "number"] (defScope sStoreIn) := ⟨rfl, rfl, rfl, by decide +kernel, rfl, by decide +kernel, by decide +kernel⟩
theorem ok_store {f fN fW fA : Addr} {fd fdN fdW fdA : FuncData} (F : Fun K "store_in_word" "store_in_word" sStoreIn f fd) (T : Txt K mg C) (N : Df K mg "note_happening" sNote ["house", "sort", "who"] fN fdN)
    (W : Df K mg "wake_hand" sWakeHand ["house", "hand", "sort"] fW fdW) (L : Df K mg "hands_asleep_at" sAsleepAt ["house", "word", "watches"] fA fdA) : FnOk P w K mg base CX0 3 f fd ["house", "word", "number"] (spStore C) := by
  have GW : FnOk P w K mg base CX0 2 fW fdW ["house", "hand", "sort"] (spWake C) := ok_wake W.F T N
  have GA : FnOk P w K mg base CX0 1 fA fdA ["house", "word", "watches"] (spAt C) := ok_at L.F T
  obtain ⟨ts, gs⟩ := T.sto
  refine F.ok scStore (fun vs H Q E h => ?_) (fun cdv A0 outer s H vs Q E hr h => ?_)
  · obtain ⟨A, h, wd, v, rfl, _⟩ := h
    rfl
  · obtain ⟨A, h, wd, v, rfl, hA, hG, hw, hv, fin⟩ := h
    refine ⟨_, pss_cons (ps_asg (pv 2) (pg_sub (pe_fld (pv 0) rfl) (pv 1) set_list))
      (pss_cons (ps_set (i := 3) scStore.nd rfl (Or.inl rfl) (pe_call GA (hr.mono (by decide)) rfl L.g L.F.kp L.b .nil pass0 (pa_cons (pv 0) (pa_cons (pv 1) (pa_cons pe_bl pa_nil)))))
      (pss_cons (ps_for PassesOwn.never rfl (pi_list (pv 3)) (pg_name (i := 4) scStore.nd rfl (Or.inl rfl))
        (pss_one (ps_expr (pe_call GW hr rfl W.g W.F.kp W.b .nil pass0 (pa_cons (pv 0) (pa_cons (pv 4) (pa_cons (pe_glob (v := .int 1) rfl gs ⟨_, rfl⟩) pa_nil)))))))
      (pss_one (ps_ret (pe_callB call_len_seq (by rfl) T.len PySem.boot_len (pa_cons (pv 3) pa_nil)))))), ?_⟩
    obtain ⟨dx, ob⟩ := hA.ob
    have wl : wd < h.words.length := by rw [hG.ok.wl]; exact hw
    refine ⟨_, rfl, _, rfl, A.x, C.H, dx, _, _, rfl, ob, T.cH, T.h4, hF_words _ _ _, _, rfl, A.lW, _, _, wd, rfl, rfl, hA.wd, ixN_nat (by rw [List.length_map]; exact wl), ?_⟩
    rw [map_set_nat]
    have hB := hA.setWords (h.words.set wd v)
    have okB : SjF.Ok { h with words := h.words.set wd v } := hG.ok.words wd v hv
    have fB : Fr A H (upd H A.lW (.lst ((h.words.set wd v).map nat))) := Fr.put (Fr.refl A H) (by simp [Ad.six])
    refine ⟨_, rfl, _, rfl, A, _, wd, true, rfl, hB, Nat.lt_of_le_of_lt okB.asleep_len (by decide), fun H1 p sm np hp => ?_⟩
    have hC := hB.same sm
    have f1 : Fr A H H1 := fB.trans (Fr.of_same sm)
    have np6 : p ∉ A.six := hB.fresh np
    have sub : ∀ r ∈ h.at_ wd true, r ∈ h.asleep := fun r hr => (SjF.at_sub h wd true).subset hr
    have ndl : ((h.at_ wd true).map (·.hand)).Nodup := hG.ok.nd.sublist ((SjF.at_sub h wd true).map _)
    have lel : (h.at_ wd true).length ≤ 16 := Nat.le_trans (SjF.at_sub h wd true).length_le hG.ok.asleep_len
    refine ⟨_, rfl, p, rfl, ⟨_, SqL.of hp⟩, for_list (K := K) (a := p) (xs := (h.at_ wd true).map fun s => nat s.hand)
      (fun i σ H' => ∃ x : Option V, σ = [some (.ref A.x), some (nat wd), some (nat v), some (.ref p), x] ∧ HouseAt C H' A (SjF.wakes 1 { h with words := h.words.set wd v } ((h.at_ wd true).take i)) ∧ Fr A H H' ∧ H' p = some (.lst ((h.at_ wd true).map fun s => nat s.hand)))
      ⟨none, rfl, hC, f1, hp⟩ (fun i σ H' _ ⟨_, _, _, _, q⟩ => SqL.of q) ?_ ?_⟩
    · rintro i y σ H' hi ⟨x, rfl, hD, f2, hp2⟩
      obtain ⟨r, hr1, rfl⟩ : ∃ r, (h.at_ wd true)[i]? = some r ∧ y = nat r.hand := by
        rw [List.getElem?_map] at hi
        obtain ⟨r, e1, e2⟩ := Option.map_eq_some_iff.mp hi
        exact ⟨r, e1, e2.symm⟩
      have mr : r ∈ h.asleep := sub r (List.mem_of_getElem? hr1)
      have nr : r.hand ∉ ((h.at_ wd true).take i).map (·.hand) := fun z => by
        rw [List.map_take] at z
        obtain ⟨j, hj, ej⟩ := List.getElem_of_mem z
        rw [List.getElem_take] at ej
        have lj : j < i := by
          rw [List.length_take] at hj
          omega
        have e1 : ((h.at_ wd true).map (·.hand))[i]? = some r.hand := by
          rw [List.getElem?_map, hr1]
          rfl
        have e2 : ((h.at_ wd true).map (·.hand))[j]? = some r.hand := List.getElem?_eq_some_iff.mpr ⟨by
          rw [List.length_take] at hj
          omega, ej⟩
        have := nd_ix ndl e1 e2
        omega
      have evl : (SjF.wakes 1 { h with words := h.words.set wd v } ((h.at_ wd true).take i)).events.length < sizeLine := by
        rw [SjF.wakes_events _ _ _ okB.ct]
        have h1 : ((h.at_ wd true).take i).length ≤ 16 := Nat.le_trans (List.take_sublist _ _).length_le lel
        have h2 := hG.ev
        refine Nat.lt_of_le_of_lt (m := 100016) ?_ (by decide)
        show h.events.length + _ ≤ _
        omega
      refine ⟨_, rfl, _, rfl, A, _, r.hand, 1, rfl, hD, ⟨r, SjF.wakes_next okB.ct mr nr, rfl⟩, (by rw [SjF.wakes_counts _ _ _ okB.ct, okB.cl]; decide), evl, fun H2 hE fr => ?_⟩
      refine ⟨_, rfl, ?_, f2.trans fr, fr _ _ hp2 np6 nofun⟩
      rw [take_more hr1, SjF.wakes_snoc]
      exact hE
    · rintro σ H' ⟨x, rfl, hD, f2, hp2⟩
      rw [List.length_map, List.take_length, SjF.wakes_is okB 1 _ sub] at hD
      refine ⟨_, rfl, p, _, rfl, .inl (SqL.of hp2), ?_⟩
      rw [List.length_map]
      exact fin H' hD f2
end
end Sj
namespace Sj
open PySem PySem.Spec PyProof.Rows L2
open Sj54 (House Sleeper)
open SjP (Kind)
abbrev sTimerInit : Stmt := inClass (top 15) 0
abbrev sSleeperInit : Stmt := inClass (top 16) 0
abbrev sHouseInit : Stmt := inClass (top 17) 0
abbrev sSet : Stmt := top 41
abbrev sStop : Stmt := top 42
abbrev sLeft : Stmt := top 43
abbrev sSleep : Stmt := top 44
abbrev sStore : Stmt := top 45
abbrev sAdd : Stmt := top 46
abbrev sWake : Stmt := top 47
abbrev sMove : Stmt := top 48
abbrev sTick : Stmt := top 49
abbrev sNext : Stmt := top 50
abbrev sHand : Stmt := top 51
abbrev sWord : Stmt := top 52
abbrev sCounts : Stmt := top 53
/-- whether a call's numbers are as told -/
def told : Int → List Int → Bool
  | 2, [t, d, p, s] => Sj54.isIn 0 63 t && (Sj54.isIn 1 16777216 d && ((p == 0 || Sj54.isIn 16 16777216 p) && Sj54.isIn 0 65535 s))
  | 3, [t] => Sj54.isIn 0 63 t
  | 4, [t] => Sj54.isIn 0 63 t
  | 5, [k, w, v, b, l] => Sj54.isIn 0 15 k && (Sj54.isIn 0 63 w && (Sj54.isIn 0 4294967295 v && (Sj54.isIn 0 1 b && Sj54.isIn 0 16777216 l)))
  | 6, [w, v] => Sj54.isIn 0 63 w && Sj54.isIn 0 4294967295 v
  | 7, [w, v] => Sj54.isIn 0 63 w && Sj54.isIn 0 4294967295 v
  | 8, [w, n] => Sj54.isIn 0 63 w && Sj54.isIn 0 16 n
  | 9, [w, t, n] => Sj54.isIn 0 63 w && (Sj54.isIn 0 63 t && Sj54.isIn 0 16 n)
  | 10, [n] => Sj54.isIn 1 1000 n
  | 12, [k] => Sj54.isIn 0 15 k
  | 13, [w] => Sj54.isIn 0 63 w
  | _, _ => true
/-- no list, no dict, no tuple stood there -/
def New (H : Hp) (r : Addr) : Prop := ∀ o, H r = some o → ∃ C dx fs, o = .ins C dx fs
theorem New.of {H : Hp} {r : Addr} (h : H r = none) : New H r := fun o e => by
  rw [h] at e
  cases e
theorem New.fr {C : Cl} {H H1 : Hp} {A : Ad} {h1 : House} {r : Addr} (f : Fr A H H1) (s : HouseAt C H1 A h1) (n : H1 r = none) : New H r := fun o e => by
  cases o with
  | ins C dx fs => exact ⟨C, dx, fs, rfl⟩
  | _ =>
    have := f r _ e (s.fresh n) nofun
    rw [n] at this
    cases this
def ansOf (a : Sj54.Ans) : List Int := a.v :: a.l
/-- what a call's def promises -/
def spAns (C : Cl) (K : PySem.W.Frag) (p : Int) : Sp := fun vs H Q _ => ∃ (A : Ad) (h : House) (l : Addr) (ns : List Int) (q : Sj54.Call), vs = [.ref A.x, .ref l] ∧ HouseAt C H A h ∧ Good h ∧ SqL K H l (ns.map V.int) ∧ ((∃ o, H l = some o) → l ∉ A.six) ∧ Kind p ns q ∧ told p ns = true ∧
  ∀ H' r, HouseAt C H' A (SjS.on h q).1 → Fr A H H' → New H r → H' r = some (.lst ((ansOf (SjS.on h q).2).map V.int)) → Q (.ref r) H'
section
variable {P : Program} {w : World} {K : PySem.W.Frag} {mg : Str → Option Value} {base : Heap} {C : Cl}
def spTimerInit (C : Cl) : Sp := fun vs H Q _ => ∃ (p dx : Addr) (t : Sj54.Timer), vs = [.ref p, nat t.due, nat t.period, nat t.slack, nat (t.order + 1)] ∧ H p = some (.ins C.T dx []) ∧
  ∀ H' : Hp, Ins H' p C.T (tF t) → (∀ b o, H b = some o → b ≠ p → H' b = some o) → Q .non H'
theorem scTimerInit : FnScope ["self", "due", "period", "slack", "place"] ["self", "due", "period", "slack", "place"] (defScope sTimerInit) := ⟨rfl, rfl, rfl, by decide +kernel, rfl, by decide +kernel, by decide +kernel⟩
theorem ok_timerInit {f : Addr} {fd : FuncData} (F : Fun K "__init__" "Timer.__init__" sTimerInit f fd) (T : Txt K mg C) : FnOk P w K mg base CX0 1 f fd ["self", "due", "period", "slack", "place"] (spTimerInit C) := by
  refine F.ok scTimerInit (fun vs H Q E h => ?_) (fun cdv A0 outer s H vs Q E hr h => ?_)
  · obtain ⟨p, dx, t, rfl, _⟩ := h
    rfl
  · obtain ⟨p, dx, t, rfl, hp, k⟩ := h
    refine ⟨_, pss_cons (ps_fld (pv 0) (pv 1) rfl) (pss_cons (ps_fld (pv 0) (pv 2) rfl) (pss_cons (ps_fld (pv 0) (pv 3) rfl) (pss_one (ps_fld (pv 0) (pv 4) rfl)))), ?_⟩
    refine ⟨_, rfl, _, rfl, p, C.T, dx, _, rfl, hp, T.cT, T.t1, (by show 0 < 1000; decide), ?_⟩
    refine ⟨_, rfl, _, rfl, p, C.T, dx, _, rfl, upd_same, T.cT, T.t2, (by show 1 < 1000; decide), ?_⟩
    refine ⟨_, rfl, _, rfl, p, C.T, dx, _, rfl, upd_same, T.cT, T.t3, (by show 2 < 1000; decide), ?_⟩
    refine ⟨_, rfl, _, rfl, p, C.T, dx, _, rfl, upd_same, T.cT, T.t4, (by show 3 < 1000; decide), ?_⟩
    refine k _ ⟨dx, ?_⟩ fun b o e hb => by
      rw [upd_ne hb, upd_ne hb, upd_ne hb, upd_ne hb]
      exact e
    refine Eq.trans upd_same (congrArg (fun q => some (HO.ins C.T dx q)) ?_)
    show putF "place" (nat (t.order + 1)) (putF "slack" (nat t.slack) (putF "period" (nat t.period) [("due", nat t.due)])) = tF t
    rw [put_past (by decide +kernel)]
    show putF "place" (nat (t.order + 1)) (putF "slack" (nat t.slack) [("due", nat t.due), ("period", nat t.period)]) = tF t
    rw [put_past (by decide +kernel), put_past (by decide +kernel)]
    show putF "place" (nat (t.order + 1)) [("due", nat t.due), ("period", nat t.period), ("slack", nat t.slack)] = tF t
    rw [put_past (by decide +kernel), put_past (by decide +kernel), put_past (by decide +kernel)]
    rfl
theorem TmAt.len {C : Addr} {H : Hp} {es : List TE3} {ts : List (Option Sj54.Timer)} (h : TmAt C H es ts) : es.length ≤ ts.length := by
  have := SjF.nodup_lt_len ts.length (es.map (·.1)) h.nd fun x hx => by
    obtain ⟨e, he, rfl⟩ := List.mem_map.mp hx
    exact (List.getElem?_eq_some_iff.mp (h.get e he).1).1
  rwa [List.length_map] at this
theorem in_iff {a b z : Int} : Sj54.isIn a b z = true ↔ a ≤ z ∧ z ≤ b := SjF.isIn_iff
theorem at_int {xs : List Int} {i : Nat} {z : Int} (h : xs[i]? = some z) : atI (xs.map V.int) (i : Int) = some (V.int z) := atI_nat (j := i) (by rw [List.getElem?_map, h]; rfl)
/-- a timer is set: anew, if it was -/
def spPut (C : Cl) : Sp := fun vs H Q _ => ∃ (A : Ad) (h : House) (i d p s : Nat), vs = [.ref A.x, nat i, nat d, nat p, nat s] ∧ HouseAt C H A h ∧ i < h.timers.length ∧ h.timers.length ≤ 64 ∧ 0 < h.now + d ∧ h.now + d + s < 2 ^ 41 ∧
  ∀ H', HouseAt C H' A { h with timers := h.timers.set i (some ⟨Sj54.at_ (h.now + d) s, p, s, h.order⟩), order := h.order + 1 } → Fr A H H' → Q .non H'
theorem scPut : FnScope ["house", "which", "delay", "period", "slack", "due"] ["house", "which", "delay", "period", "slack"] (defScope sPutTimer) := ⟨rfl, rfl, rfl, by decide +kernel, rfl, by decide +kernel, by decide +kernel⟩
theorem ok_put {f fI fM fN : Addr} {fd fdI fdM fdN : FuncData} (F : Fun K "put_timer" "put_timer" sPutTimer f fd) (T : Txt K mg C) (M : Mk K C.T fI) (FI : Fun K "__init__" "Timer.__init__" sTimerInit fI fdI) (bI : Binds K fdI ["self", "due", "period", "slack", "place"] [])
    (V1 : Df K mg "moved_a_little" sMoved ["earliest", "slack"] fM fdM) (N : Df K mg "next_place" sNextPlace ["house"] fN fdN) : FnOk P w K mg base CX0 3 f fd ["house", "which", "delay", "period", "slack"] (spPut C) := by
  have GI : FnOk P w K mg base CX0 1 fI fdI ["self", "due", "period", "slack", "place"] (spTimerInit C) := ok_timerInit FI T
  have GM : FnOk P w K mg base CX0 1 fM fdM ["earliest", "slack"] spMoved := ok_moved V1.F
  have GN : FnOk P w K mg base CX0 1 fN fdN ["house"] (spNextPlace C) := ok_nextPlace N.F T
  refine F.ok scPut (fun vs H Q E h => ?_) (fun cdv A0 outer s H vs Q E hr h => ?_)
  · obtain ⟨A, h, i, d, p, s, rfl, _⟩ := h
    rfl
  · obtain ⟨A, h, i, d, p, sl, rfl, hA, hi, h64, h0, h41, fin⟩ := h
    have hu := hu_of hr
    refine ⟨_, pss_cons (ps_set (i := 5) scPut.nd rfl (Or.inl rfl) (pe_call GM (hr.mono (by decide)) rfl V1.g V1.F.kp V1.b .nil pass0 (pa_cons (pe_op op_add (pe_fld (pv 0) rfl) (pv 2)) (pa_cons (pv 4) pa_nil))))
      (pss_one (ps_dput hu (pe_fld (pv 0) rfl) (pv 1) (pe_make M GI hr rfl T.gT bI .nil pass0 (pa_cons (pv 5) (pa_cons (pv 3) (pa_cons (pv 4) (pa_cons (pe_call GN (hr.mono (by decide)) rfl N.g N.F.kp N.b .nil pass0 (pa_cons (pv 0) pa_nil)) pa_nil))))) rfl)), ?_⟩
    obtain ⟨dx, ob⟩ := hA.ob
    refine ⟨_, rfl, A.x, C.H, dx, _, _, rfl, ob, T.cH, T.h1, hF_now _ _ _, _, rfl, _, _, rfl, rfl, _, rfl, h.now + d, sl, rfl, h0, h41, ?_⟩
    refine ⟨_, rfl, _, rfl, _, rfl, _, rfl, A, h, rfl, hA, fun H1 hB f1 k1 n1 => ?_⟩
    intro x xd nx nd ne
    refine ⟨x, xd, ⟨Sj54.at_ (h.now + d) sl, p, sl, h.order⟩, rfl, upd_same, fun H2 hI kp => ⟨rfl, ?_⟩⟩
    have sm : Same H1 H2 := Same.made nx nd kp
    have hC := hB.same sm
    obtain ⟨dx2, ob2⟩ := hC.ob
    obtain ⟨te, t1, t2⟩ := hC.tm
    refine ⟨_, rfl, A.x, C.H, dx2, _, _, rfl, ob2, T.cH, T.h2, hF_timers _ _ _, _, rfl, A.dT, _, rfl, DPut.k (k := .inl (i : Int)) t1 ?_, ?_⟩
    · unfold tK
      rw [List.length_map]
      have := t2.len
      exact small1000 (Nat.le_trans (Nat.le_trans this h64) (by decide))
    · rw [tK_put _ _ ⟨Sj54.at_ (h.now + d) sl, p, sl, h.order⟩]
      have t4 := t2.put i ⟨Sj54.at_ (h.now + d) sl, p, sl, h.order⟩ x hi hI
      have hD := hC.setTimers _ _ t4
      exact fin _ hD (Fr.put (f1.trans (Fr.of_same sm)) (by simp [Ad.six]))
theorem scSet : FnScope ["house", "numbers"] ["house", "numbers"] (defScope sSet) := ⟨rfl, rfl, rfl, by decide +kernel, rfl, by decide +kernel, by decide +kernel⟩
theorem ok_set {f fP : Addr} {fd fdP : FuncData} (F : Fun K "answer_set" "answer_set" sSet f fd) (T : Txt K mg C) (D : Df K mg "put_timer" sPutTimer ["house", "which", "delay", "period", "slack"] fP fdP) (G : FnOk P w K mg base CX0 3 fP fdP ["house", "which", "delay", "period", "slack"] (spPut C)) :
    FnOk P w K mg base CX0 4 f fd ["house", "numbers"] (spAns C K 2) := by
  refine F.ok scSet (fun vs H Q E h => ?_) (fun cdv A0 outer s H vs Q E hr h => ?_)
  · obtain ⟨A, h, l, ns, q, rfl, _⟩ := h
    rfl
  · obtain ⟨A, h, l, ns, q, rfl, hA, hG, hl, nl, kd, tl, fin⟩ := h
    cases kd with
    | k2 a b c d =>
    have hu := hu_of hr
    refine ⟨_, pss_cons (ps_expr (pe_call G hr rfl D.g D.F.kp D.b .nil pass0 (pa_cons (pv 0) (pa_cons (pe_ix ix_list (pv 1) pe_int (fun _ _ => rfl)) (pa_cons (pe_ix ix_list (pv 1) pe_int (fun _ _ => rfl)) (pa_cons (pe_ix ix_list (pv 1) pe_int (fun _ _ => rfl)) (pa_cons (pe_ix ix_list (pv 1) pe_int (fun _ _ => rfl)) pa_nil)))))))
      (pss_one (ps_ret (pe_lst (pa_cons (pe_op op_sub (pe_fld (pe_dget hu (pe_fld (pv 0) rfl) (pe_ix ix_list (pv 1) pe_int (fun _ _ => rfl)) (fun _ _ => rfl)) rfl) (pe_fld (pv 0) rfl)) pa_nil)))), ?_⟩
    simp only [told, Bool.and_eq_true, in_iff, Bool.or_eq_true, beq_iff_eq] at tl
    obtain ⟨⟨a1, a2⟩, ⟨b1, b2⟩, c1, d1, d2⟩ := tl
    have eon : SjS.on h (.set a b c d) = ({ h with timers := h.timers.set a.toNat (some ⟨Sj54.at_ (h.now + b.toNat) d.toNat, c.toNat, d.toNat, h.order⟩), order := h.order + 1 }, Sj54.just (Sj54.nat (Sj54.at_ (h.now + b.toNat) d.toNat) - Sj54.nat h.now)) := by
      show (ite _ _ _ : House × Sj54.Ans) = _
      rw [if_neg]
      simp only [Bool.or_eq_true, not_or, SjF.not_isIn, Classical.not_not]
      refine ⟨⟨⟨⟨a1, a2⟩, ⟨b1, by omega⟩⟩, ?_⟩, ⟨d1, d2⟩⟩
      have : (c == 0 || Sj54.isIn 16 (2 ^ 24) c) = true := by
        rw [Bool.or_eq_true, in_iff, beq_iff_eq]
        omega
      rw [this]
      simp
    rw [eon] at fin
    obtain ⟨a, rfl⟩ := Int.eq_ofNat_of_zero_le a1
    obtain ⟨b, rfl⟩ := Int.eq_ofNat_of_zero_le (show 0 ≤ b by omega)
    obtain ⟨c, rfl⟩ := Int.eq_ofNat_of_zero_le (show 0 ≤ c by omega)
    obtain ⟨d, rfl⟩ := Int.eq_ofNat_of_zero_le d1
    simp only [Int.toNat_natCast] at fin
    refine ⟨_, rfl, _, rfl, l, _, _, _, rfl, rfl, hl, at_int (i := 0) rfl, _, rfl, l, _, _, _, rfl, rfl, hl, at_int (i := 1) rfl, _, rfl, l, _, _, _, rfl, rfl, hl, at_int (i := 2) rfl, _, rfl, l, _, _, _, rfl, rfl, hl, at_int (i := 3) rfl,
      A, h, a, b, c, d, rfl, hA, by rw [hG.ok.tl]; omega, by rw [hG.ok.tl]; exact Nat.le_refl _, by omega, by have := hG.ok.nw; omega, fun H1 hB f1 => ?_⟩
    have hl2 : SqL K H1 l _ := f1.seq nl hl
    obtain ⟨dx, ob⟩ := hB.ob
    obtain ⟨te, t1, t2⟩ := hB.tm
    have ht : (h.timers.set a (some ⟨Sj54.at_ (h.now + b) d, c, d, h.order⟩))[a]? = some (some ⟨Sj54.at_ (h.now + b) d, c, d, h.order⟩) := List.getElem?_set_self (by rw [hG.ok.tl]; omega)
    obtain ⟨p, hp, dp, hp2⟩ := t2.has ht
    refine ⟨_, rfl, A.x, C.H, dx, _, _, rfl, ob, T.cH, T.h2, hF_timers _ _ _, _, rfl, l, _, _, _, rfl, rfl, hl2, at_int (i := 0) rfl, A.dT, .ref p, rfl, ?_, p, C.T, dp, _, _, rfl, hp2, T.cT, T.t1, tF_due _, _, rfl, A.x, C.H, dx, _, _, rfl, ob, T.cH, T.h1, hF_now _ _ _, _, _, rfl, rfl, (by show 1 ≤ sizeLine; decide), fun r nr => ?_⟩
    · have g := DGet.k (k := .inl (a : Int)) t1
      rw [tK_val, hp] at g
      exact g
    · exact fin _ r (hB.same (same_new nr)) (f1.made nr) (.fr f1 hB nr) upd_same
end
end Sj
namespace Sj
open PySem PySem.Spec PyProof.Rows L2
open Sj54 (House Sleeper)
open SjP (Kind)
section
variable {P : Program} {w : World} {K : PySem.W.Frag} {mg : Str → Option Value} {base : Heap} {C : Cl}
theorem scStop : FnScope ["house", "numbers"] ["house", "numbers"] (defScope sStop) := ⟨rfl, rfl, rfl, by decide +kernel, rfl, by decide +kernel, by decide +kernel⟩
theorem getD_none {α : Type} {ts : List (Option α)} {n : Nat} (h : ∀ t, ts[n]? ≠ some (some t)) : ts.getD n none = none := by
  rw [List.getD_eq_getElem?_getD]
  cases e : ts[n]? with
  | none => rfl
  | some o =>
    cases o with
    | none => rfl
    | some t => exact absurd e (h t)
theorem getD_some {α : Type} {ts : List (Option α)} {n : Nat} {t : α} (h : ts[n]? = some (some t)) : ts.getD n none = some t := by
  rw [List.getD_eq_getElem?_getD, h]
  rfl
theorem has_or {α : Type} (ts : List (Option α)) (n : Nat) : (∃ t, ts[n]? = some (some t)) ∨ ∀ t, ts[n]? ≠ some (some t) := by
  cases e : ts[n]? with
  | none => exact .inr fun t z => by cases z
  | some o =>
    cases o with
    | none => exact .inr fun t z => by cases z
    | some t => exact .inl ⟨t, rfl⟩
theorem set_none {α : Type} {ts : List (Option α)} {n : Nat} (h : ∀ t, ts[n]? ≠ some (some t)) : ts.set n none = ts := by
  apply List.ext_getElem?
  intro i
  rw [List.getElem?_set]
  by_cases c : n = i
  · subst c
    rw [if_pos rfl]
    cases e : ts[n]? with
    | none =>
      rw [if_neg (by rw [List.getElem?_eq_none_iff] at e; omega)]
    | some o =>
      rw [if_pos (List.getElem?_eq_some_iff.mp e).1]
      cases o with
      | none => rfl
      | some t => exact absurd e (h t)
  · rw [if_neg c]
theorem ok_stop {f : Addr} {fd : FuncData} (F : Fun K "answer_stop" "answer_stop" sStop f fd) (T : Txt K mg C) : FnOk P w K mg base CX0 1 f fd ["house", "numbers"] (spAns C K 3) := by
  refine F.ok scStop (fun vs H Q E h => ?_) (fun cdv A0 outer s H vs Q E hr h => ?_)
  · obtain ⟨A, h, l, ns, q, rfl, _⟩ := h
    rfl
  · obtain ⟨A, h, l, ns, q, rfl, hA, hG, hl, nl, kd, tl, fin⟩ := h
    cases kd with
    | k3 a =>
    have hu := hu_of hr
    refine ⟨_, pss_cons (ps_if (pt_cmp (pc_dnotin hu (pe_ix ix_list (pv 1) pe_int (fun _ _ => rfl)) (pe_fld (pv 0) rfl))) (pss_one (ps_ret (pe_lst (pa_cons pe_int pa_nil)))) pss_nil)
      (pss_cons (ps_expr (pe_dpop1 (pe_fld (pv 0) rfl) (pe_ix ix_list (pv 1) pe_int (fun _ _ => rfl)) ⟨rfl, rfl, rfl, rfl⟩))
      (pss_one (ps_ret (pe_lst (pa_cons pe_int pa_nil))))), ?_⟩
    simp only [told, in_iff] at tl
    obtain ⟨a1, a2⟩ := tl
    have eon : SjS.on h (.halt_ a) = ({ h with timers := h.timers.set a.toNat none }, Sj54.just (Sj54.bit (h.timers.getD a.toNat none).isSome)) := by
      show (ite _ _ _ : House × Sj54.Ans) = _
      rw [if_neg]
      simp only [SjF.not_isIn, Classical.not_not]
      exact ⟨a1, a2⟩
    rw [eon] at fin
    obtain ⟨a, rfl⟩ := Int.eq_ofNat_of_zero_le a1
    simp only [Int.toNat_natCast] at fin
    obtain ⟨dx, ob⟩ := hA.ob
    obtain ⟨te, t1, t2⟩ := hA.tm
    refine ⟨_, rfl, l, _, _, _, rfl, rfl, hl, at_int (i := 0) rfl, _, rfl, A.x, C.H, dx, _, _, rfl, ob, T.cH, T.h2, hF_timers _ _ _, A.dT, _, rfl, DGet.k (k := .inl (a : Int)) t1, _, rfl, ?_⟩
    rw [tK_val]
    rcases has_or h.timers a with ⟨t, ht⟩ | hn
    · obtain ⟨p, hp, _⟩ := t2.has ht
      rw [hp]
      rw [getD_some ht] at fin
      refine iteF ?_
      refine ⟨_, rfl, A.x, C.H, dx, _, _, rfl, ob, T.cH, T.h2, hF_timers _ _ _, A.dT, rfl, .inl ⟨_, .inl t1⟩, _, rfl, l, _, _, _, rfl, rfl, hl, at_int (i := 0) rfl, _, .inl (a : Int), .ref p, t1, rfl, (by rw [tK_val, hp]; rfl), ?_⟩
      rw [tK_drop]
      have hB := hA.setTimers _ _ (t2.drop a)
      refine ⟨(by show 1 ≤ sizeLine; decide), fun r nr => ?_⟩
      exact fin _ r (hB.same (same_new nr)) ((Fr.put (Fr.refl A H) (by simp [Ad.six])).made nr) (.of (free_put nr)) upd_same
    · rw [t2.hasNot hn]
      rw [getD_none hn, set_none hn] at fin
      refine iteT ?_
      refine ⟨(by show 1 ≤ sizeLine; decide), fun r nr => ?_⟩
      exact fin _ r (hA.same (same_new nr)) (Fr.of_same (same_new nr)) (.of nr) upd_same
theorem scLeft : FnScope ["house", "numbers"] ["house", "numbers"] (defScope sLeft) := ⟨rfl, rfl, rfl, by decide +kernel, rfl, by decide +kernel, by decide +kernel⟩
theorem ok_left {f : Addr} {fd : FuncData} {t6 : Tok} (F : Fun K "answer_left" "answer_left" sLeft f fd) (T : Txt K mg C) (g6 : mg "NOT_THERE" = some (.int (-6) t6)) : FnOk P w K mg base CX0 1 f fd ["house", "numbers"] (spAns C K 4) := by
  refine F.ok scLeft (fun vs H Q E h => ?_) (fun cdv A0 outer s H vs Q E hr h => ?_)
  · obtain ⟨A, h, l, ns, q, rfl, _⟩ := h
    rfl
  · obtain ⟨A, h, l, ns, q, rfl, hA, hG, hl, nl, kd, tl, fin⟩ := h
    cases kd with
    | k4 a =>
    have hu := hu_of hr
    refine ⟨_, pss_cons (ps_if (pt_cmp (pc_dnotin hu (pe_ix ix_list (pv 1) pe_int (fun _ _ => rfl)) (pe_fld (pv 0) rfl))) (pss_one (ps_ret (pe_lst (pa_cons (pe_glob (v := .int (-6)) rfl g6 ⟨_, rfl⟩) pa_nil)))) pss_nil)
      (pss_one (ps_ret (pe_lst (pa_cons (pe_op op_sub (pe_fld (pe_dget hu (pe_fld (pv 0) rfl) (pe_ix ix_list (pv 1) pe_int (fun _ _ => rfl)) (fun _ _ => rfl)) rfl) (pe_fld (pv 0) rfl)) pa_nil)))), ?_⟩
    simp only [told, in_iff] at tl
    obtain ⟨a1, a2⟩ := tl
    have eon : ∀ o, h.timers.getD a.toNat none = o → SjS.on h (.left a) = (h, Sj54.just (match o with | none => -6 | some x => Sj54.nat x.due - Sj54.nat h.now)) := by
      rintro o rfl
      show (ite _ _ _ : House × Sj54.Ans) = _
      rw [if_neg]
      · cases h.timers.getD a.toNat none <;> rfl
      · simp only [SjF.not_isIn, Classical.not_not]
        exact ⟨a1, a2⟩
    obtain ⟨a, rfl⟩ := Int.eq_ofNat_of_zero_le a1
    simp only [Int.toNat_natCast] at eon
    obtain ⟨dx, ob⟩ := hA.ob
    obtain ⟨te, t1, t2⟩ := hA.tm
    refine ⟨_, rfl, l, _, _, _, rfl, rfl, hl, at_int (i := 0) rfl, _, rfl, A.x, C.H, dx, _, _, rfl, ob, T.cH, T.h2, hF_timers _ _ _, A.dT, _, rfl, DGet.k (k := .inl (a : Int)) t1, _, rfl, ?_⟩
    rw [tK_val]
    rcases has_or h.timers a with ⟨t, ht⟩ | hn
    · obtain ⟨p, hp, dp, hp2⟩ := t2.has ht
      rw [hp]
      rw [eon _ (getD_some ht)] at fin
      refine iteF ?_
      refine ⟨_, rfl, A.x, C.H, dx, _, _, rfl, ob, T.cH, T.h2, hF_timers _ _ _, _, rfl, l, _, _, _, rfl, rfl, hl, at_int (i := 0) rfl, A.dT, .ref p, rfl, ?_, p, C.T, dp, _, _, rfl, hp2, T.cT, T.t1, tF_due _, _, rfl, A.x, C.H, dx, _, _, rfl, ob, T.cH, T.h1, hF_now _ _ _, _, _, rfl, rfl, (by show 1 ≤ sizeLine; decide), fun r nr => ?_⟩
      · have g := DGet.k (k := .inl (a : Int)) t1
        rw [tK_val, hp] at g
        exact g
      · exact fin _ r (hA.same (same_new nr)) (Fr.of_same (same_new nr)) (.of nr) upd_same
    · rw [t2.hasNot hn]
      rw [eon _ (getD_none hn)] at fin
      refine iteT ?_
      refine ⟨(by show 1 ≤ sizeLine; decide), fun r nr => ?_⟩
      exact fin _ r (hA.same (same_new nr)) (Fr.of_same (same_new nr)) (.of nr) upd_same
theorem scStoreA : FnScope ["house", "numbers"] ["house", "numbers"] (defScope sStore) := ⟨rfl, rfl, rfl, by decide +kernel, rfl, by decide +kernel, by decide +kernel⟩
theorem ok_storeA {f fS : Addr} {fd fdS : FuncData} (F : Fun K "answer_store" "answer_store" sStore f fd) (S : Df K mg "store_in_word" sStoreIn ["house", "word", "number"] fS fdS) (GS : FnOk P w K mg base CX0 3 fS fdS ["house", "word", "number"] (spStore C)) :
    FnOk P w K mg base CX0 4 f fd ["house", "numbers"] (spAns C K 6) := by
  refine F.ok scStoreA (fun vs H Q E h => ?_) (fun cdv A0 outer s H vs Q E hr h => ?_)
  · obtain ⟨A, h, l, ns, q, rfl, _⟩ := h
    rfl
  · obtain ⟨A, h, l, ns, q, rfl, hA, hG, hl, nl, kd, tl, fin⟩ := h
    cases kd with
    | k6 a b b0 =>
    refine ⟨_, pss_one (ps_ret (pe_lst (pa_cons (pe_call GS hr rfl S.g S.F.kp S.b .nil pass0 (pa_cons (pv 0) (pa_cons (pe_ix ix_list (pv 1) pe_int (fun _ _ => rfl)) (pa_cons (pe_ix ix_list (pv 1) pe_int (fun _ _ => rfl)) pa_nil)))) pa_nil))), ?_⟩
    simp only [told, Bool.and_eq_true, in_iff] at tl
    obtain ⟨⟨a1, a2⟩, b1, b2⟩ := tl
    have eon : SjS.on h (.store a b) = ((h.store a.toNat b.toNat).1, Sj54.just (Sj54.nat (h.store a.toNat b.toNat).2)) := by
      show (ite _ _ _ : House × Sj54.Ans) = _
      rw [if_neg]
      simp only [Bool.or_eq_true, not_or, Sj54.isWord, Sj54.isValue, SjF.not_isIn, Classical.not_not]
      exact ⟨⟨a1, a2⟩, b1, by omega⟩
    rw [eon] at fin
    obtain ⟨a, rfl⟩ := Int.eq_ofNat_of_zero_le a1
    obtain ⟨b, rfl⟩ := Int.eq_ofNat_of_zero_le b1
    simp only [Int.toNat_natCast] at fin
    refine ⟨_, rfl, _, rfl, l, _, _, _, rfl, rfl, hl, at_int (i := 0) rfl, _, rfl, l, _, _, _, rfl, rfl, hl, at_int (i := 1) rfl, A, h, a, b, rfl, hA, hG, by omega, by omega, fun H1 hB f1 => ⟨(by show 1 ≤ sizeLine; decide), fun r nr => ?_⟩⟩
    exact fin _ r (hB.same (same_new nr)) (f1.made nr) (.fr f1 hB nr) upd_same
end
end Sj
namespace Sj
open PySem PySem.Spec PyProof.Rows L2
open Sj54 (House Sleeper)
open SjP (Kind)
section
variable {P : Program} {w : World} {K : PySem.W.Frag} {mg : Str → Option Value} {base : Heap} {C : Cl}
theorem scAdd : FnScope ["house", "numbers", "word", "before", "woken"] ["house", "numbers"] (defScope sAdd) := ⟨rfl, rfl, rfl, by decide +kernel, rfl, by decide +kernel, by decide +kernel⟩
theorem ok_add {f fS : Addr} {fd fdS : FuncData} (F : Fun K "answer_add" "answer_add" sAdd f fd) (T : Txt K mg C) (S : Df K mg "store_in_word" sStoreIn ["house", "word", "number"] fS fdS) (GS : FnOk P w K mg base CX0 3 fS fdS ["house", "word", "number"] (spStore C)) :
    FnOk P w K mg base CX0 4 f fd ["house", "numbers"] (spAns C K 7) := by
  obtain ⟨tl0, gl⟩ := T.lim
  refine F.ok scAdd (fun vs H Q E h => ?_) (fun cdv A0 outer s H vs Q E hr h => ?_)
  · obtain ⟨A, h, l, ns, q, rfl, _⟩ := h
    rfl
  · obtain ⟨A, h, l, ns, q, rfl, hA, hG, hl, nl, kd, tl, fin⟩ := h
    cases kd with
    | k7 a b b0 =>
    refine ⟨_, pss_cons (ps_set (i := 2) scAdd.nd rfl (Or.inl rfl) (pe_ix ix_list (pv 1) pe_int (fun _ _ => rfl)))
      (pss_cons (ps_set (i := 3) scAdd.nd rfl (Or.inl rfl) (pe_ix ix_list (pe_fld (pv 0) rfl) (pv 2) (fun _ _ => rfl)))
      (pss_cons (ps_set (i := 4) scAdd.nd rfl (Or.inl rfl) (pe_call GS hr rfl S.g S.F.kp S.b .nil pass0 (pa_cons (pv 0) (pa_cons (pv 2) (pa_cons (pe_op op_mod (pe_op op_add (pv 3) (pe_ix ix_list (pv 1) pe_int (fun _ _ => rfl))) (pe_glob (v := .int 4294967296) rfl gl ⟨_, rfl⟩)) pa_nil)))))
      (pss_one (ps_ret (pe_lst (pa_cons (pv 4) (pa_cons (pv 3) pa_nil))))))), ?_⟩
    simp only [told, Bool.and_eq_true, in_iff] at tl
    obtain ⟨⟨a1, a2⟩, b1, b2⟩ := tl
    have eon : SjS.on h (.add a b) = ((h.store a.toNat ((h.words.getD a.toNat 0 + b.toNat) % Sj54.W)).1, ⟨Sj54.nat (h.store a.toNat ((h.words.getD a.toNat 0 + b.toNat) % Sj54.W)).2, [Sj54.nat (h.words.getD a.toNat 0)]⟩) := by
      show (ite _ _ _ : House × Sj54.Ans) = _
      rw [if_neg]
      simp only [Bool.or_eq_true, not_or, Sj54.isWord, Sj54.isValue, SjF.not_isIn, Classical.not_not]
      exact ⟨⟨a1, a2⟩, b1, by omega⟩
    rw [eon] at fin
    obtain ⟨a, rfl⟩ := Int.eq_ofNat_of_zero_le a1
    obtain ⟨b, rfl⟩ := Int.eq_ofNat_of_zero_le b1
    simp only [Int.toNat_natCast] at fin
    obtain ⟨dx, ob⟩ := hA.ob
    have al : a < h.words.length := by rw [hG.ok.wl]; omega
    have ea : h.words[a]? = some h.words[a] := List.getElem?_eq_getElem al
    have eg : h.words.getD a 0 = h.words[a] := by
      rw [List.getD_eq_getElem?_getD, ea]
      rfl
    rw [eg] at fin
    refine ⟨_, rfl, l, _, _, _, rfl, rfl, hl, at_int (i := 0) rfl, ?_⟩
    refine ⟨_, rfl, A.x, C.H, dx, _, _, rfl, ob, T.cH, T.h4, hF_words _ _ _, _, rfl, A.lW, _, _, _, rfl, rfl, SqL.of hA.wd, atI_nat (j := a) (by rw [List.getElem?_map, ea]; rfl), ?_⟩
    refine ⟨_, rfl, _, rfl, _, rfl, _, rfl, l, _, _, _, rfl, rfl, hl, at_int (i := 1) rfl, _, _, rfl, rfl, _, _, rfl, rfl, (by show (0 : Int) < 4294967296; decide), A, h, a, (h.words[a] + b) % Sj54.W, ?_, hA, hG, by omega, Nat.mod_lt _ (by decide), fun H1 hB f1 => ?_⟩
    · rfl
    refine ⟨_, rfl, _, rfl, (by show 2 ≤ sizeLine; decide), fun r nr => ?_⟩
    exact fin _ r (hB.same (same_new nr)) (f1.made nr) (.fr f1 hB nr) upd_same
def spSleeperInit (C : Cl) : Sp := fun vs H Q _ => ∃ (p dx : Addr) (t : Sleeper), vs = [.ref p, nat t.word, .bl t.watch, till t.till, nat (t.order + 1)] ∧ H p = some (.ins C.S dx []) ∧
  ∀ H' : Hp, Ins H' p C.S (sF t) → (∀ b o, H b = some o → b ≠ p → H' b = some o) → Q .non H'
theorem scSleeperInit : FnScope ["self", "word", "watches", "late_at", "place"] ["self", "word", "watches", "late_at", "place"] (defScope sSleeperInit) := ⟨rfl, rfl, rfl, by decide +kernel, rfl, by decide +kernel, by decide +kernel⟩
theorem ok_sleeperInit {f : Addr} {fd : FuncData} (F : Fun K "__init__" "Sleeper.__init__" sSleeperInit f fd) (T : Txt K mg C) : FnOk P w K mg base CX0 1 f fd ["self", "word", "watches", "late_at", "place"] (spSleeperInit C) := by
  refine F.ok scSleeperInit (fun vs H Q E h => ?_) (fun cdv A0 outer s H vs Q E hr h => ?_)
  · obtain ⟨p, dx, t, rfl, _⟩ := h
    rfl
  · obtain ⟨p, dx, t, rfl, hp, k⟩ := h
    refine ⟨_, pss_cons (ps_fld (pv 0) (pv 1) rfl) (pss_cons (ps_fld (pv 0) (pv 2) rfl) (pss_cons (ps_fld (pv 0) (pv 3) rfl) (pss_one (ps_fld (pv 0) (pv 4) rfl)))), ?_⟩
    refine ⟨_, rfl, _, rfl, p, C.S, dx, _, rfl, hp, T.cS, T.s1, (by show 0 < 1000; decide), ?_⟩
    refine ⟨_, rfl, _, rfl, p, C.S, dx, _, rfl, upd_same, T.cS, T.s2, (by show 1 < 1000; decide), ?_⟩
    refine ⟨_, rfl, _, rfl, p, C.S, dx, _, rfl, upd_same, T.cS, T.s3, (by show 2 < 1000; decide), ?_⟩
    refine ⟨_, rfl, _, rfl, p, C.S, dx, _, rfl, upd_same, T.cS, T.s4, (by show 3 < 1000; decide), ?_⟩
    refine k _ ⟨dx, ?_⟩ fun b o e hb => by
      rw [upd_ne hb, upd_ne hb, upd_ne hb, upd_ne hb]
      exact e
    refine Eq.trans upd_same (congrArg (fun q => some (HO.ins C.S dx q)) ?_)
    show putF "place" (nat (t.order + 1)) (putF "late_at" (till t.till) (putF "watches" (.bl t.watch) [("word", nat t.word)])) = sF t
    rw [put_past (by decide +kernel)]
    show putF "place" (nat (t.order + 1)) (putF "late_at" (till t.till) [("word", nat t.word), ("watches", .bl t.watch)]) = sF t
    rw [put_past (by decide +kernel), put_past (by decide +kernel)]
    show putF "place" (nat (t.order + 1)) [("word", nat t.word), ("watches", .bl t.watch), ("late_at", till t.till)] = sF t
    rw [put_past (by decide +kernel), put_past (by decide +kernel), put_past (by decide +kernel)]
    rfl
theorem scSleep : FnScope ["house", "numbers", "hand", "word", "span", "late_at"] ["house", "numbers"] (defScope sSleep) := ⟨rfl, rfl, rfl, by decide +kernel, rfl, by decide +kernel, by decide +kernel⟩
theorem ok_sleep {f fI fN : Addr} {fd fdI fdN : FuncData} {t4 : Tok} (F : Fun K "answer_sleep" "answer_sleep" sSleep f fd) (T : Txt K mg C) (g4 : mg "ALREADY_ASLEEP" = some (.int (-4) t4)) (M : Mk K C.S fI) (FI : Fun K "__init__" "Sleeper.__init__" sSleeperInit fI fdI)
    (bI : Binds K fdI ["self", "word", "watches", "late_at", "place"] []) (N : Df K mg "next_place" sNextPlace ["house"] fN fdN) : FnOk P w K mg base CX0 3 f fd ["house", "numbers"] (spAns C K 5) := by
  have GI : FnOk P w K mg base CX0 1 fI fdI ["self", "word", "watches", "late_at", "place"] (spSleeperInit C) := ok_sleeperInit FI T
  have GN : FnOk P w K mg base CX0 1 fN fdN ["house"] (spNextPlace C) := ok_nextPlace N.F T
  refine F.ok scSleep (fun vs H Q E h => ?_) (fun cdv A0 outer s H vs Q E hr h => ?_)
  · obtain ⟨A, h, l, ns, q, rfl, _⟩ := h
    rfl
  · obtain ⟨A, h, l, ns, q, rfl, hA, hG, hl, nl, kd, tl, fin⟩ := h
    cases kd with
    | k5 a b c d e c0 =>
    have hu := hu_of hr
    refine ⟨_, pss_cons (ps_set (i := 2) scSleep.nd rfl (Or.inl rfl) (pe_ix ix_list (pv 1) pe_int (fun _ _ => rfl)))
      (pss_cons (ps_set (i := 3) scSleep.nd rfl (Or.inl rfl) (pe_ix ix_list (pv 1) pe_int (fun _ _ => rfl)))
      (pss_cons (ps_set (i := 4) scSleep.nd rfl (Or.inl rfl) (pe_ix ix_list (pv 1) pe_int (fun _ _ => rfl)))
      (pss_cons (ps_if (pt_cmp (pc_din hu (pv 2) (pe_fld (pv 0) rfl))) (pss_one (ps_ret (pe_lst (pa_cons (pe_glob (v := .int (-4)) rfl g4 ⟨_, rfl⟩) pa_nil)))) pss_nil)
      (pss_cons (ps_if (pt_cmpR op_ne (pe_ix ix_list (pe_fld (pv 0) rfl) (pv 3) (fun _ _ => rfl)) (pe_ix ix_list (pv 1) pe_int (fun _ _ => rfl)) (nomark _)) (pss_one (ps_ret (pe_lst (pa_cons pe_int pa_nil)))) pss_nil)
      (pss_cons (ps_set (i := 5) scSleep.nd rfl (Or.inl rfl) (pe_ifExp (pt_cmpR op_eq (pv 4) pe_int (nomark _)) pe_non (pe_op op_add (pe_fld (pv 0) rfl) (pv 4))))
      (pss_cons (ps_dput hu (pe_fld (pv 0) rfl) (pv 2) (pe_make M GI hr rfl T.gS bI .nil pass0 (pa_cons (pv 3) (pa_cons (pe_cmpR op_eq (pe_ix ix_list (pv 1) pe_int (fun _ _ => rfl)) pe_int (nomark _)) (pa_cons (pv 5) (pa_cons (pe_call GN (hr.mono (by decide)) rfl N.g N.F.kp N.b .nil pass0 (pa_cons (pv 0) pa_nil)) pa_nil))))) rfl)
      (pss_one (ps_ret (pe_lst (pa_cons pe_int pa_nil)))))))))), ?_⟩
    simp only [told, Bool.and_eq_true, in_iff] at tl
    obtain ⟨⟨a1, a2⟩, ⟨b1, b2⟩, ⟨c1, c2⟩, ⟨d1, d2⟩, e1, e2⟩ := tl
    have eon : SjS.on h (.sleep a b c d e) = if h.asleep.any (fun s => s.hand == a.toNat) then (h, Sj54.just (-4)) else
        if h.words.getD b.toNat 0 ≠ c.toNat then (h, Sj54.just 1) else
        ({ h with asleep := h.asleep ++ [⟨a.toNat, b.toNat, d == 1, if e = 0 then none else some (h.now + e.toNat), h.order⟩], order := h.order + 1 }, Sj54.just 0) := by
      show (ite _ _ _ : House × Sj54.Ans) = _
      rw [if_neg]
      simp only [Bool.or_eq_true, not_or, Sj54.isWord, Sj54.isValue, SjF.not_isIn, Classical.not_not]
      exact ⟨⟨⟨⟨⟨a1, a2⟩, b1, b2⟩, c1, by omega⟩, d1, d2⟩, e1, by omega⟩
    rw [eon] at fin
    obtain ⟨a, rfl⟩ := Int.eq_ofNat_of_zero_le a1
    obtain ⟨b, rfl⟩ := Int.eq_ofNat_of_zero_le b1
    obtain ⟨c, rfl⟩ := Int.eq_ofNat_of_zero_le c1
    obtain ⟨e, rfl⟩ := Int.eq_ofNat_of_zero_le e1
    simp only [Int.toNat_natCast] at fin
    obtain ⟨dx, ob⟩ := hA.ob
    obtain ⟨se, s1, s2, s3, s4⟩ := hA.sl
    have bl : b < h.words.length := by rw [hG.ok.wl]; omega
    have eb : h.words[b]? = some h.words[b] := List.getElem?_eq_getElem bl
    have eg : h.words.getD b 0 = h.words[b] := by
      rw [List.getD_eq_getElem?_getD, eb]
      rfl
    rw [eg] at fin
    refine ⟨_, rfl, l, _, _, _, rfl, rfl, hl, at_int (i := 0) rfl, ?_⟩
    refine ⟨_, rfl, l, _, _, _, rfl, rfl, hl, at_int (i := 1) rfl, ?_⟩
    refine ⟨_, rfl, l, _, _, _, rfl, rfl, hl, at_int (i := 4) rfl, ?_⟩
    refine ⟨_, rfl, _, rfl, A.x, C.H, dx, _, _, rfl, ob, T.cH, T.h3, hF_sleepers _ _ _, A.dS, _, rfl, DGet.k (k := .inl (a : Int)) s1, _, rfl, ?_⟩
    have ev : (valV (sK se) (.inl (a : Int))).isSome = h.asleep.any (fun s => s.hand == a) := by
      rw [sK_val, Option.isSome_map, ← s2, List.any_map, Bool.eq_iff_iff, List.find?_isSome, List.any_eq_true]
      rfl
    rw [ev]
    cases c3 : h.asleep.any (fun s => s.hand == a) with
    | true =>
      rw [c3, if_pos rfl] at fin
      refine iteT ⟨(by show 1 ≤ sizeLine; decide), fun r nr => ?_⟩
      exact fin _ r (hA.same (same_new nr)) (Fr.of_same (same_new nr)) (.of nr) upd_same
    | false =>
      rw [c3, if_neg Bool.false_ne_true] at fin
      refine iteF ?_
      refine ⟨_, rfl, A.x, C.H, dx, _, _, rfl, ob, T.cH, T.h4, hF_words _ _ _, _, rfl, A.lW, _, _, _, rfl, rfl, SqL.of hA.wd, atI_nat (j := b) (by rw [List.getElem?_map, eb]; rfl), _, rfl, l, _, _, _, rfl, rfl, hl, at_int (i := 2) rfl, rfl, _, rfl, ?_⟩
      by_cases c4 : h.words[b] = c
      · rw [if_neg (by simpa using c4)] at fin
        have c5 : nat h.words[b] = V.int (c : Int) := by rw [c4]; rfl
        refine iteNS c5 ?_
        refine ⟨_, rfl, rfl, _, rfl, ?_⟩
        by_cases c6 : e = 0
        · rw [if_pos (by omega : (e : Int) = 0)] at fin
          rw [decide_eq_true (show V.int (e : Int) = V.int 0 by rw [c6]; rfl)]
          refine iteT ?_
          have lk : valV (sK se) (.inl (a : Int)) = none := by
            cases q : valV (sK se) (.inl (a : Int)) with
            | none => rfl
            | some v =>
              rw [q, c3] at ev
              cases ev
          have ed : V.bl (decide (V.int d = V.int 1)) = V.bl (d == 1) := by
            congr 1
            by_cases z : d = 1
            · simp [z]
            · have : ¬ V.int d = V.int 1 := fun y => z (by injection y)
              simp [z]
          refine ⟨_, rfl, _, rfl, l, _, _, _, rfl, rfl, hl, at_int (i := 3) rfl, rfl, _, rfl, _, rfl, A, h, rfl, hA, fun H0 hB0 f0 k0 n0 => ?_⟩
          intro x xd nx nd ne
          rw [ed]
          refine ⟨x, xd, ⟨a, b, d == 1, none, h.order⟩, rfl, upd_same, fun H1 hI kp => ⟨rfl, ?_⟩⟩
          have sm : Same H0 H1 := Same.made nx nd kp
          have hB := hB0.same sm
          obtain ⟨dx2, ob2⟩ := hB.ob
          have nS : A.dS ≠ A.x := ne_of s1 ob nofun
          have s1' : H0 A.dS = some (.dK (sK se)) := k0 _ _ s1 nS
          refine ⟨_, rfl, A.x, C.H, dx2, _, _, rfl, ob2, T.cH, T.h3, hF_sleepers _ _ _, _, rfl, A.dS, _, rfl, DPut.k (k := .inl (a : Int)) (sm _ _ s1') ?_, ?_⟩
          · unfold sK
            rw [List.length_map]
            have := congrArg List.length s2
            rw [List.length_map] at this
            have := hG.ok.asleep_len
            exact small1000 (by omega)
          · rw [putK_new _ lk]
            have eK : sK se ++ [(Sum.inl (a : Int), V.ref x)] = sK (se ++ [(⟨a, b, d == 1, none, h.order⟩, x)]) := by
              unfold sK
              rw [List.map_append]
              rfl
            rw [eK]
            have hC := hB.setSleepers (se ++ [(⟨a, b, d == 1, none, h.order⟩, x)]) (fun ze he => by
              rcases List.mem_append.mp he with z | z
              · obtain ⟨dz, hz⟩ := s3 ze z
                exact ⟨dz, sm _ _ (k0 _ _ hz (ne_of hz ob sH))⟩
              · have : ze = (⟨a, b, d == 1, none, h.order⟩, x) := by simpa using z
                subst this
                exact hI) (by
              rw [List.map_append, List.nodup_append]
              refine ⟨s4, by simp, fun y hy y' hy' eq => ?_⟩
              have ex : y' = x := by simpa using hy'
              subst ex
              subst eq
              obtain ⟨ze, hze, rfl⟩ := List.mem_map.mp hy
              obtain ⟨dz, hz⟩ := s3 ze hze
              rw [k0 _ _ hz (ne_of hz ob sH)] at nx
              cases nx)
            rw [List.map_append, s2] at hC
            refine ⟨(by show 1 ≤ sizeLine; decide), fun r nr => ?_⟩
            exact fin _ r (hC.same (same_new nr)) ((Fr.put (f0.trans (Fr.of_same sm)) (by simp [Ad.six])).made nr) (.of (n0 _ (sm.free (free_put nr)))) upd_same
        · rw [if_neg (by omega : ¬ (e : Int) = 0)] at fin
          rw [decide_eq_false (show ¬ V.int (e : Int) = V.int 0 from fun y => c6 (by injection y with y; omega))]
          refine iteF ?_
          refine ⟨_, rfl, A.x, C.H, dx, _, _, rfl, ob, T.cH, T.h1, hF_now _ _ _, _, rfl, _, _, rfl, rfl, ?_⟩
          have lk : valV (sK se) (.inl (a : Int)) = none := by
            cases q : valV (sK se) (.inl (a : Int)) with
            | none => rfl
            | some v =>
              rw [q, c3] at ev
              cases ev
          have ed : V.bl (decide (V.int d = V.int 1)) = V.bl (d == 1) := by
            congr 1
            by_cases z : d = 1
            · simp [z]
            · have : ¬ V.int d = V.int 1 := fun y => z (by injection y)
              simp [z]
          refine ⟨_, rfl, _, rfl, l, _, _, _, rfl, rfl, hl, at_int (i := 3) rfl, rfl, _, rfl, _, rfl, A, h, rfl, hA, fun H0 hB0 f0 k0 n0 => ?_⟩
          intro x xd nx nd ne
          rw [ed]
          refine ⟨x, xd, ⟨a, b, d == 1, some (h.now + e), h.order⟩, rfl, upd_same, fun H1 hI kp => ⟨rfl, ?_⟩⟩
          have sm : Same H0 H1 := Same.made nx nd kp
          have hB := hB0.same sm
          obtain ⟨dx2, ob2⟩ := hB.ob
          have nS : A.dS ≠ A.x := ne_of s1 ob nofun
          have s1' : H0 A.dS = some (.dK (sK se)) := k0 _ _ s1 nS
          refine ⟨_, rfl, A.x, C.H, dx2, _, _, rfl, ob2, T.cH, T.h3, hF_sleepers _ _ _, _, rfl, A.dS, _, rfl, DPut.k (k := .inl (a : Int)) (sm _ _ s1') ?_, ?_⟩
          · unfold sK
            rw [List.length_map]
            have := congrArg List.length s2
            rw [List.length_map] at this
            have := hG.ok.asleep_len
            exact small1000 (by omega)
          · rw [putK_new _ lk]
            have eK : sK se ++ [(Sum.inl (a : Int), V.ref x)] = sK (se ++ [(⟨a, b, d == 1, some (h.now + e), h.order⟩, x)]) := by
              unfold sK
              rw [List.map_append]
              rfl
            rw [eK]
            have hC := hB.setSleepers (se ++ [(⟨a, b, d == 1, some (h.now + e), h.order⟩, x)]) (fun ze he => by
              rcases List.mem_append.mp he with z | z
              · obtain ⟨dz, hz⟩ := s3 ze z
                exact ⟨dz, sm _ _ (k0 _ _ hz (ne_of hz ob sH))⟩
              · have : ze = (⟨a, b, d == 1, some (h.now + e), h.order⟩, x) := by simpa using z
                subst this
                exact hI) (by
              rw [List.map_append, List.nodup_append]
              refine ⟨s4, by simp, fun y hy y' hy' eq => ?_⟩
              have ex : y' = x := by simpa using hy'
              subst ex
              subst eq
              obtain ⟨ze, hze, rfl⟩ := List.mem_map.mp hy
              obtain ⟨dz, hz⟩ := s3 ze hze
              rw [k0 _ _ hz (ne_of hz ob sH)] at nx
              cases nx)
            rw [List.map_append, s2] at hC
            refine ⟨(by show 1 ≤ sizeLine; decide), fun r nr => ?_⟩
            exact fin _ r (hC.same (same_new nr)) ((Fr.put (f0.trans (Fr.of_same sm)) (by simp [Ad.six])).made nr) (.of (n0 _ (sm.free (free_put nr)))) upd_same
      · rw [if_pos c4] at fin
        have c5 : ¬ nat h.words[b] = V.int (c : Int) := fun z => c4 (by injection z with z; omega)
        rw [decide_eq_false c5]
        refine iteT ⟨(by show 1 ≤ sizeLine; decide), fun r nr => ?_⟩
        exact fin _ r (hA.same (same_new nr)) (Fr.of_same (same_new nr)) (.of nr) upd_same
end
end Sj
namespace Sj
open PySem PySem.Spec PyProof.Rows L2
open Sj54 (House Sleeper)
open SjP (Kind)
section
variable {P : Program} {w : World} {K : PySem.W.Frag} {mg : Str → Option Value} {base : Heap} {C : Cl}
def fresh : House := ⟨0, 0, List.replicate Sj54.TIMERS none, [], List.replicate Sj54.WORDS 0, [], List.replicate 4 0⟩
def spHouseInit (C : Cl) : Sp := fun vs H Q _ => ∃ (p dx : Addr), vs = [.ref p] ∧ H p = some (.ins C.H dx []) ∧
  ∀ (H' : Hp) (A : Ad), A.x = p → HouseAt C H' A fresh → (∀ b o, H b = some o → b ≠ p → H' b = some o) → (∀ a ∈ A.six, a = p ∨ H a = none) → Q .non H'
theorem scHouseInit : FnScope ["self"] ["self"] (defScope sHouseInit) := ⟨rfl, rfl, rfl, by decide +kernel, rfl, by decide +kernel, by decide +kernel⟩
/-- one more attribute of a new object -/
theorem put_new {f : Str} {v : V} : ∀ {r : List (Str × V)} (ks : List Str), r.map (·.1) = ks → (ks.all fun g => !(g == f)) = true → putF f v r = r ++ [(f, v)]
  | [], _, _, _ => rfl
  | (g, x) :: r, _, rfl, h => by
    rw [List.map_cons, List.all_cons, Bool.and_eq_true] at h
    rw [put_past (fun z => by rw [z, beq_self_eq_true] at h; exact absurd h.1 (by decide)), put_new (r := r) _ rfl h.2]
    rfl
/-- an object in the making: at p, its attributes so far, what else was laid meanwhile -/
structure Making (C dx p : Addr) (H Hc : Hp) (fs : List (Str × V)) (F : List (Addr × HO)) : Prop where
  ob : Hc p = some (.ins C dx fs)
  old : ∀ b o, H b = some o → b ≠ p → Hc b = some o
  at_ : ∀ x ∈ F, Hc x.1 = some x.2 ∧ H x.1 = none ∧ x.1 ≠ p
  nd : (F.map (·.1)).Nodup
theorem Making.start {C dx p : Addr} {H : Hp} {fs : List (Str × V)} (h : H p = some (.ins C dx fs)) : Making C dx p H H fs [] := ⟨h, fun _ _ e _ => e, by simp, by simp⟩
theorem Making.lay {C dx p : Addr} {H Hc : Hp} {fs : List (Str × V)} {F : List (Addr × HO)} (m : Making C dx p H Hc fs F) {q : Addr} (nq : Hc q = none) (o : HO) : Making C dx p H (upd Hc q o) fs ((q, o) :: F) := by
  have pq : p ≠ q := ne_of_none m.ob nq
  refine ⟨by rw [upd_ne pq]; exact m.ob, fun b u e hb => by rw [upd_ne (ne_of_none (m.old b u e hb) nq)]; exact m.old b u e hb, fun x hx => ?_, ?_⟩
  · rcases List.mem_cons.mp hx with rfl | hx
    · refine ⟨upd_same, ?_, pq.symm⟩
      cases e : H q with
      | none => rfl
      | some u =>
        have := m.old q u e pq.symm
        rw [nq] at this
        cases this
    · obtain ⟨h1, h2, h3⟩ := m.at_ x hx
      exact ⟨by rw [upd_ne (ne_of_none h1 nq)]; exact h1, h2, h3⟩
  · rw [List.map_cons, List.nodup_cons]
    refine ⟨fun z => ?_, m.nd⟩
    obtain ⟨x, hx, e⟩ := List.mem_map.mp z
    have := (m.at_ x hx).1
    rw [e, nq] at this
    cases this
theorem Making.put {C dx p : Addr} {H Hc : Hp} {fs : List (Str × V)} {F : List (Addr × HO)} (m : Making C dx p H Hc fs F) (gs : List (Str × V)) : Making C dx p H (upd Hc p (.ins C dx gs)) gs F :=
  ⟨upd_same, fun b u e hb => by rw [upd_ne hb]; exact m.old b u e hb, fun x hx => ⟨by rw [upd_ne (m.at_ x hx).2.2]; exact (m.at_ x hx).1, (m.at_ x hx).2⟩, m.nd⟩
theorem ok_houseInit {f : Addr} {fd : FuncData} (F : Fun K "__init__" "House.__init__" sHouseInit f fd) (T : Txt K mg C) : FnOk P w K mg base CX0 1 f fd ["self"] (spHouseInit C) := by
  refine F.ok scHouseInit (fun vs H Q E h => ?_) (fun cdv A0 outer s H vs Q E hr h => ?_)
  · obtain ⟨p, dx, rfl, _⟩ := h
    rfl
  · obtain ⟨p, dx, rfl, hp, k⟩ := h
    refine ⟨_, pss_cons (ps_fld (pv 0) pe_int rfl) (pss_cons (ps_fld (pv 0) pe_dnewK rfl) (pss_cons (ps_fld (pv 0) pe_dnewK rfl)
      (pss_cons (ps_fld (pv 0) (pe_op op_rep (pe_lst (pa_cons pe_int pa_nil)) pe_int) rfl) (pss_cons (ps_fld (pv 0) (pe_lst pa_nil) rfl)
      (pss_cons (ps_fld (pv 0) (pe_lst (pa_cons pe_int (pa_cons pe_int (pa_cons pe_int (pa_cons pe_int pa_nil))))) rfl) (pss_one (ps_fld (pv 0) pe_int rfl))))))), ?_⟩
    have m0 := Making.start hp
    refine ⟨_, rfl, p, C.H, dx, _, rfl, m0.ob, T.cH, T.h1, (by show 0 < 1000; decide), ?_⟩
    have m1 := m0.put (putF "now" (.int 0) [])
    intro dT nT
    have m2 := m1.lay nT (.dK [])
    refine ⟨_, rfl, p, C.H, dx, _, rfl, m2.ob, T.cH, T.h2, (by show 1 < 1000; decide), ?_⟩
    have m3 := m2.put (putF "timers" (.ref dT) (putF "now" (.int 0) []))
    intro dS nS
    have m4 := m3.lay nS (.dK [])
    refine ⟨_, rfl, p, C.H, dx, _, rfl, m4.ob, T.cH, T.h3, (by show 2 < 1000; decide), ?_⟩
    have m5 := m4.put (putF "sleepers" (.ref dS) (putF "timers" (.ref dT) (putF "now" (.int 0) [])))
    refine ⟨(by show 1 ≤ sizeLine; decide), fun l0 n0 => ⟨l0, 64, _, rfl, rfl, upd_same, by decide, by decide, (by show 1 * 64 ≤ sizeLine; decide), fun lW nW => ?_⟩⟩
    have m6 := m5.lay n0 (.lst [.int 0])
    have m7 := m6.lay nW (.lst (List.replicate 64 [V.int 0]).flatten)
    refine ⟨_, rfl, p, C.H, dx, _, rfl, m7.ob, T.cH, T.h4, (by show 3 < 1000; decide), ?_⟩
    have m8 := m7.put (putF "words" (.ref lW) (putF "sleepers" (.ref dS) (putF "timers" (.ref dT) (putF "now" (.int 0) []))))
    refine ⟨Nat.zero_le _, fun lH nH => ?_⟩
    have m9 := m8.lay nH (.lst [])
    refine ⟨_, rfl, p, C.H, dx, _, rfl, m9.ob, T.cH, T.h5, (by show 4 < 1000; decide), ?_⟩
    have m10 := m9.put (putF "happened" (.ref lH) (putF "words" (.ref lW) (putF "sleepers" (.ref dS) (putF "timers" (.ref dT) (putF "now" (.int 0) [])))))
    refine ⟨(by show 4 ≤ sizeLine; decide), fun lC nC => ?_⟩
    have m11 := m10.lay nC (.lst [.int 0, .int 0, .int 0, .int 0])
    refine ⟨_, rfl, p, C.H, dx, _, rfl, m11.ob, T.cH, T.h6, (by show 5 < 1000; decide), ?_⟩
    have m12' := m11.put (putF "counts" (.ref lC) (putF "happened" (.ref lH) (putF "words" (.ref lW) (putF "sleepers" (.ref dS) (putF "timers" (.ref dT) (putF "now" (.int 0) []))))))
    refine ⟨_, rfl, p, C.H, dx, _, rfl, m12'.ob, T.cH, T.h7, (by show 6 < 1000; decide), ?_⟩
    have m12 := m12'.put (putF "places" (.int 0) (putF "counts" (.ref lC) (putF "happened" (.ref lH) (putF "words" (.ref lW) (putF "sleepers" (.ref dS) (putF "timers" (.ref dT) (putF "now" (.int 0) [])))))))
    have eF : putF "places" (.int 0) (putF "counts" (.ref lC) (putF "happened" (.ref lH) (putF "words" (.ref lW) (putF "sleepers" (.ref dS) (putF "timers" (.ref dT) (putF "now" (.int 0) [])))))) = hF ⟨p, dT, dS, lW, lH, lC⟩ 0 0 := by
      rw [show putF "now" (V.int 0) [] = ([("now", V.int 0)] : List (Str × V)) from rfl, put_new (f := "timers") ["now"] rfl (by decide +kernel), put_new (f := "sleepers") ["now", "timers"] rfl (by decide +kernel), put_new (f := "words") ["now", "timers", "sleepers"] rfl (by decide +kernel),
        put_new (f := "happened") ["now", "timers", "sleepers", "words"] rfl (by decide +kernel), put_new (f := "counts") ["now", "timers", "sleepers", "words", "happened"] rfl (by decide +kernel), put_new (f := "places") ["now", "timers", "sleepers", "words", "happened", "counts"] rfl (by decide +kernel)]
      rfl
    have nd := m12.nd
    simp only [List.map_cons, List.map_nil, List.nodup_cons, List.mem_cons, List.not_mem_nil, or_false, not_or] at nd
    have aC := m12.at_ (lC, _) (.head _)
    have aH := m12.at_ (lH, _) (.tail _ (.head _))
    have aW := m12.at_ (lW, _) (.tail _ (.tail _ (.head _)))
    have aS := m12.at_ (dS, _) (.tail _ (.tail _ (.tail _ (.tail _ (.head _)))))
    have aT := m12.at_ (dT, _) (.tail _ (.tail _ (.tail _ (.tail _ (.tail _ (.head _))))))
    refine k _ ⟨p, dT, dS, lW, lH, lC⟩ rfl ⟨⟨dx, by rw [show fresh.now = 0 from rfl, show fresh.order = 0 from rfl, ← eF]; exact m12.ob⟩, ⟨[], aT.1, ⟨by simp, by simp, fun n t e => ?_⟩⟩, ⟨[], aS.1, rfl, by simp, by simp⟩, ?_, ⟨[], aH.1, rfl, by simp⟩, aC.1, ?_, ?_, ?_, ?_⟩ m12.old (fun a ha => ?_)
    · rw [show fresh.timers = List.replicate 64 none from rfl, List.getElem?_replicate] at e
      split at e <;> simp at e
    · exact Eq.trans aW.1 (congrArg (fun q => some (HO.lst q)) (by decide +kernel : (List.replicate 64 [V.int 0]).flatten = fresh.words.map nat))
    · exact fun z => nd.2.2.2.2.1 z.symm
    · exact fun z => nd.2.1.1 z.symm
    · exact fun z => nd.1.2.1 z.symm
    · exact fun z => nd.1.1 z.symm
    · simp only [Ad.six, List.mem_cons, List.not_mem_nil, or_false] at ha
      rcases ha with rfl | rfl | rfl | rfl | rfl | rfl
      · exact .inl rfl
      · exact .inr aT.2.1
      · exact .inr aS.2.1
      · exact .inr aW.2.1
      · exact .inr aH.2.1
      · exact .inr aC.2.1
end
end Sj
namespace Sj
open PySem PySem.Spec PyProof.Rows L2
open Sj54 (House Sleeper)
open SjP (Kind)
abbrev sTold : Stmt := top 56
abbrev sInHouse : Stmt := top 57
abbrev sAnswers : Stmt := top 58
/-- a def of one number that answers a truth value -/
structure Chk where
  f : Addr
  pr : Int → Bool
section
variable {P : Program} {w : World} {K : PySem.W.Frag} {mg : Str → Option Value} {base : Heap} {C : Cl}
def IsChk (P : Program) (w : World) (K : PySem.W.Frag) (mg : Str → Option Value) (base : Heap) (c : Chk) : Prop :=
  FnR P w K mg base CX0 1 c.f (spIs c.pr) ∧ PySem.W.keepIn K (.ref c.f) = true
/-- what are_as_told promises, whatever stands in the table's row -/
def spTold (P : Program) (w : World) (mg : Str → Option Value) (base : Heap) (K : PySem.W.Frag) (dN : Addr) : Sp := fun vs H Q _ => ∃ (p : Int) (l tp : Addr) (ns : List Int) (cs : List Chk), vs = [.int p, .ref l] ∧ SqL K H l (ns.map V.int) ∧
  SjR.IntDict K dN p (.ref tp) ∧ SqT K H tp (cs.map fun c => V.ref c.f) ∧ cs.length = ns.length ∧ (∀ c ∈ cs, IsChk P w K mg base c) ∧ ∀ H', Same H H' → Q (.bl ((cs.zip ns).all fun x => x.1.pr x.2)) H'
theorem scTold : FnScope ["call", "numbers", "is_as_told", "number"] ["call", "numbers"] (defScope sTold) := ⟨rfl, rfl, rfl, by decide +kernel, rfl, by decide +kernel, by decide +kernel⟩
theorem seqT {K : PySem.W.Frag} {H H' : Hp} {a : Addr} {xs : List V} (e : Same H H') (h : SqT K H a xs) : SqT K H' a xs := by
  rcases h with (h | ⟨o, h⟩) | h
  · exact .inl (.inl (e _ _ h))
  · exact .inl (.inr ⟨o, e _ _ h⟩)
  · exact .inr h
theorem ok_told {f dN : Addr} {fd : FuncData} (F : Fun K "are_as_told" "are_as_told" sTold f fd) (T : Txt K mg C) (gN : mg "NUMBERS" = some (.ref dN)) : FnOk P w K mg base CX0 2 f fd ["call", "numbers"] (spTold P w mg base K dN) := by
  refine F.ok scTold (fun vs H Q E h => ?_) (fun cdv A0 outer s H vs Q E hr h => ?_)
  · obtain ⟨p, l, tp, ns, cs, rfl, _⟩ := h
    rfl
  · obtain ⟨p, l, tp, ns, cs, rfl, hl, hd, ht, hn, hc, fin⟩ := h
    refine ⟨_, pss_cons (ps_for PassesOwn.never rfl (SjR.pi_zipTL rfl T.zip (pa_cons (pe_ix SjR.ix_intDict (pe_glob (v := .ref dN) rfl gN rfl) (pv 0) (fun _ _ => rfl)) (pa_cons (pv 1) pa_nil)))
        (pg_tup rfl (pgs_cons (pg_name (i := 2) scTold.nd rfl (Or.inl rfl)) (pgs_cons (pg_name (i := 3) scTold.nd rfl (Or.inl rfl)) pgs_nil)))
        (pss_one (ps_if (pt_not (pt_val (SjR.pe_anyIf (J := Chk) (p := IsChk P w K mg base) (t := fun c => ItX.tCallV 2 c.f (spIs c.pr) E0 (tCons (tVar 3) tNil)) fun c hc => ItX.pe_callV hc.1 hr hc.2 pass0 rfl (Or.inl rfl) (pa_cons (pv 3) pa_nil)))) (pss_one (ps_ret pe_bl)) pss_nil)))
      (pss_one (ps_ret pe_bl)), ?_⟩
    refine ⟨_, rfl, dN, p, .ref tp, _, rfl, rfl, hd, rfl, _, rfl, tp, l, _, _, rfl, ht, hl, ?_⟩
    have ln : (cs.map fun c => V.ref c.f).length = (ns.map V.int).length := by rw [List.length_map, List.length_map, hn]
    refine SjR.for_zipTL ln (fun i σ H' => ∃ x y : Option V, σ = [some (.int p), some (.ref l), x, y] ∧ Same H H' ∧ ((cs.take i).zip (ns.take i)).all (fun x => x.1.pr x.2) = true)
      ⟨none, none, rfl, Same.refl H, rfl⟩ (fun i σ H' ⟨_, _, _, sm, _⟩ => ⟨seqT sm ht, sm.seq hl⟩) ?_ ?_
    · rintro i u v T0 σ H' hu hv ⟨x, y, rfl, sm, al⟩ nT
      rw [List.getElem?_map] at hu hv
      obtain ⟨c, ec, rfl⟩ := Option.map_eq_some_iff.mp hu
      obtain ⟨n, en, rfl⟩ := Option.map_eq_some_iff.mp hv
      have sm2 := sm.trans (same_new (o := .tup [.ref c.f, .int n]) nT)
      refine ⟨T0, _, rfl, SqT.of upd_same, rfl, _, _, rfl, _, _, rfl, rfl, ?_⟩
      refine ⟨c, hc c (List.mem_of_getElem? ec), rfl, _, rfl, n, rfl, _, rfl, ?_⟩
      cases q : c.pr n with
      | true =>
        refine iteF ⟨_, _, rfl, sm2, ?_⟩
        rw [take_more ec, take_more en, List.zip_append (by rw [List.length_take, List.length_take, hn]), List.all_append, al]
        simp [q]
      | false =>
        refine iteT ?_
        have : ((cs.zip ns).all fun x => x.1.pr x.2) = false := by
          rw [List.all_eq_false]
          refine ⟨(c, n), ?_, by simp [q]⟩
          exact List.mem_of_getElem? (i := i) (by rw [List.getElem?_zip_eq_some]; exact ⟨ec, en⟩)
        rw [this] at fin
        exact fin _ sm2
    · rintro σ H' ⟨x, y, rfl, sm, al⟩
      rw [List.length_map, List.take_length, hn, List.take_length] at al
      rw [al] at fin
      exact fin H' sm
end
end Sj
namespace Sj
open PySem PySem.Spec PyProof.Rows L2
open Sj54 (House Sleeper)
open SjP (Kind)
/-- a call's row in the two tables -/
structure Row (P : Program) (w : World) (K : PySem.W.Frag) (mg : Str → Option Value) (base : Heap) (C : Cl) (dN dA : Addr) (lv : Nat) (p : Int) (n : Nat) (tp : Addr) (cs : List Chk) (fa : Addr) : Prop where
  num : SjR.IntDict K dN p (.ref tp)
  tup : ∀ H, SqT K H tp (cs.map fun c => V.ref c.f)
  len : cs.length = n
  chk : ∀ c ∈ cs, IsChk P w K mg base c
  all : ∀ ns : List Int, ns.length = n → ((cs.zip ns).all fun x => x.1.pr x.2) = told p ns
  ans : SjR.IntDict K dA p (.ref fa)
  ok : FnR P w K mg base CX0 lv fa (spAns C K p)
  kp : PySem.W.keepIn K (.ref fa) = true
def Tabs (P : Program) (w : World) (K : PySem.W.Frag) (mg : Str → Option Value) (base : Heap) (C : Cl) (dN dA : Addr) (lv : Nat) : Prop := ∀ p ns q, Kind p ns q → p ≠ 1 → ∃ tp cs fa, Row P w K mg base C dN dA lv p ns.length tp cs fa
/-- the house that a value is -/
def HV (C : Cl) (H : Hp) : V → Option (Ad × House) → Prop
  | v, none => v = .non
  | v, some (A, h) => v = .ref A.x ∧ HouseAt C H A h ∧ Good h
theorem on_not_told {h : House} {p : Int} {ns : List Int} {q : Sj54.Call} (k : Kind p ns q) (t : told p ns = false) : SjS.on h q = (h, Sj54.just (-2)) := by
  cases k with
  | k2 a b c d =>
    show (ite _ _ _ : House × Sj54.Ans) = _
    rw [if_pos]
    simp only [told] at t
    show (!Sj54.isIn 0 63 a || !Sj54.isIn 1 16777216 b || !(c == 0 || Sj54.isIn 16 16777216 c) || !Sj54.isIn 0 65535 d) = true
    cases h1 : Sj54.isIn 0 63 a <;> cases h2 : Sj54.isIn 1 16777216 b <;> cases h3 : (c == 0 || Sj54.isIn 16 16777216 c) <;> cases h4 : Sj54.isIn 0 65535 d <;> simp_all
  | k3 a =>
    show (ite _ _ _ : House × Sj54.Ans) = _
    rw [if_pos]
    have t' : Sj54.isIn 0 63 a = false := t
    rw [t']
    rfl
  | k4 a =>
    show (ite _ _ _ : House × Sj54.Ans) = _
    rw [if_pos]
    have t' : Sj54.isIn 0 63 a = false := t
    rw [t']
    rfl
  | k5 a b c d e =>
    show (ite _ _ _ : House × Sj54.Ans) = _
    rw [if_pos]
    simp only [told] at t
    show (!Sj54.isIn 0 15 a || !Sj54.isIn 0 63 b || !Sj54.isIn 0 4294967295 c || !Sj54.isIn 0 1 d || !Sj54.isIn 0 16777216 e) = true
    cases h1 : Sj54.isIn 0 15 a <;> cases h2 : Sj54.isIn 0 63 b <;> cases h3 : Sj54.isIn 0 4294967295 c <;> cases h4 : Sj54.isIn 0 1 d <;> simp_all
  | k6 a b =>
    show (ite _ _ _ : House × Sj54.Ans) = _
    rw [if_pos]
    simp only [told] at t
    show (!Sj54.isIn 0 63 a || !Sj54.isIn 0 4294967295 b) = true
    cases h1 : Sj54.isIn 0 63 a <;> cases h2 : Sj54.isIn 0 4294967295 b <;> simp_all
  | k7 a b =>
    show (ite _ _ _ : House × Sj54.Ans) = _
    rw [if_pos]
    simp only [told] at t
    show (!Sj54.isIn 0 63 a || !Sj54.isIn 0 4294967295 b) = true
    cases h1 : Sj54.isIn 0 63 a <;> cases h2 : Sj54.isIn 0 4294967295 b <;> simp_all
  | k8 a b =>
    show (ite _ _ _ : House × Sj54.Ans) = _
    rw [if_pos]
    simp only [told] at t
    show (!Sj54.isIn 0 63 a || !Sj54.isIn 0 16 b) = true
    cases h1 : Sj54.isIn 0 63 a <;> cases h2 : Sj54.isIn 0 16 b <;> simp_all
  | k9 a b c =>
    show (ite _ _ _ : House × Sj54.Ans) = _
    rw [if_pos]
    simp only [told] at t
    show (!Sj54.isIn 0 63 a || !Sj54.isIn 0 63 b || !Sj54.isIn 0 16 c) = true
    cases h1 : Sj54.isIn 0 63 a <;> cases h2 : Sj54.isIn 0 63 b <;> cases h3 : Sj54.isIn 0 16 c <;> simp_all
  | k10 a =>
    show (ite _ _ _ : House × Sj54.Ans) = _
    rw [if_pos]
    have t' : Sj54.isIn 1 1000 a = false := t
    rw [t']
    rfl
  | k12 a =>
    show (ite _ _ _ : House × Sj54.Ans) = _
    rw [if_pos]
    have t' : Sj54.isIn 0 15 a = false := t
    rw [t']
    rfl
  | k13 a =>
    show (ite _ _ _ : House × Sj54.Ans) = _
    rw [if_pos]
    have t' : Sj54.isIn 0 63 a = false := t
    show (!Sj54.isIn 0 63 a) = true
    rw [t']
    rfl
  | _ => cases t
section
variable {P : Program} {w : World} {K : PySem.W.Frag} {mg : Str → Option Value} {base : Heap} {C : Cl}
/-- what stands behind a call, by the house ahead of it -/
def After (C : Cl) (H : Hp) (q : Sj54.Call) (Q : VK) : Option (Ad × House) → Prop
  | none => ∀ H' r, Same H H' → New H r → H' r = some (.lst [.int (-7)]) → Q (.ref r) H'
  | some (A, h) => ∀ H' r, HouseAt C H' A (SjS.on h q).1 → Fr A H H' → New H r → H' r = some (.lst ((ansOf (SjS.on h q).2).map V.int)) → Q (.ref r) H'
def spInHouse (C : Cl) (K : PySem.W.Frag) : Sp := fun vs H Q _ => ∃ (hv : V) (oh : Option (Ad × House)) (p : Int) (l : Addr) (ns : List Int) (q : Sj54.Call), vs = [hv, .int p, .ref l] ∧ HV C H hv oh ∧ SqL K H l (ns.map V.int) ∧ (∀ A h, oh = some (A, h) → (∃ o, H l = some o) → l ∉ A.six) ∧ Kind p ns q ∧ p ≠ 1 ∧
  After C H q Q oh
theorem scInHouse : FnScope ["house", "call", "numbers", "answer"] ["house", "call", "numbers"] (defScope sInHouse) := ⟨rfl, rfl, rfl, by decide +kernel, rfl, by decide +kernel, by decide +kernel⟩
theorem ok_inHouse {f fT dN dA : Addr} {fd fdT : FuncData} {t7 t2 : Tok} {lv : Nat} (hlv : 2 ≤ lv) (F : Fun K "answer_in_house" "answer_in_house" sInHouse f fd) (T : Txt K mg C) (gN : mg "NUMBERS" = some (.ref dN)) (gA : mg "ANSWERS" = some (.ref dA))
    (D : Df K mg "are_as_told" sTold ["call", "numbers"] fT fdT) (g7 : mg "NO_HOUSE" = some (.int (-7) t7)) (g2 : mg "WRONG_NUMBER" = some (.int (-2) t2)) (tabs : Tabs P w K mg base C dN dA lv) : FnOk P w K mg base CX0 (lv + 1) f fd ["house", "call", "numbers"] (spInHouse C K) := by
  have GT : FnOk P w K mg base CX0 2 fT fdT ["call", "numbers"] (spTold P w mg base K dN) := ok_told D.F T gN
  refine F.ok scInHouse (fun vs H Q E h => ?_) (fun cdv A0 outer s H vs Q E hr h => ?_)
  · obtain ⟨hv, oh, p, l, ns, q, rfl, _⟩ := h
    rfl
  · obtain ⟨hv, oh, p, l, ns, q, rfl, hh, hl, nl, kd, p1, fin⟩ := h
    obtain ⟨tp, cs, fa, row⟩ := tabs p ns q kd p1
    refine ⟨_, pss_cons (ps_if (pt_cmp (pc_isN (pv 0))) (pss_one (ps_ret (pe_lst (pa_cons (pe_glob (v := .int (-7)) rfl g7 ⟨_, rfl⟩) pa_nil)))) pss_nil)
      (pss_cons (ps_if (pt_not (pt_val (pe_call GT (hr.mono hlv) rfl D.g D.F.kp D.b .nil pass0 (pa_cons (pv 1) (pa_cons (pv 2) pa_nil))))) (pss_one (ps_ret (pe_lst (pa_cons (pe_glob (v := .int (-2)) rfl g2 ⟨_, rfl⟩) pa_nil)))) pss_nil)
      (pss_cons (ps_set (i := 3) scInHouse.nd rfl (Or.inl rfl) (pe_ix SjR.ix_intDict (pe_glob (v := .ref dA) rfl gA rfl) (pv 1) (fun _ _ => rfl)))
      (pss_one (ps_ret (ItX.pe_callV (i := 3) row.ok hr row.kp pass0 rfl (Or.inl rfl) (pa_cons (pv 0) (pa_cons (pv 2) pa_nil))))))), ?_⟩
    refine ⟨_, rfl, _, rfl, ?_⟩
    cases oh with
    | none =>
      obtain rfl : hv = .non := hh
      refine iteT ⟨(by show 1 ≤ sizeLine; decide), fun r nr => ?_⟩
      exact fin _ r (same_new nr) (.of nr) upd_same
    | some x =>
      obtain ⟨A, h⟩ := x
      obtain ⟨rfl, hA, hG⟩ := hh
      refine iteF ?_
      refine ⟨_, rfl, _, rfl, p, l, tp, ns, cs, rfl, hl, row.num, row.tup H, row.len, row.chk, fun H1 sm => ⟨_, rfl, ?_⟩⟩
      rw [row.all ns rfl]
      have hB := hA.same sm
      cases tq : told p ns with
      | false =>
        have e := on_not_told (h := h) kd tq
        have fin' : ∀ H' r, HouseAt C H' A (SjS.on h q).1 → Fr A H H' → New H r → H' r = some (.lst ((ansOf (SjS.on h q).2).map V.int)) → Q (.ref r) H' := fin
        rw [e] at fin'
        refine iteT ⟨(by show 1 ≤ sizeLine; decide), fun r nr => ?_⟩
        exact fin' _ r (hB.same (same_new nr)) (Fr.of_same (sm.trans (same_new nr))) (.of (sm.free nr)) upd_same
      | true =>
        refine iteF ?_
        refine ⟨_, rfl, dA, p, .ref fa, _, rfl, rfl, row.ans, rfl, ?_⟩
        refine ⟨rfl, _, rfl, _, rfl, A, h, l, ns, q, rfl, hB, hG, sm.seq hl, fun ⟨o, eo⟩ z => ?_, kd, tq, fun H2 r hC fr nr hr2 => ?_⟩
        · rcases hl with (h1 | ⟨o1, h1⟩) | h1
          · exact nl A h rfl ⟨_, h1⟩ z
          · exact nl A h rfl ⟨_, h1⟩ z
          · obtain ⟨o2, e2⟩ := hA.here z
            exact nl A h rfl ⟨_, e2⟩ z
        · exact fin H2 r hC ((Fr.of_same sm).trans fr) (fun o e => nr o (sm _ _ e)) hr2
end
end Sj
namespace Sj
open PySem PySem.Spec PyProof.Rows L2
open Sj54 (House Sleeper)
open SjP (Kind)
section
variable {P : Program} {w : World} {K : PySem.W.Frag} {mg : Str → Option Value} {base : Heap} {C : Cl}
def spAnswers (K : PySem.W.Frag) : Sp := fun vs H Q _ => ∃ (a : Addr) (ns : List Int), vs = [.ref a] ∧ SqL K H a (ns.map V.int) ∧ PySj54.answers_asked ns = true ∧
  ∀ (H' : Hp) (p : Addr), H' p = some (.lst ((PySj54.answers ns).map V.int)) → Q (.ref p) H'
theorem scAnswers : FnScope ["calls", "given", "house", "at", "call", "end", "answer"] ["calls"] (defScope sAnswers) := ⟨rfl, rfl, rfl, by decide +kernel, rfl, by decide +kernel, by decide +kernel⟩
/-- the house with the program's numbers, and the specification's -/
def Alike : Option (Ad × House) → Option House → Prop
  | none, none => True
  | some (_, g), some h => SjS.Sim g h ∧ SjF.Ok h
  | _, _ => False
/-- between two turns: k numbers are gone through -/
structure Turn1 (C : Cl) (K : PySem.W.Frag) (a g : Addr) (ns : List Int) (H : Hp) (hv : V) (k f : Nat) (oh : Option (Ad × House)) (os : Option House) (raw : List (List (List Int))) (gs : List Int) : Prop where
  cl : PyFlat.calls PySj54.shape f (ns.drop k) = some raw
  ask : ∀ c ∈ raw, Sj54Neutral.asked1 c = true
  hv : HV C H hv oh
  ga : H g = some (.lst (gs.map V.int))
  sq : SqL K H a (ns.map V.int)
  eq : gs ++ SjP.rest os raw = PySj54.answers ns
  sm : Alike oh os
  gn : ∀ A h, oh = some (A, h) → g ∉ A.six
  sa : (∀ H, SqL K H a (ns.map V.int)) ∨ (a ≠ g ∧ ∀ A h, oh = some (A, h) → a ∉ A.six)
  gl : gs.length + 20 * raw.length ≤ 2000
  ev : ∀ A h, oh = some (A, h) → h.events.length + 16 * raw.length ≤ 10000
theorem seq_put {H : Hp} {a g : Addr} {xs : List V} {o : HO} (h : SqL K H a xs) (n : a ≠ g) : SqL K (upd H g o) a xs := by
  rcases h with (h | ⟨u, h⟩) | h
  · exact .inl (.inl (by rw [upd_ne n]; exact h))
  · exact .inl (.inr ⟨u, by rw [upd_ne n]; exact h⟩)
  · exact .inr h
/-- a list that was handed in is tracked, or of the written part -/
theorem sq_or {H : Hp} {a : Addr} {xs : List V} (h : SqL K H a xs) : (∀ H, SqL K H a xs) ∨ ∃ o, H a = some o := by
  rcases h with (h | ⟨u, h⟩) | h
  · exact .inr ⟨_, h⟩
  · exact .inr ⟨_, h⟩
  · exact .inl fun _ => .inr h
def Wd (C : Cl) (K : PySem.W.Frag) (a g : Addr) (ns : List Int) (m : Nat) (σ : L2.St) (H' : Hp) : Prop :=
  ∃ (hv : V) (k fu : Nat) (oh : Option (Ad × House)) (os : Option House) (raw : List (List (List Int))) (gs : List Int) (x4 x5 x6 : Option V), k + m = ns.length ∧ σ = [some (.ref a), some (.ref g), some hv, some (nat k), x4, x5, x6] ∧ Turn1 C K a g ns H' hv k fu oh os raw gs
theorem drop_cons {α : Type} {l : List α} {k : Nat} (h : k < l.length) : ∃ x, l[k]? = some x ∧ l.drop k = x :: l.drop (k + 1) := ⟨l[k], List.getElem?_eq_getElem h, List.drop_eq_getElem_cons h⟩
theorem cut_is {ns : List Int} {k m : Nat} {args t : List Int} (h : ns.drop (k + 1) = args ++ t) (hm : args.length = m) (hk : k < ns.length) : cutV (ns.map V.int) (some ((k : Int) + 1)) (some ((k : Int) + 1 + (m : Int))) = args.map V.int := by
  have hl : ns.length - (k + 1) = args.length + t.length := by
    have := congrArg List.length h
    rwa [List.length_drop, List.length_append] at this
  unfold cutV
  rw [show ((k : Int) + 1) = ((k + 1 : Nat) : Int) by omega, show (((k + 1 : Nat) : Int) + (m : Int)) = ((k + 1 + m : Nat) : Int) by omega, HT.sIx_nat, HT.sIx_nat, List.length_map, Nat.min_eq_left (by omega), Nat.min_eq_left (by omega), ← List.map_drop, h, ← List.map_take, show k + 1 + m - (k + 1) = m by omega, ← hm, List.take_left]
theorem kind_one {args : List Int} {q : Sj54.Call} (k : Kind 1 args q) : args = [] ∧ q = .open_ := by
  generalize e : (1 : Int) = p at k
  cases k <;> first | exact ⟨rfl, rfl⟩ | (exfalso; omega)
theorem kind_open {p : Int} {args : List Int} {q : Sj54.Call} (k : Kind p args q) (h : p ≠ 1) (s : House) : Sj54.step (some s) q = (some (Sj54.on s q).1, (Sj54.on s q).2) ∧ Sj54.step none q = (none, Sj54.just (-7)) := by
  cases k <;> first | exact ⟨rfl, rfl⟩ | exact absurd rfl h
theorem turn_next {a g : Addr} {ns : List Int} {H H2 : Hp} {hv hv2 : V} {k fu f' : Nat} {oh oh2 : Option (Ad × House)} {os os2 : Option House} {p : Int} {args t ans : List Int} {raw' : List (List (List Int))} {gs : List Int} (I : Turn1 C K a g ns H hv k fu oh os ([p :: args] :: raw') gs)
    (cl : PyFlat.calls PySj54.shape f' t = some raw') (ed : ns.drop (k + 1 + args.length) = t) (hst : Sj54Neutral.step os [p :: args] = (os2, ans)) (hal : Alike oh2 os2) (hla : ans.length ≤ 9) (hh : HV C H2 hv2 oh2) (hg : H2 g = some (.lst (gs.map V.int)))
    (sq : SqL K H2 a (ns.map V.int)) (gn : ∀ A h, oh2 = some (A, h) → g ∉ A.six) (sa : (∀ H, SqL K H a (ns.map V.int)) ∨ (a ≠ g ∧ ∀ A h, oh2 = some (A, h) → a ∉ A.six)) (ev : ∀ A h, oh2 = some (A, h) → h.events.length + 16 * raw'.length ≤ 10000) :
    Turn1 C K a g ns (upd H2 g (.lst (gs.map V.int ++ [V.int (ans.length : Int)] ++ ans.map V.int))) hv2 (k + 1 + args.length) f' oh2 os2 raw' (gs ++ ((ans.length : Int) :: ans)) := by
  have gl := I.gl
  rw [List.length_cons] at gl
  refine ⟨by rw [ed]; exact cl, fun c hc => I.ask c (List.mem_cons_of_mem _ hc), ?_, ?_, ?_, ?_, hal, gn, sa, ?_, ev⟩
  · cases oh2 with
    | none => exact hh
    | some x =>
      obtain ⟨A, h⟩ := x
      obtain ⟨h1, h2, h3⟩ := hh
      exact ⟨h1, h2.over g (.inr ⟨_, hg⟩) (gn A h rfl) fun b o e n => by rw [upd_ne n]; exact e, h3⟩
  · rw [upd_same, List.map_append, List.map_cons, List.append_assoc]
    rfl
  · rcases sa with z | ⟨z, _⟩
    · exact z _
    · exact seq_put sq z
  · have eq := I.eq
    rw [SjP.rest_cons, hst] at eq
    rw [← eq, List.append_assoc]
  · rw [List.length_append, List.length_cons]
    omega
theorem small1000' {n : Nat} (h : n ≤ 100000) : n < sizeLine := Nat.lt_of_le_of_lt h (by decide)
theorem ok_answers {f fH fI dN dA t1 : Addr} {fd fdH fdI : FuncData} {tO : Tok} {lv : Nat} (hlv : 2 ≤ lv) (F : Fun K "answers" "answers" sAnswers f fd) (T : Txt K mg C) (gN : mg "NUMBERS" = some (.ref dN)) (gO : mg "OPENING" = some (.int 1 tO))
    (D : Df K mg "answer_in_house" sInHouse ["house", "call", "numbers"] fH fdH) (GH : FnOk P w K mg base CX0 (lv + 1) fH fdH ["house", "call", "numbers"] (spInHouse C K))
    (M : Mk K C.H fI) (FI : Fun K "__init__" "House.__init__" sHouseInit fI fdI) (bI : Binds K fdI ["self"] []) (r1 : SjR.IntDict K dN 1 (.ref t1)) (r2 : ∀ H, SqT K H t1 []) (tabs : Tabs P w K mg base C dN dA lv) :
    FnOk P w K mg base CX0 (lv + 2) f fd ["calls"] (spAnswers K) := by
  have GI : FnOk P w K mg base CX0 1 fI fdI ["self"] (spHouseInit C) := ok_houseInit FI T
  refine F.ok scAnswers (fun vs H Q E h => ?_) (fun cdv A0 outer s H vs Q E hr h => ?_)
  · obtain ⟨a, ns, rfl, _⟩ := h
    rfl
  · obtain ⟨a, ns, rfl, hS, hask, fin⟩ := h
    refine ⟨_, pss_cons (ps_set (i := 1) scAnswers.nd rfl (Or.inl rfl) (pe_lst pa_nil))
      (pss_cons (ps_set (i := 2) scAnswers.nd rfl (Or.inl rfl) pe_non)
      (pss_cons (ps_set (i := 3) scAnswers.nd rfl (Or.inl rfl) pe_int)
      (pss_cons (ps_while PassesOwn.never (pt_cmpR op_lt (pv 3) (pe_callB call_len_seq (by rfl) T.len PySem.boot_len (pa_cons (pv 0) pa_nil)) (nomark _))
        (pss_cons (ps_set (i := 4) scAnswers.nd rfl (Or.inl rfl) (pe_ix ix_list (pv 0) (pv 3) (fun _ _ => rfl)))
        (pss_cons (ps_set (i := 5) scAnswers.nd rfl (Or.inl rfl) (pe_op op_add (pe_op op_add (pv 3) pe_int) (pe_callB call_len_seq (by rfl) T.len PySem.boot_len (pa_cons (pe_ix SjR.ix_intDict (pe_glob (v := .ref dN) rfl gN rfl) (pv 4) (fun _ _ => rfl)) pa_nil))))
        (pss_cons (ps_if (pt_cmpR op_eq (pv 4) (pe_glob (v := .int 1) rfl gO ⟨_, rfl⟩) (nomark _))
          (pss_cons (ps_set (i := 2) scAnswers.nd rfl (Or.inl rfl) (pe_make0 M GI (hr.mono (by omega)) rfl T.gH bI .nil pass0)) (pss_one (ps_set (i := 6) scAnswers.nd rfl (Or.inl rfl) (pe_lst (pa_cons pe_int pa_nil)))))
          (pss_one (ps_set (i := 6) scAnswers.nd rfl (Or.inl rfl) (pe_call GH hr rfl D.g D.F.kp D.b .nil pass0 (pa_cons (pv 2) (pa_cons (pv 4) (pa_cons (pe_slice sl_list (pv 0) (po_some (pe_op op_add (pv 3) pe_int)) (po_some (pv 5))) pa_nil)))))))
        (pss_cons (ps_expr (pe_bm PySem.F.plainAttrs_list PySem.F.slot_list_append PySem.F.type_list_append mt_append (pv 1) (pa_cons (pe_callB call_len_seq (by rfl) T.len PySem.boot_len (pa_cons (pv 6) pa_nil)) pa_nil)))
        (pss_cons (ps_expr (pe_bm PySem.F.plainAttrs_list PySem.F.slot_list_extend PySem.F.type_list_extend mt_extend (pv 1) (pa_cons (pv 6) pa_nil)))
        (pss_one (ps_set (i := 3) scAnswers.nd rfl (Or.inl rfl) (pv 5)))))))))
      (pss_one (ps_ret (pv 1)))))), ?_⟩
    refine ⟨Nat.zero_le _, fun g ng => ?_⟩
    obtain ⟨raw0, c0, ak⟩ := SjP.asked_of hask
    refine ⟨Wd C K a g ns, ⟨ns.length, .non, 0, ns.length, none, none, raw0, [], none, none, none, Nat.zero_add _, rfl, ⟨c0, ak.one, rfl, upd_same, (same_new ng).seq hS, ak.eq.symm, trivial, nofun, ?_, ?_, nofun⟩⟩, ?_⟩
    · rcases sq_or hS with z | ⟨o, z⟩
      · exact .inl z
      · exact .inr ⟨ne_of_none z ng, nofun⟩
    · have := ak.most
      show 0 + _ ≤ _
      omega
    · rintro m σ H' ⟨hv, k, fu, oh, os, raw, gs, x4, x5, x6, hkm, rfl, I⟩
      refine ⟨_, rfl, _, rfl, a, _, rfl, .inl I.sq, _, _, rfl, rfl, _, rfl, ?_⟩
      rw [List.length_map]
      refine ite2 (fun c => ?_) (fun c => ?_)
      · have hk : k < ns.length := by
          have : (k : Int) < (ns.length : Int) := of_decide_eq_true c
          omega
        obtain ⟨p, hp, ed⟩ := drop_cons hk
        have cl := I.cl
        rw [ed] at cl
        obtain ⟨n, args, t, raw', f', sh, er, la, rfl, cl'⟩ := SjP.calls_cons cl
        obtain ⟨_, q, kd, st⟩ := SjP.asked1_kind (I.ask _ (List.mem_cons_self ..))
        have eq := I.eq
        rw [SjP.rest_cons, st] at eq
        have gl := I.gl
        rw [List.length_cons] at gl
        have ask' : ∀ c ∈ raw', Sj54Neutral.asked1 c = true := fun c hc => I.ask c (List.mem_cons_of_mem _ hc)
        have hl : ns.length - (k + 1) = args.length + t.length := by
          have := congrArg List.length er
          rwa [List.length_drop, List.length_append] at this
        have ed2 : ns.drop (k + 1 + args.length) = t := by
          rw [← List.drop_drop, er, List.drop_left]
        obtain ⟨tp, vs, hnum, htup, hlen⟩ : ∃ tp vs, SjR.IntDict K dN p (.ref tp) ∧ (∀ H, SqT K H tp vs) ∧ vs.length = args.length := by
          by_cases z : p = 1
          · subst z
            obtain ⟨rfl, _⟩ := kind_one kd
            exact ⟨t1, [], r1, r2, rfl⟩
          · obtain ⟨tp, cs, fa, row⟩ := tabs p args q kd z
            exact ⟨tp, _, row.num, row.tup, by rw [List.length_map]; exact row.len⟩
        refine ⟨fun σ' H' => ∃ m', m' < m ∧ Wd C K a g ns m' σ' H', fun _ _ z => z, ?_⟩
        refine ⟨_, rfl, _, rfl, a, _, _, _, rfl, rfl, I.sq, at_int hp, ?_⟩
        refine ⟨_, rfl, _, _, rfl, rfl, _, rfl, dN, p, .ref tp, _, rfl, rfl, hnum, rfl, tp, _, rfl, .inr (htup _), _, _, rfl, rfl, ?_⟩
        rw [hlen]
        have ek : V.int ((k : Int) + 1 + (args.length : Int)) = nat (k + 1 + args.length) := congrArg V.int (by omega)
        refine ⟨_, rfl, rfl, _, rfl, ?_⟩
        refine ite2 (fun c1 => ?_) (fun c1 => ?_)
        · have p1 : p = 1 := by simpa using c1
          subst p1
          obtain ⟨rfl, rfl⟩ := kind_one kd
          intro x dx nx nd ne
          refine ⟨x, dx, rfl, upd_same, fun H1 A eA hA old fr => ⟨rfl, ?_⟩⟩
          refine ⟨(by show 1 ≤ sizeLine; decide), fun r nr => ?_⟩
          have sm : Same H' H1 := Same.made nx nd old
          have fz : ∀ a ∈ A.six, H' a = none := fun b hb => by
            rcases fr b hb with z | z
            · rw [z]
              exact nx
            · exact free_put (free_put z)
          have sm2 : Same H' (upd H1 r (.lst [.int 0])) := sm.trans (same_new nr)
          have hg2 := sm2 _ _ I.ga
          have hr2 : upd H1 r (.lst [.int 0]) r = some (.lst [.int 0]) := upd_same
          have rg : r ≠ g := fun z => by
            rw [z, sm _ _ I.ga] at nr
            cases nr
          have hA2 := hA.same (same_new (o := .lst [.int 0]) nr)
          have g6 : g ∉ A.six := fun z => by
            have := fz g z
            rw [I.ga] at this
            cases this
          have nx' := turn_next (H2 := upd H1 r (.lst [.int 0])) (hv2 := .ref x) (oh2 := some (A, fresh)) (os2 := some fresh) (ans := [0]) I cl' ed2 (st _) ⟨SjS.sim_fresh, SjF.Ok.fresh⟩ (by decide) ⟨by rw [eA], hA2, ⟨SjF.Ok.fresh, Nat.zero_le _⟩⟩ hg2 (sm2.seq I.sq) (fun A' h' z => by cases z; exact g6) (by
            rcases sq_or I.sq with z | ⟨o, z⟩
            · exact .inl z
            · rcases I.sa with y | y
              · exact .inl y
              · refine .inr ⟨y.1, fun A' h' q => ?_⟩
                cases q
                intro y
                rw [fz a y] at z
                cases z) (fun A' h' z => by cases z; show 0 + _ ≤ _; omega)
          refine ⟨_, rfl, .inl ⟨rfl, _, SqL.of hg2⟩, _, rfl, r, _, rfl, .inl (SqL.of hr2), g, _, _, rfl, rfl, hg2, (by rw [List.length_map]; exact small1000' (by omega)), ?_⟩
          refine ⟨_, rfl, .inl ⟨rfl, _, SqL.of upd_same⟩, _, rfl, g, r, _, _, rfl, rfl, upd_same, (by rw [upd_ne rg]; exact hr2), (by
            rw [List.length_append, List.length_map]
            refine Nat.le_of_lt (small1000' ?_)
            simp only [List.length_cons, List.length_nil, List.length_map]
            omega), ?_⟩
          rw [upd_upd]
          refine ⟨_, rfl, ?_⟩
          refine ⟨ns.length - (k + 1), by omega, .ref x, k + 1, f', _, _, raw', _, some (.int 1), some (nat (k + 1)), some (.ref r), by omega, ?_, nx'⟩
          have e5 : V.int ((k : Int) + 1 + ((0 : Nat) : Int)) = nat (k + 1) := congrArg V.int (by omega)
          show [some (V.ref a), some (V.ref g), some (V.ref x), some (V.int ((k : Int) + 1 + ((0 : Nat) : Int))), some (V.int 1), some (V.int ((k : Int) + 1 + ((0 : Nat) : Int))), some (V.ref r)] = _
          rw [e5]
        · have p1 : p ≠ 1 := fun z => c1 (by rw [z]; rfl)
          refine ⟨_, rfl, _, rfl, _, rfl, _, rfl, _, _, rfl, rfl, _, rfl, _, rfl, _, rfl, a, _, rfl, I.sq, fun l nl => ?_⟩
          rw [cut_is er rfl hk]
          have sm : Same H' (upd H' l (.lst (args.map V.int))) := same_new nl
          have hl2 : SqL K (upd H' l (.lst (args.map V.int))) l (args.map V.int) := SqL.of upd_same
          cases oh with
          | none =>
            obtain rfl : hv = .non := I.hv
            cases os with
            | some h0 => exact absurd I.sm id
            | none =>
            have st' := st none
            rw [(kind_open kd p1 fresh).2] at st'
            refine ⟨.non, none, p, l, args, q, rfl, rfl, hl2, nofun, kd, p1, fun H2 r sm2 nr hr2 => ?_⟩
            have sm3 := sm.trans sm2
            have hg2 := sm3 _ _ I.ga
            have rg : r ≠ g := fun z => by
              obtain ⟨C', dx', fs', e⟩ := nr _ (by rw [z]; exact sm _ _ I.ga)
              cases e
            have nx' := turn_next (H2 := H2) (hv2 := .non) (oh2 := none) (os2 := none) (ans := [-7]) I cl' ed2 st' trivial (by decide) rfl hg2 (sm3.seq I.sq) nofun (by
              rcases I.sa with y | y
              · exact .inl y
              · exact .inr ⟨y.1, nofun⟩) nofun
            refine ⟨_, rfl, .inl ⟨rfl, _, SqL.of hg2⟩, _, rfl, r, _, rfl, .inl (SqL.of hr2), g, _, _, rfl, rfl, hg2, (by rw [List.length_map]; exact small1000' (by omega)), ?_⟩
            refine ⟨_, rfl, .inl ⟨rfl, _, SqL.of upd_same⟩, _, rfl, g, r, _, _, rfl, rfl, upd_same, (by rw [upd_ne rg]; exact hr2), (by
              rw [List.length_append, List.length_map]
              refine Nat.le_of_lt (small1000' ?_)
              simp only [List.length_cons, List.length_nil, List.length_map]
              omega), ?_⟩
            rw [upd_upd]
            refine ⟨_, rfl, ?_⟩
            refine ⟨ns.length - (k + 1 + args.length), by omega, (V.non), k + 1 + args.length, f', _, _, raw', _, some (.int p), some (nat (k + 1 + args.length)), some (.ref r), by omega, ?_, nx'⟩
            have e5 : V.int ((k : Int) + 1 + (args.length : Int)) = nat (k + 1 + args.length) := congrArg V.int (by omega)
            show [some (V.ref a), some (V.ref g), some (V.non), some (V.int ((k : Int) + 1 + (args.length : Int))), some (V.int p), some (V.int ((k : Int) + 1 + (args.length : Int))), some (V.ref r)] = _
            rw [e5]
          | some y =>
            obtain ⟨A, h⟩ := y
            obtain ⟨rfl, hA, hG⟩ := I.hv
            cases os with
            | none => exact absurd I.sm id
            | some h0 =>
            obtain ⟨sim, ok0⟩ : SjS.Sim h h0 ∧ SjF.Ok h0 := I.sm
            obtain ⟨sim2, ea⟩ := SjS.sim_on sim ok0 q
            have st' := st (some h0)
            rw [(kind_open kd p1 h0).1] at st'
            have ee : ∀ {x y : House}, SjS.Sim x y → x.events.length = y.events.length := fun ⟨_, b⟩ => by rw [b.ev]
            have l6 : l ∉ A.six := hA.fresh nl
            refine ⟨.ref A.x, some (A, h), p, l, args, q, rfl, ⟨rfl, hA.same sm, hG⟩, hl2, fun A' h' z _ => by cases z; exact l6, kd, p1, fun H2 r hB fr nr hr2 => ?_⟩
            have g6 := I.gn A h rfl
            have f2 : Fr A H' H2 := (Fr.of_same sm).trans fr
            have hg2 := f2 _ _ I.ga g6 nofun
            have rg : r ≠ g := fun z => by
              obtain ⟨C', dx', fs', e⟩ := nr _ (by rw [z]; exact sm _ _ I.ga)
              cases e
            have ev := I.ev A h rfl
            rw [List.length_cons] at ev
            have ev2 : (SjS.on h q).1.events.length + 16 * raw'.length ≤ 10000 := by
              rw [ee sim2]
              have := ee sim
              rcases SjF.on_events ok0 q with z | z
              · omega
              · omega
            have la2 : (ansOf (SjS.on h q).2).length ≤ 9 := by
              rw [ea]
              have := SjF.on_len ok0 q
              show _ + 1 ≤ 9
              omega
            have nx' := turn_next (H2 := H2) (hv2 := .ref A.x) (oh2 := some (A, (SjS.on h q).1)) (os2 := some (Sj54.on h0 q).1) (ans := ansOf (SjS.on h q).2) I cl' ed2 (by rw [ea]; exact st') ⟨sim2, ok0.on q⟩ la2 ⟨rfl, hB, ⟨sim2.ok (ok0.on q), by omega⟩⟩ hg2 (by
                rcases I.sa with y | y
                · exact y _
                · exact f2.seq (fun _ => y.2 A h rfl) I.sq) (fun A' h' z => by cases z; exact g6) (by
              rcases I.sa with y | y
              · exact .inl y
              · exact .inr ⟨y.1, fun A' h' z => by cases z; exact y.2 A h rfl⟩) (fun A' h' z => by cases z; exact ev2)
            refine ⟨_, rfl, .inl ⟨rfl, _, SqL.of hg2⟩, _, rfl, r, _, rfl, .inl (SqL.of hr2), g, _, _, rfl, rfl, hg2, (by rw [List.length_map]; exact small1000' (by omega)), ?_⟩
            refine ⟨_, rfl, .inl ⟨rfl, _, SqL.of upd_same⟩, _, rfl, g, r, _, _, rfl, rfl, upd_same, (by rw [upd_ne rg]; exact hr2), (by
              rw [List.length_append, List.length_map]
              refine Nat.le_of_lt (small1000' ?_)
              simp only [List.length_cons, List.length_nil, List.length_map]
              omega), ?_⟩
            rw [upd_upd]
            refine ⟨_, rfl, ?_⟩
            rw [List.length_map]
            refine ⟨ns.length - (k + 1 + args.length), by omega, (V.ref A.x), k + 1 + args.length, f', _, _, raw', _, some (.int p), some (nat (k + 1 + args.length)), some (.ref r), by omega, ?_, nx'⟩
            have e5 : V.int ((k : Int) + 1 + (args.length : Int)) = nat (k + 1 + args.length) := congrArg V.int (by omega)
            show [some (V.ref a), some (V.ref g), some (V.ref A.x), some (V.int ((k : Int) + 1 + (args.length : Int))), some (V.int p), some (V.int ((k : Int) + 1 + (args.length : Int))), some (V.ref r)] = _
            rw [e5]
      · have hk : ¬ k < ns.length := fun z => c (decide_eq_true (by show (k : Int) < (ns.length : Int); omega))
        have e : ns.drop k = [] := List.drop_eq_nil_of_le (by omega)
        have cl := I.cl
        rw [e] at cl
        have er := SjP.calls_nil cl
        have eq := I.eq
        rw [er, SjP.rest_nil, List.append_nil] at eq
        refine ⟨_, rfl, fin H' g ?_⟩
        rw [← eq]
        exact I.ga
end
end Sj
namespace Sj
open PySem PySem.Spec PyProof.Rows L2
open Sj54 (House Sleeper)
open SjP (Kind)
/-! ### moving one by one -/
def moveOne (w : Nat) (h : House) (s : Sleeper) : House := { h with asleep := (h.asleep.filter fun r => r.hand != s.hand) ++ [{ s with word := w }] }
def moves (w : Nat) (h : House) (l : List Sleeper) : House := l.foldl (moveOne w) h
theorem moves_form (w : Nat) : ∀ (l : List Sleeper) (h : House), (l.map (·.hand)).Nodup → moves w h l = { h with asleep := (h.asleep.filter fun s => !(l.map (·.hand)).contains s.hand) ++ l.map fun (s : Sleeper) => { s with word := w } }
  | [], h, _ => by
    have e : h.asleep.filter (fun s => !(([] : List Sleeper).map (·.hand)).contains s.hand) = h.asleep := List.filter_eq_self.mpr fun _ _ => rfl
    show h = { h with asleep := h.asleep.filter _ ++ [] }
    rw [e, List.append_nil]
  | s :: l, h, nd => by
    rw [List.map_cons, List.nodup_cons] at nd
    show moves w (moveOne w h s) l = _
    rw [moves_form w l (moveOne w h s) nd.2]
    unfold moveOne
    simp only [List.filter_append, List.filter_filter, List.map_cons]
    congr 1
    rw [List.append_assoc]
    congr 1
    · apply List.filter_congr
      intro r _
      rw [List.contains_cons]
      cases e1 : (r.hand == s.hand) <;> simp [bne, e1]
    · have c : (!(l.map (·.hand)).contains s.hand) = true := by
        simp only [Bool.not_eq_true', ← Bool.not_eq_true, List.contains_iff_mem]
        exact nd.1
      rw [List.filter_cons, if_pos (show (!(l.map (·.hand)).contains ({ s with word := w } : Sleeper).hand) = true from c), List.filter_nil]
      rfl
theorem moves_snoc (w : Nat) (h : House) (l : List Sleeper) (s : Sleeper) : moves w h (l ++ [s]) = moveOne w (moves w h l) s := by
  unfold moves
  rw [List.foldl_append]
  rfl
theorem find_hand : ∀ {l : List Sleeper} {s : Sleeper}, (l.map (·.hand)).Nodup → s ∈ l → (l.find? fun r => r.hand == s.hand) = some s := fun {l s} nd hs => by
  cases e : l.find? fun r => r.hand == s.hand with
  | none => exact absurd (List.find?_eq_none.mp e s hs) (by simp)
  | some r =>
    have h1 := List.mem_of_find?_eq_some e
    have h2 : r.hand = s.hand := by simpa using List.find?_some e
    rw [SjS.hand_inj nd h1 hs h2]
theorem moves_next {w : Nat} {h : House} {l : List Sleeper} {s : Sleeper} (nd : (h.asleep.map (·.hand)).Nodup) (nl : (l.map (·.hand)).Nodup) (hs : s ∈ h.asleep) (n : s.hand ∉ l.map (·.hand)) : ((moves w h l).asleep.find? fun r => r.hand == s.hand) = some s := by
  rw [moves_form w l h nl]
  show (List.find? _ (_ ++ _)) = _
  rw [List.find?_append, find_hand (SjF.nodup_filter _ _ nd)]
  · rfl
  · refine List.mem_filter.mpr ⟨hs, ?_⟩
    simp only [Bool.not_eq_true', ← Bool.not_eq_true, List.contains_iff_mem]
    exact n
theorem moves_is {h : House} (k : SjF.Ok h) (a w n : Nat) : moves w h ((h.at_ a false).take n) = (h.move a w n).1 := by
  have sub : ((h.at_ a false).take n).Sublist h.asleep := (List.take_sublist _ _).trans (SjF.at_sub h a false)
  rw [moves_form w _ h (k.nd.sublist (sub.map _)), SjF.hands_in k.nd fun s hs => sub.subset hs]
  rfl
theorem nd_inj {α β : Type} {g : α → β} : ∀ {l : List α}, (l.map g).Nodup → ∀ {x y : α}, x ∈ l → y ∈ l → g x = g y → x = y
  | [], _, _, _, hx, _, _ => by simp at hx
  | a :: l, nd, x, y, hx, hy, e => by
    rw [List.map_cons, List.nodup_cons] at nd
    rcases List.mem_cons.mp hx with h1 | h1
    · rcases List.mem_cons.mp hy with h2 | h2
      · rw [h1, h2]
      · exact absurd (List.mem_map.mpr ⟨y, h2, by rw [← h1]; exact e.symm⟩) nd.1
    · rcases List.mem_cons.mp hy with h2 | h2
      · exact absurd (List.mem_map.mpr ⟨x, h1, by rw [← h2]; exact e⟩) nd.1
      · exact nd_inj nd.2 h1 h2 e
/-! ### one who is asleep, changed where it stands -/
def refOf : V → Addr
  | .ref a => a
  | _ => 0
theorem sK_addr {es es' : List SE} (h : sK es = sK es') : es.map (·.2) = es'.map (·.2) := by
  have e : ∀ l : List SE, l.map (·.2) = (sK l).map fun kv => refOf kv.2 := fun l => by
    unfold sK
    rw [List.map_map]
    rfl
  rw [e es, e es', h]
theorem HouseAt.overIns {C : Cl} {H : Hp} {A : Ad} {h : House} (s : HouseAt C H A h) {p Cp dz : Addr} {r : Sleeper} {es : List SE} (o : HO) (hp : H p = some (.ins Cp dz (sF r))) (hd : H A.dS = some (.dK (sK es))) (hn : p ∉ es.map (·.2)) : HouseAt C (upd H p o) A h := by
  obtain ⟨te, t1, t2⟩ := s.tm
  obtain ⟨se, s1, s2, s3, s4⟩ := s.sl
  obtain ⟨ee, e1, e2, e3⟩ := s.ev
  obtain ⟨dx, ob⟩ := s.ob
  have no : ∀ {b u}, H b = some u → (u ≠ .ins Cp dz (sF r)) → upd H p o b = some u := fun {b u} q z => by
    rw [upd_ne (ne_of q hp z)]
    exact q
  have eK : se.map (·.2) = es.map (·.2) := by
    rw [s1] at hd
    injection hd with hd
    injection hd with hd
    exact sK_addr hd
  refine ⟨⟨dx, no ob fun z => sH z.symm⟩, ⟨te, no t1 nofun, t2.nd, fun e he => ⟨(t2.get e he).1, let ⟨d, q⟩ := (t2.get e he).2; ⟨d, no q tS⟩⟩, t2.all⟩, ⟨se, no s1 nofun, s2, fun e he => ?_, s4⟩, no s.wd nofun, ⟨ee, no e1 nofun, e2, fun e he => no (e3 e he) nofun⟩, no s.ct nofun, s.n1, s.n2, s.n3, s.n4⟩
  obtain ⟨d, q⟩ := s3 e he
  refine ⟨d, ?_⟩
  rw [upd_ne fun z => hn (by rw [← eK, ← z]; exact List.mem_map.mpr ⟨e, he, rfl⟩)]
  exact q
theorem sF_put (s : Sleeper) (w : Nat) : putF "word" (nat w) (sF s) = sF { s with word := w } := by
  unfold sF
  rw [put_here]
section
variable {P : Program} {w : World} {K : PySem.W.Frag} {mg : Str → Option Value} {base : Heap} {C : Cl}
def spMoveHand (C : Cl) : Sp := fun vs H Q _ => ∃ (A : Ad) (h : House) (s : Sleeper) (wd : Nat), vs = [.ref A.x, nat s.hand, nat wd] ∧ HouseAt C H A h ∧ (h.asleep.find? fun r => r.hand == s.hand) = some s ∧ h.asleep.length ≤ 16 ∧
  ∀ H', HouseAt C H' A (moveOne wd h s) → Fr A H H' → Q .non H'
theorem scMoveHand : FnScope ["house", "hand", "word", "sleeper"] ["house", "hand", "word"] (defScope sMoveHand) := ⟨rfl, rfl, rfl, by decide +kernel, rfl, by decide +kernel, by decide +kernel⟩
theorem ok_moveHand {f : Addr} {fd : FuncData} (F : Fun K "move_hand" "move_hand" sMoveHand f fd) (T : Txt K mg C) : FnOk P w K mg base CX0 1 f fd ["house", "hand", "word"] (spMoveHand C) := by
  refine F.ok scMoveHand (fun vs H Q E h => ?_) (fun cdv A0 outer s H vs Q E hr h => ?_)
  · obtain ⟨A, h, i, k, rfl, _⟩ := h
    rfl
  · obtain ⟨A, h, r, wd, rfl, hA, hf, h16, fin⟩ := h
    have hu := hu_of hr
    refine ⟨_, pss_cons (ps_set (i := 3) scMoveHand.nd rfl (Or.inl rfl) (pe_dpop1 (pe_fld (pv 0) rfl) (pv 1) ⟨rfl, rfl, rfl, rfl⟩))
      (pss_cons (ps_fld (pv 3) (pv 2) rfl)
      (pss_one (ps_dput hu (pe_fld (pv 0) rfl) (pv 1) (pv 3) rfl))), ?_⟩
    obtain ⟨dx, ob⟩ := hA.ob
    obtain ⟨se, s1, s2, s3, s4⟩ := hA.sl
    obtain ⟨e, fe, he, e1⟩ : ∃ e, (se.find? fun e => e.1.hand == r.hand) = some e ∧ e ∈ se ∧ e.1 = r := by
      rw [← s2, List.find?_map] at hf
      obtain ⟨e, h1, h2⟩ := Option.map_eq_some_iff.mp hf
      exact ⟨e, h1, List.mem_of_find?_eq_some h1, h2⟩
    obtain ⟨r0, p⟩ := e
    simp only at e1
    subst e1
    obtain ⟨dz, hz⟩ := s3 _ he
    simp only at hz
    have hv : valV (sK se) (.inl (r0.hand : Int)) = some (.ref p) := by
      rw [sK_val, fe]
      rfl
    refine ⟨_, rfl, A.x, C.H, dx, _, _, rfl, ob, T.cH, T.h3, hF_sleepers _ _ _, A.dS, rfl, .inl ⟨_, .inl s1⟩, _, rfl, sK se, .inl (r0.hand : Int), .ref p, s1, rfl, hv, ?_⟩
    rw [sK_drop]
    have hB := hA.setSleepers (se.filter fun e => e.1.hand != r0.hand) (fun e he => s3 e (List.mem_filter.mp he).1) (SjF.nodup_filter _ _ s4)
    have eq : (se.filter fun e => e.1.hand != r0.hand).map (·.1) = h.asleep.filter fun s => s.hand != r0.hand := by
      rw [← s2, List.filter_map]
      rfl
    rw [eq] at hB
    have f1 : Fr A H (upd H A.dS (.dK (sK (se.filter fun e => e.1.hand != r0.hand)))) := Fr.put (Fr.refl A H) (by simp [Ad.six])
    have hz1 : upd H A.dS (.dK (sK (se.filter fun e => e.1.hand != r0.hand))) p = some (.ins C.S dz (sF r0)) := by
      rw [upd_ne (ne_of hz s1 nofun)]
      exact hz
    refine ⟨_, rfl, _, rfl, p, C.S, dz, _, rfl, hz1, T.cS, T.s1, (by show 4 < 1000; decide), ?_⟩
    rw [sF_put]
    have np : p ∉ (se.filter fun e => e.1.hand != r0.hand).map (·.2) := fun z => by
      obtain ⟨y, hy, ey⟩ := List.mem_map.mp z
      obtain ⟨h1, h2⟩ := List.mem_filter.mp hy
      have : y = (r0, p) := nd_inj s4 h1 he ey
      rw [this] at h2
      simp at h2
    have hC := hB.overIns (.ins C.S dz (sF { r0 with word := wd })) hz1 upd_same np
    have f2 := f1.ins (o := .ins C.S dz (sF { r0 with word := wd })) hz1
    generalize hH1 : upd H A.dS (.dK (sK (se.filter fun e => e.1.hand != r0.hand))) = H1 at *
    have d1 : H1 A.dS = some (.dK (sK (se.filter fun e => e.1.hand != r0.hand))) := by
      rw [← hH1]
      exact upd_same
    have d2 : upd H1 p (.ins C.S dz (sF { r0 with word := wd })) A.dS = some (.dK (sK (se.filter fun e => e.1.hand != r0.hand))) := by
      rw [upd_ne (ne_of d1 hz1 nofun)]
      exact d1
    obtain ⟨dx2, ob2⟩ := hC.ob
    have lk : valV (sK (se.filter fun e => e.1.hand != r0.hand)) (.inl (r0.hand : Int)) = none := by
      rw [sK_val]
      have : ((se.filter fun e => e.1.hand != r0.hand).find? fun e => e.1.hand == r0.hand) = none := by
        rw [List.find?_eq_none]
        intro y hy
        have := (List.mem_filter.mp hy).2
        simpa using this
      rw [this]
      rfl
    refine ⟨_, rfl, _, rfl, A.x, C.H, dx2, _, _, rfl, ob2, T.cH, T.h3, hF_sleepers _ _ _, _, rfl, A.dS, _, rfl, DPut.k (k := .inl (r0.hand : Int)) d2 ?_, ?_⟩
    · unfold sK
      rw [List.length_map]
      refine small1000 (Nat.le_trans (List.length_filter_le _ _) ?_)
      have := congrArg List.length s2
      rw [List.length_map] at this
      omega
    · rw [putK_new _ lk]
      have eK : sK (se.filter fun e => e.1.hand != r0.hand) ++ [(Sum.inl (r0.hand : Int), V.ref p)] = sK ((se.filter fun e => e.1.hand != r0.hand) ++ [({ r0 with word := wd }, p)]) := by
        unfold sK
        rw [List.map_append]
        rfl
      rw [eK]
      have hD := hC.setSleepers ((se.filter fun e => e.1.hand != r0.hand) ++ [({ r0 with word := wd }, p)]) (fun ze hze => by
        rcases List.mem_append.mp hze with z | z
        · obtain ⟨d, q⟩ := s3 ze (List.mem_filter.mp z).1
          refine ⟨d, ?_⟩
          rw [upd_ne fun y => np (by rw [← y]; exact List.mem_map.mpr ⟨ze, z, rfl⟩), ← hH1, upd_ne (ne_of q s1 nofun)]
          exact q
        · have : ze = ({ r0 with word := wd }, p) := by simpa using z
          subst this
          exact ⟨dz, upd_same⟩) (by
        rw [List.map_append, List.nodup_append]
        refine ⟨SjF.nodup_filter _ _ s4, by simp, fun y hy y' hy' q => ?_⟩
        have ex : y' = p := by simpa using hy'
        subst ex
        subst q
        exact np hy)
      rw [List.map_append, eq] at hD
      exact fin _ hD (Fr.put f2 (by simp [Ad.six]))
end
end Sj
namespace Sj
open PySem PySem.Spec PyProof.Rows L2
open Sj54 (House Sleeper)
open SjP (Kind)
section
variable {P : Program} {w : World} {K : PySem.W.Frag} {mg : Str → Option Value} {base : Heap} {C : Cl}
/-- xs[:n] -/
theorem cut_to {xs : List V} {n : Nat} : cutV xs none (some (n : Int)) = xs.take n := by
  unfold cutV
  rw [HT.sIx_nat]
  show (xs.drop 0).take (min n xs.length - 0) = _
  rw [List.drop_zero, Nat.sub_zero]
  by_cases c : n ≤ xs.length
  · rw [Nat.min_eq_left c]
  · rw [Nat.min_eq_right (by omega), List.take_length, List.take_of_length_le (by omega)]
theorem not_before {l : List Sleeper} (ndl : (l.map (·.hand)).Nodup) {i : Nat} {r : Sleeper} (hr1 : l[i]? = some r) : r.hand ∉ (l.take i).map (·.hand) := fun z => by
  rw [List.map_take] at z
  obtain ⟨j, hj, ej⟩ := List.getElem_of_mem z
  rw [List.getElem_take] at ej
  have lj : j < i := by
    rw [List.length_take] at hj
    omega
  have e1 : (l.map (·.hand))[i]? = some r.hand := by
    rw [List.getElem?_map, hr1]
    rfl
  have e2 : (l.map (·.hand))[j]? = some r.hand := List.getElem?_eq_some_iff.mpr ⟨by
    rw [List.length_take] at hj
    omega, ej⟩
  have := nd_ix ndl e1 e2
  omega
theorem scWakeA : FnScope ["house", "numbers", "first", "hand"] ["house", "numbers"] (defScope sWake) := ⟨rfl, rfl, rfl, by decide +kernel, rfl, by decide +kernel, by decide +kernel⟩
theorem ok_wakeA {f fN fW fA : Addr} {fd fdN fdW fdA : FuncData} (F : Fun K "answer_wake" "answer_wake" sWake f fd) (T : Txt K mg C) (N : Df K mg "note_happening" sNote ["house", "sort", "who"] fN fdN)
    (W : Df K mg "wake_hand" sWakeHand ["house", "hand", "sort"] fW fdW) (L : Df K mg "hands_asleep_at" sAsleepAt ["house", "word", "watches"] fA fdA) : FnOk P w K mg base CX0 3 f fd ["house", "numbers"] (spAns C K 8) := by
  have GW : FnOk P w K mg base CX0 2 fW fdW ["house", "hand", "sort"] (spWake C) := ok_wake W.F T N
  have GA : FnOk P w K mg base CX0 1 fA fdA ["house", "word", "watches"] (spAt C) := ok_at L.F T
  obtain ⟨ts, gs⟩ := T.wok
  refine F.ok scWakeA (fun vs H Q E h => ?_) (fun cdv A0 outer s H vs Q E hr h => ?_)
  · obtain ⟨A, h, l, ns, q, rfl, _⟩ := h
    rfl
  · obtain ⟨A, h, l, ns, q, rfl, hA, hG, hl, nl, kd, tl, fin⟩ := h
    cases kd with
    | k8 a n =>
    refine ⟨_, pss_cons (ps_set (i := 2) scWakeA.nd rfl (Or.inl rfl) (pe_slice sl_list (pe_call GA (hr.mono (by decide)) rfl L.g L.F.kp L.b .nil pass0 (pa_cons (pv 0) (pa_cons (pe_ix ix_list (pv 1) pe_int (fun _ _ => rfl)) (pa_cons pe_bl pa_nil)))) po_none (po_some (pe_ix ix_list (pv 1) pe_int (fun _ _ => rfl)))))
      (pss_cons (ps_for PassesOwn.never rfl (pi_list (pv 2)) (pg_name (i := 3) scWakeA.nd rfl (Or.inl rfl))
        (pss_one (ps_expr (pe_call GW hr rfl W.g W.F.kp W.b .nil pass0 (pa_cons (pv 0) (pa_cons (pv 3) (pa_cons (pe_glob (v := .int 2) rfl gs ⟨_, rfl⟩) pa_nil)))))))
      (pss_one (ps_ret (pe_lst (pa_cons (pe_callB call_len_seq (by rfl) T.len PySem.boot_len (pa_cons (pv 2) pa_nil)) pa_nil))))), ?_⟩
    simp only [told, Bool.and_eq_true, in_iff] at tl
    obtain ⟨⟨a1, a2⟩, b1, b2⟩ := tl
    have eon : SjS.on h (.wake a n) = ((h.wake a.toNat n.toNat).1, Sj54.just (Sj54.nat (h.wake a.toNat n.toNat).2)) := by
      show (ite _ _ _ : House × Sj54.Ans) = _
      rw [if_neg]
      simp only [Bool.or_eq_true, not_or, Sj54.isWord, SjF.not_isIn, Classical.not_not]
      exact ⟨⟨a1, a2⟩, b1, b2⟩
    rw [eon] at fin
    obtain ⟨a, rfl⟩ := Int.eq_ofNat_of_zero_le a1
    obtain ⟨n, rfl⟩ := Int.eq_ofNat_of_zero_le b1
    simp only [Int.toNat_natCast] at fin
    have sub : ((h.at_ a false).take n).Sublist h.asleep := (List.take_sublist _ _).trans (SjF.at_sub h a false)
    have ndl : (((h.at_ a false).take n).map (·.hand)).Nodup := hG.ok.nd.sublist (sub.map _)
    have lel : ((h.at_ a false).take n).length ≤ 16 := Nat.le_trans sub.length_le hG.ok.asleep_len
    refine ⟨_, rfl, _, rfl, l, _, _, _, rfl, rfl, hl, at_int (i := 0) rfl, A, h, a, false, rfl, hA, Nat.lt_of_le_of_lt hG.ok.asleep_len (by decide), fun H1 p sm np hp => ?_⟩
    refine ⟨_, rfl, l, _, _, _, rfl, rfl, sm.seq hl, at_int (i := 1) rfl, _, rfl, p, _, rfl, SqL.of hp, fun p2 np2 => ?_⟩
    rw [cut_to, ← List.map_take]
    have hp2 : upd H1 p2 (.lst (((h.at_ a false).take n).map fun s => nat s.hand)) p2 = some (.lst (((h.at_ a false).take n).map fun s => nat s.hand)) := upd_same
    have sm2 : Same H (upd H1 p2 (.lst (((h.at_ a false).take n).map fun s => nat s.hand))) := sm.trans (same_new np2)
    have n6 : p2 ∉ A.six := (hA.same sm).fresh np2
    generalize upd H1 p2 (.lst (((h.at_ a false).take n).map fun s => nat s.hand)) = H2 at *
    have hC := hA.same sm2
    have ewk : (h.wake a n).1 = h.woken 2 ((h.at_ a false).take n) := rfl
    have ewl : (h.wake a n).2 = ((h.at_ a false).take n).length := rfl
    rw [ewk, ewl] at fin
    generalize (h.at_ a false).take n = ll at *
    refine ⟨_, rfl, p2, rfl, ⟨_, SqL.of hp2⟩, for_list (K := K) (a := p2) (xs := ll.map fun s => nat s.hand)
      (fun i σ H' => ∃ x : Option V, σ = [some (.ref A.x), some (.ref l), some (.ref p2), x] ∧ HouseAt C H' A (SjF.wakes 2 h (ll.take i)) ∧ Fr A H H' ∧ H' p2 = some (.lst (ll.map fun s => nat s.hand)))
      ⟨none, rfl, hC, Fr.of_same sm2, hp2⟩ (fun i σ H' _ ⟨_, _, _, _, q⟩ => SqL.of q) ?_ ?_⟩
    · rintro i y σ H' hi ⟨x, rfl, hD, f2, hp3⟩
      obtain ⟨r, hr1, rfl⟩ : ∃ r, ll[i]? = some r ∧ y = nat r.hand := by
        rw [List.getElem?_map] at hi
        obtain ⟨r, e1, e2⟩ := Option.map_eq_some_iff.mp hi
        exact ⟨r, e1, e2.symm⟩
      have mr : r ∈ h.asleep := sub.subset (List.mem_of_getElem? hr1)
      have nr := not_before ndl hr1
      have evl : (SjF.wakes 2 h (ll.take i)).events.length < sizeLine := by
        rw [SjF.wakes_events _ _ _ hG.ok.ct]
        have h1 : (ll.take i).length ≤ 16 := Nat.le_trans (List.take_sublist _ _).length_le lel
        have h2 := hG.ev
        exact Nat.lt_of_le_of_lt (m := 100016) (by omega) (by decide)
      refine ⟨_, rfl, _, rfl, A, _, r.hand, 2, rfl, hD, ⟨r, SjF.wakes_next hG.ok.ct mr nr, rfl⟩, (by rw [SjF.wakes_counts _ _ _ hG.ok.ct, hG.ok.cl]; decide), evl, fun H2 hE fr => ?_⟩
      refine ⟨_, rfl, ?_, f2.trans fr, fr _ _ hp3 n6 nofun⟩
      rw [take_more hr1, SjF.wakes_snoc]
      exact hE
    · rintro σ H' ⟨x, rfl, hD, f2, hp3⟩
      rw [List.length_map, List.take_length, SjF.wakes_is hG.ok 2 _ fun s hs => sub.subset hs] at hD
      refine ⟨_, rfl, p2, _, rfl, .inl (SqL.of hp3), (by show 1 ≤ sizeLine; decide), fun r nr => ?_⟩
      rw [List.length_map]
      exact fin _ r (hD.same (same_new nr)) (f2.made nr) (.fr f2 hD nr) upd_same
theorem scMoveA : FnScope ["house", "numbers", "first", "hand"] ["house", "numbers"] (defScope sMove) := ⟨rfl, rfl, rfl, by decide +kernel, rfl, by decide +kernel, by decide +kernel⟩
theorem ok_moveA {f fW fA : Addr} {fd fdW fdA : FuncData} (F : Fun K "answer_move" "answer_move" sMove f fd) (T : Txt K mg C)
    (W : Df K mg "move_hand" sMoveHand ["house", "hand", "word"] fW fdW) (L : Df K mg "hands_asleep_at" sAsleepAt ["house", "word", "watches"] fA fdA) : FnOk P w K mg base CX0 2 f fd ["house", "numbers"] (spAns C K 9) := by
  have GW : FnOk P w K mg base CX0 1 fW fdW ["house", "hand", "word"] (spMoveHand C) := ok_moveHand W.F T
  have GA : FnOk P w K mg base CX0 1 fA fdA ["house", "word", "watches"] (spAt C) := ok_at L.F T
  refine F.ok scMoveA (fun vs H Q E h => ?_) (fun cdv A0 outer s H vs Q E hr h => ?_)
  · obtain ⟨A, h, l, ns, q, rfl, _⟩ := h
    rfl
  · obtain ⟨A, h, l, ns, q, rfl, hA, hG, hl, nl, kd, tl, fin⟩ := h
    cases kd with
    | k9 a o n =>
    refine ⟨_, pss_cons (ps_set (i := 2) scMoveA.nd rfl (Or.inl rfl) (pe_slice sl_list (pe_call GA (hr.mono (by decide)) rfl L.g L.F.kp L.b .nil pass0 (pa_cons (pv 0) (pa_cons (pe_ix ix_list (pv 1) pe_int (fun _ _ => rfl)) (pa_cons pe_bl pa_nil)))) po_none (po_some (pe_ix ix_list (pv 1) pe_int (fun _ _ => rfl)))))
      (pss_cons (ps_for PassesOwn.never rfl (pi_list (pv 2)) (pg_name (i := 3) scMoveA.nd rfl (Or.inl rfl))
        (pss_one (ps_expr (pe_call GW hr rfl W.g W.F.kp W.b .nil pass0 (pa_cons (pv 0) (pa_cons (pv 3) (pa_cons (pe_ix ix_list (pv 1) pe_int (fun _ _ => rfl)) pa_nil)))))))
      (pss_one (ps_ret (pe_lst (pa_cons (pe_callB call_len_seq (by rfl) T.len PySem.boot_len (pa_cons (pv 2) pa_nil)) pa_nil))))), ?_⟩
    simp only [told, Bool.and_eq_true, in_iff] at tl
    obtain ⟨⟨a1, a2⟩, ⟨o1, o2⟩, b1, b2⟩ := tl
    have eon : SjS.on h (.move a o n) = ((h.move a.toNat o.toNat n.toNat).1, Sj54.just (Sj54.nat (h.move a.toNat o.toNat n.toNat).2)) := by
      show (ite _ _ _ : House × Sj54.Ans) = _
      rw [if_neg]
      simp only [Bool.or_eq_true, not_or, Sj54.isWord, SjF.not_isIn, Classical.not_not]
      exact ⟨⟨⟨a1, a2⟩, o1, o2⟩, b1, b2⟩
    rw [eon] at fin
    obtain ⟨a, rfl⟩ := Int.eq_ofNat_of_zero_le a1
    obtain ⟨o, rfl⟩ := Int.eq_ofNat_of_zero_le o1
    obtain ⟨n, rfl⟩ := Int.eq_ofNat_of_zero_le b1
    simp only [Int.toNat_natCast] at fin
    have sub : ((h.at_ a false).take n).Sublist h.asleep := (List.take_sublist _ _).trans (SjF.at_sub h a false)
    have ndl : (((h.at_ a false).take n).map (·.hand)).Nodup := hG.ok.nd.sublist (sub.map _)
    have lel : ((h.at_ a false).take n).length ≤ 16 := Nat.le_trans sub.length_le hG.ok.asleep_len
    refine ⟨_, rfl, _, rfl, l, _, _, _, rfl, rfl, hl, at_int (i := 0) rfl, A, h, a, false, rfl, hA, Nat.lt_of_le_of_lt hG.ok.asleep_len (by decide), fun H1 p sm np hp => ?_⟩
    refine ⟨_, rfl, l, _, _, _, rfl, rfl, sm.seq hl, at_int (i := 2) rfl, _, rfl, p, _, rfl, SqL.of hp, fun p2 np2 => ?_⟩
    rw [cut_to, ← List.map_take]
    have hp2 : upd H1 p2 (.lst (((h.at_ a false).take n).map fun s => nat s.hand)) p2 = some (.lst (((h.at_ a false).take n).map fun s => nat s.hand)) := upd_same
    have sm2 : Same H (upd H1 p2 (.lst (((h.at_ a false).take n).map fun s => nat s.hand))) := sm.trans (same_new np2)
    have n6 : p2 ∉ A.six := (hA.same sm).fresh np2
    generalize upd H1 p2 (.lst (((h.at_ a false).take n).map fun s => nat s.hand)) = H2 at *
    have hC := hA.same sm2
    have ewl : (h.move a o n).2 = ((h.at_ a false).take n).length := rfl
    rw [← moves_is hG.ok a o n, ewl] at fin
    generalize (h.at_ a false).take n = ll at *
    refine ⟨_, rfl, p2, rfl, ⟨_, SqL.of hp2⟩, for_list (K := K) (a := p2) (xs := ll.map fun s => nat s.hand)
      (fun i σ H' => ∃ x : Option V, σ = [some (.ref A.x), some (.ref l), some (.ref p2), x] ∧ HouseAt C H' A (moves o h (ll.take i)) ∧ Fr A H H' ∧ H' p2 = some (.lst (ll.map fun s => nat s.hand)))
      ⟨none, rfl, hC, Fr.of_same sm2, hp2⟩ (fun i σ H' _ ⟨_, _, _, _, q⟩ => SqL.of q) ?_ ?_⟩
    · rintro i y σ H' hi ⟨x, rfl, hD, f2, hp3⟩
      obtain ⟨r, hr1, rfl⟩ : ∃ r, ll[i]? = some r ∧ y = nat r.hand := by
        rw [List.getElem?_map] at hi
        obtain ⟨r, e1, e2⟩ := Option.map_eq_some_iff.mp hi
        exact ⟨r, e1, e2.symm⟩
      have mr : r ∈ h.asleep := sub.subset (List.mem_of_getElem? hr1)
      have nr := not_before ndl hr1
      have ndt : ((ll.take i).map (·.hand)).Nodup := ndl.sublist ((List.take_sublist _ _).map _)
      have l16 : (moves o h (ll.take i)).asleep.length ≤ 16 := by
        rw [moves_form o _ h ndt]
        have k2 : (((h.asleep.filter fun (s : Sleeper) => !((ll.take i).map (fun (x : Sleeper) => x.hand)).contains s.hand) ++ (ll.take i).map fun (s : Sleeper) => { s with word := o }).map (fun (x : Sleeper) => x.hand)).Nodup := by
          rw [List.map_append, List.map_map, List.nodup_append]
          refine ⟨SjF.nodup_filter _ _ hG.ok.nd, ndt, fun x hx y hy e => ?_⟩
          obtain ⟨s1, hs1, rfl⟩ := List.mem_map.mp hx
          have c := (List.mem_filter.mp hs1).2
          simp only [Bool.not_eq_true', ← Bool.not_eq_true, List.contains_iff_mem] at c
          exact c (by rw [e]; exact hy)
        have := SjF.nodup_lt_len 16 _ k2 fun x hx => by
          obtain ⟨s1, hs1, rfl⟩ := List.mem_map.mp hx
          rcases List.mem_append.mp hs1 with z | z
          · exact (hG.ok.sl s1 (List.mem_filter.mp z).1).1
          · obtain ⟨s2, hs2, rfl⟩ := List.mem_map.mp z
            exact (hG.ok.sl s2 (sub.subset ((List.take_sublist _ _).subset hs2))).1
        rwa [List.length_map] at this
      refine ⟨_, rfl, _, rfl, _, rfl, l, _, _, _, rfl, rfl, f2.seq nl hl, at_int (i := 1) rfl, A, _, r, o, rfl, hD, moves_next hG.ok.nd ndt mr nr, l16, fun H2 hE fr => ?_⟩
      refine ⟨_, rfl, ?_, f2.trans fr, fr _ _ hp3 n6 nofun⟩
      rw [take_more hr1, moves_snoc]
      exact hE
    · rintro σ H' ⟨x, rfl, hD, f2, hp3⟩
      rw [List.length_map, List.take_length] at hD
      refine ⟨_, rfl, p2, _, rfl, .inl (SqL.of hp3), (by show 1 ≤ sizeLine; decide), fun r nr => ?_⟩
      rw [List.length_map]
      exact fin _ r (hD.same (same_new nr)) (f2.made nr) (.fr f2 hD nr) upd_same
end
end Sj
namespace Sj
open PySem PySem.Spec PyProof.Rows L2
open Sj54 (House Sleeper)
open SjP (Kind)
theorem len_some : ∀ (ts : List (Option Sj54.Timer)) (k : Nat) (es : List Nat), es.Nodup → (∀ n, n ∈ es ↔ k ≤ n ∧ ∃ t, ts[n - k]? = some (some t)) → es.length = (ts.filter Option.isSome).length
  | [], k, es, _, h => by
    cases es with
    | nil => rfl
    | cons a es =>
      obtain ⟨_, t, ht⟩ := (h a).mp (List.mem_cons_self ..)
      simp at ht
  | none :: ts, k, es, nd, h => by
    rw [List.filter_cons, if_neg (by simp)]
    refine len_some ts (k + 1) es nd fun n => ?_
    rw [h n]
    constructor
    · rintro ⟨h1, t, ht⟩
      have h2 : n ≠ k := by
        rintro rfl
        simp at ht
      refine ⟨by omega, t, ?_⟩
      rw [show n - k = (n - (k + 1)) + 1 by omega, List.getElem?_cons_succ] at ht
      exact ht
    · rintro ⟨h1, t, ht⟩
      refine ⟨by omega, t, ?_⟩
      rw [show n - k = (n - (k + 1)) + 1 by omega, List.getElem?_cons_succ]
      exact ht
  | some t0 :: ts, k, es, nd, h => by
    rw [List.filter_cons, if_pos (by simp), List.length_cons]
    have hk : k ∈ es := (h k).mpr ⟨Nat.le_refl _, t0, by rw [Nat.sub_self]; rfl⟩
    have e1 := List.length_erase_of_mem hk
    have e2 : 0 < es.length := List.length_pos_of_mem hk
    have e3 := len_some ts (k + 1) (es.erase k) (nd.erase k) fun n => by
      rw [nd.mem_erase_iff, h n]
      constructor
      · rintro ⟨h2, h1, t, ht⟩
        refine ⟨by omega, t, ?_⟩
        rw [show n - k = (n - (k + 1)) + 1 by omega, List.getElem?_cons_succ] at ht
        exact ht
      · rintro ⟨h1, t, ht⟩
        refine ⟨by omega, by omega, t, ?_⟩
        rw [show n - k = (n - (k + 1)) + 1 by omega, List.getElem?_cons_succ]
        exact ht
    omega
theorem TmAt.count {C : Addr} {H : Hp} {es : List TE3} {ts : List (Option Sj54.Timer)} (h : TmAt C H es ts) : es.length = (ts.filter Option.isSome).length := by
  have := len_some ts 0 (es.map (·.1)) h.nd fun n => by
    rw [List.mem_map, Nat.sub_zero]
    constructor
    · rintro ⟨e, he, rfl⟩
      exact ⟨Nat.zero_le _, e.2.1, (h.get e he).1⟩
    · rintro ⟨_, t, ht⟩
      obtain ⟨p, hp⟩ := h.all n t ht
      exact ⟨_, hp, rfl⟩
  rwa [List.length_map] at this
section
variable {P : Program} {w : World} {K : PySem.W.Frag} {mg : Str → Option Value} {base : Heap} {C : Cl}
theorem scNext : FnScope ["house", "numbers"] ["house", "numbers"] (defScope sNext) := ⟨rfl, rfl, rfl, by decide +kernel, rfl, by decide +kernel, by decide +kernel⟩
theorem ok_next {f : Addr} {fd : FuncData} {t6 : Tok} (F : Fun K "answer_next" "answer_next" sNext f fd) (T : Txt K mg C) (g6 : mg "NOT_THERE" = some (.int (-6) t6)) : FnOk P w K mg base CX0 1 f fd ["house", "numbers"] (spAns C K 11) := by
  refine F.ok scNext (fun vs H Q E h => ?_) (fun cdv A0 outer s H vs Q E hr h => ?_)
  · obtain ⟨A, h, l, ns, q, rfl, _⟩ := h
    rfl
  · obtain ⟨A, h, l, ns, q, rfl, hA, hG, hl, nl, kd, tl, fin⟩ := h
    cases kd with
    | k11 =>
    refine ⟨_, pss_cons (ps_if (pt_not (pt_truth (pe_fld (pv 0) rfl) (by intro _; rfl))) (pss_one (ps_ret (pe_lst (pa_cons (pe_glob (v := .int (-6)) rfl g6 ⟨_, rfl⟩) pa_nil)))) pss_nil)
      (pss_one (ps_ret (pe_callTy call_list_of (by rfl) T.lst (by decide +kernel) (pa_cons (pe_bm PySem.F.plainAttrs_list PySem.F.slot_list_pop PySem.F.type_list_pop mt_popAt (pe_fld (pv 0) rfl) (pa_cons pe_int pa_nil)) pa_nil)))), ?_⟩
    obtain ⟨dx, ob⟩ := hA.ob
    obtain ⟨ee, e1, e2, e3⟩ := hA.ev
    refine ⟨_, rfl, A.x, C.H, dx, _, _, rfl, ob, T.cH, T.h5, hF_happened _ _ _, _, .inl ⟨_, SqL.of e1, rfl⟩, ?_⟩
    cases eh : h.events with
    | nil =>
      rw [eh] at e2
      have en : ee = [] := List.map_eq_nil_iff.mp e2
      subst en
      have eon : SjS.on h .next = (h, Sj54.just (-6)) := by
        show (match h.events with | [] => _ | e :: l => _ : House × Sj54.Ans) = _
        rw [eh]
      rw [eon] at fin
      refine iteT ⟨(by show 1 ≤ sizeLine; decide), fun r nr => ?_⟩
      exact fin _ r (hA.same (same_new nr)) (Fr.of_same (same_new nr)) (.of nr) upd_same
    | cons e ll =>
      have eon : SjS.on h .next = ({ h with events := ll }, ⟨Sj54.nat e.1, [Sj54.nat e.2.1, Sj54.nat e.2.2]⟩) := by
        show (match h.events with | [] => _ | e :: l => _ : House × Sj54.Ans) = _
        rw [eh]
      rw [eon] at fin
      obtain ⟨T0, xs, x1, x2, hB⟩ := hA.dropEvent eh
      have ex : (ee.map fun e => V.ref e.2) = .ref T0 :: xs := by
        rw [e1] at x1
        injection x1 with x1
        injection x1
      rw [ex]
      have nT : T0 ≠ A.lH := ne_of x2 x1 nofun
      refine iteF ?_
      refine ⟨_, rfl, A.x, C.H, dx, _, _, rfl, ob, T.cH, T.h5, hF_happened _ _ _, .inl ⟨rfl, _, SqL.of x1⟩, A.lH, _, 0, 0, _, rfl, rfl, x1, by decide, by decide, ?_, rfl, ?_⟩
      · show seqIndex? 0 (xs.length + 1) = some 0
        unfold seqIndex?
        simp
        try omega
      · refine ⟨T0, _, rfl, .inr (SqT.of (xs := eV e) (by rw [upd_ne nT]; exact x2)), fun r nr => ?_⟩
        exact fin _ r (hB.same (same_new nr)) ((Fr.put (Fr.refl A H) (by simp [Ad.six])).made nr) (.of (free_put nr)) upd_same
def spTillLate (C : Cl) : Sp := fun vs H Q _ => ∃ (A : Ad) (h : House) (p : Addr) (s : Sleeper), vs = [.ref A.x, .ref p] ∧ HouseAt C H A h ∧ Ins H p C.S (sF s) ∧ Q (.int (match s.till with | none => 0 | some t => (t : Int) - (h.now : Int))) H
theorem scTillLate : FnScope ["house", "sleeper"] ["house", "sleeper"] (defScope sTillLate) := ⟨rfl, rfl, rfl, by decide +kernel, rfl, by decide +kernel, by decide +kernel⟩
theorem ok_tillLate {f : Addr} {fd : FuncData} (F : Fun K "ticks_till_late" "ticks_till_late" sTillLate f fd) (T : Txt K mg C) : FnOk P w K mg base CX0 1 f fd ["house", "sleeper"] (spTillLate C) := by
  refine F.ok scTillLate (fun vs H Q E h => ?_) (fun cdv A0 outer s H vs Q E hr h => ?_)
  · obtain ⟨A, h, p, s, rfl, _⟩ := h
    rfl
  · obtain ⟨A, h, p, r, rfl, hA, ⟨dz, hz⟩, fin⟩ := h
    refine ⟨_, pss_cons (ps_if (pt_cmp (pc_isN (pe_fld (pv 1) rfl))) (pss_one (ps_ret pe_int)) pss_nil) (pss_one (ps_ret (pe_op op_sub (pe_fld (pv 1) rfl) (pe_fld (pv 0) rfl)))), ?_⟩
    obtain ⟨dx, ob⟩ := hA.ob
    refine ⟨_, rfl, p, C.S, dz, _, _, rfl, hz, T.cS, T.s3, sF_late _, _, rfl, ?_⟩
    cases e : r.till with
    | none =>
      rw [e] at fin
      refine iteT ?_
      exact fin
    | some t =>
      rw [e] at fin
      have el := sF_late r
      rw [e] at el
      refine iteF ?_
      refine ⟨_, rfl, p, C.S, dz, _, _, rfl, hz, T.cS, T.s3, el, _, rfl, A.x, C.H, dx, _, _, rfl, ob, T.cH, T.h1, hF_now _ _ _, _, _, rfl, rfl, ?_⟩
      exact fin
theorem scHandA : FnScope ["house", "numbers", "sleeper", "watches"] ["house", "numbers"] (defScope sHand) := ⟨rfl, rfl, rfl, by decide +kernel, rfl, by decide +kernel, by decide +kernel⟩
theorem ok_hand {f fT : Addr} {fd fdT : FuncData} (F : Fun K "answer_hand" "answer_hand" sHand f fd) (T : Txt K mg C) (D : Df K mg "ticks_till_late" sTillLate ["house", "sleeper"] fT fdT) : FnOk P w K mg base CX0 2 f fd ["house", "numbers"] (spAns C K 12) := by
  have G : FnOk P w K mg base CX0 1 fT fdT ["house", "sleeper"] (spTillLate C) := ok_tillLate D.F T
  refine F.ok scHandA (fun vs H Q E h => ?_) (fun cdv A0 outer s H vs Q E hr h => ?_)
  · obtain ⟨A, h, l, ns, q, rfl, _⟩ := h
    rfl
  · obtain ⟨A, h, l, ns, q, rfl, hA, hG, hl, nl, kd, tl, fin⟩ := h
    cases kd with
    | k12 a =>
    have hu := hu_of hr
    refine ⟨_, pss_cons (ps_if (pt_cmp (pc_dnotin hu (pe_ix ix_list (pv 1) pe_int (fun _ _ => rfl)) (pe_fld (pv 0) rfl))) (pss_one (ps_ret (pe_lst (pa_cons pe_int (pa_cons pe_int (pa_cons pe_int (pa_cons pe_int pa_nil))))))) pss_nil)
      (pss_cons (ps_set (i := 2) scHandA.nd rfl (Or.inl rfl) (pe_dget hu (pe_fld (pv 0) rfl) (pe_ix ix_list (pv 1) pe_int (fun _ _ => rfl)) (fun _ _ => rfl)))
      (pss_cons (ps_set (i := 3) scHandA.nd rfl (Or.inl rfl) (pe_ifExp (pt_val (pe_fld (pv 2) rfl)) pe_int pe_int))
      (pss_one (ps_ret (pe_lst (pa_cons pe_int (pa_cons (pe_fld (pv 2) rfl) (pa_cons (pv 3) (pa_cons (pe_call G hr rfl D.g D.F.kp D.b .nil pass0 (pa_cons (pv 0) (pa_cons (pv 2) pa_nil))) pa_nil))))))))), ?_⟩
    simp only [told, in_iff] at tl
    obtain ⟨a1, a2⟩ := tl
    have eon : ∀ o, (h.asleep.find? fun s => s.hand == a.toNat) = o → SjS.on h (.hand a) = (match o with
        | none => (h, ⟨0, [0, 0, 0]⟩)
        | some s => (h, ⟨1, [Sj54.nat s.word, Sj54.bit s.watch, match s.till with
          | none => 0
          | some t => Sj54.nat t - Sj54.nat h.now]⟩)) := by
      rintro o rfl
      show (ite _ _ _ : House × Sj54.Ans) = _
      rw [if_neg]
      · cases (h.asleep.find? fun s => s.hand == a.toNat) <;> rfl
      · simp only [SjF.not_isIn, Classical.not_not]
        exact ⟨a1, a2⟩
    obtain ⟨a, rfl⟩ := Int.eq_ofNat_of_zero_le a1
    simp only [Int.toNat_natCast] at eon
    obtain ⟨dx, ob⟩ := hA.ob
    obtain ⟨se, s1, s2, s3, s4⟩ := hA.sl
    have ef : (h.asleep.find? fun s => s.hand == a) = (se.find? fun e => e.1.hand == a).map (·.1) := by
      rw [← s2, List.find?_map]
      rfl
    refine ⟨_, rfl, l, _, _, _, rfl, rfl, hl, at_int (i := 0) rfl, _, rfl, A.x, C.H, dx, _, _, rfl, ob, T.cH, T.h3, hF_sleepers _ _ _, A.dS, _, rfl, DGet.k (k := .inl (a : Int)) s1, _, rfl, ?_⟩
    rw [sK_val]
    cases q : se.find? fun e => e.1.hand == a with
    | none =>
      rw [eon none (by rw [ef, q]; rfl)] at fin
      refine iteT ⟨(by show 4 ≤ sizeLine; decide), fun r nr => ?_⟩
      exact fin _ r (hA.same (same_new nr)) (Fr.of_same (same_new nr)) (.of nr) upd_same
    | some e =>
      obtain ⟨r0, p⟩ := e
      rw [eon (some r0) (by rw [ef, q]; rfl)] at fin
      obtain ⟨dz, hz⟩ := s3 _ (List.mem_of_find?_eq_some q)
      simp only at hz
      refine iteF ?_
      refine ⟨_, rfl, A.x, C.H, dx, _, _, rfl, ob, T.cH, T.h3, hF_sleepers _ _ _, _, rfl, l, _, _, _, rfl, rfl, hl, at_int (i := 0) rfl, A.dS, .ref p, rfl, ?_, ?_⟩
      · have g := DGet.k (k := .inl (a : Int)) s1
        rw [sK_val, q] at g
        exact g
      · refine ⟨_, rfl, p, C.S, dz, _, _, rfl, hz, T.cS, T.s2, sF_watches _, _, rfl, ?_⟩
        have key : ∀ v : V, v = V.int (Sj54.bit r0.watch) → (∀ (r : Addr), H r = none → Q (.ref r) (upd H r (.lst [.int 1, nat r0.word, v, .int (match r0.till with | none => 0 | some t => (t : Int) - (h.now : Int))]))) := fun v hv r nr => by
          subst hv
          refine fin _ r (hA.same (same_new nr)) (Fr.of_same (same_new nr)) (.of nr) (Eq.trans upd_same ?_)
          rfl
        cases c : r0.watch with
        | true =>
          refine iteT ?_
          refine ⟨_, rfl, p, C.S, dz, _, _, rfl, hz, T.cS, T.s1, sF_word _, _, rfl, _, rfl, _, rfl, A, h, p, r0, rfl, hA, ⟨dz, hz⟩, (by show 4 ≤ sizeLine; decide), fun r nr => ?_⟩
          exact key _ (by rw [c]; rfl) r nr
        | false =>
          refine iteF ?_
          refine ⟨_, rfl, p, C.S, dz, _, _, rfl, hz, T.cS, T.s1, sF_word _, _, rfl, _, rfl, _, rfl, A, h, p, r0, rfl, hA, ⟨dz, hz⟩, (by show 4 ≤ sizeLine; decide), fun r nr => ?_⟩
          exact key _ (by rw [c]; rfl) r nr
theorem scWordA : FnScope ["house", "numbers", "word", "watching", "others"] ["house", "numbers"] (defScope sWord) := ⟨rfl, rfl, rfl, by decide +kernel, rfl, by decide +kernel, by decide +kernel⟩
theorem ok_word {f fA : Addr} {fd fdA : FuncData} (F : Fun K "answer_word" "answer_word" sWord f fd) (T : Txt K mg C) (L : Df K mg "hands_asleep_at" sAsleepAt ["house", "word", "watches"] fA fdA) : FnOk P w K mg base CX0 2 f fd ["house", "numbers"] (spAns C K 13) := by
  have GA : FnOk P w K mg base CX0 1 fA fdA ["house", "word", "watches"] (spAt C) := ok_at L.F T
  refine F.ok scWordA (fun vs H Q E h => ?_) (fun cdv A0 outer s H vs Q E hr h => ?_)
  · obtain ⟨A, h, l, ns, q, rfl, _⟩ := h
    rfl
  · obtain ⟨A, h, l, ns, q, rfl, hA, hG, hl, nl, kd, tl, fin⟩ := h
    cases kd with
    | k13 a =>
    refine ⟨_, pss_cons (ps_set (i := 2) scWordA.nd rfl (Or.inl rfl) (pe_ix ix_list (pv 1) pe_int (fun _ _ => rfl)))
      (pss_cons (ps_set (i := 3) scWordA.nd rfl (Or.inl rfl) (pe_callB call_len_seq (by rfl) T.len PySem.boot_len (pa_cons (pe_call GA hr rfl L.g L.F.kp L.b .nil pass0 (pa_cons (pv 0) (pa_cons (pv 2) (pa_cons pe_bl pa_nil)))) pa_nil)))
      (pss_cons (ps_set (i := 4) scWordA.nd rfl (Or.inl rfl) (pe_callB call_len_seq (by rfl) T.len PySem.boot_len (pa_cons (pe_call GA hr rfl L.g L.F.kp L.b .nil pass0 (pa_cons (pv 0) (pa_cons (pv 2) (pa_cons pe_bl pa_nil)))) pa_nil)))
      (pss_one (ps_ret (pe_lst (pa_cons pe_int (pa_cons (pe_ix ix_list (pe_fld (pv 0) rfl) (pv 2) (fun _ _ => rfl)) (pa_cons (pv 3) (pa_cons (pv 4) pa_nil))))))))), ?_⟩
    simp only [told, in_iff] at tl
    obtain ⟨a1, a2⟩ := tl
    have eon : SjS.on h (.word a) = (h, ⟨0, [Sj54.nat (h.words.getD a.toNat 0), Sj54.nat (h.at_ a.toNat true).length, Sj54.nat (h.at_ a.toNat false).length]⟩) := by
      show (ite _ _ _ : House × Sj54.Ans) = _
      rw [if_neg]
      simp only [Sj54.isWord, SjF.not_isIn, Classical.not_not]
      exact ⟨a1, a2⟩
    rw [eon] at fin
    obtain ⟨a, rfl⟩ := Int.eq_ofNat_of_zero_le a1
    simp only [Int.toNat_natCast] at fin
    have al : a < h.words.length := by rw [hG.ok.wl]; omega
    have ea : h.words[a]? = some h.words[a] := List.getElem?_eq_getElem al
    have eg : h.words.getD a 0 = h.words[a] := by
      rw [List.getD_eq_getElem?_getD, ea]
      rfl
    rw [eg] at fin
    have l16 : h.asleep.length < 1000 := Nat.lt_of_le_of_lt hG.ok.asleep_len (by decide)
    refine ⟨_, rfl, l, _, _, _, rfl, rfl, hl, at_int (i := 0) rfl, ?_⟩
    refine ⟨_, rfl, _, rfl, A, h, a, true, rfl, hA, l16, fun H1 p1 sm1 np1 hp1 => ⟨p1, _, rfl, .inl (SqL.of hp1), ?_⟩⟩
    have hB := hA.same sm1
    refine ⟨_, rfl, _, rfl, A, h, a, false, rfl, hB, l16, fun H2 p2 sm2 np2 hp2 => ⟨p2, _, rfl, .inl (SqL.of hp2), ?_⟩⟩
    have hC := hB.same sm2
    obtain ⟨dx, ob⟩ := hC.ob
    refine ⟨_, rfl, A.x, C.H, dx, _, _, rfl, ob, T.cH, T.h4, hF_words _ _ _, _, rfl, A.lW, _, _, _, rfl, rfl, SqL.of hC.wd, atI_nat (j := a) (by rw [List.getElem?_map, ea]; rfl), _, rfl, _, rfl, (by show 4 ≤ sizeLine; decide), fun r nr => ?_⟩
    rw [List.length_map, List.length_map]
    have sm := sm1.trans sm2
    exact fin _ r (hC.same (same_new nr)) (Fr.of_same (sm.trans (same_new nr))) (.of (sm.free nr)) upd_same
theorem scCountsA : FnScope ["house", "numbers", "there_now"] ["house", "numbers"] (defScope sCounts) := ⟨rfl, rfl, rfl, by decide +kernel, rfl, by decide +kernel, by decide +kernel⟩
theorem ok_counts {f : Addr} {fd : FuncData} (F : Fun K "answer_counts" "answer_counts" sCounts f fd) (T : Txt K mg C) : FnOk P w K mg base CX0 1 f fd ["house", "numbers"] (spAns C K 14) := by
  refine F.ok scCountsA (fun vs H Q E h => ?_) (fun cdv A0 outer s H vs Q E hr h => ?_)
  · obtain ⟨A, h, l, ns, q, rfl, _⟩ := h
    rfl
  · obtain ⟨A, h, l, ns, q, rfl, hA, hG, hl, nl, kd, tl, fin⟩ := h
    cases kd with
    | k14 =>
    refine ⟨_, pss_cons (ps_set (i := 2) scCountsA.nd rfl (Or.inl rfl) (pe_lst (pa_cons (pe_fld (pv 0) rfl) (pa_cons (pe_callB call_lenD (by rfl) T.len PySem.boot_len (pa_cons (pe_fld (pv 0) rfl) pa_nil)) (pa_cons (pe_callB call_lenD (by rfl) T.len PySem.boot_len (pa_cons (pe_fld (pv 0) rfl) pa_nil)) (pa_cons (pe_callB call_len_seq (by rfl) T.len PySem.boot_len (pa_cons (pe_fld (pv 0) rfl) pa_nil)) pa_nil))))))
      (pss_one (ps_ret (pe_op op_cat (pe_op op_cat (pe_lst (pa_cons pe_int pa_nil)) (pe_fld (pv 0) rfl)) (pv 2)))), ?_⟩
    have eon : SjS.on h .counts = (h, ⟨0, Sj54.ints h.counts ++ [Sj54.nat h.now, Sj54.nat (h.timers.filter Option.isSome).length, Sj54.nat h.asleep.length, Sj54.nat h.events.length]⟩) := rfl
    rw [eon] at fin
    obtain ⟨dx, ob⟩ := hA.ob
    obtain ⟨te, t1, t2⟩ := hA.tm
    obtain ⟨se, s1, s2, s3, s4⟩ := hA.sl
    obtain ⟨ee, e1, e2, e3⟩ := hA.ev
    refine ⟨_, rfl, A.x, C.H, dx, _, _, rfl, ob, T.cH, T.h1, hF_now _ _ _, _, rfl, A.x, C.H, dx, _, _, rfl, ob, T.cH, T.h2, hF_timers _ _ _, A.dT, _, rfl, t1, _, rfl, A.x, C.H, dx, _, _, rfl, ob, T.cH, T.h3, hF_sleepers _ _ _, A.dS, _, rfl, s1,
      _, rfl, A.x, C.H, dx, _, _, rfl, ob, T.cH, T.h5, hF_happened _ _ _, A.lH, _, rfl, .inl (SqL.of e1), (by show 4 ≤ sizeLine; decide), fun p np => ?_⟩
    have lt : (tK te).length = (h.timers.filter Option.isSome).length := by
      unfold tK
      rw [List.length_map]
      exact t2.count
    have ls : (sK se).length = h.asleep.length := by
      unfold sK
      rw [List.length_map, ← s2, List.length_map]
    have le : (ee.map fun e => V.ref e.2).length = h.events.length := by
      rw [List.length_map, ← e2, List.length_map]
    rw [lt, ls, le]
    have sm1 : Same H (upd H p (.lst [nat h.now, V.int ((h.timers.filter Option.isSome).length : Int), V.int (h.asleep.length : Int), V.int (h.events.length : Int)])) := same_new np
    have hp : upd H p (.lst [nat h.now, V.int ((h.timers.filter Option.isSome).length : Int), V.int (h.asleep.length : Int), V.int (h.events.length : Int)]) p = some (.lst [nat h.now, V.int ((h.timers.filter Option.isSome).length : Int), V.int (h.asleep.length : Int), V.int (h.events.length : Int)]) := upd_same
    generalize upd H p (.lst [nat h.now, V.int ((h.timers.filter Option.isSome).length : Int), V.int (h.asleep.length : Int), V.int (h.events.length : Int)]) = H1 at *
    have hB := hA.same sm1
    refine ⟨(by show 1 ≤ sizeLine; decide), fun p1 np1 => ?_⟩
    have sm2 : Same H1 (upd H1 p1 (.lst [.int 0])) := same_new np1
    have hp1 : upd H1 p1 (.lst [.int 0]) p1 = some (.lst [.int 0]) := upd_same
    generalize upd H1 p1 (.lst [.int 0]) = H2 at *
    have hC := hB.same sm2
    obtain ⟨dx2, ob2⟩ := hC.ob
    have lc : (h.counts.map nat).length = 4 := by rw [List.length_map]; exact hG.ok.cl
    refine ⟨_, rfl, A.x, C.H, dx2, _, _, rfl, ob2, T.cH, T.h6, hF_counts _ _ _, p1, A.lC, _, _, rfl, rfl, hp1, hC.ct, (by rw [lc]; show 5 ≤ sizeLine; decide), fun p2 np2 => ?_⟩
    have sm3 : Same H2 (upd H2 p2 (.lst ([.int 0] ++ h.counts.map nat))) := same_new np2
    have hp2 : upd H2 p2 (.lst ([.int 0] ++ h.counts.map nat)) p2 = some (.lst ([.int 0] ++ h.counts.map nat)) := upd_same
    generalize upd H2 p2 (.lst ([.int 0] ++ h.counts.map nat)) = H3 at *
    have hD := hC.same sm3
    refine ⟨_, rfl, p2, p, _, _, rfl, rfl, hp2, sm3 _ _ (sm2 _ _ hp), (by rw [List.length_append, lc]; show 9 ≤ sizeLine; decide), fun r nr => ?_⟩
    have sm := (sm1.trans sm2).trans sm3
    refine fin _ r (hD.same (same_new nr)) (Fr.of_same (sm.trans (same_new nr))) (.of (sm.free nr)) (Eq.trans upd_same ?_)
    congr 2
    show _ = List.map V.int (0 :: (Sj54.ints h.counts ++ _))
    unfold Sj54.ints
    rw [List.map_cons, List.map_append, List.map_map]
    rfl
end
end Sj
namespace Sj
open PySem PySem.Spec PyProof.Rows L2
open Sj54 (House Sleeper)
open SjP (Kind)
/-- a list of tuples of whole numbers -/
def Rows (H : Hp) (r : Addr) (ks : List (List Int)) : Prop := ∃ es : List (List Int × Addr), H r = some (.lst (es.map fun e => V.ref e.2)) ∧ (∀ e ∈ es, H e.2 = some (.tup (e.1.map V.int))) ∧ es.map (·.1) = ks
theorem Rows.same {H H' : Hp} {r : Addr} {ks : List (List Int)} (h : Rows H r ks) (s : Same H H') : Rows H' r ks := by
  obtain ⟨es, h1, h2, h3⟩ := h
  exact ⟨es, s _ _ h1, fun e he => s _ _ (h2 e he), h3⟩
/-- a list that only grew, the tuples as they stood -/
theorem Rows.add {H : Hp} {D p : Addr} {ks : List (List Int)} (h : Rows H D ks) (np : H p = none) (k : List Int) : ∃ acc, upd H p (.tup (k.map V.int)) D = some (.lst acc) ∧ acc.length = ks.length ∧ Rows (upd (upd H p (.tup (k.map V.int))) D (.lst (acc ++ [.ref p]))) D (ks ++ [k]) := by
  obtain ⟨es, h1, h2, h3⟩ := h
  have nD : D ≠ p := ne_of_none h1 np
  refine ⟨es.map fun e => V.ref e.2, by rw [upd_ne nD]; exact h1, by rw [List.length_map, ← h3, List.length_map], es ++ [(k, p)], ?_, fun e he => ?_, ?_⟩
  · rw [upd_same, List.map_append]
    rfl
  · rcases List.mem_append.mp he with z | z
    · have q := h2 e z
      rw [upd_ne (ne_of q h1 nofun), upd_ne (ne_of_none q np)]
      exact q
    · have : e = (k, p) := by simpa using z
      subst this
      rw [upd_ne nD.symm]
      exact upd_same
  · rw [List.map_append, h3]
    rfl
def tkey (e : TE3) : List Int := [(e.2.1.due : Int), ((e.2.1.order + 1 : Nat) : Int), 0, (e.1 : Int)]
def tdue (to : Nat) (e : TE3) : Option (List Int) := if e.2.1.due ≤ to then some (tkey e) else none
def skey (s : Sleeper) (t : Nat) : List Int := [(t : Int), ((s.order + 1 : Nat) : Int), 3, (s.hand : Int)]
def sdue (to : Nat) (e : SE) : Option (List Int) := e.1.till.bind fun t => if t ≤ to then some (skey e.1 t) else none
/-- how a thing that is due is told -/
def key (x : (Nat × Nat) × Bool × Nat) : List Int := [(x.1.1 : Int), ((x.1.2 + 1 : Nat) : Int), if x.2.1 then 0 else 3, (x.2.2 : Int)]
theorem fm_more {α β : Type} {f : α → Option β} {l : List α} {i : Nat} {x : α} (h : l[i]? = some x) : (l.take (i + 1)).filterMap f = (l.take i).filterMap f ++ (f x).toList := by
  rw [take_more h, List.filterMap_append]
  congr 1
section
variable {P : Program} {w : World} {K : PySem.W.Frag} {mg : Str → Option Value} {base : Heap} {C : Cl}
def spDue (C : Cl) : Sp := fun vs H Q _ => ∃ (A : Ad) (h : House) (to : Nat), vs = [.ref A.x, nat to] ∧ HouseAt C H A h ∧ h.timers.length ≤ 64 ∧ h.asleep.length ≤ 16 ∧
  ∀ H' r ks, Same H H' → H r = none → Rows H' r ks → (∀ k, k ∈ ks ↔ ∃ x ∈ h.dues to, k = key x) → Q (.ref r) H'
theorem scDue : FnScope ["house", "end", "timers", "hands", "which", "timer", "hand", "sleeper"] ["house", "end"] (defScope sDueUpTo) := ⟨rfl, rfl, rfl, by decide +kernel, rfl, by decide +kernel, by decide +kernel⟩
def t_due1 (K : PySem.W.Frag) : TS := tLock (tAsg (tLc (iItems (tFld K (tVar 0) "timers")) (gTup K 2 (gCons (gName 4) (gCons (gName 5) gNil))) (tTest (tOp (rI0 fun i j => .bl (decide (i ≤ j))) (tFld K (tVar 5) "due") (tVar 1))) (tTup (tCons (tFld K (tVar 5) "due") (tCons (tFld K (tVar 5) "place") (tCons (tC (.int 0)) (tCons (tVar 4) tNil))))) [4, 5]) (gName 2))
def t_due2 (K : PySem.W.Frag) : TS := tLock (tAsg (tLc (iItems (tFld K (tVar 0) "sleepers")) (gTup K 2 (gCons (gName 6) (gCons (gName 7) gNil))) (tAnd (tB (tNotN (tFld K (tVar 7) "late_at"))) (tTest (tOp (rI0 fun i j => .bl (decide (i ≤ j))) (tFld K (tVar 7) "late_at") (tVar 1)))) (tTup (tCons (tFld K (tVar 7) "late_at") (tCons (tFld K (tVar 7) "place") (tCons (tC (.int 3)) (tCons (tVar 6) tNil))))) [6, 7]) (gName 3))
theorem ok_due {f : Addr} {fd : FuncData} (F : Fun K "due_up_to" "due_up_to" sDueUpTo f fd) (T : Txt K mg C) : FnOk P w K mg base CX0 1 f fd ["house", "end"] (spDue C) := by
  obtain ⟨tD, gD⟩ := T.due
  obtain ⟨tL, gL⟩ := T.lat
  refine F.ok scDue (fun vs H Q E h => ?_) (fun cdv A0 outer s H vs Q E hr h => ?_)
  · obtain ⟨A, h, to, rfl, _⟩ := h
    rfl
  · obtain ⟨A, h, to, rfl, hA, l64, l16, fin⟩ := h
    refine ⟨tSeq (t_due1 K) (tSeq (t_due2 K) (tRet (tOp rCat (tVar 2) (tVar 3)))), ?d, ?_⟩
    case d =>
      refine pss_cons (ps_lock ?_) (pss_cons (ps_lock ?_) (pss_one (ps_ret (pe_op op_cat (pv 2) (pv 3)))))
      · refine ps_setLc (i := 2) (own := [("which", 4), ("timer", 5)]) rfl scDue.nd rfl rfl (sw_true rfl rfl rfl (by decide +kernel)) (pi_items (pe_fld (pv 0) rfl)) (blkOk_by (N := ["house", "end", "timers", "hands", "which", "timer", "hand", "sleeper"]) (sc := defScope sDueUpTo) (by decide +kernel)) (fun _ _ _ _ _ => ?_) (fun _ _ _ _ _ => ?_) (fun _ _ _ _ _ => ?_)
        · exact pg_tup rfl (pgs_cons (pg_name (i := 4) scDue.nd rfl (Or.inl rfl)) (pgs_cons (pg_name (i := 5) scDue.nd rfl (Or.inl rfl)) pgs_nil))
        · exact pts_one (pt_cmpR op_le (pe_fld (pv 5) rfl) (pv 1) (nomark _))
        · exact pe_tup (pa_cons (pe_fld (pv 5) rfl) (pa_cons (pe_fld (pv 5) rfl) (pa_cons (pe_glob (v := .int 0) rfl gD ⟨_, rfl⟩) (pa_cons (pv 4) pa_nil))))
      · refine ps_setLc (i := 3) (own := [("hand", 6), ("sleeper", 7)]) rfl scDue.nd rfl rfl (sw_true rfl rfl rfl (by decide +kernel)) (pi_items (pe_fld (pv 0) rfl)) (blkOk_by (N := ["house", "end", "timers", "hands", "which", "timer", "hand", "sleeper"]) (sc := defScope sDueUpTo) (by decide +kernel)) (fun _ _ _ _ _ => ?_) (fun _ _ _ _ _ => ?_) (fun _ _ _ _ _ => ?_)
        · exact pg_tup rfl (pgs_cons (pg_name (i := 6) scDue.nd rfl (Or.inl rfl)) (pgs_cons (pg_name (i := 7) scDue.nd rfl (Or.inl rfl)) pgs_nil))
        · exact pts_one (PW.pt (pw_and (pt_cmp (pc_notN (pe_fld (pv 7) rfl))) (pw_and1 (pt_cmpR op_le (pe_fld (pv 7) rfl) (pv 1) (nomark _)))))
        · exact pe_tup (pa_cons (pe_fld (pv 7) rfl) (pa_cons (pe_fld (pv 7) rfl) (pa_cons (pe_glob (v := .int 3) rfl gL ⟨_, rfl⟩) (pa_cons (pv 6) pa_nil))))
    obtain ⟨dx, ob⟩ := hA.ob
    obtain ⟨te, t1, t2⟩ := hA.tm
    obtain ⟨se, s1, s2, s3, s4⟩ := hA.sl
    -- the timers
    refine ⟨A.dT, _, t1, trivial, fun od => ?_⟩
    have nx : A.x ≠ A.dT := ne_of ob t1 nofun
    refine ⟨_, rfl, A.x, C.H, dx, _, _, rfl, (by rw [upd_ne nx]; exact ob), T.cH, T.h2, hF_timers _ _ _, A.dT, od, tK te, rfl, upd_same, fun D hD => ?_⟩
    have nD : H D = none := free_put hD
    refine lc_it walk_items (fun i H' => Same (upd H A.dT (.frz od (.dK (tK te)))) H' ∧ Rows H' D ((te.take i).filterMap (tdue to)))
      ⟨same_new hD, ⟨[], upd_same, by simp, rfl⟩⟩ (fun i H' _ pv => pv.1 _ _ upd_same) (fun i x H1 H2 hi pv y => ?_) (fun H' pv => ?_)
    · obtain ⟨sm, rw1⟩ := pv
      obtain ⟨T0, kx, vy, rfl, hT, rfl, e1, e2⟩ := y
      have hi2 : i < te.length := by simpa [tK] using hi
      have ei : te[i]? = some te[i] := List.getElem?_eq_getElem hi2
      have ek : (tK te)[i]? = some (Sum.inl (te[i].1 : Int), V.ref te[i].2.2) := by
        unfold tK
        rw [List.getElem?_map, ei]
        rfl
      simp only [ek, Option.map_some, Option.some.injEq] at e1 e2
      subst e1 e2
      obtain ⟨dxs, hp⟩ := (t2.get _ (List.mem_of_getElem? ei)).2
      have sm2 : Same H1 (upd H1 T0 (.tup [nat te[i].1, .ref te[i].2.2])) := same_new hT
      have hp2 : upd H1 T0 (.tup [nat te[i].1, .ref te[i].2.2]) te[i].2.2 = some (.ins C.T dxs (tF te[i].2.1)) := sm2 _ _ (sm _ _ (by rw [upd_ne (ne_of hp t1 nofun)]; exact hp))
      have rw2 := rw1.same sm2
      have smm := sm.trans sm2
      have step := fm_more (f := tdue to) ei
      refine ⟨T0, _, rfl, SqT.of upd_same, rfl, _, _, rfl, _, _, rfl, rfl, rfl, ?_⟩
      refine ⟨_, rfl, te[i].2.2, C.T, dxs, _, _, rfl, hp2, T.cT, T.t1, tF_due _, _, rfl, _, _, rfl, rfl, _, rfl, ?_⟩
      by_cases c : te[i].2.1.due ≤ to
      · rw [show tdue to te[i] = some (tkey te[i]) from if_pos c] at step
        rw [decide_eq_true (show (te[i].2.1.due : Int) ≤ (to : Int) by omega)]
        refine iteT ⟨_, rfl, te[i].2.2, C.T, dxs, _, _, rfl, hp2, T.cT, T.t1, tF_due _, _, rfl, te[i].2.2, C.T, dxs, _, _, rfl, hp2, T.cT, T.t4, tF_place _, _, rfl, (by show 4 ≤ sizeLine; decide), fun p np => ?_⟩
        obtain ⟨acc, a1, a2, a3⟩ := rw2.add np (tkey te[i])
        refine ⟨acc, a1, ?_, fun a o e => ?_, ?_⟩
        · rw [a2]
          refine Nat.lt_of_le_of_lt (List.length_filterMap_le _ _) (Nat.lt_of_le_of_lt (List.length_take_le _ _) (small1000 ?_))
          have := t2.len
          omega
        · have q := smm a o e
          rw [upd_ne (ne_of_none e hD), upd_ne (ne_of_none q np)]
          exact q
        · rw [step]
          exact a3
      · rw [show tdue to te[i] = none from if_neg c] at step
        rw [decide_eq_false (show ¬ (te[i].2.1.due : Int) ≤ (to : Int) by omega)]
        refine iteF ⟨smm, ?_⟩
        rw [step, show (none : Option (List Int)).toList = [] from rfl, List.append_nil]
        exact rw2
    · obtain ⟨sm, rw1⟩ := pv
      have ll : (tK te).length = te.length := by
        unfold tK
        rw [List.length_map]
      rw [ll, List.take_length] at rw1
      refine ⟨sm _ _ upd_same, ?_⟩
      have smA : Same H (upd H' A.dT (.dK (tK te))) := fun a o e => by
        by_cases z : a = A.dT
        · rw [z, upd_same]
          rw [z, t1] at e
          exact e
        · rw [upd_ne z]
          exact sm a o (by rw [upd_ne z]; exact e)
      have rwA : Rows (upd H' A.dT (.dK (tK te))) D (te.filterMap (tdue to)) := by
        obtain ⟨es, h1, h2, h3⟩ := rw1
        have hf : H' A.dT = some (.frz od (.dK (tK te))) := sm _ _ upd_same
        exact ⟨es, by rw [upd_ne (ne_of h1 hf nofun)]; exact h1, fun e he => by rw [upd_ne (ne_of (h2 e he) hf nofun)]; exact h2 e he, h3⟩
      generalize upd H' A.dT (.dK (tK te)) = HA at *
      -- the hands
      have s1A := smA _ _ s1
      have obA := smA _ _ ob
      refine ⟨A.dS, _, s1A, trivial, fun od2 => ?_⟩
      have nx2 : A.x ≠ A.dS := ne_of ob s1 nofun
      refine ⟨_, rfl, A.x, C.H, dx, _, _, rfl, (by rw [upd_ne nx2]; exact obA), T.cH, T.h3, hF_sleepers _ _ _, A.dS, od2, sK se, rfl, upd_same, fun D2 hD2 => ?_⟩
      have nD2 : HA D2 = none := free_put hD2
      refine lc_it walk_items (fun i H' => Same (upd HA A.dS (.frz od2 (.dK (sK se)))) H' ∧ Rows H' D2 ((se.take i).filterMap (sdue to)))
        ⟨same_new hD2, ⟨[], upd_same, by simp, rfl⟩⟩ (fun i H' _ pv => pv.1 _ _ upd_same) (fun i x H1 H2 hi pv y => ?_) (fun H2 pv => ?_)
      · obtain ⟨sm, rw1⟩ := pv
        obtain ⟨T0, kx, vy, rfl, hT, rfl, e1, e2⟩ := y
        have hi2 : i < se.length := by simpa [sK] using hi
        have ei : se[i]? = some se[i] := List.getElem?_eq_getElem hi2
        have ek : (sK se)[i]? = some (Sum.inl (se[i].1.hand : Int), V.ref se[i].2) := by
          unfold sK
          rw [List.getElem?_map, ei]
          rfl
        simp only [ek, Option.map_some, Option.some.injEq] at e1 e2
        subst e1 e2
        obtain ⟨dxs, hp⟩ := s3 _ (List.mem_of_getElem? ei)
        have sm2 : Same H1 (upd H1 T0 (.tup [nat se[i].1.hand, .ref se[i].2])) := same_new hT
        have hp2 : upd H1 T0 (.tup [nat se[i].1.hand, .ref se[i].2]) se[i].2 = some (.ins C.S dxs (sF se[i].1)) := sm2 _ _ (sm _ _ (by rw [upd_ne (ne_of hp s1 nofun)]; exact smA _ _ hp))
        have rw2 := rw1.same sm2
        have smm := sm.trans sm2
        have step := fm_more (f := sdue to) ei
        refine ⟨T0, _, rfl, SqT.of upd_same, rfl, _, _, rfl, _, _, rfl, rfl, rfl, ?_⟩
        refine ⟨_, rfl, se[i].2, C.S, dxs, _, _, rfl, hp2, T.cS, T.s3, sF_late _, _, rfl, ?_⟩
        cases ct : se[i].1.till with
        | none =>
          rw [show sdue to se[i] = none by unfold sdue; rw [ct]; rfl] at step
          refine iteF (iteF ⟨smm, ?_⟩)
          rw [step, show (none : Option (List Int)).toList = [] from rfl, List.append_nil]
          exact rw2
        | some t =>
          have el := sF_late se[i].1
          rw [ct] at el
          refine iteT ⟨_, rfl, se[i].2, C.S, dxs, _, _, rfl, hp2, T.cS, T.s3, el, _, rfl, _, _, rfl, rfl, _, rfl, ?_⟩
          by_cases c : t ≤ to
          · rw [show sdue to se[i] = some (skey se[i].1 t) by unfold sdue; rw [ct]; exact if_pos c] at step
            rw [decide_eq_true (show (t : Int) ≤ (to : Int) by omega)]
            refine iteT ⟨_, rfl, se[i].2, C.S, dxs, _, _, rfl, hp2, T.cS, T.s3, el, _, rfl, se[i].2, C.S, dxs, _, _, rfl, hp2, T.cS, T.s4, sF_place _, _, rfl, (by show 4 ≤ sizeLine; decide), fun p np => ?_⟩
            obtain ⟨acc, a1, a2, a3⟩ := rw2.add np (skey se[i].1 t)
            refine ⟨acc, a1, ?_, fun a o e => ?_, ?_⟩
            · rw [a2]
              refine Nat.lt_of_le_of_lt (List.length_filterMap_le _ _) (Nat.lt_of_le_of_lt (List.length_take_le _ _) (small1000 ?_))
              have := congrArg List.length s2
              rw [List.length_map] at this
              omega
            · have q := smm a o e
              rw [upd_ne (ne_of_none e hD2), upd_ne (ne_of_none q np)]
              exact q
            · rw [step]
              exact a3
          · rw [show sdue to se[i] = none by unfold sdue; rw [ct]; exact if_neg c] at step
            rw [decide_eq_false (show ¬ (t : Int) ≤ (to : Int) by omega)]
            refine iteF ⟨smm, ?_⟩
            rw [step, show (none : Option (List Int)).toList = [] from rfl, List.append_nil]
            exact rw2
      · obtain ⟨sm, rw2⟩ := pv
        have ll2 : (sK se).length = se.length := by
          unfold sK
          rw [List.length_map]
        rw [ll2, List.take_length] at rw2
        refine ⟨sm _ _ upd_same, ?_⟩
        have smB : Same HA (upd H2 A.dS (.dK (sK se))) := fun a o e => by
          by_cases z : a = A.dS
          · rw [z, upd_same]
            rw [z, s1A] at e
            exact e
          · rw [upd_ne z]
            exact sm a o (by rw [upd_ne z]; exact e)
        have rwB : Rows (upd H2 A.dS (.dK (sK se))) D2 (se.filterMap (sdue to)) := by
          obtain ⟨es, h1, h2, h3⟩ := rw2
          have hf : H2 A.dS = some (.frz od2 (.dK (sK se))) := sm _ _ upd_same
          exact ⟨es, by rw [upd_ne (ne_of h1 hf nofun)]; exact h1, fun e he => by rw [upd_ne (ne_of (h2 e he) hf nofun)]; exact h2 e he, h3⟩
        generalize upd H2 A.dS (.dK (sK se)) = HB at *
        have rwC := rwA.same smB
        obtain ⟨es1, p1, p2, p3⟩ := rwC
        obtain ⟨es2, q1, q2, q3⟩ := rwB
        have lt := t2.len
        have ls := congrArg List.length s2
        rw [List.length_map] at ls
        have k1 := congrArg List.length p3
        have k2 := congrArg List.length q3
        rw [List.length_map] at k1 k2
        have k3 := List.length_filterMap_le (tdue to) te
        have k4 := List.length_filterMap_le (sdue to) se
        refine ⟨_, rfl, _, rfl, D, D2, _, _, rfl, rfl, p1, q1, (by
          rw [List.length_map, List.length_map]
          exact Nat.le_of_lt (small1000 (by omega))), fun r nr => ?_⟩
        have smr := smB.trans (same_new (o := .lst ((es1.map fun e => V.ref e.2) ++ es2.map fun e => V.ref e.2)) nr)
        refine fin _ r (te.filterMap (tdue to) ++ se.filterMap (sdue to)) (smA.trans smr) (smA.free (smB.free nr)) ⟨es1 ++ es2, ?_, fun e he => ?_, ?_⟩ fun k => ?_
        · rw [upd_same, List.map_append]
        · rcases List.mem_append.mp he with z | z
          · exact same_new nr _ _ (p2 e z)
          · exact same_new nr _ _ (q2 e z)
        · rw [List.map_append, p3, q3]
        · rw [List.mem_append, List.mem_filterMap, List.mem_filterMap]
          constructor
          · rintro (⟨e, he, hk⟩ | ⟨e, he, hk⟩)
            · unfold tdue at hk
              split at hk
              · rename_i c
                injection hk with hk
                refine ⟨((e.2.1.due, e.2.1.order), true, e.1), SjF.mem_dues.mpr (.inl ⟨rfl, e.2.1, (t2.get e he).1, c, rfl⟩), ?_⟩
                rw [← hk]
                rfl
              · cases hk
            · unfold sdue at hk
              cases ct : e.1.till with
              | none =>
                rw [ct] at hk
                cases hk
              | some t =>
                rw [ct] at hk
                change (if t ≤ to then some (skey e.1 t) else none) = some k at hk
                split at hk
                · rename_i c
                  injection hk with hk
                  refine ⟨((t, e.1.order), false, e.1.hand), SjF.mem_dues.mpr (.inr ⟨rfl, e.1, by rw [← s2]; exact List.mem_map.mpr ⟨e, he, rfl⟩, t, ct, c, rfl, rfl⟩), ?_⟩
                  rw [← hk]
                  rfl
                · cases hk
          · rintro ⟨⟨⟨d, o⟩, b, i⟩, hx, rfl⟩
            rcases SjF.mem_dues.mp hx with ⟨hb, t, ht, hd, e⟩ | ⟨hb, r, hr, t, ht, hd, e, hi⟩
            · simp only at hb ht e
              subst hb
              cases e
              obtain ⟨p, hp⟩ := t2.all i t ht
              refine .inl ⟨_, hp, ?_⟩
              unfold tdue
              rw [if_pos hd]
              rfl
            · simp only at hb hi e
              subst hb hi
              cases e
              rw [← s2] at hr
              obtain ⟨z, hz, rfl⟩ := List.mem_map.mp hr
              refine .inr ⟨z, hz, ?_⟩
              unfold sdue
              rw [ht]
              show (if d ≤ to then some (skey z.1 d) else none) = _
              rw [if_pos hd]
              rfl
end
end Sj
namespace Sj
open PySem PySem.Spec PyProof.Rows L2
open Sj54 (House Sleeper)
open SjP (Kind)
/-- what is an instance of a timer, or a tuple, is no part of the house's own -/
theorem HouseAt.notTimer {C : Cl} {H : Hp} {A : Ad} {h : House} (s : HouseAt C H A h) {p Cp dx : Addr} {t : Sj54.Timer} (hp : H p = some (.ins Cp dx (tF t))) : p ∉ A.six := fun z => by
  obtain ⟨dx', ob⟩ := s.ob
  obtain ⟨te, t1, t2⟩ := s.tm
  obtain ⟨se, s1, s2, s3⟩ := s.sl
  obtain ⟨ee, e1, e2, e3⟩ := s.ev
  simp only [Ad.six, List.mem_cons, List.not_mem_nil, or_false] at z
  rcases z with rfl | rfl | rfl | rfl | rfl | rfl
  · rw [ob] at hp
    exact tH (Option.some.inj hp).symm
  · rw [t1] at hp
    cases hp
  · rw [s1] at hp
    cases hp
  · rw [s.wd] at hp
    cases hp
  · rw [e1] at hp
    cases hp
  · rw [s.ct] at hp
    cases hp
theorem HouseAt.notTup {C : Cl} {H : Hp} {A : Ad} {h : House} (s : HouseAt C H A h) {p : Addr} {xs : List V} (hp : H p = some (.tup xs)) : p ∉ A.six := fun z => by
  obtain ⟨dx', ob⟩ := s.ob
  obtain ⟨te, t1, t2⟩ := s.tm
  obtain ⟨se, s1, s2, s3⟩ := s.sl
  obtain ⟨ee, e1, e2, e3⟩ := s.ev
  simp only [Ad.six, List.mem_cons, List.not_mem_nil, or_false] at z
  rcases z with rfl | rfl | rfl | rfl | rfl | rfl
  · rw [ob] at hp
    cases hp
  · rw [t1] at hp
    cases hp
  · rw [s1] at hp
    cases hp
  · rw [s.wd] at hp
    cases hp
  · rw [e1] at hp
    cases hp
  · rw [s.ct] at hp
    cases hp
section
variable {P : Program} {w : World} {K : PySem.W.Frag} {mg : Str → Option Value} {base : Heap} {C : Cl}
/-- the timer's tick has come -/
def rung (h : House) (i : Nat) (t : Sj54.Timer) : House := { h with timers := h.timers.set i (SjF.again t h.now h.order), order := (if t.period = 0 then h.order else h.order + 1), events := h.events ++ [(0, i, h.now)], counts := Sj54.counted h.counts 0 1 }
def spHappen (C : Cl) : Sp := fun vs H Q _ => ∃ (A : Ad) (h : House) (i : Nat) (t : Sj54.Timer), vs = [.ref A.x, nat i] ∧ HouseAt C H A h ∧ h.timers[i]? = some (some t) ∧ h.timers.length = 64 ∧ h.counts.length = 4 ∧ h.events.length < sizeLine ∧ h.now ≤ 1073741824 ∧ t.period ≤ 16777216 ∧ t.slack ≤ 65535 ∧
  ∀ H', HouseAt C H' A (rung h i t) → Fr A H H' → Q .non H'
theorem scHappen : FnScope ["house", "which", "timer"] ["house", "which"] (defScope sTimerHappen) := ⟨rfl, rfl, rfl, by decide +kernel, rfl, by decide +kernel, by decide +kernel⟩
theorem ok_happen {f fN fP : Addr} {fd fdN fdP : FuncData} (F : Fun K "let_timer_happen" "let_timer_happen" sTimerHappen f fd) (T : Txt K mg C) (N : Df K mg "note_happening" sNote ["house", "sort", "who"] fN fdN)
    (D : Df K mg "put_timer" sPutTimer ["house", "which", "delay", "period", "slack"] fP fdP) (G : FnOk P w K mg base CX0 3 fP fdP ["house", "which", "delay", "period", "slack"] (spPut C)) : FnOk P w K mg base CX0 4 f fd ["house", "which"] (spHappen C) := by
  have GN : FnOk P w K mg base CX0 1 fN fdN ["house", "sort", "who"] (spNote C) := ok_note N.F T
  obtain ⟨tD, gD⟩ := T.due
  refine F.ok scHappen (fun vs H Q E h => ?_) (fun cdv A0 outer s H vs Q E hr h => ?_)
  · obtain ⟨A, h, i, t, rfl, _⟩ := h
    rfl
  · obtain ⟨A, h, i, t, rfl, hA, ht, l64, l4, lev, hn, hp0, hs0, fin⟩ := h
    refine ⟨_, pss_cons (ps_set (i := 2) scHappen.nd rfl (Or.inl rfl) (pe_dpop1 (pe_fld (pv 0) rfl) (pv 1) ⟨rfl, rfl, rfl, rfl⟩))
      (pss_cons (ps_expr (pe_call GN (hr.mono (by decide)) rfl N.g N.F.kp N.b .nil pass0 (pa_cons (pv 0) (pa_cons (pe_glob (v := .int 0) rfl gD ⟨_, rfl⟩) (pa_cons (pv 1) pa_nil)))))
      (pss_one (ps_if (pt_cmpR op_ne (pe_fld (pv 2) rfl) pe_int (nomark _))
        (pss_one (ps_expr (pe_call G hr rfl D.g D.F.kp D.b .nil pass0 (pa_cons (pv 0) (pa_cons (pv 1) (pa_cons (pe_fld (pv 2) rfl) (pa_cons (pe_fld (pv 2) rfl) (pa_cons (pe_fld (pv 2) rfl) pa_nil)))))))) pss_nil))), ?_⟩
    obtain ⟨dx, ob⟩ := hA.ob
    obtain ⟨te, t1, t2⟩ := hA.tm
    obtain ⟨p, hp, dp, hp2⟩ := t2.has ht
    have hi : i < h.timers.length := (List.getElem?_eq_some_iff.mp ht).1
    have hv : valV (tK te) (.inl (i : Int)) = some (.ref p) := by
      rw [tK_val, hp]
      rfl
    refine ⟨_, rfl, A.x, C.H, dx, _, _, rfl, ob, T.cH, T.h2, hF_timers _ _ _, A.dT, rfl, .inl ⟨_, .inl t1⟩, _, rfl, tK te, .inl (i : Int), .ref p, t1, rfl, hv, ?_⟩
    rw [tK_drop]
    have hB := hA.setTimers _ _ (t2.drop i)
    have f1 : Fr A H (upd H A.dT (.dK (tK (te.filter fun e => e.1 != i)))) := Fr.put (Fr.refl A H) (by simp [Ad.six])
    have hp3 : upd H A.dT (.dK (tK (te.filter fun e => e.1 != i))) p = some (.ins C.T dp (tF t)) := by
      rw [upd_ne (ne_of hp2 t1 nofun)]
      exact hp2
    generalize upd H A.dT (.dK (tK (te.filter fun e => e.1 != i))) = H1 at *
    refine ⟨_, rfl, _, rfl, A, _, 0, i, rfl, hB, by show 0 < h.counts.length; omega, lev, fun H2 hC kp => ?_⟩
    have hp4 : H2 p = some (.ins C.T dp (tF t)) := kp _ _ hp3 (hB.notTimer hp3)
    have f2 := f1.trans kp.fr
    refine ⟨_, rfl, p, C.T, dp, _, _, rfl, hp4, T.cT, T.t2, tF_period _, rfl, _, rfl, ?_⟩
    by_cases c : t.period = 0
    · rw [decide_eq_true (show nat t.period = V.int 0 by rw [c]; rfl)]
      refine iteF ?_
      refine fin H2 ?_ f2
      unfold rung SjF.again
      rw [if_pos c, if_pos c]
      exact hC
    · rw [decide_eq_false (show ¬ nat t.period = V.int 0 from fun z => c (by injection z with z; omega))]
      refine iteT ?_
      refine ⟨_, rfl, _, rfl, _, rfl, p, C.T, dp, _, _, rfl, hp4, T.cT, T.t2, tF_period _, _, rfl, p, C.T, dp, _, _, rfl, hp4, T.cT, T.t2, tF_period _, _, rfl, p, C.T, dp, _, _, rfl, hp4, T.cT, T.t3, tF_slack _, A, _, i, t.period, t.period, t.slack, rfl, hC,
        by show i < (h.timers.set i none).length; rw [List.length_set]; exact hi, by show (h.timers.set i none).length ≤ 64; rw [List.length_set]; omega, by show 0 < h.now + t.period; omega, by show h.now + t.period + t.slack < 2 ^ 41; omega, fun H3 hD f3 => ?_⟩
      refine fin H3 ?_ (f2.trans f3)
      unfold rung SjF.again
      rw [if_neg c, if_neg c]
      have e : (h.timers.set i none).set i (some ⟨Sj54.at_ (h.now + t.period) t.slack, t.period, t.slack, h.order⟩) = h.timers.set i (some ⟨Sj54.at_ (h.now + t.period) t.slack, t.period, t.slack, h.order⟩) := List.set_set ..
      rw [← e]
      exact hD
end
end Sj
namespace Sj
open PySem PySem.Spec PyProof.Rows L2
open Sj54 (House Sleeper)
open SjP (Kind)
/-! ### which is first -/
/-- no two things that are due have the same tick and number -/
theorem dues_inj {h : House} (k : SjF.Ok h) {to : Nat} {x y : (Nat × Nat) × Bool × Nat} (hx : x ∈ h.dues to) (hy : y ∈ h.dues to) (e : x.1 = y.1) : x = y := by
  obtain ⟨kx, bx, ix⟩ := x
  obtain ⟨ky, by_, iy⟩ := y
  simp only at e
  subst e
  rcases SjF.mem_dues.mp hx with ⟨b1, t, ht, _, e1⟩ | ⟨b1, s, hs, t, ht, _, e1, i1⟩
  · rcases SjF.mem_dues.mp hy with ⟨b2, t', ht', _, e2⟩ | ⟨b2, s', hs', t', ht', _, e2, i2⟩
    · simp only at b1 b2 ht ht' e1 e2
      rw [e1] at e2
      have eo : t.order = t'.order := congrArg Prod.snd e2
      rw [b1, b2, k.tt ix iy t t' ht ht' eo]
    · simp only at b1 b2 ht ht' e1 e2
      rw [e1] at e2
      exact absurd (congrArg Prod.snd e2) (k.ts ix t ht s' hs')
  · rcases SjF.mem_dues.mp hy with ⟨b2, t', ht', _, e2⟩ | ⟨b2, s', hs', t', ht', _, e2, i2⟩
    · simp only at b1 b2 ht ht' e1 e2
      rw [e1] at e2
      exact absurd (congrArg Prod.snd e2).symm (k.ts iy t' ht' s hs)
    · simp only at b1 b2 ht ht' e1 e2 i1 i2
      rw [e1] at e2
      have eo : s.order = s'.order := congrArg Prod.snd e2
      have es : s = s' := nd_inj k.ss hs hs' eo
      rw [b1, b2, i1, i2, es]
/-- the least of the told rows is the thing that happens first -/
theorem least_is {h : House} (k : SjF.Ok h) {to : Nat} {x : (Nat × Nat) × Bool × Nat} (hx : x ∈ h.dues to) (hm : ∀ y ∈ h.dues to, SjR.lt (key y) (key x) = false) : Sj54.least (h.dues to) = some x := by
  cases e : Sj54.least (h.dues to) with
  | none =>
    rw [SjF.least_none _ e] at hx
    cases hx
  | some z =>
    have hz := SjF.least_mem _ _ e
    have h1 := SjF.least_le _ _ e x hx
    have h2 := hm z hz
    have q : z.1 = x.1 := by
      rw [Bool.eq_false_iff, ne_eq, SjF.earlier_iff] at h1
      unfold key at h2
      rw [SjR.lt_cons] at h2
      by_cases c1 : (z.1.1 : Int) = (x.1.1 : Int)
      · rw [if_pos c1, SjR.lt_cons] at h2
        by_cases c2 : ((z.1.2 + 1 : Nat) : Int) = ((x.1.2 + 1 : Nat) : Int)
        · exact Prod.ext (by omega) (by omega)
        · rw [if_neg c2] at h2
          have := of_decide_eq_false h2
          exact Prod.ext (by omega) (by omega)
      · rw [if_neg c1] at h2
        have := of_decide_eq_false h2
        exact Prod.ext (by omega) (by omega)
    rw [dues_inj k hz hx q]
theorem at4 (a b c d : Int) (i : Nat) (v : Int) (h : [a, b, c, d][i]? = some v) : atI ([a, b, c, d].map V.int) (i : Int) = some (V.int v) := atI_nat (j := i) (by rw [List.getElem?_map, h]; rfl)
section
variable {P : Program} {w : World} {K : PySem.W.Frag} {mg : Str → Option Value} {base : Heap} {C : Cl}
def spTicks (C : Cl) : Sp := fun vs H Q _ => ∃ (A : Ad) (h : House) (to : Nat), vs = [.ref A.x, nat to] ∧ HouseAt C H A h ∧ SjF.Ok h ∧ to ≤ 1073741824 ∧ SjF.cost to h ≤ 8192 ∧ h.events.length ≤ 100000 ∧
  ∀ H', HouseAt C H' A { SjS.until_ 8192 to h with now := to } → Fr A H H' → Q .non H'
theorem scTicks : FnScope ["house", "end", "due", "first"] ["house", "end"] (defScope sTicksGoBy) := ⟨rfl, rfl, rfl, by decide +kernel, rfl, by decide +kernel, by decide +kernel⟩
/-- between two happenings: g is the house as the specification has it, whose now is still the old one -/
structure Going (C : Cl) (A : Ad) (H0 : Hp) (h : House) (to m : Nat) (H : Hp) (r : Addr) : Prop where
  it : ∃ (g : House) (n fu : Nat) (ks : List (List Int)), HouseAt C H A { g with now := n } ∧ SjF.Ok g ∧ SjF.cost to g = m ∧ m ≤ fu ∧ SjS.until_ fu to g = SjS.until_ 8192 to h ∧ g.events.length + m ≤ 110000 ∧
    Rows H r ks ∧ (∀ k, k ∈ ks ↔ ∃ x ∈ g.dues to, k = key x)
  fr : Fr A H0 H
theorem ok_ticks {f fD fT fW fN : Addr} {fd fdD fdT fdW fdN : FuncData} (F : Fun K "let_ticks_go_by" "let_ticks_go_by" sTicksGoBy f fd) (T : Txt K mg C) (D : Df K mg "due_up_to" sDueUpTo ["house", "end"] fD fdD)
    (DT : Df K mg "let_timer_happen" sTimerHappen ["house", "which"] fT fdT) (GT : FnOk P w K mg base CX0 4 fT fdT ["house", "which"] (spHappen C))
    (N : Df K mg "note_happening" sNote ["house", "sort", "who"] fN fdN) (W : Df K mg "wake_hand" sWakeHand ["house", "hand", "sort"] fW fdW) : FnOk P w K mg base CX0 5 f fd ["house", "end"] (spTicks C) := by
  have GW : FnOk P w K mg base CX0 2 fW fdW ["house", "hand", "sort"] (spWake C) := ok_wake W.F T N
  have GD : FnOk P w K mg base CX0 1 fD fdD ["house", "end"] (spDue C) := ok_due D.F T
  obtain ⟨tD, gD⟩ := T.due
  obtain ⟨tL, gL⟩ := T.lat
  refine F.ok scTicks (fun vs H Q E h => ?_) (fun cdv A0 outer s H vs Q E hr h => ?_)
  · obtain ⟨A, h, to, rfl, _⟩ := h
    rfl
  · obtain ⟨A, h, to, rfl, hA, hk, hto, hco, hev, fin⟩ := h
    refine ⟨_, pss_cons (ps_set (i := 2) scTicks.nd rfl (Or.inl rfl) (pe_call GD (hr.mono (by decide)) rfl D.g D.F.kp D.b .nil pass0 (pa_cons (pv 0) (pa_cons (pv 1) pa_nil))))
      (pss_cons (ps_while PassesOwn.never (pt_truth (pv 2) (by intro _; rfl))
        (pss_cons (ps_set (i := 3) scTicks.nd rfl (Or.inl rfl) (pe_callB (SjR.cr_minT rfl hr.units) (by rfl) T.min (by decide +kernel) (pa_cons (pv 2) pa_nil)))
        (pss_cons (ps_fld (pv 0) (pe_ix ix_tup (pv 3) pe_int (fun _ _ => rfl)) rfl)
        (pss_cons (ps_if (pt_cmpR op_eq (pe_ix ix_tup (pv 3) pe_int (fun _ _ => rfl)) (pe_glob (v := .int 0) rfl gD ⟨_, rfl⟩) (nomark _))
          (pss_one (ps_expr (pe_call GT hr rfl DT.g DT.F.kp DT.b .nil pass0 (pa_cons (pv 0) (pa_cons (pe_ix ix_tup (pv 3) pe_int (fun _ _ => rfl)) pa_nil)))))
          (pss_one (ps_expr (pe_call GW (hr.mono (by decide)) rfl W.g W.F.kp W.b .nil pass0 (pa_cons (pv 0) (pa_cons (pe_ix ix_tup (pv 3) pe_int (fun _ _ => rfl)) (pa_cons (pe_glob (v := .int 3) rfl gL ⟨_, rfl⟩) pa_nil)))))))
        (pss_one (ps_set (i := 2) scTicks.nd rfl (Or.inl rfl) (pe_call GD (hr.mono (by decide)) rfl D.g D.F.kp D.b .nil pass0 (pa_cons (pv 0) (pa_cons (pv 1) pa_nil)))))))))
      (pss_one (ps_fld (pv 0) (pv 1) rfl))), ?_⟩
    refine ⟨_, rfl, _, rfl, A, h, to, rfl, hA, by rw [hk.tl]; exact Nat.le_refl _, hk.asleep_len, fun H1 r ks sm nr rw1 mem1 => ?_⟩
    refine ⟨fun m σ H' => ∃ (r : Addr) (x : Option V), σ = [some (.ref A.x), some (nat to), some (.ref r), x] ∧ Going C A H h to m H' r,
      ⟨SjF.cost to h, r, none, rfl, ⟨⟨h, h.now, 8192, ks, hA.same sm, hk, rfl, hco, rfl, by omega, rw1, mem1⟩, Fr.of_same sm⟩⟩, ?_⟩
    rintro m σ H2 ⟨r2, x3, rfl, ⟨⟨g, n, fu, ks2, hG, kg, hc, hf, hu, hge, ⟨es, e1, e2, e3⟩, mem2⟩, fr⟩⟩
    refine ⟨_, rfl, _, .inl ⟨_, SqL.of e1, rfl⟩, ?_⟩
    cases es with
    | nil =>
      have e3' : ks2 = [] := e3.symm
      have none_due : g.dues to = [] := by
        cases q : g.dues to with
        | nil => rfl
        | cons y l =>
          have := (mem2 (key y)).mpr ⟨y, by rw [q]; exact List.mem_cons_self .., rfl⟩
          rw [e3'] at this
          cases this
      have el : Sj54.least (g.dues to) = none := by
        rw [none_due]
        rfl
      rw [SjS.until_stop el] at hu
      refine iteF ?_
      obtain ⟨dx, ob⟩ := hG.ob
      refine ⟨_, rfl, _, rfl, A.x, C.H, dx, _, rfl, ob, T.cH, T.h1, (by show 7 < 1000; decide), ?_⟩
      rw [show putF "now" (nat to) (hF A ({ g with now := n } : House).now ({ g with now := n } : House).order) = hF A to g.order from hF_putNow ..]
      have hE := hG.setObj ob to g.order
      refine fin _ ?_ (fr.trans (Fr.put (Fr.refl A H2) (by simp [Ad.six])))
      rw [← hu]
      exact hE
    | cons e0 es =>
      refine iteT ?_
      refine ⟨fun σ' H' => ∃ m', m' < m ∧ ∃ (r : Addr) (x : Option V), σ' = [some (.ref A.x), some (nat to), some (.ref r), x] ∧ Going C A H h to m' H' r, fun _ _ z => z, ?_⟩
      refine ⟨_, rfl, r2, e0 :: es, rfl, SqL.of e1, fun e he => SqT.of (e2 e he), by simp, fun e he hmin => ?_⟩
      obtain ⟨x, hx, ex⟩ := (mem2 e.1).mp (by rw [← e3]; exact List.mem_map.mpr ⟨e, he, rfl⟩)
      have hl : Sj54.least (g.dues to) = some x := least_is kg hx fun y hy => by
        have := (mem2 (key y)).mpr ⟨y, hy, rfl⟩
        rw [← e3] at this
        obtain ⟨e', he', ey⟩ := List.mem_map.mp this
        have q := hmin e' he'
        rw [ex, ey] at q
        exact q
      have he2 : H2 e.2 = some (.tup ((key x).map V.int)) := by
        rw [← ex]
        exact e2 e he
      have cx := SjS.cost_happens kg hx
      obtain ⟨kx, nowx⟩ := SjS.ok_happens kg hx
      have hfu : ∃ f', fu = f' + 1 := ⟨fu - 1, by omega⟩
      obtain ⟨f', rfl⟩ := hfu
      rw [SjS.until_go hl] at hu
      have n6 : e.2 ∉ A.six := hG.notTup he2
      have nxe : e.2 ≠ A.x := fun z => n6 (by rw [z]; simp [Ad.six])
      obtain ⟨dx, ob⟩ := hG.ob
      obtain ⟨⟨d, o⟩, b, i⟩ := x
      refine ⟨_, rfl, e.2, _, _, V.int (d : Int), rfl, rfl, SqT.of he2, at4 _ _ _ _ 0 _ rfl, _, rfl, A.x, C.H, dx, _, rfl, ob, T.cH, T.h1, (by show 7 < 1000; decide), ?_⟩
      rw [show putF "now" (V.int (d : Int)) (hF A ({ g with now := n } : House).now ({ g with now := n } : House).order) = hF A d g.order from hF_putNow ..]
      have hE := hG.setObj ob d g.order
      have he3 : upd H2 A.x (.ins C.H dx (hF A d g.order)) e.2 = some (.tup ((key ((d, o), b, i)).map V.int)) := by
        rw [upd_ne nxe]
        exact he2
      have f3 : Fr A H (upd H2 A.x (.ins C.H dx (hF A d g.order))) := fr.trans (Fr.put (Fr.refl A H2) (by simp [Ad.six]))
      generalize upd H2 A.x (.ins C.H dx (hF A d g.order)) = H3 at *
      have after : ∀ H4, HouseAt C H4 A { SjS.happens g ((d, o), b, i) with now := d } → Fr A H3 H4 → (g.events.length + 1 = (SjS.happens g ((d, o), b, i)).events.length) →
          ∃ m', m' < m ∧ ∀ H5 r5 ks5, Same H4 H5 → Rows H5 r5 ks5 → (∀ k, k ∈ ks5 ↔ ∃ x ∈ (SjS.happens g ((d, o), b, i)).dues to, k = key x) → Going C A H h to m' H5 r5 := fun H4 hF4 f4 ev4 =>
        ⟨SjF.cost to (SjS.happens g ((d, o), b, i)), by omega, fun H5 r5 ks5 sm5 rw5 mem5 => ⟨⟨_, d, f', ks5, hF4.same sm5, kx, rfl, by omega, hu, by omega, rw5, mem5⟩, (f3.trans f4).trans (Fr.of_same sm5)⟩⟩
      cases b with
      | true =>
        obtain ⟨t, ht, hd, eo⟩ : ∃ t, g.timers[i]? = some (some t) ∧ t.due ≤ to ∧ (d, o) = (t.due, t.order) := by
          rcases SjF.mem_dues.mp hx with ⟨_, t, ht, hd, e⟩ | ⟨hb, _⟩
          · exact ⟨t, ht, hd, e⟩
          · cases hb
        have ed : d = t.due := congrArg Prod.fst eo
        obtain ⟨q1, q2, q3, q4⟩ := kg.tm i t ht
        have eh := SjS.happens_timer (d := d) (o := o) ht
        refine ⟨_, rfl, e.2, _, _, V.int 0, rfl, rfl, SqT.of he3, at4 _ _ _ _ 2 _ rfl, rfl, _, rfl, ?_⟩
        refine iteT ?_
        refine ⟨_, rfl, _, rfl, e.2, _, _, V.int (i : Int), rfl, rfl, SqT.of he3, at4 _ _ _ _ 3 _ rfl, A, _, i, t, rfl, hE, ht, kg.tl, kg.cl, Nat.lt_of_le_of_lt (m := 110000) (by show g.events.length ≤ _; omega) (by decide), by show d ≤ 1073741824; omega, by omega, q3, fun H4 hF4 f4 => ?_⟩
        have hF4' : HouseAt C H4 A { SjS.happens g ((d, o), true, i) with now := d } := by
          rw [eh]
          exact hF4
        obtain ⟨m', lt', nxt⟩ := after H4 hF4' f4 (by rw [eh]; simp)
        refine ⟨_, rfl, _, rfl, A, _, to, rfl, hF4', by show (SjS.happens g ((d, o), true, i)).timers.length ≤ 64; rw [kx.tl]; exact Nat.le_refl _, kx.asleep_len, fun H5 r5 ks5 sm5 nr5 rw5 mem5 => ?_⟩
        exact ⟨m', lt', r5, _, rfl, nxt H5 r5 ks5 sm5 rw5 mem5⟩
      | false =>
        obtain ⟨q, hq, hi⟩ : ∃ q ∈ g.asleep, i = q.hand := by
          rcases SjF.mem_dues.mp hx with ⟨hb, _⟩ | ⟨_, q, hq, t, _, _, _, e⟩
          · cases hb
          · exact ⟨q, hq, e⟩
        have eh := SjS.happens_hand (h := g) (i := i) (d := d) (o := o)
        refine ⟨_, rfl, e.2, _, _, V.int 3, rfl, rfl, SqT.of he3, at4 _ _ _ _ 2 _ rfl, rfl, _, rfl, ?_⟩
        refine iteF ?_
        refine ⟨_, rfl, _, rfl, e.2, _, _, V.int (i : Int), rfl, rfl, SqT.of he3, at4 _ _ _ _ 3 _ rfl, A, _, i, 3, rfl, hE, ⟨q, hq, hi.symm⟩, by show 3 < g.counts.length; rw [kg.cl]; decide, Nat.lt_of_le_of_lt (m := 110000) (by show g.events.length ≤ _; omega) (by decide), fun H4 hF4 f4 => ?_⟩
        have hF4' : HouseAt C H4 A { SjS.happens g ((d, o), false, i) with now := d } := by
          rw [eh]
          exact hF4
        obtain ⟨m', lt', nxt⟩ := after H4 hF4' f4 (by rw [eh]; simp)
        refine ⟨_, rfl, _, rfl, A, _, to, rfl, hF4', by show (SjS.happens g ((d, o), false, i)).timers.length ≤ 64; rw [kx.tl]; exact Nat.le_refl _, kx.asleep_len, fun H5 r5 ks5 sm5 nr5 rw5 mem5 => ?_⟩
        exact ⟨m', lt', r5, _, rfl, nxt H5 r5 ks5 sm5 rw5 mem5⟩
end
end Sj
namespace Sj
open PySem PySem.Spec PyProof.Rows L2
open Sj54 (House Sleeper)
open SjP (Kind)
section
variable {P : Program} {w : World} {K : PySem.W.Frag} {mg : Str → Option Value} {base : Heap} {C : Cl}
theorem scTickA : FnScope ["house", "numbers", "end", "before"] ["house", "numbers"] (defScope sTick) := ⟨rfl, rfl, rfl, by decide +kernel, rfl, by decide +kernel, by decide +kernel⟩
theorem ok_tick {f fT : Addr} {fd fdT : FuncData} {tA t2 tM t5 : Tok} (F : Fun K "answer_tick" "answer_tick" sTick f fd) (T : Txt K mg C) (gA : mg "LAST_TICK" = some (.int 1073741824 tA)) (g2 : mg "WRONG_NUMBER" = some (.int (-2) t2)) (gM : mg "MOST_NOT_TAKEN" = some (.int 1024 tM)) (g5 : mg "TOO_MANY_NOT_TAKEN" = some (.int (-5) t5))
    (D : Df K mg "let_ticks_go_by" sTicksGoBy ["house", "end"] fT fdT) (G : FnOk P w K mg base CX0 5 fT fdT ["house", "end"] (spTicks C)) : FnOk P w K mg base CX0 6 f fd ["house", "numbers"] (spAns C K 10) := by
  refine F.ok scTickA (fun vs H Q E h => ?_) (fun cdv A0 outer s H vs Q E hr h => ?_)
  · obtain ⟨A, h, l, ns, q, rfl, _⟩ := h
    rfl
  · obtain ⟨A, h, l, ns, q, rfl, hA, hG, hl, nl, kd, tl, fin⟩ := h
    cases kd with
    | k10 a =>
    refine ⟨_, pss_cons (ps_set (i := 2) scTickA.nd rfl (Or.inl rfl) (pe_op op_add (pe_fld (pv 0) rfl) (pe_ix ix_list (pv 1) pe_int (fun _ _ => rfl))))
      (pss_cons (ps_if (pt_cmpR op_gt (pv 2) (pe_glob (v := .int 1073741824) rfl gA ⟨_, rfl⟩) (nomark _)) (pss_one (ps_ret (pe_lst (pa_cons (pe_glob (v := .int (-2)) rfl g2 ⟨_, rfl⟩) pa_nil)))) pss_nil)
      (pss_cons (ps_set (i := 3) scTickA.nd rfl (Or.inl rfl) (pe_callB call_len_seq (by rfl) T.len PySem.boot_len (pa_cons (pe_fld (pv 0) rfl) pa_nil)))
      (pss_cons (ps_if (pt_cmpR op_gt (pv 3) (pe_glob (v := .int 1024) rfl gM ⟨_, rfl⟩) (nomark _)) (pss_one (ps_ret (pe_lst (pa_cons (pe_glob (v := .int (-5)) rfl g5 ⟨_, rfl⟩) pa_nil)))) pss_nil)
      (pss_cons (ps_expr (pe_call G hr rfl D.g D.F.kp D.b .nil pass0 (pa_cons (pv 0) (pa_cons (pv 2) pa_nil))))
      (pss_one (ps_ret (pe_lst (pa_cons (pe_op op_sub (pe_callB call_len_seq (by rfl) T.len PySem.boot_len (pa_cons (pe_fld (pv 0) rfl) pa_nil)) (pv 3)) pa_nil)))))))), ?_⟩
    simp only [told, in_iff] at tl
    obtain ⟨a1, a2⟩ := tl
    have ei : Sj54.isIn 1 1000 a = true := in_iff.mpr ⟨a1, a2⟩
    obtain ⟨a, rfl⟩ := Int.eq_ofNat_of_zero_le (show 0 ≤ a by omega)
    have eon : SjS.on h (.tick (a : Int)) = if (2 : Int) ^ 30 < (h.now : Int) + (a : Int) then (h, Sj54.just (-2)) else if 1024 < h.events.length then (h, Sj54.just (-5)) else
        (SjS.tick h a, Sj54.just (Sj54.nat (SjS.tick h a).events.length - Sj54.nat h.events.length)) := by
      show (ite _ _ (ite _ _ _) : House × Sj54.Ans) = _
      rw [ei]
      show (ite ((false || decide ((2 : Int) ^ 30 < (h.now : Int) + (a : Int))) = true) _ (ite _ _ _) : House × Sj54.Ans) = _
      rw [Bool.false_or]
      simp only [decide_eq_true_eq, Int.toNat_natCast]
    rw [eon] at fin
    obtain ⟨dx, ob⟩ := hA.ob
    obtain ⟨ee, e1, e2, e3⟩ := hA.ev
    have le : (ee.map fun e => V.ref e.2).length = h.events.length := by
      rw [List.length_map, ← e2, List.length_map]
    refine ⟨_, rfl, A.x, C.H, dx, _, _, rfl, ob, T.cH, T.h1, hF_now _ _ _, _, rfl, l, _, _, _, rfl, rfl, hl, at_int (i := 0) rfl, _, _, rfl, rfl, ?_⟩
    refine ⟨_, rfl, _, _, rfl, rfl, _, rfl, ?_⟩
    by_cases c : (2 : Int) ^ 30 < (h.now : Int) + (a : Int)
    · rw [if_pos c] at fin
      rw [decide_eq_true (show (1073741824 : Int) < (h.now : Int) + (a : Int) by omega)]
      refine iteT ⟨(by show 1 ≤ sizeLine; decide), fun r nr => ?_⟩
      exact fin _ r (hA.same (same_new nr)) (Fr.of_same (same_new nr)) (.of nr) upd_same
    · rw [if_neg c] at fin
      rw [decide_eq_false (show ¬ (1073741824 : Int) < (h.now : Int) + (a : Int) by omega)]
      refine iteF ?_
      refine ⟨_, rfl, A.x, C.H, dx, _, _, rfl, ob, T.cH, T.h5, hF_happened _ _ _, A.lH, _, rfl, .inl (SqL.of e1), ?_⟩
      rw [le]
      refine ⟨_, rfl, _, _, rfl, rfl, _, rfl, ?_⟩
      by_cases c2 : 1024 < h.events.length
      · rw [if_pos c2] at fin
        rw [decide_eq_true (show (1024 : Int) < (h.events.length : Int) by omega)]
        refine iteT ⟨(by show 1 ≤ sizeLine; decide), fun r nr => ?_⟩
        exact fin _ r (hA.same (same_new nr)) (Fr.of_same (same_new nr)) (.of nr) upd_same
      · rw [if_neg c2] at fin
        rw [decide_eq_false (show ¬ (1024 : Int) < (h.events.length : Int) by omega)]
        refine iteF ?_
        have cl := SjF.cost_le hG.ok (n := a) (by omega)
        refine ⟨_, rfl, _, rfl, A, h, h.now + a, rfl, hA, hG.ok, by omega, by omega, by omega, fun H1 hB f1 => ?_⟩
        have hB' : HouseAt C H1 A (SjS.tick h a) := hB
        obtain ⟨dx2, ob2⟩ := hB'.ob
        obtain ⟨ee2, q1, q2, q3⟩ := hB'.ev
        have le2 : (ee2.map fun e => V.ref e.2).length = (SjS.tick h a).events.length := by
          rw [List.length_map, ← q2, List.length_map]
        refine ⟨_, rfl, A.x, C.H, dx2, _, _, rfl, ob2, T.cH, T.h5, hF_happened _ _ _, A.lH, _, rfl, .inl (SqL.of q1), _, rfl, _, _, rfl, rfl, (by show 1 ≤ sizeLine; decide), fun r nr => ?_⟩
        rw [le2]
        exact fin _ r (hB'.same (same_new nr)) (f1.made nr) (.fr f1 hB' nr) upd_same
end
end Sj
namespace Sj
open PySem PySem.Spec PyProof.Rows L2
open Sj54 (House Sleeper)
open SjP (Kind)
section
variable {P : Program} {w : World} {K : PySem.W.Frag} {mg : Str → Option Value} {base h : Heap} {C : Cl}
/-- a def of the top: what k_is finds -/
theorem df_mk {x : Str} {st : Stmt} {ps : List Str} {f : Addr} {oc : Value} {od an : Option Addr} {sl : Array (Option Value)} {kV doc pm cdv ct : Value} (X : K.In h) (G : h.Ns mainGlobals mg) (a : PySem.W.nsIn K mainGlobals x = some (some (.ref f)))
    (l : K.lookup f = some ⟨oc, od, .func (PySem.W.fnOf x x (defArgs st) (defBody st) (defScope st) .none kV doc pm an cdv ct), sl⟩) (c : PySem.W.codeIn K cdv x = true) (k : PySem.W.keepIn K (.ref f) = true)
    (b : ∀ (kV doc pm : Value) (an : Option Addr) (cdv ct : Value) (us : List Value), us.length = ps.length → bindArgs (PySem.W.fnOf x x (defArgs st) (defBody st) (defScope st) .none kV doc pm an cdv ct) ⟨us, []⟩ = pure (ps.zip us)) :
    Df K mg x st ps f (PySem.W.fnOf x x (defArgs st) (defBody st) (defScope st) .none kV doc pm an cdv ct) :=
  have F := fun_mk (st := st) l c k
  ⟨F, F.binds b, PySem.W.mg_of X G a⟩
/-- a class of the top, its __init__ -/
structure Cs (K : PySem.W.Frag) (mg : Str → Option Value) (x qual : Str) (st : Stmt) (ps : List Str) (C f : Addr) (fd : FuncData) : Prop where
  cl : Cls K C
  g : mg x = some (.ref C)
  F : Fun K "__init__" qual st f fd
  b : Binds K fd ps []
  M : Mk K C f
theorem cs_mk {x qual : Str} {st : Stmt} {ps : List Str} {C f : Addr} {oc : Value} {od an : Option Addr} {sl : Array (Option Value)} {kV doc pm cdv ct : Value} (X : K.In h) (G : h.Ns mainGlobals mg) (a : PySem.W.nsIn K mainGlobals x = some (some (.ref C)))
    (a1 : PySem.W.findIn K (.ref C) "__init__" = some (some (.ref f))) (i1 : PySem.W.isFn K (.ref f) = true)
    (l : K.lookup f = some ⟨oc, od, .func (PySem.W.fnOf "__init__" qual (defArgs st) (defBody st) (defScope st) .none kV doc pm an cdv ct), sl⟩) (c : PySem.W.codeIn K cdv qual = true) (k : PySem.W.keepIn K (.ref f) = true)
    (pg : PySem.W.plainGet K C Str.empty = true) (hd : PySem.W.hasDictIn K C = true) (po : PySem.W.plainOver K C = true) (sa : PySem.W.findIn K (.ref C) "__setattr__" = some (some (.builtin "object.__setattr__"))) (mk : PySem.W.makesIn K C = true) (kc : PySem.W.keepIn K (.ref C) = true)
    (b : ∀ (kV doc pm : Value) (an : Option Addr) (cdv ct : Value) (us : List Value), us.length = ps.length → bindArgs (PySem.W.fnOf "__init__" qual (defArgs st) (defBody st) (defScope st) .none kV doc pm an cdv ct) ⟨us, []⟩ = pure (ps.zip us)) :
    Cs K mg x qual st ps C f (PySem.W.fnOf "__init__" qual (defArgs st) (defBody st) (defScope st) .none kV doc pm an cdv ct) :=
  have F := fun_mk (st := st) l c k
  ⟨⟨pg, hd, po, sa⟩, PySem.W.mg_of X G a, F, F.binds b, ⟨mk, a1, i1, kc⟩⟩
/-- a tuple of defs of the written part -/
theorem row_tup {t : Addr} {fs : List Addr} {n : Nat} (l : K.lookup t = some { cls := .type "tuple", data := .seq (fs.map Value.ref).toArray n }) (hl : fs.length ≤ 64) : ∀ H, SqT K H t (fs.map V.ref) := fun H =>
  .inr ⟨_, _, n, l, rfl, rfl, by rw [List.size_toArray, List.length_map]; exact Nat.le_trans hl (by decide), by
    clear l hl
    show Vals (fs.map V.ref) (fs.map Value.ref)
    induction fs with
    | nil => exact .nil
    | cons a fs ih => exact .cons rfl ih⟩
def keyOk (e : DictEntry) : Bool := match e.key with
  | .int i _ => e.hash == hashInt i
  | _ => false
theorem intKeys_of : ∀ {l : List DictEntry}, l.all keyOk = true → SjR.IntKeys l
  | [], _ => trivial
  | e :: l, h => by
    rw [List.all_cons, Bool.and_eq_true] at h
    refine ⟨?_, intKeys_of h.2⟩
    obtain ⟨h1, _⟩ := h
    unfold keyOk at h1
    split at h1
    · rename_i i t e1
      exact ⟨i, t, e1, eq_of_beq h1⟩
    · cases h1
theorem intDict_of {d : Addr} {es : Array DictEntry} {n : Nat} {i : Int} {u : Value} (l : K.lookup d = some { cls := .type "dict", data := .dict es n }) (h : es.toList.all keyOk = true) (f : findBy Value.isInt es i = some u) : SjR.IntDict K d i u := ⟨es, n, l, intKeys_of h, f⟩
theorem got {d : Addr} {o : Obj} (x : Str) (X : K.In h) (G : h.Ns mainGlobals mg) (a1 : PySem.W.nsIn K mainGlobals x = some (some (.ref d))) (a2 : K.lookup d = some o) : mg x = some (.ref d) ∧ K.lookup d = some o := ⟨PySem.W.mg_of X G a1, a2⟩
theorem gots {v : Value} (x : Str) (X : K.In h) (G : h.Ns mainGlobals mg) (a1 : PySem.W.nsIn K mainGlobals x = some (some v)) : mg x = some v := PySem.W.mg_of X G a1
end
end Sj
namespace Sj
open PySem PySem.Spec PyProof.Rows L2
open Sj54 (House Sleeper)
open SjP (Kind)
/-- a call's row in the two tables, by addresses -/
structure Tb (K : PySem.W.Frag) (dN dA : Addr) (p : Int) (fs : List Addr) (fa : Addr) : Prop where
  num : ∃ tp, SjR.IntDict K dN p (.ref tp) ∧ ∀ H, SqT K H tp (fs.map V.ref)
  ans : SjR.IntDict K dA p (.ref fa)
section
variable {P : Program} {w : World} {K : PySem.W.Frag} {mg : Str → Option Value} {base : Heap} {C : Cl}
theorem Df.raw {x : Str} {st : Stmt} {ps : List Str} {f : Addr} {fd : FuncData} {j k : Nat} {sp : Sp} (D : Df K mg x st ps f fd) (G : FnOk P w K mg base CX0 j f fd ps sp) (h : j ≤ k) : FnR P w K mg base CX0 k f sp :=
  ((G.raw D.b .nil).imp fun vs H Q E z => by rw [List.append_nil]; exact z).mono h
theorem Df.chk {x : Str} {st : Stmt} {f : Addr} {fd : FuncData} {pr : Int → Bool} (D : Df K mg x st ["number"] f fd) (G : FnOk P w K mg base CX0 1 f fd ["number"] (spIs pr)) : IsChk P w K mg base ⟨f, pr⟩ := ⟨D.raw G (Nat.le_refl _), D.F.kp⟩
theorem Tb.row {dN dA fa : Addr} {p : Int} {cs : List Chk} (t : Tb K dN dA p (cs.map (·.f)) fa) {x : Str} {st : Stmt} {fd : FuncData} {j : Nat} (D : Df K mg x st ["house", "numbers"] fa fd) (G : FnOk P w K mg base CX0 j fa fd ["house", "numbers"] (spAns C K p)) (hj : j ≤ 6)
    (hc : ∀ c ∈ cs, IsChk P w K mg base c) (ha : ∀ ns : List Int, ns.length = cs.length → ((cs.zip ns).all fun x => x.1.pr x.2) = told p ns) : ∃ tp, Row P w K mg base C dN dA 6 p cs.length tp cs fa := by
  obtain ⟨tp, h1, h2⟩ := t.num
  refine ⟨tp, h1, fun H => ?_, rfl, hc, ha, t.ans, D.raw G hj, D.F.kp⟩
  have := h2 H
  rw [List.map_map] at this
  exact this
theorem all_ok {f_is_timer f_is_hand f_is_word f_is_delay f_is_period f_is_slack f_is_content f_is_choice f_is_span f_is_hand_count f_is_tick_count f_moved_a_little f_next_place f_note_happening f_put_timer f_wake_hand f_move_hand f_hands_asleep_at f_store_in_word f_due_up_to f_let_timer_happen f_let_ticks_go_by f_ticks_till_late f_answer_set f_answer_stop f_answer_left f_answer_sleep f_answer_store f_answer_add f_answer_wake f_answer_move f_answer_tick f_answer_next f_answer_hand f_answer_word f_answer_counts f_are_as_told f_answer_in_house f_answers i_Timer i_Sleeper i_House dN dA t1 : Addr} {fd_is_timer fd_is_hand fd_is_word fd_is_delay fd_is_period fd_is_slack fd_is_content fd_is_choice fd_is_span fd_is_hand_count fd_is_tick_count fd_moved_a_little fd_next_place fd_note_happening fd_put_timer fd_wake_hand fd_move_hand fd_hands_asleep_at fd_store_in_word fd_due_up_to fd_let_timer_happen fd_let_ticks_go_by fd_ticks_till_late fd_answer_set fd_answer_stop fd_answer_left fd_answer_sleep fd_answer_store fd_answer_add fd_answer_wake fd_answer_move fd_answer_tick fd_answer_next fd_answer_hand fd_answer_word fd_answer_counts fd_are_as_told fd_answer_in_house fd_answers id_Timer id_Sleeper id_House : FuncData} {k_OPENING k_WRONG_NUMBER k_ALREADY_ASLEEP k_TOO_MANY_NOT_TAKEN k_NOT_THERE k_NO_HOUSE k_TIMER_DUE k_STORED_IN k_WOKEN k_LATE k_WORD_LIMIT k_LONGEST k_LAST_TICK k_MOST_NOT_TAKEN : Tok} (T : Txt K mg C)
    (c_Timer : Cs K mg "Timer" "Timer.__init__" sTimerInit ["self", "due", "period", "slack", "place"] C.T i_Timer id_Timer)
    (c_Sleeper : Cs K mg "Sleeper" "Sleeper.__init__" sSleeperInit ["self", "word", "watches", "late_at", "place"] C.S i_Sleeper id_Sleeper)
    (c_House : Cs K mg "House" "House.__init__" sHouseInit ["self"] C.H i_House id_House)
    (d_is_timer : Df K mg "is_timer" sIsTimer ["number"] f_is_timer fd_is_timer)
    (d_is_hand : Df K mg "is_hand" sIsHand ["number"] f_is_hand fd_is_hand)
    (d_is_word : Df K mg "is_word" sIsWord ["number"] f_is_word fd_is_word)
    (d_is_delay : Df K mg "is_delay" sIsDelay ["number"] f_is_delay fd_is_delay)
    (d_is_period : Df K mg "is_period" sIsPeriod ["number"] f_is_period fd_is_period)
    (d_is_slack : Df K mg "is_slack" sIsSlack ["number"] f_is_slack fd_is_slack)
    (d_is_content : Df K mg "is_content" sIsContent ["number"] f_is_content fd_is_content)
    (d_is_choice : Df K mg "is_choice" sIsChoice ["number"] f_is_choice fd_is_choice)
    (d_is_span : Df K mg "is_span" sIsSpan ["number"] f_is_span fd_is_span)
    (d_is_hand_count : Df K mg "is_hand_count" sIsHandCount ["number"] f_is_hand_count fd_is_hand_count)
    (d_is_tick_count : Df K mg "is_tick_count" sIsTickCount ["number"] f_is_tick_count fd_is_tick_count)
    (d_moved_a_little : Df K mg "moved_a_little" sMoved ["earliest", "slack"] f_moved_a_little fd_moved_a_little)
    (d_next_place : Df K mg "next_place" sNextPlace ["house"] f_next_place fd_next_place)
    (d_note_happening : Df K mg "note_happening" sNote ["house", "sort", "who"] f_note_happening fd_note_happening)
    (d_put_timer : Df K mg "put_timer" sPutTimer ["house", "which", "delay", "period", "slack"] f_put_timer fd_put_timer)
    (d_wake_hand : Df K mg "wake_hand" sWakeHand ["house", "hand", "sort"] f_wake_hand fd_wake_hand)
    (d_move_hand : Df K mg "move_hand" sMoveHand ["house", "hand", "word"] f_move_hand fd_move_hand)
    (d_hands_asleep_at : Df K mg "hands_asleep_at" sAsleepAt ["house", "word", "watches"] f_hands_asleep_at fd_hands_asleep_at)
    (d_store_in_word : Df K mg "store_in_word" sStoreIn ["house", "word", "number"] f_store_in_word fd_store_in_word)
    (d_due_up_to : Df K mg "due_up_to" sDueUpTo ["house", "end"] f_due_up_to fd_due_up_to)
    (d_let_timer_happen : Df K mg "let_timer_happen" sTimerHappen ["house", "which"] f_let_timer_happen fd_let_timer_happen)
    (d_let_ticks_go_by : Df K mg "let_ticks_go_by" sTicksGoBy ["house", "end"] f_let_ticks_go_by fd_let_ticks_go_by)
    (d_ticks_till_late : Df K mg "ticks_till_late" sTillLate ["house", "sleeper"] f_ticks_till_late fd_ticks_till_late)
    (d_answer_set : Df K mg "answer_set" sSet ["house", "numbers"] f_answer_set fd_answer_set)
    (d_answer_stop : Df K mg "answer_stop" sStop ["house", "numbers"] f_answer_stop fd_answer_stop)
    (d_answer_left : Df K mg "answer_left" sLeft ["house", "numbers"] f_answer_left fd_answer_left)
    (d_answer_sleep : Df K mg "answer_sleep" sSleep ["house", "numbers"] f_answer_sleep fd_answer_sleep)
    (d_answer_store : Df K mg "answer_store" sStore ["house", "numbers"] f_answer_store fd_answer_store)
    (d_answer_add : Df K mg "answer_add" sAdd ["house", "numbers"] f_answer_add fd_answer_add)
    (d_answer_wake : Df K mg "answer_wake" sWake ["house", "numbers"] f_answer_wake fd_answer_wake)
    (d_answer_move : Df K mg "answer_move" sMove ["house", "numbers"] f_answer_move fd_answer_move)
    (d_answer_tick : Df K mg "answer_tick" sTick ["house", "numbers"] f_answer_tick fd_answer_tick)
    (d_answer_next : Df K mg "answer_next" sNext ["house", "numbers"] f_answer_next fd_answer_next)
    (d_answer_hand : Df K mg "answer_hand" sHand ["house", "numbers"] f_answer_hand fd_answer_hand)
    (d_answer_word : Df K mg "answer_word" sWord ["house", "numbers"] f_answer_word fd_answer_word)
    (d_answer_counts : Df K mg "answer_counts" sCounts ["house", "numbers"] f_answer_counts fd_answer_counts)
    (d_are_as_told : Df K mg "are_as_told" sTold ["call", "numbers"] f_are_as_told fd_are_as_told)
    (d_answer_in_house : Df K mg "answer_in_house" sInHouse ["house", "call", "numbers"] f_answer_in_house fd_answer_in_house)
    (d_answers : Df K mg "answers" sAnswers ["calls"] f_answers fd_answers)
    (g_OPENING : mg "OPENING" = some (.int 1 k_OPENING))
    (g_WRONG_NUMBER : mg "WRONG_NUMBER" = some (.int (-2) k_WRONG_NUMBER))
    (g_ALREADY_ASLEEP : mg "ALREADY_ASLEEP" = some (.int (-4) k_ALREADY_ASLEEP))
    (g_TOO_MANY_NOT_TAKEN : mg "TOO_MANY_NOT_TAKEN" = some (.int (-5) k_TOO_MANY_NOT_TAKEN))
    (g_NOT_THERE : mg "NOT_THERE" = some (.int (-6) k_NOT_THERE))
    (g_NO_HOUSE : mg "NO_HOUSE" = some (.int (-7) k_NO_HOUSE))
    (g_TIMER_DUE : mg "TIMER_DUE" = some (.int 0 k_TIMER_DUE))
    (g_STORED_IN : mg "STORED_IN" = some (.int 1 k_STORED_IN))
    (g_WOKEN : mg "WOKEN" = some (.int 2 k_WOKEN))
    (g_LATE : mg "LATE" = some (.int 3 k_LATE))
    (g_WORD_LIMIT : mg "WORD_LIMIT" = some (.int 4294967296 k_WORD_LIMIT))
    (g_LONGEST : mg "LONGEST" = some (.int 16777216 k_LONGEST))
    (g_LAST_TICK : mg "LAST_TICK" = some (.int 1073741824 k_LAST_TICK))
    (g_MOST_NOT_TAKEN : mg "MOST_NOT_TAKEN" = some (.int 1024 k_MOST_NOT_TAKEN))
    (gN : mg "NUMBERS" = some (.ref dN)) (gA : mg "ANSWERS" = some (.ref dA)) (r1 : SjR.IntDict K dN 1 (.ref t1)) (r2 : ∀ H, SqT K H t1 [])
    (tb2 : Tb K dN dA 2 [f_is_timer, f_is_delay, f_is_period, f_is_slack] f_answer_set)
    (tb3 : Tb K dN dA 3 [f_is_timer] f_answer_stop)
    (tb4 : Tb K dN dA 4 [f_is_timer] f_answer_left)
    (tb5 : Tb K dN dA 5 [f_is_hand, f_is_word, f_is_content, f_is_choice, f_is_span] f_answer_sleep)
    (tb6 : Tb K dN dA 6 [f_is_word, f_is_content] f_answer_store)
    (tb7 : Tb K dN dA 7 [f_is_word, f_is_content] f_answer_add)
    (tb8 : Tb K dN dA 8 [f_is_word, f_is_hand_count] f_answer_wake)
    (tb9 : Tb K dN dA 9 [f_is_word, f_is_word, f_is_hand_count] f_answer_move)
    (tb10 : Tb K dN dA 10 [f_is_tick_count] f_answer_tick)
    (tb11 : Tb K dN dA 11 [] f_answer_next)
    (tb12 : Tb K dN dA 12 [f_is_hand] f_answer_hand)
    (tb13 : Tb K dN dA 13 [f_is_word] f_answer_word)
    (tb14 : Tb K dN dA 14 [] f_answer_counts)
    : FnOk P w K mg base CX0 8 f_answers fd_answers ["calls"] (spAnswers K) := by
  have h_is_timer : IsChk P w K mg base ⟨f_is_timer, Sj54.isIn 0 63⟩ := d_is_timer.chk (ok_isTimer d_is_timer.F)
  have h_is_hand : IsChk P w K mg base ⟨f_is_hand, Sj54.isIn 0 15⟩ := d_is_hand.chk (ok_isHand d_is_hand.F)
  have h_is_word : IsChk P w K mg base ⟨f_is_word, Sj54.isIn 0 63⟩ := d_is_word.chk (ok_isWord d_is_word.F)
  have h_is_delay : IsChk P w K mg base ⟨f_is_delay, Sj54.isIn 1 16777216⟩ := d_is_delay.chk (ok_isDelay d_is_delay.F g_LONGEST)
  have h_is_period : IsChk P w K mg base ⟨f_is_period, fun p => p == 0 || Sj54.isIn 16 16777216 p⟩ := d_is_period.chk (ok_isPeriod d_is_period.F g_LONGEST)
  have h_is_slack : IsChk P w K mg base ⟨f_is_slack, Sj54.isIn 0 65535⟩ := d_is_slack.chk (ok_isSlack d_is_slack.F)
  have h_is_content : IsChk P w K mg base ⟨f_is_content, Sj54.isIn 0 4294967295⟩ := d_is_content.chk (ok_isContent d_is_content.F g_WORD_LIMIT)
  have h_is_choice : IsChk P w K mg base ⟨f_is_choice, Sj54.isIn 0 1⟩ := d_is_choice.chk (ok_isChoice d_is_choice.F)
  have h_is_span : IsChk P w K mg base ⟨f_is_span, Sj54.isIn 0 16777216⟩ := d_is_span.chk (ok_isSpan d_is_span.F g_LONGEST)
  have h_is_hand_count : IsChk P w K mg base ⟨f_is_hand_count, Sj54.isIn 0 16⟩ := d_is_hand_count.chk (ok_isHandCount d_is_hand_count.F)
  have h_is_tick_count : IsChk P w K mg base ⟨f_is_tick_count, Sj54.isIn 1 1000⟩ := d_is_tick_count.chk (ok_isTickCount d_is_tick_count.F)
  have G_put := ok_put (P := P) (w := w) (base := base) d_put_timer.F T c_Timer.M c_Timer.F c_Timer.b d_moved_a_little d_next_place
  have G_store := ok_store (P := P) (w := w) (base := base) d_store_in_word.F T d_note_happening d_wake_hand d_hands_asleep_at
  have G_happen := ok_happen (P := P) (w := w) (base := base) d_let_timer_happen.F T d_note_happening d_put_timer G_put
  have G_ticks := ok_ticks (P := P) (w := w) (base := base) d_let_ticks_go_by.F T d_due_up_to d_let_timer_happen G_happen d_note_happening d_wake_hand
  have A2 := ok_set (P := P) (w := w) (base := base) d_answer_set.F T d_put_timer G_put
  have A3 := ok_stop (P := P) (w := w) (base := base) d_answer_stop.F T
  have A4 := ok_left (P := P) (w := w) (base := base) d_answer_left.F T g_NOT_THERE
  have A5 := ok_sleep (P := P) (w := w) (base := base) d_answer_sleep.F T g_ALREADY_ASLEEP c_Sleeper.M c_Sleeper.F c_Sleeper.b d_next_place
  have A6 := ok_storeA (P := P) (w := w) (base := base) d_answer_store.F d_store_in_word G_store
  have A7 := ok_add (P := P) (w := w) (base := base) d_answer_add.F T d_store_in_word G_store
  have A8 := ok_wakeA (P := P) (w := w) (base := base) d_answer_wake.F T d_note_happening d_wake_hand d_hands_asleep_at
  have A9 := ok_moveA (P := P) (w := w) (base := base) d_answer_move.F T d_move_hand d_hands_asleep_at
  have A10 := ok_tick (P := P) (w := w) (base := base) d_answer_tick.F T g_LAST_TICK g_WRONG_NUMBER g_MOST_NOT_TAKEN g_TOO_MANY_NOT_TAKEN d_let_ticks_go_by G_ticks
  have A11 := ok_next (P := P) (w := w) (base := base) d_answer_next.F T g_NOT_THERE
  have A12 := ok_hand (P := P) (w := w) (base := base) d_answer_hand.F T d_ticks_till_late
  have A13 := ok_word (P := P) (w := w) (base := base) d_answer_word.F T d_hands_asleep_at
  have A14 := ok_counts (P := P) (w := w) (base := base) d_answer_counts.F T
  have R2 := Tb.row (cs := [⟨f_is_timer, Sj54.isIn 0 63⟩, ⟨f_is_delay, Sj54.isIn 1 16777216⟩, ⟨f_is_period, fun p => p == 0 || Sj54.isIn 16 16777216 p⟩, ⟨f_is_slack, Sj54.isIn 0 65535⟩]) tb2 d_answer_set A2 (by decide) (fun c hc => by
    simp only [List.mem_cons, List.not_mem_nil, or_false] at hc
    rcases hc with rfl | rfl | rfl | rfl
    · exact h_is_timer
    · exact h_is_delay
    · exact h_is_period
    · exact h_is_slack) (fun ns hn => by
      obtain ⟨a, b, c, d, rfl⟩ : ∃ a b c d : Int, ns = [a, b, c, d] := by
        match ns, hn with
        | [a, b, c, d], _ => exact ⟨a, b, c, d, rfl⟩
      simp [told])
  have R3 := Tb.row (cs := [⟨f_is_timer, Sj54.isIn 0 63⟩]) tb3 d_answer_stop A3 (by decide) (fun c hc => by
    simp only [List.mem_cons, List.not_mem_nil, or_false] at hc
    rw [hc]
    exact h_is_timer) (fun ns hn => by
      obtain ⟨a, rfl⟩ : ∃ a : Int, ns = [a] := by
        match ns, hn with
        | [a], _ => exact ⟨a, rfl⟩
      simp [told])
  have R4 := Tb.row (cs := [⟨f_is_timer, Sj54.isIn 0 63⟩]) tb4 d_answer_left A4 (by decide) (fun c hc => by
    simp only [List.mem_cons, List.not_mem_nil, or_false] at hc
    rw [hc]
    exact h_is_timer) (fun ns hn => by
      obtain ⟨a, rfl⟩ : ∃ a : Int, ns = [a] := by
        match ns, hn with
        | [a], _ => exact ⟨a, rfl⟩
      simp [told])
  have R5 := Tb.row (cs := [⟨f_is_hand, Sj54.isIn 0 15⟩, ⟨f_is_word, Sj54.isIn 0 63⟩, ⟨f_is_content, Sj54.isIn 0 4294967295⟩, ⟨f_is_choice, Sj54.isIn 0 1⟩, ⟨f_is_span, Sj54.isIn 0 16777216⟩]) tb5 d_answer_sleep A5 (by decide) (fun c hc => by
    simp only [List.mem_cons, List.not_mem_nil, or_false] at hc
    rcases hc with rfl | rfl | rfl | rfl | rfl
    · exact h_is_hand
    · exact h_is_word
    · exact h_is_content
    · exact h_is_choice
    · exact h_is_span) (fun ns hn => by
      obtain ⟨a, b, c, d, e, rfl⟩ : ∃ a b c d e : Int, ns = [a, b, c, d, e] := by
        match ns, hn with
        | [a, b, c, d, e], _ => exact ⟨a, b, c, d, e, rfl⟩
      simp [told])
  have R6 := Tb.row (cs := [⟨f_is_word, Sj54.isIn 0 63⟩, ⟨f_is_content, Sj54.isIn 0 4294967295⟩]) tb6 d_answer_store A6 (by decide) (fun c hc => by
    simp only [List.mem_cons, List.not_mem_nil, or_false] at hc
    rcases hc with rfl | rfl
    · exact h_is_word
    · exact h_is_content) (fun ns hn => by
      obtain ⟨a, b, rfl⟩ : ∃ a b : Int, ns = [a, b] := by
        match ns, hn with
        | [a, b], _ => exact ⟨a, b, rfl⟩
      simp [told])
  have R7 := Tb.row (cs := [⟨f_is_word, Sj54.isIn 0 63⟩, ⟨f_is_content, Sj54.isIn 0 4294967295⟩]) tb7 d_answer_add A7 (by decide) (fun c hc => by
    simp only [List.mem_cons, List.not_mem_nil, or_false] at hc
    rcases hc with rfl | rfl
    · exact h_is_word
    · exact h_is_content) (fun ns hn => by
      obtain ⟨a, b, rfl⟩ : ∃ a b : Int, ns = [a, b] := by
        match ns, hn with
        | [a, b], _ => exact ⟨a, b, rfl⟩
      simp [told])
  have R8 := Tb.row (cs := [⟨f_is_word, Sj54.isIn 0 63⟩, ⟨f_is_hand_count, Sj54.isIn 0 16⟩]) tb8 d_answer_wake A8 (by decide) (fun c hc => by
    simp only [List.mem_cons, List.not_mem_nil, or_false] at hc
    rcases hc with rfl | rfl
    · exact h_is_word
    · exact h_is_hand_count) (fun ns hn => by
      obtain ⟨a, b, rfl⟩ : ∃ a b : Int, ns = [a, b] := by
        match ns, hn with
        | [a, b], _ => exact ⟨a, b, rfl⟩
      simp [told])
  have R9 := Tb.row (cs := [⟨f_is_word, Sj54.isIn 0 63⟩, ⟨f_is_word, Sj54.isIn 0 63⟩, ⟨f_is_hand_count, Sj54.isIn 0 16⟩]) tb9 d_answer_move A9 (by decide) (fun c hc => by
    simp only [List.mem_cons, List.not_mem_nil, or_false] at hc
    rcases hc with rfl | rfl | rfl
    · exact h_is_word
    · exact h_is_word
    · exact h_is_hand_count) (fun ns hn => by
      obtain ⟨a, b, c, rfl⟩ : ∃ a b c : Int, ns = [a, b, c] := by
        match ns, hn with
        | [a, b, c], _ => exact ⟨a, b, c, rfl⟩
      simp [told])
  have R10 := Tb.row (cs := [⟨f_is_tick_count, Sj54.isIn 1 1000⟩]) tb10 d_answer_tick A10 (by decide) (fun c hc => by
    simp only [List.mem_cons, List.not_mem_nil, or_false] at hc
    rw [hc]
    exact h_is_tick_count) (fun ns hn => by
      obtain ⟨a, rfl⟩ : ∃ a : Int, ns = [a] := by
        match ns, hn with
        | [a], _ => exact ⟨a, rfl⟩
      simp [told])
  have R11 := Tb.row (cs := []) tb11 d_answer_next A11 (by decide) (fun c hc => by
    cases hc) (fun ns hn => by
      cases ns with
      | nil => rfl
      | cons a l => cases hn)
  have R12 := Tb.row (cs := [⟨f_is_hand, Sj54.isIn 0 15⟩]) tb12 d_answer_hand A12 (by decide) (fun c hc => by
    simp only [List.mem_cons, List.not_mem_nil, or_false] at hc
    rw [hc]
    exact h_is_hand) (fun ns hn => by
      obtain ⟨a, rfl⟩ : ∃ a : Int, ns = [a] := by
        match ns, hn with
        | [a], _ => exact ⟨a, rfl⟩
      simp [told])
  have R13 := Tb.row (cs := [⟨f_is_word, Sj54.isIn 0 63⟩]) tb13 d_answer_word A13 (by decide) (fun c hc => by
    simp only [List.mem_cons, List.not_mem_nil, or_false] at hc
    rw [hc]
    exact h_is_word) (fun ns hn => by
      obtain ⟨a, rfl⟩ : ∃ a : Int, ns = [a] := by
        match ns, hn with
        | [a], _ => exact ⟨a, rfl⟩
      simp [told])
  have R14 := Tb.row (cs := []) tb14 d_answer_counts A14 (by decide) (fun c hc => by
    cases hc) (fun ns hn => by
      cases ns with
      | nil => rfl
      | cons a l => cases hn)
  have tabs : Tabs P w K mg base C dN dA 6 := by
    intro p ns q k hp
    cases k with
    | k1 => exact absurd rfl hp
    | k2 a b c d => exact let ⟨tp, r⟩ := R2; ⟨tp, _, _, r⟩
    | k3 a => exact let ⟨tp, r⟩ := R3; ⟨tp, _, _, r⟩
    | k4 a => exact let ⟨tp, r⟩ := R4; ⟨tp, _, _, r⟩
    | k5 a b c d e h => exact let ⟨tp, r⟩ := R5; ⟨tp, _, _, r⟩
    | k6 a b h => exact let ⟨tp, r⟩ := R6; ⟨tp, _, _, r⟩
    | k7 a b h => exact let ⟨tp, r⟩ := R7; ⟨tp, _, _, r⟩
    | k8 a b => exact let ⟨tp, r⟩ := R8; ⟨tp, _, _, r⟩
    | k9 a b c => exact let ⟨tp, r⟩ := R9; ⟨tp, _, _, r⟩
    | k10 a => exact let ⟨tp, r⟩ := R10; ⟨tp, _, _, r⟩
    | k11 => exact let ⟨tp, r⟩ := R11; ⟨tp, _, _, r⟩
    | k12 a => exact let ⟨tp, r⟩ := R12; ⟨tp, _, _, r⟩
    | k13 a => exact let ⟨tp, r⟩ := R13; ⟨tp, _, _, r⟩
    | k14 => exact let ⟨tp, r⟩ := R14; ⟨tp, _, _, r⟩
  have G_in := ok_inHouse (P := P) (w := w) (base := base) (lv := 6) (by decide) d_answer_in_house.F T gN gA d_are_as_told g_NO_HOUSE g_WRONG_NUMBER tabs
  exact ok_answers (lv := 6) (by decide) d_answers.F T gN g_OPENING d_answer_in_house G_in c_House.M c_House.F c_House.b r1 r2 tabs
end
end Sj
namespace Sj
open PySem PySem.Spec PyProof.Rows L2
section
variable {K : PySem.W.Frag}
theorem na {C : Addr} {f : Str} (h : PySem.W.findIn K (.ref C) f = some none) : NoAttr K C f := h
theorem tb_mk {dN dA tp fa : Addr} {eN eA : Array DictEntry} {nN nA n : Nat} {p : Int} {fs : List Addr} {arr : Array Value} (lN : K.lookup dN = some { cls := .type "dict", data := .dict eN nN }) (lA : K.lookup dA = some { cls := .type "dict", data := .dict eA nA })
    (kN : eN.toList.all keyOk = true) (kA : eA.toList.all keyOk = true) (fN : findBy Value.isInt eN p = some (.ref tp)) (fA : findBy Value.isInt eA p = some (.ref fa)) (lt : K.lookup tp = some { cls := .type "tuple", data := .seq arr n }) (ha : arr = (fs.map Value.ref).toArray) (hl : fs.length ≤ 64) : Tb K dN dA p fs fa := by
  subst ha
  exact ⟨⟨tp, intDict_of lN kN fN, row_tup lt hl⟩, intDict_of lA kA fA⟩
theorem r1_mk {dN t1 : Addr} {eN : Array DictEntry} {nN n : Nat} {arr : Array Value} (lN : K.lookup dN = some { cls := .type "dict", data := .dict eN nN }) (kN : eN.toList.all keyOk = true) (fN : findBy Value.isInt eN 1 = some (.ref t1))
    (lt : K.lookup t1 = some { cls := .type "tuple", data := .seq arr n }) (ha : arr = #[]) : SjR.IntDict K dN 1 (.ref t1) ∧ ∀ H, SqT K H t1 [] := by
  subst ha
  exact ⟨intDict_of lN kN fN, row_tup (fs := []) lt (by decide)⟩
theorem fin_mk {P : Program} {w : World} {mg : Str → Option Value} {x : Str} {st : Stmt} {ps : List Str} {f : Addr} {fd : FuncData} {k : Nat} {sp : Sp} (_ : Df K mg x st ps f fd) (b : ∀ (s : Shared) (us : List Value), us.length = ps.length → BindsTo s fd ⟨us, []⟩ (ps.zip us))
    (G : ∀ base : Heap, K.In base → base.Ns mainGlobals mg → FnOk P w K mg base CX0 k f fd ps sp) : ∃ fd : FuncData, (∀ (s : Shared) (us : List Value), us.length = ps.length → BindsTo s fd ⟨us, []⟩ (ps.zip us)) ∧ ∀ base : Heap, K.In base → base.Ns mainGlobals mg → FnOk P w K mg base CX0 k f fd ps sp := ⟨fd, b, G⟩
end
end Sj
open PySem PySem.W PySem.Spec PyProof.Rows
set_option Elab.async false
set_option maxRecDepth 100000 in
set_option maxHeartbeats 8000000 in
theorem PySem.Challenge.cw_sleepers_s01_answers_holds : PySem.Challenge.rw_sleepers_s01_answers.Holds := by
  w_on; k_headS; (case hw => exact ⟨[.list [.int 1]], by decide +kernel, by decide +kernel⟩)
  k_fillS
  refine L2.walk_specK (r := PySem.Challenge.rw_sleepers_s01_answers) (k := 8) (CX := L2.CX0) (ps := ["calls"]) (sp := Sj.spAnswers) (by decide +kernel) rfl rfl ⟨rfl, by decide, by decide⟩ (fun w h Y => PySem.W.kIn_of Y) ?F ?S (fun _ _ _ _ z => z)
  case F =>
    intro w mg fa h Y KX G hmg
    have d_is_timer := Sj.df_mk (x := "is_timer") (st := Sj.sIsTimer) (ps := ["number"]) KX G (by k_is) (by k_is) (by k_is) (by k_is) (fun _ _ _ _ _ _ us hl => match us, hl with | [_], _ => rfl)
    have d_is_hand := Sj.df_mk (x := "is_hand") (st := Sj.sIsHand) (ps := ["number"]) KX G (by k_is) (by k_is) (by k_is) (by k_is) (fun _ _ _ _ _ _ us hl => match us, hl with | [_], _ => rfl)
    have d_is_word := Sj.df_mk (x := "is_word") (st := Sj.sIsWord) (ps := ["number"]) KX G (by k_is) (by k_is) (by k_is) (by k_is) (fun _ _ _ _ _ _ us hl => match us, hl with | [_], _ => rfl)
    have d_is_delay := Sj.df_mk (x := "is_delay") (st := Sj.sIsDelay) (ps := ["number"]) KX G (by k_is) (by k_is) (by k_is) (by k_is) (fun _ _ _ _ _ _ us hl => match us, hl with | [_], _ => rfl)
    have d_is_period := Sj.df_mk (x := "is_period") (st := Sj.sIsPeriod) (ps := ["number"]) KX G (by k_is) (by k_is) (by k_is) (by k_is) (fun _ _ _ _ _ _ us hl => match us, hl with | [_], _ => rfl)
    have d_is_slack := Sj.df_mk (x := "is_slack") (st := Sj.sIsSlack) (ps := ["number"]) KX G (by k_is) (by k_is) (by k_is) (by k_is) (fun _ _ _ _ _ _ us hl => match us, hl with | [_], _ => rfl)
    have d_is_content := Sj.df_mk (x := "is_content") (st := Sj.sIsContent) (ps := ["number"]) KX G (by k_is) (by k_is) (by k_is) (by k_is) (fun _ _ _ _ _ _ us hl => match us, hl with | [_], _ => rfl)
    have d_is_choice := Sj.df_mk (x := "is_choice") (st := Sj.sIsChoice) (ps := ["number"]) KX G (by k_is) (by k_is) (by k_is) (by k_is) (fun _ _ _ _ _ _ us hl => match us, hl with | [_], _ => rfl)
    have d_is_span := Sj.df_mk (x := "is_span") (st := Sj.sIsSpan) (ps := ["number"]) KX G (by k_is) (by k_is) (by k_is) (by k_is) (fun _ _ _ _ _ _ us hl => match us, hl with | [_], _ => rfl)
    have d_is_hand_count := Sj.df_mk (x := "is_hand_count") (st := Sj.sIsHandCount) (ps := ["number"]) KX G (by k_is) (by k_is) (by k_is) (by k_is) (fun _ _ _ _ _ _ us hl => match us, hl with | [_], _ => rfl)
    have d_is_tick_count := Sj.df_mk (x := "is_tick_count") (st := Sj.sIsTickCount) (ps := ["number"]) KX G (by k_is) (by k_is) (by k_is) (by k_is) (fun _ _ _ _ _ _ us hl => match us, hl with | [_], _ => rfl)
    have d_moved_a_little := Sj.df_mk (x := "moved_a_little") (st := Sj.sMoved) (ps := ["earliest", "slack"]) KX G (by k_is) (by k_is) (by k_is) (by k_is) (fun _ _ _ _ _ _ us hl => match us, hl with | [_, _], _ => rfl)
    have d_next_place := Sj.df_mk (x := "next_place") (st := Sj.sNextPlace) (ps := ["house"]) KX G (by k_is) (by k_is) (by k_is) (by k_is) (fun _ _ _ _ _ _ us hl => match us, hl with | [_], _ => rfl)
    have d_note_happening := Sj.df_mk (x := "note_happening") (st := Sj.sNote) (ps := ["house", "sort", "who"]) KX G (by k_is) (by k_is) (by k_is) (by k_is) (fun _ _ _ _ _ _ us hl => match us, hl with | [_, _, _], _ => rfl)
    have d_put_timer := Sj.df_mk (x := "put_timer") (st := Sj.sPutTimer) (ps := ["house", "which", "delay", "period", "slack"]) KX G (by k_is) (by k_is) (by k_is) (by k_is) (fun _ _ _ _ _ _ us hl => match us, hl with | [_, _, _, _, _], _ => rfl)
    have d_wake_hand := Sj.df_mk (x := "wake_hand") (st := Sj.sWakeHand) (ps := ["house", "hand", "sort"]) KX G (by k_is) (by k_is) (by k_is) (by k_is) (fun _ _ _ _ _ _ us hl => match us, hl with | [_, _, _], _ => rfl)
    have d_move_hand := Sj.df_mk (x := "move_hand") (st := Sj.sMoveHand) (ps := ["house", "hand", "word"]) KX G (by k_is) (by k_is) (by k_is) (by k_is) (fun _ _ _ _ _ _ us hl => match us, hl with | [_, _, _], _ => rfl)
    have d_hands_asleep_at := Sj.df_mk (x := "hands_asleep_at") (st := Sj.sAsleepAt) (ps := ["house", "word", "watches"]) KX G (by k_is) (by k_is) (by k_is) (by k_is) (fun _ _ _ _ _ _ us hl => match us, hl with | [_, _, _], _ => rfl)
    have d_store_in_word := Sj.df_mk (x := "store_in_word") (st := Sj.sStoreIn) (ps := ["house", "word", "number"]) KX G (by k_is) (by k_is) (by k_is) (by k_is) (fun _ _ _ _ _ _ us hl => match us, hl with | [_, _, _], _ => rfl)
    have d_due_up_to := Sj.df_mk (x := "due_up_to") (st := Sj.sDueUpTo) (ps := ["house", "end"]) KX G (by k_is) (by k_is) (by k_is) (by k_is) (fun _ _ _ _ _ _ us hl => match us, hl with | [_, _], _ => rfl)
    have d_let_timer_happen := Sj.df_mk (x := "let_timer_happen") (st := Sj.sTimerHappen) (ps := ["house", "which"]) KX G (by k_is) (by k_is) (by k_is) (by k_is) (fun _ _ _ _ _ _ us hl => match us, hl with | [_, _], _ => rfl)
    have d_let_ticks_go_by := Sj.df_mk (x := "let_ticks_go_by") (st := Sj.sTicksGoBy) (ps := ["house", "end"]) KX G (by k_is) (by k_is) (by k_is) (by k_is) (fun _ _ _ _ _ _ us hl => match us, hl with | [_, _], _ => rfl)
    have d_ticks_till_late := Sj.df_mk (x := "ticks_till_late") (st := Sj.sTillLate) (ps := ["house", "sleeper"]) KX G (by k_is) (by k_is) (by k_is) (by k_is) (fun _ _ _ _ _ _ us hl => match us, hl with | [_, _], _ => rfl)
    have d_answer_set := Sj.df_mk (x := "answer_set") (st := Sj.sSet) (ps := ["house", "numbers"]) KX G (by k_is) (by k_is) (by k_is) (by k_is) (fun _ _ _ _ _ _ us hl => match us, hl with | [_, _], _ => rfl)
    have d_answer_stop := Sj.df_mk (x := "answer_stop") (st := Sj.sStop) (ps := ["house", "numbers"]) KX G (by k_is) (by k_is) (by k_is) (by k_is) (fun _ _ _ _ _ _ us hl => match us, hl with | [_, _], _ => rfl)
    have d_answer_left := Sj.df_mk (x := "answer_left") (st := Sj.sLeft) (ps := ["house", "numbers"]) KX G (by k_is) (by k_is) (by k_is) (by k_is) (fun _ _ _ _ _ _ us hl => match us, hl with | [_, _], _ => rfl)
    have d_answer_sleep := Sj.df_mk (x := "answer_sleep") (st := Sj.sSleep) (ps := ["house", "numbers"]) KX G (by k_is) (by k_is) (by k_is) (by k_is) (fun _ _ _ _ _ _ us hl => match us, hl with | [_, _], _ => rfl)
    have d_answer_store := Sj.df_mk (x := "answer_store") (st := Sj.sStore) (ps := ["house", "numbers"]) KX G (by k_is) (by k_is) (by k_is) (by k_is) (fun _ _ _ _ _ _ us hl => match us, hl with | [_, _], _ => rfl)
    have d_answer_add := Sj.df_mk (x := "answer_add") (st := Sj.sAdd) (ps := ["house", "numbers"]) KX G (by k_is) (by k_is) (by k_is) (by k_is) (fun _ _ _ _ _ _ us hl => match us, hl with | [_, _], _ => rfl)
    have d_answer_wake := Sj.df_mk (x := "answer_wake") (st := Sj.sWake) (ps := ["house", "numbers"]) KX G (by k_is) (by k_is) (by k_is) (by k_is) (fun _ _ _ _ _ _ us hl => match us, hl with | [_, _], _ => rfl)
    have d_answer_move := Sj.df_mk (x := "answer_move") (st := Sj.sMove) (ps := ["house", "numbers"]) KX G (by k_is) (by k_is) (by k_is) (by k_is) (fun _ _ _ _ _ _ us hl => match us, hl with | [_, _], _ => rfl)
    have d_answer_tick := Sj.df_mk (x := "answer_tick") (st := Sj.sTick) (ps := ["house", "numbers"]) KX G (by k_is) (by k_is) (by k_is) (by k_is) (fun _ _ _ _ _ _ us hl => match us, hl with | [_, _], _ => rfl)
    have d_answer_next := Sj.df_mk (x := "answer_next") (st := Sj.sNext) (ps := ["house", "numbers"]) KX G (by k_is) (by k_is) (by k_is) (by k_is) (fun _ _ _ _ _ _ us hl => match us, hl with | [_, _], _ => rfl)
    have d_answer_hand := Sj.df_mk (x := "answer_hand") (st := Sj.sHand) (ps := ["house", "numbers"]) KX G (by k_is) (by k_is) (by k_is) (by k_is) (fun _ _ _ _ _ _ us hl => match us, hl with | [_, _], _ => rfl)
    have d_answer_word := Sj.df_mk (x := "answer_word") (st := Sj.sWord) (ps := ["house", "numbers"]) KX G (by k_is) (by k_is) (by k_is) (by k_is) (fun _ _ _ _ _ _ us hl => match us, hl with | [_, _], _ => rfl)
    have d_answer_counts := Sj.df_mk (x := "answer_counts") (st := Sj.sCounts) (ps := ["house", "numbers"]) KX G (by k_is) (by k_is) (by k_is) (by k_is) (fun _ _ _ _ _ _ us hl => match us, hl with | [_, _], _ => rfl)
    have d_are_as_told := Sj.df_mk (x := "are_as_told") (st := Sj.sTold) (ps := ["call", "numbers"]) KX G (by k_is) (by k_is) (by k_is) (by k_is) (fun _ _ _ _ _ _ us hl => match us, hl with | [_, _], _ => rfl)
    have d_answer_in_house := Sj.df_mk (x := "answer_in_house") (st := Sj.sInHouse) (ps := ["house", "call", "numbers"]) KX G (by k_is) (by k_is) (by k_is) (by k_is) (fun _ _ _ _ _ _ us hl => match us, hl with | [_, _, _], _ => rfl)
    have d_answers := Sj.df_mk (x := "answers") (st := Sj.sAnswers) (ps := ["calls"]) KX G (by k_is) (by k_is) (by k_is) (by k_is) (fun _ _ _ _ _ _ us hl => match us, hl with | [_], _ => rfl)
    have c_Timer := Sj.cs_mk (x := "Timer") (qual := "Timer.__init__") (st := Sj.sTimerInit) (ps := ["self", "due", "period", "slack", "place"]) KX G (by k_is) (by k_is) (by k_is) (by k_is) (by k_is) (by k_is) (by k_is) (by k_is) (by k_is) (by k_is) (by k_is) (by k_is) (fun _ _ _ _ _ _ us hl => match us, hl with | [_, _, _, _, _], _ => rfl)
    have c_Sleeper := Sj.cs_mk (x := "Sleeper") (qual := "Sleeper.__init__") (st := Sj.sSleeperInit) (ps := ["self", "word", "watches", "late_at", "place"]) KX G (by k_is) (by k_is) (by k_is) (by k_is) (by k_is) (by k_is) (by k_is) (by k_is) (by k_is) (by k_is) (by k_is) (by k_is) (fun _ _ _ _ _ _ us hl => match us, hl with | [_, _, _, _, _], _ => rfl)
    have c_House := Sj.cs_mk (x := "House") (qual := "House.__init__") (st := Sj.sHouseInit) (ps := ["self"]) KX G (by k_is) (by k_is) (by k_is) (by k_is) (by k_is) (by k_is) (by k_is) (by k_is) (by k_is) (by k_is) (by k_is) (by k_is) (fun _ _ _ _ _ _ us hl => match us, hl with | [_], _ => rfl)
    have g_OPENING := Sj.gots "OPENING" KX G (by k_is)
    have g_WRONG_NUMBER := Sj.gots "WRONG_NUMBER" KX G (by k_is)
    have g_ALREADY_ASLEEP := Sj.gots "ALREADY_ASLEEP" KX G (by k_is)
    have g_TOO_MANY_NOT_TAKEN := Sj.gots "TOO_MANY_NOT_TAKEN" KX G (by k_is)
    have g_NOT_THERE := Sj.gots "NOT_THERE" KX G (by k_is)
    have g_NO_HOUSE := Sj.gots "NO_HOUSE" KX G (by k_is)
    have g_TIMER_DUE := Sj.gots "TIMER_DUE" KX G (by k_is)
    have g_STORED_IN := Sj.gots "STORED_IN" KX G (by k_is)
    have g_WOKEN := Sj.gots "WOKEN" KX G (by k_is)
    have g_LATE := Sj.gots "LATE" KX G (by k_is)
    have g_WORD_LIMIT := Sj.gots "WORD_LIMIT" KX G (by k_is)
    have g_LONGEST := Sj.gots "LONGEST" KX G (by k_is)
    have g_LAST_TICK := Sj.gots "LAST_TICK" KX G (by k_is)
    have g_MOST_NOT_TAKEN := Sj.gots "MOST_NOT_TAKEN" KX G (by k_is)
    have n_len := PySem.W.mg_none_of (n := "len") KX G (by k_is)
    have n_zip := PySem.W.mg_none_of (n := "zip") KX G (by k_is)
    have n_min := PySem.W.mg_none_of (n := "min") KX G (by k_is)
    have n_list := PySem.W.mg_none_of (n := "list") KX G (by k_is)
    have bN := Sj.got "NUMBERS" KX G (by k_is) (by k_is)
    have bA := Sj.got "ANSWERS" KX G (by k_is) (by k_is)
    have ef := Option.some.inj (hmg.symm.trans d_answers.g)
    injection ef with ef
    subst ef
    have T := Sj.Txt.mk (C := ⟨_, _, _⟩) c_Timer.cl c_Sleeper.cl c_House.cl (Sj.na (by k_is)) (Sj.na (by k_is)) (Sj.na (by k_is)) (Sj.na (by k_is)) (Sj.na (by k_is)) (Sj.na (by k_is)) (Sj.na (by k_is)) (Sj.na (by k_is)) (Sj.na (by k_is)) (Sj.na (by k_is)) (Sj.na (by k_is)) (Sj.na (by k_is)) (Sj.na (by k_is)) (Sj.na (by k_is)) (Sj.na (by k_is)) c_Timer.g c_Sleeper.g c_House.g n_len n_zip ⟨_, g_WORD_LIMIT⟩ n_min n_list ⟨_, g_TIMER_DUE⟩ ⟨_, g_STORED_IN⟩ ⟨_, g_WOKEN⟩ ⟨_, g_LATE⟩
    have r1 := Sj.r1_mk bN.2 (by decide +kernel) rfl (by k_is) rfl
    refine Sj.fin_mk d_answers (fun s us hu => match us, hu with | [_], _ => .of_eq rfl) (fun base _ _ => ?_)
    refine Sj.all_ok (base := base) T c_Timer c_Sleeper c_House d_is_timer d_is_hand d_is_word d_is_delay d_is_period d_is_slack d_is_content d_is_choice d_is_span d_is_hand_count d_is_tick_count d_moved_a_little d_next_place d_note_happening d_put_timer d_wake_hand d_move_hand d_hands_asleep_at d_store_in_word d_due_up_to d_let_timer_happen d_let_ticks_go_by d_ticks_till_late d_answer_set d_answer_stop d_answer_left d_answer_sleep d_answer_store d_answer_add d_answer_wake d_answer_move d_answer_tick d_answer_next d_answer_hand d_answer_word d_answer_counts d_are_as_told d_answer_in_house d_answers g_OPENING g_WRONG_NUMBER g_ALREADY_ASLEEP g_TOO_MANY_NOT_TAKEN g_NOT_THERE g_NO_HOUSE g_TIMER_DUE g_STORED_IN g_WOKEN g_LATE g_WORD_LIMIT g_LONGEST g_LAST_TICK g_MOST_NOT_TAKEN bN.1 bA.1 r1.1 r1.2 ?tb2 ?tb3 ?tb4 ?tb5 ?tb6 ?tb7 ?tb8 ?tb9 ?tb10 ?tb11 ?tb12 ?tb13 ?tb14
    (case tb2 => exact Sj.tb_mk bN.2 bA.2 (by decide +kernel) (by decide +kernel) rfl rfl (by k_is) rfl (by decide))
    (case tb3 => exact Sj.tb_mk bN.2 bA.2 (by decide +kernel) (by decide +kernel) rfl rfl (by k_is) rfl (by decide))
    (case tb4 => exact Sj.tb_mk bN.2 bA.2 (by decide +kernel) (by decide +kernel) rfl rfl (by k_is) rfl (by decide))
    (case tb5 => exact Sj.tb_mk bN.2 bA.2 (by decide +kernel) (by decide +kernel) rfl rfl (by k_is) rfl (by decide))
    (case tb6 => exact Sj.tb_mk bN.2 bA.2 (by decide +kernel) (by decide +kernel) rfl rfl (by k_is) rfl (by decide))
    (case tb7 => exact Sj.tb_mk bN.2 bA.2 (by decide +kernel) (by decide +kernel) rfl rfl (by k_is) rfl (by decide))
    (case tb8 => exact Sj.tb_mk bN.2 bA.2 (by decide +kernel) (by decide +kernel) rfl rfl (by k_is) rfl (by decide))
    (case tb9 => exact Sj.tb_mk bN.2 bA.2 (by decide +kernel) (by decide +kernel) rfl rfl (by k_is) rfl (by decide))
    (case tb10 => exact Sj.tb_mk bN.2 bA.2 (by decide +kernel) (by decide +kernel) rfl rfl (by k_is) rfl (by decide))
    (case tb11 => exact Sj.tb_mk bN.2 bA.2 (by decide +kernel) (by decide +kernel) rfl rfl (by k_is) rfl (by decide))
    (case tb12 => exact Sj.tb_mk bN.2 bA.2 (by decide +kernel) (by decide +kernel) rfl rfl (by k_is) rfl (by decide))
    (case tb13 => exact Sj.tb_mk bN.2 bA.2 (by decide +kernel) (by decide +kernel) rfl rfl (by k_is) rfl (by decide))
    (case tb14 => exact Sj.tb_mk bN.2 bA.2 (by decide +kernel) (by decide +kernel) rfl rfl (by k_is) rfl (by decide))
  case S =>
    intro K H xs a hO hwi hask hx
    cases hx with
    | cons h1 h2 =>
      cases h2
      cases h1 with
      | lst hs ha =>
        have e := L2.ints_dw a.1 _ ha
        subst e
        exact ⟨_, a.1, rfl, hs, hask, fun H' p hp => .lst (L2.SqL.of hp) (L2.dw_ints _)⟩
